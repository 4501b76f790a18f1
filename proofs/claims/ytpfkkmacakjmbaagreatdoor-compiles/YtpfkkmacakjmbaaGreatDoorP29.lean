import Derived.Test.YtpfkkmacakjmbaaGreatDoorP21
import Derived.Test.YtpfkkmacakjmbaaGreatDoorP17
set_option maxRecDepth 100000
set_option maxHeartbeats 6400000
set_option linter.all false
namespace Go.Proofs.YtpfkkmacakjmbaaGreatDoor
open Proofs.Tryz
section
open Go Go.RowKit Sp
structure Fd where
 q:Nat
 pc:Int
 zv:List V
 loc:List V
 sv:Value
 lv:Value
def Fd.fm (d:Fd):Fm:=⟨d.q,d.pc.toNat,d.zv,d.loc⟩
def fdC (d:Fd):List Value:=[.int .i64 d.q,.int .i64 d.pc,d.sv,d.lv]
def d9 (ds:List Fd):List Value:=ds.flatMap fdC
theorem fI {ds:List Fd} {j k:Nat} {d:Fd} (h:ds[j]?=some d) (hk:k<4):(d9 ds)[j*4+k]?=(fdC d)[k]?:=fN fdC 4 (λ_=>rfl) ds j k d h hk
theorem jc (ds es:List Fd):d9 (ds++es)=d9 ds++d9 es:=by simp[d9]
theorem lZ (ds:List Fd):(d9 ds).length=ds.length*4:=by
 induction ds with
 |nil=>rfl
 |cons d ds ih=>simp[d9,fdC]at ih⊢;omega
theorem pL (ds:List Fd) (d:Fd) (k:Nat) (v:Value):(d9 (ds++ [d])).set (ds.length*4+k) v=d9 ds++(fdC d).set k v:=by
 rw[jc,List.set_append_right _ _ (by rw[lZ];omega),lZ,Nat.add_sub_cancel_left];simp[d9]
abbrev Rows:=Nat×Nat->Option (Value×List V)
def cT (hp:List Ob) (fo:List Value) (ds:List Fd):Rows
 | (0,k)=>(hp[k]?).bind λo=>(fo[k]?).map λv=>(v,o.fs)
 | (1,k)=>(ds[k]?).map λd=>(d.sv,d.zv)
 | (2,k)=>(ds[k]?).map λd=>(d.lv,d.loc)
 |_=>none
structure kv (base:Nat) (w:World) (R:Rows):Prop where
 row: ∀a v l,R a=some (v,l)->w.ownsRow base 135 2 v l.length (aJ l)
 sep: ∀a b v l v' l' g,R a=some (v,l)->R b=some (v',l')->v.ownBlock=some g->v'.ownBlock=some g->a=b
section
variable {base:Nat} {w w':World} {R R':Rows} {F:Nat->Prop}
theorem kv.but (h:kv base w R) (hB:But F w w') (hF: ∀a v l g,R a=some (v,l)->v.ownBlock=some g-> ¬F g):kv base w' R:=
 ⟨λa v l ha=>ag (h.row a v l ha) hB (λg hg=>hF a v l g ha hg),h.sep⟩
theorem kv.sub (h:kv base w R) (hs: ∀a p,R' a=some p->R a=some p):kv base w R':=
 ⟨λa v l ha=>h.row a v l (hs a _ ha),λa b v l v' l' g ha hb=>h.sep a b v l v' l' g (hs a _ ha) (hs b _ hb)⟩
theorem kv.upd (h:kv base w R) (a0:Nat×Nat) {v0:Value} {l0:List V} (hB:But F w w') (hR: ∀a,a≠a0-> ∀p,R' a=some p->R a=some p) (h0:R' a0=some (v0,l0)) (hF: ∀a v l g,a≠a0->R a=some (v,l)->v.ownBlock=some g-> ¬F g)
  (ho:w'.ownsRow base 135 2 v0 l0.length (aJ l0)) (hn: ∀g,v0.ownBlock=some g->w.heap.size<=g\/ ∃v l,R a0=some (v,l)/\v.ownBlock=some g):kv base w' R':=by
 have key: ∀a v l g,a≠a0->R' a=some (v,l)->v.ownBlock=some g->v0.ownBlock≠some g:=λa v l g ha hv hg hg0=>by
  obtain hn| ⟨v1,l1,h1,h2⟩:=hn g hg0
  .have:=aY (h.row a v l (hR a ha _ hv)) g hg;omega
  .exact ha (h.sep a a0 v l v1 l1 g (hR a ha _ hv) h1 hg h2)
 refine⟨λa v l ha=> ?_,λa b v l v' l' g ha hb hg hg'=> ?_⟩
 .by_cases e:a=a0
  .subst e;rw[h0]at ha;cases ha;exact ho
  .exact ag (h.row a v l (hR a e _ ha)) hB (λg hg=>hF a v l g e (hR a e _ ha) hg)
 .by_cases e:a=a0<;>by_cases e':b=a0
  .rw[e,e']
  .subst e;rw[h0]at ha;cases ha;exact absurd hg (key b v' l' g e' hb hg')
  .subst e';rw[h0]at hb;cases hb;exact absurd hg' (key a v l g e ha hg)
  .exact h.sep a b v l v' l' g (hR a e _ ha) (hR b e' _ hb) hg hg'
theorem kv.add (h:kv base w R) (a0:Nat×Nat) {v0:Value} {l0:List V} (hB: ∀{v:Value} {n:Nat} {xs:List Value},w.ownsRow base 135 2 v n xs->w'.ownsRow base 135 2 v n xs) (hR: ∀a p,R' a=some p->R a=some p\/(a=a0/\p=(v0,l0))\/p=(S_,[]))
  (ho:w.ownsRow base 135 2 v0 l0.length (aJ l0)) (hn: ∀g,v0.ownBlock=some g-> ∀a v l,R a=some (v,l)->v.ownBlock≠some g):kv base w' R':=by
 refine⟨λa v l ha=> ?_,λa b v l v' l' g ha c hg hg'=> ?_⟩
 .obtain ha| ⟨rfl,hp⟩ |hp:=hR a _ ha
  .exact hB (h.row a v l ha)
  .cases hp;exact hB ho
  .cases hp;exact cR _ _ _ _
 .obtain ha| ⟨rfl,hp⟩ |hp:=hR a _ ha<;>rcases hR b _ c with c| ⟨rfl,hp'⟩ |hp'
  .exact h.sep a b v l v' l' g ha c hg hg'
  .cases hp';exact absurd hg (hn g hg' _ _ _ ha)
  .cases hp';cases hg'
  .cases hp;exact absurd hg' (hn g hg _ _ _ c)
  .rfl
  .cases hp';cases hg'
  all_goals cases hp;cases hg
end
def DmB (w:World) (mb bi:Nat) (tv hv fv:Value) (inp:ByteArray) (rd:Int) (cells:Nat) (out:L_) (val e:Int):Prop:=
 w.heap[mb]?=some (.cells #[.pointer (some ⟨bi,0,none⟩),tv,hv,fv,.string inp,.int .i64 rd,.int .i64 cells,.string ⟨out.toArray⟩,.int .i64 val,.int .i64 e] 72)
section
variable {w:World} {mb bi cells:Nat} {tv hv fv:Value} {inp:ByteArray} {rd val e:Int} {out:L_}
theorem DmB.lt (h:DmB w mb bi tv hv fv inp rd cells out val e):mb<w.heap.size:=ae h
theorem DmB.cs (h:DmB w mb bi tv hv fv inp rd cells out val e):w.cell? ⟨mb,0,none⟩=some (.pointer (some ⟨bi,0,none⟩))/\w.cell? ⟨mb,1,none⟩=some tv/\w.cell? ⟨mb,2,none⟩=some hv/\w.cell? ⟨mb,3,none⟩=some fv/\w.cell? ⟨mb,4,none⟩=some (.string inp)/\w.cell? ⟨mb,5,none⟩=some (.int .i64 rd)/\w.cell? ⟨mb,6,none⟩=some (.int .i64 cells)/\w.cell? ⟨mb,7,none⟩=some (.string ⟨out.toArray⟩)/\w.cell? ⟨mb,8,none⟩=some (.int .i64 val)/\w.cell? ⟨mb,9,none⟩=some (.int .i64 e):=by
 refine⟨?_,?_,?_,?_,?_,?_,?_,?_,?_,?_⟩<;>(rw[cz w mb _ _ _ (0,0) h];rfl)
theorem DmB.fz (h:DmB w mb bi tv hv fv inp rd cells out val e) (j:Nat):w.frozen? ⟨mb,j,none⟩=false:=bG w mb j _ _ h
theorem DmB.but {F:Nat->Prop} {w':World} (h:DmB w mb bi tv hv fv inp rd cells out val e) (hb:But F w w') (hf: ¬F mb):DmB w' mb bi tv hv fv inp rd cells out val e:=(hb.block mb h.lt hf).trans h
theorem DmB.set2 (h:DmB w mb bi tv hv fv inp rd cells out val e) (v:Value):DmB (w.setCell ⟨mb,2,none⟩ v) mb bi tv v fv inp rd cells out val e:=cQ w mb 2 _ _ _ h
theorem DmB.set3 (h:DmB w mb bi tv hv fv inp rd cells out val e) (v:Value):DmB (w.setCell ⟨mb,3,none⟩ v) mb bi tv hv v inp rd cells out val e:=cQ w mb 3 _ _ _ h
theorem DmB.set5 (h:DmB w mb bi tv hv fv inp rd cells out val e) (n:Int):DmB (w.setCell ⟨mb,5,none⟩ (.int .i64 n)) mb bi tv hv fv inp n cells out val e:=cQ w mb 5 _ _ _ h
theorem DmB.set7 (h:DmB w mb bi tv hv fv inp rd cells out val e) (n:L_):DmB (w.setCell ⟨mb,7,none⟩ (.string ⟨n.toArray⟩)) mb bi tv hv fv inp rd cells n val e:=cQ w mb 7 _ _ _ h
theorem DmB.set8 (h:DmB w mb bi tv hv fv inp rd cells out val e) (n:Int):DmB (w.setCell ⟨mb,8,none⟩ (.int .i64 n)) mb bi tv hv fv inp rd cells out n e:=cQ w mb 8 _ _ _ h
theorem DmB.set9 (h:DmB w mb bi tv hv fv inp rd cells out val e) (n:Int):DmB (w.setCell ⟨mb,9,none⟩ (.int .i64 n)) mb bi tv hv fv inp rd cells out val n:=cQ w mb 9 _ _ _ h
end
structure Dk where
 mb:Nat
 bi:Nat
 tv:Value
 inp:ByteArray
 cells:Nat
structure DmQ (K:Dk) (w0 w:World) (val e:Int) (hv fv:Value) (fo:List Value) (s:Ev) (ds:List Fd):Prop where
 old:B_ w0 w
 mc:DmB w K.mb K.bi K.tv hv fv K.inp s.read K.cells s.out val e
 len:fo.length=s.heap.length
 hp:w.ownsRow w0.heap.size 265 2 hv s.heap.length (eX s.heap fo)
 fr:w.ownsRow w0.heap.size 121 4 fv ds.length (d9 ds)
 rw:kv w0.heap.size w (cT s.heap fo ds)
 ge:w0.heap.size<=K.mb
section
variable {K:Dk} {w0 w w':World} {val e:Int} {hv fv:Value} {fo:List Value} {s:Ev} {ds:List Fd} {d:Fd} {F:Nat->Prop}
theorem DmQ.lt (h:DmQ K w0 w val e hv fv fo s ds):K.mb<w.heap.size:=h.mc.lt
theorem DmQ.nf (h:DmQ K w0 w val e hv fv fo s ds):fv.ownBlock≠some K.mb:=bA h.fr h.mc (by decide)
theorem DmQ.nh (h:DmQ K w0 w val e hv fv fo s ds):hv.ownBlock≠some K.mb:=bA h.hp h.mc (by decide)
theorem DmQ.fh (h:DmQ K w0 w val e hv fv fo s ds) {g:Nat} (hg:fv.ownBlock=some g):hv.ownBlock≠some g:=dJ h.fr h.hp (by decide) hg
theorem DmQ.rn (h:DmQ K w0 w val e hv fv fo s ds) {a v l g} (ha:cT s.heap fo ds a=some (v,l)) (hg:v.ownBlock=some g):g≠K.mb/\hv.ownBlock≠some g/\fv.ownBlock≠some g:=
 have b:=h.rw.row a v l ha
 ⟨λe=>bA b h.mc (by decide) (e▸hg),dJ b h.hp (by decide) hg,dJ b h.fr (by decide) hg⟩
theorem DmQ.new (h:DmQ K w0 w val e hv fv fo s ds) (hB:B_ w w'):DmQ K w0 w' val e hv fv fo s ds:=
 ⟨h.old.trans hB,h.mc.but hB (λh=>h),h.len,ag h.hp hB (λ_ _ h=>h),ag h.fr hB (λ_ _ h=>h),h.rw.but hB (λ_ _ _ _ _ _ h=>h),h.ge⟩
theorem DmQ.own {val' e':Int} {s':Ev} (h:DmQ K w0 w val e hv fv fo s ds) (hB:But (· =K.mb) w w') (hs:s'.heap=s.heap) (hm:DmB w' K.mb K.bi K.tv hv fv K.inp s'.read K.cells s'.out val' e'):DmQ K w0 w' val' e' hv fv fo s' ds:=
 ⟨h.old.next hB (λk hk e=>by have:=h.ge;omega),hm,by rw[hs];exact h.len,by rw[hs];exact ag h.hp hB (λg hg e=>h.nh (e▸hg)),ag h.fr hB (λg hg e=>h.nf (e▸hg)),by rw[hs];exact h.rw.but hB (λa v l g ha hg e=>(h.rn ha hg).1 e),h.ge⟩
theorem pi {hp:List Ob} {fo:List Value} {ds:List Fd} {d d':Fd} {a:Nat×Nat} (h1:a=(1,ds.length)->d'.sv=d.sv/\d'.zv=d.zv) (h2:a=(2,ds.length)->d'.lv=d.lv/\d'.loc=d.loc):cT hp fo (ds++ [d']) a=cT hp fo (ds++ [d]) a:=by
 obtain⟨a,k⟩:=a
 have b:k≠ds.length->(ds++ [d'])[k]?=(ds++ [d])[k]?:=λb=>by
  obtain h|h:=gC k ds.length
  .rw[dy h,dy h]
  .rw[List.getElem?_eq_none (by simp;omega),List.getElem?_eq_none (by simp;omega)]
 match a with
 |0=>rfl
 |1=>
  by_cases e:k=ds.length
  .subst e;obtain⟨p,q⟩:=h1 rfl;simp[cT,p,q]
  .simp only[cT,b e]
 |2=>
  by_cases e:k=ds.length
  .subst e;obtain⟨p,q⟩:=h2 rfl;simp[cT,p,q]
  .simp only[cT,b e]
 |_+3=>rfl
theorem jX {hp:List Ob} {fo:List Value} {ds:List Fd} {d:Fd}:cT hp fo (ds++ [d]) (1,ds.length)=some (d.sv,d.zv):=by simp[cT]
theorem rp {hp:List Ob} {fo:List Value} {ds:List Fd} {d:Fd}:cT hp fo (ds++ [d]) (2,ds.length)=some (d.lv,d.loc):=by simp[cT]
theorem rq {hp:List Ob} {fo:List Value} {ds:List Fd} {k:Nat} {o:Ob} {v:Value} (h:hp[k]?=some o) (h':fo[k]?=some v):cT hp fo ds (0,k)=some (v,o.fs):=by simp[cT,h,h']
theorem DmQ.st (h:DmQ K w0 w val e hv fv fo s (ds++ [d])):w.ownsRow w0.heap.size 135 2 d.sv d.zv.length (aJ d.zv):=h.rw.row _ _ _ jX
theorem DmQ.lo (h:DmQ K w0 w val e hv fv fo s (ds++ [d])):w.ownsRow w0.heap.size 135 2 d.lv d.loc.length (aJ d.loc):=h.rw.row _ _ _ rp
theorem DmQ.fs (h:DmQ K w0 w val e hv fv fo s (ds++ [d])): ∃g cap,fv= .slice (some ⟨g,0,none⟩) (ds.length+1) cap/\ds.length+1<=cap:=by
 have a:=h.fr;rw[aN,dK]at a;obtain⟨_,b⟩ | ⟨g,cap,cur,hv,_,_,hn,_⟩:=a.2
 .omega
 .exact⟨g,cap,hv,hn⟩
theorem DmQ.cs {g cap:Nat} (h:DmQ K w0 w val e hv (.slice (some ⟨g,0,none⟩) (ds.length+1) cap) fo s (ds++ [d])):g<w.heap.size/\w0.heap.size<=g/\g≠K.mb/\w.cell? ⟨g,ds.length*4,none⟩=some (.int .i64 d.q)/\w.cell? ⟨g,ds.length*4+1,none⟩=some (.int .i64 d.pc)/\w.cell? ⟨g,ds.length*4+2,none⟩=some d.sv/\w.cell? ⟨g,ds.length*4+3,none⟩=some d.lv/\ ∀j,w.frozen? ⟨g,j,none⟩=false:=by
 have c:=h.fr;rw[aN,dK]at c;obtain⟨g',f,a,b,hc⟩:=aE c (by omega)
 cases f
 have ht:(ds++ [d])[ds.length]?=some d:=by simp
 exact⟨a,b,λe=>h.nf (by rw[<-e];rfl),hc _ _ (fI (k:=0) ht (by omega)),hc _ _ (fI (k:=1) ht (by omega)),hc _ _ (fI (k:=2) ht (by omega)),hc _ _ (fI (k:=3) ht (by omega)),eA c⟩
theorem DmQ.pc {g cap:Nat} (h:DmQ K w0 w val e hv (.slice (some ⟨g,0,none⟩) (ds.length+1) cap) fo s (ds++ [d])) (p:Int):DmQ K w0 (w.setCell ⟨g,ds.length*4+1,none⟩ (.int .i64 p)) val e hv (.slice (some ⟨g,0,none⟩) (ds.length+1) cap) fo s (ds++ [{d with pc:=p}]):=by
 have b:=aj w g (ds.length*4+1) (.int .i64 p);have c:=h.fr;rw[aN,dK]at c;refine⟨h.old.next b (λk hk e=>by have:=aw h.fr g rfl;omega),h.mc.but b (λe=>h.nf (by rw[e];rfl)),h.len,ag h.hp b (λg' hg' e=>h.fh (g:=g) rfl (e▸hg')),?_,?_,h.ge⟩
 .have:=eI c (ds.length*4+1) (.int .i64 p);rw[pL]at this;rw[jc,aN,dK];exact this
 .refine kv.sub (h.rw.but b (λa v l g' ha hg e=>(h.rn ha hg).2.2 (by rw[e];rfl))) (λa p' hp=> ?_);exact(pi (d:=d) (d':={d with pc:=p}) (λ_=>⟨rfl,rfl⟩) (λ_=>⟨rfl,rfl⟩)).symm.trans hp
theorem DmQ.zv {g cap:Nat} {w1:World} (h:DmQ K w0 w val e hv (.slice (some ⟨g,0,none⟩) (ds.length+1) cap) fo s (ds++ [d])) {v:Value} {l:List V} (hB1:But (λk=>d.sv.ownBlock=some k) w w1) (ho:w1.ownsRow w0.heap.size 135 2 v l.length (aJ l)) (hn: ∀g,v.ownBlock=some g->w.heap.size<=g\/d.sv.ownBlock=some g):
  DmQ K w0 (w1.setCell ⟨g,ds.length*4+2,none⟩ v) val e hv (.slice (some ⟨g,0,none⟩) (ds.length+1) cap) fo s (ds++ [{d with sv:=v,zv:=l}]):=by
 have b:=aj w1 g (ds.length*4+2) v;have j: ∀{g},d.sv.ownBlock=some g->_:=λ{g} hg=>h.rn jX (v:=d.sv) (g:=g) hg
 have m:=h.fr;rw[aN,dK]at m;have c:=ag m hB1 (λg' hg' e=>(j e).2.2 hg');have f:But (λk=>d.sv.ownBlock=some k\/k=g) w (w1.setCell ⟨g,ds.length*4+2,none⟩ v):=(hB1.mono (λ_ _ h=>Or.inl h)).trans (b.mono (λ_ _ h=>Or.inr h));have i:=ag ho b (λg' hg' e=>dJ ho c (by decide) hg' (by rw[e];rfl));refine⟨h.old.next f (λk hk e=> ?_),h.mc.but f (λe=> ?_),h.len,ag h.hp f (λg' hg' e=> ?_),?_,?_,h.ge⟩
 .obtain e|rfl:=e
  .have:=aw h.st k e;omega
  .have:=aw h.fr k rfl;omega
 .obtain e|e:=e
  .exact(j e).1 rfl
  .exact h.nf (by rw[e];rfl)
 .obtain e|e:=e
  .exact(j e).2.1 hg'
  .exact h.fh (g:=g) rfl (e▸hg')
 .have:=eI c (ds.length*4+2) v;rw[pL]at this;rw[jc,aN,dK];exact this
 .refine h.rw.upd (1,ds.length) f (λa ha p hp=> ?_) jX (λa v' l' g' ha hv hg hF=> ?_) i (λg' hg'=> ?_)
  .exact(pi (d:=d) (d':={d with sv:=v,zv:=l}) (λe=>absurd e ha) (λ_=>⟨rfl,rfl⟩)).symm.trans hp
  .obtain e|e:=hF
   .exact ha (h.rw.sep a _ v' l' _ _ g' hv jX hg e)
   .exact(h.rn hv hg).2.2 (by rw[e];rfl)
  .exact(hn g' hg').imp id (λe=>⟨_,_,jX,e⟩)
theorem DmQ.put {a:Nat×Nat} {v:Value} {l:List V} {g:Nat} {fo:List Value} {s s':Ev} {ds ds':List Fd} (h:DmQ K w0 w val e hv fv fo s ds) (ha:cT s.heap fo ds a=some (v,l)) (hg:v.ownBlock=some g) (j:Nat) (u:V)
  (h1:ds'.length=ds.length/\d9 ds'=d9 ds) (h2:s'.heap.length=s.heap.length/\eX s'.heap fo=eX s.heap fo/\s'.read=s.read/\s'.out=s.out) (h3: ∀b,b≠a->cT s'.heap fo ds' b=cT s.heap fo ds b) (h4:cT s'.heap fo ds' a=some (v,l.set j u)):
  DmQ K w0 ((w.setCell ⟨g,j*2,none⟩ (.int .u8 u.K)).setCell ⟨g,j*2+1,none⟩ (.int .i64 u.N)) val e hv fv fo s' ds':=by
 have c:But (· =g) w ((w.setCell ⟨g,j*2,none⟩ (.int .u8 u.K)).setCell ⟨g,j*2+1,none⟩ (.int .i64 u.N)):=(aj _ _ _ _).trans (aj _ _ _ _);obtain⟨f,i,m⟩:=h.rn ha hg;have d:=h.rw.row _ _ _ ha;refine⟨h.old.next c (λk hk e=>by have:=aw d g hg;omega),?_,by rw[h2.1];exact h.len,?_,?_,?_,h.ge⟩
 .rw[h2.2.2.1,h2.2.2.2];exact h.mc.but c (λe=>f e.symm)
 .rw[h2.1,h2.2.1];exact ag h.hp c (λg' hg' e=>i (e▸hg'))
 .rw[h1.1,h1.2];exact ag h.fr c (λg' hg' e=>m (e▸hg'))
 .refine h.rw.upd a c (λb hb p hp=>(h3 b hb)▸hp) h4 (λb v' l' g' hb hv hg' e=>hb (h.rw.sep b a v' l' v l g hv ha (e▸hg') hg)) ?_ (λg' hg'=>Or.inr ⟨v,l,ha,hg'⟩);rw[List.length_set];exact rb u d hg
theorem DmQ.setL (h:DmQ K w0 w val e hv fv fo s (ds++ [d])) {g:Nat} (hg:d.lv.ownBlock=some g) (j:Nat) (u:V):DmQ K w0 ((w.setCell ⟨g,j*2,none⟩ (.int .u8 u.K)).setCell ⟨g,j*2+1,none⟩ (.int .i64 u.N)) val e hv fv fo s (ds++ [{d with loc:=d.loc.set j u}]):=
 h.put rp hg j u ⟨by simp,by simp[d9,fdC]⟩ ⟨rfl,rfl,rfl,rfl⟩ (λb hb=>pi (λ_=>⟨rfl,rfl⟩) (λe=>absurd e hb)) rp
theorem DmQ.setF (h:DmQ K w0 w val e hv fv fo s ds) {k:Nat} {ob:Ob} {v:Value} (hk:s.heap[k]?=some ob) (hv':fo[k]?=some v) {g:Nat} (hg:v.ownBlock=some g) (j:Nat) (u:V):DmQ K w0 ((w.setCell ⟨g,j*2,none⟩ (.int .u8 u.K)).setCell ⟨g,j*2+1,none⟩ (.int .i64 u.N)) val e hv fv fo (s.put k j u) ds:=by
 have c:(s.put k j u).heap=s.heap.set k ⟨ob.cls,ob.fs.set j u⟩:=by simp[Ev.put,(Ev.at hk).1,(Ev.at hk).2]
 have d:=(bc hk).1;refine h.put (rq hk hv') hg j u ⟨rfl,rfl⟩ ⟨by rw[c,List.length_set],by rw[c,pG hk],rfl,rfl⟩ (λb hb=> ?_) (rq (o:=⟨ob.cls,ob.fs.set j u⟩) (by rw[c,List.getElem?_set_self d]) hv');obtain⟨a,i⟩:=b;rw[c]
 match a with
 |0=>simp only[cT];rw[List.getElem?_set_ne (λe=>hb (by rw[e]))]
 |1=>rfl
 |2=>rfl
 |_+3=>rfl
theorem DmQ.ob {w1:World} {hv' vf:Value} {ob:Ob} (h:DmQ K w0 w val e hv fv fo s ds) (hf:w.ownsRow w0.heap.size 135 2 vf ob.fs.length (aJ ob.fs)) (hn: ∀g,vf.ownBlock=some g-> ∀a v l,cT s.heap fo ds a=some (v,l)->v.ownBlock≠some g)
  (hB1:But (λk=>hv.ownBlock=some k) w w1) (ho:w1.ownsRow w0.heap.size 265 2 hv' (s.heap.length+1) (eX s.heap fo++ [.int .i64 ob.cls,vf])):
  DmQ K w0 (w1.setCell ⟨K.mb,2,none⟩ hv') val e hv' fv (fo++ [vf]) {s with heap:=s.heap++ [ob]} ds:=by
 have b:=aj w1 K.mb 2 hv';have c:=h.mc.but hB1 h.nh;refine⟨(h.old.next hB1 (λk hk hf=>by have:=aw h.hp k hf;omega)).next b (λk hk e=>by have:=h.ge;omega),c.set2 hv',by simp[h.len],?_,ag (ag h.fr hB1 (λg hg=>h.fh hg)) b (λg hg e=>h.nf (e▸hg)),h.rw.add (0,s.heap.length) (λho=>ag (ag ho hB1 (λg hg=>dJ ho h.hp (by decide) hg)) b (λg hg e=>bA ho h.mc (by decide) (e▸hg))) (λa p hp=> ?_) hf hn,h.ge⟩
 .rw[aN,ot h.len];exact ag ho b (λg hg e=>bA ho c (by decide) (e▸hg))
 .obtain⟨a,i⟩:=a
  match a with
  |0=>
   obtain hl|hl|hl:=Nat.lt_trichotomy i s.heap.length
   .simp only[cT]at hp⊢;rw[dy hl,dy (by rw[h.len];exact hl)]at hp;exact Or.inl hp
   .subst hl;have d:(fo++ [vf])[s.heap.length]?=some vf:=by rw[<-h.len];simp
    simp[cT,d]at hp;exact Or.inr (Or.inl ⟨rfl,hp.symm⟩)
   .simp only[cT]at hp;rw[List.getElem?_eq_none (by simp;omega)]at hp
    cases hp
  |1=>exact Or.inl hp
  |2=>exact Or.inl hp
  |_+3=>cases hp
theorem D8 {α:Type} {l:List α} {x y:α} {i:Nat} (h:(l++ [x])[i]?=some y):l[i]?=some y\/(i=l.length/\y=x):=by
 obtain hl|hl|hl:=Nat.lt_trichotomy i l.length
 .rw[dy hl]at h;exact Or.inl h
 .subst hl;simp at h;exact Or.inr ⟨rfl,h.symm⟩
 .rw[List.getElem?_eq_none (by simp;omega)]at h
  cases h
theorem DmQ.call {w1:World} {fv' vl:Value} {q:Nat} {l:List V} (h:DmQ K w0 w val e hv fv fo s ds) (hf:w.ownsRow w0.heap.size 135 2 vl l.length (aJ l)) (hn: ∀g,vl.ownBlock=some g-> ∀a v l,cT s.heap fo ds a=some (v,l)->v.ownBlock≠some g)
  (hB1:But (λk=>fv.ownBlock=some k) w w1) (ho:w1.ownsRow w0.heap.size 121 4 fv' (ds.length+1) (d9 (ds++ [⟨q,0,[],l,S_,vl⟩]))):
  DmQ K w0 (w1.setCell ⟨K.mb,3,none⟩ fv') val e hv fv' fo s (ds++ [⟨q,0,[],l,S_,vl⟩]):=by
 have b:=aj w1 K.mb 3 fv';have f:=h.mc.but hB1 h.nf;refine⟨(h.old.next hB1 (λk hk hf=>by have:=aw h.fr k hf;omega)).next b (λk hk e=>by have:=h.ge;omega),f.set3 fv',h.len,ag (ag h.hp hB1 (λg hg hf=>h.fh hf hg)) b (λg hg e=>h.nh (e▸hg)),?_,h.rw.add (2,ds.length) (λho=>ag (ag ho hB1 (λg hg=>dJ ho h.fr (by decide) hg)) b (λg hg e=>bA ho h.mc (by decide) (e▸hg))) (λa p hp=> ?_) hf hn,h.ge⟩
 .rw[aN];exact ag ho b (λg hg e=>bA ho f (by decide) (e▸hg))
 .obtain⟨a,i⟩:=a
  match a with
  |0=>exact Or.inl hp
  |1=>
   obtain⟨d,c,rfl⟩:=Option.map_eq_some_iff.1 hp;obtain c| ⟨rfl,rfl⟩:=D8 c
   .exact Or.inl (by simp[cT,c])
   .exact Or.inr (Or.inr rfl)
  |2=>
   obtain⟨d,c,rfl⟩:=Option.map_eq_some_iff.1 hp;obtain c| ⟨rfl,rfl⟩:=D8 c
   .exact Or.inl (by simp[cT,c])
   .exact Or.inr (Or.inl ⟨rfl,rfl⟩)
  |_+3=>cases hp
theorem wm {base ty size g n m cap:Nat} {xs ys:List Value} (h:w.ownsRow base ty size (.slice (some ⟨g,0,none⟩) n cap) n (xs++ys)) (hm:m<=n) (hx:xs.length=m*size):w.ownsRow base ty size (.slice (some ⟨g,0,none⟩) m cap) m xs:=by
 obtain⟨d,_⟩ | ⟨g',cap',cur,hv,e,hh,hn,b,c,a⟩:=h.2
 .cases d
 .injection hv with e1 e2 e3;injection e1 with e1;injection e1 with e1;subst e1 e3;refine⟨hx,.inr ⟨g,cap,cur,rfl,e,hh,by omega,b,c,?_⟩⟩;have:=congrArg (List.take (m*size)) a
  rwa [List.take_take,Nat.min_eq_left (Nat.mul_le_mul_right _ hm),List.take_left' hx]at this
theorem DmQ.drop {g cap:Nat} (h:DmQ K w0 w val e hv (.slice (some ⟨g,0,none⟩) (ds.length+1) cap) fo s (ds++ [d])):DmQ K w0 (w.setCell ⟨K.mb,3,none⟩ (.slice (some ⟨g,0,none⟩) ds.length cap)) val e hv (.slice (some ⟨g,0,none⟩) ds.length cap) fo s ds:=by
 have c:=aj w K.mb 3 (.slice (some ⟨g,0,none⟩) ds.length cap);have j:=h.fr;rw[aN,dK,jc]at j;have f:=wm j (m:=ds.length) (by omega) (lZ ds);refine⟨h.old.next c (λk hk e=>by have:=h.ge;omega),h.mc.set3 _,h.len,ag h.hp c (λg hg e=>h.nh (e▸hg)),ag f c (λg hg e=>h.nf (e▸hg)),(h.rw.but c (λa v l g ha hg e=>(h.rn ha hg).1 e)).sub (λa p hp=> ?_),h.ge⟩;obtain⟨a,i⟩:=a
 match a with
 |0=>exact hp
 |1=>
  obtain⟨x,b,rfl⟩:=Option.map_eq_some_iff.1 hp;simp[cT,dy (bc b).1,b]
 |2=>
  obtain⟨x,b,rfl⟩:=Option.map_eq_some_iff.1 hp;simp[cT,dy (bc b).1,b]
 |_+3=>cases hp
end
end
section
open Go Go.RowKit Sp
attribute [local go_sem ↓] eY eZ
theorem qc {zv:List V} (hl:1<=zv.length):zv=cG zv++ [bT zv]/\zv[zv.length-1]?=some (bT zv)/\(cG zv).length=zv.length-1:=by
 have e:zv[zv.length-1]?=some (bT zv):=by
  unfold bT;rw[bH,aG (show zv.length-1<zv.length by omega),Option.getD_some]
 refine⟨?_,e,by simp[cG]⟩;obtain⟨a,b⟩:=bc e;rw[<-b,cG,<-f7 a,fd (by omega)]
section
variable {K:Dk} {w0 w w':World} {val e:Int} {hv fv:Value} {fo:List Value} {s:Ev} {ds:List Fd} {d:Fd} {g cap:Nat}
theorem iq (h:DmQ K w0 w val e hv (.slice (some ⟨g,0,none⟩) (ds.length+1) cap) fo s (ds++ [d])) (hl:1<=d.zv.length) (h4:d.zv.length<=4000):
  Calls prog 175 #[.pointer (some ⟨g,ds.length*4,none⟩)] w λen w'=>en= .returned (cW (bT d.zv))/\But (· =g) w w'/\ ∃sv',DmQ K w0 w' val e hv (.slice (some ⟨g,0,none⟩) (ds.length+1) cap) fo s (ds++ [{d with sv:=sv',zv:=cG d.zv}]):=by
 obtain⟨q,pc,zv,loc,sv,lv⟩:=d;obtain⟨z,A,B,_,_,c2,_,fz⟩:=h.cs;have f:=h.st;simp only at hl h4 c2 f⊢;obtain⟨a,c,rfl⟩:=ay f;obtain⟨gs,rfl,D,E,b⟩:=aE f (by omega);obtain⟨t1,t2,p⟩:=qc hl;have r:w.cell? ⟨gs,(zv.length-1)*2,none⟩=some (.int .u8 (bT zv).K):=b _ _ (aP (k:=0) t2 (by omega));have t:w.cell? ⟨gs,(zv.length-1)*2+1,none⟩=some (.int .i64 (bT zv).N):=b _ _ (aP (k:=1) t2 (by omega))
 have i:zv.length<=c:=by
  obtain⟨y,_⟩ | ⟨g',cap',cur,hv,_,_,hn,_⟩:=f.2
  .cases y
  .injection hv with _ _ e3;omega
 have hp:w.ownsRow w0.heap.size 135 2 (.slice (some ⟨gs,0,none⟩) (cG zv).length c) (cG zv).length (aJ (cG zv)):=by
  have e:aJ zv=aJ (cG zv)++aJ [bT zv]:=by
   conv=>lhs;rw[t1]
   simp[aJ]
  rw[e]at f;exact wm f (by omega) (k8 _)
 rw[p]at hp;have F: ¬g=gs:=λe=>(h.rn jX (g:=gs) rfl).2.2 (by rw[e];rfl)
 have j:=hid (λ(w1:World) (hB:B_ w w1)=>h.zv (w1:=w1) (v:= .slice (some ⟨gs,0,none⟩) (zv.length-1) c) (l:=cG zv) (hB.mono (λ_ _ h=>h.elim)) (by rw[p];exact ag hp hB (λ_ _ h=>h)) (λg hg=>Or.inr hg));obtain⟨n,hn⟩: ∃n,zv.length=n+1:=⟨zv.length-1,by omega⟩;rw[hn]at r t c2 i;rw[hn]at j;simp only[Nat.add_sub_cancel]at r t j;have x:=fz (ds.length*4+2);generalize m:bT zv=u at*;have C:n<=4000:=by omega
 clear b t1 t2 p f hp h hl h4 hn fz m;generalize ds.length*4=o at*;simp only[cW]
 go_in
 go_wp2_with fail;exact kq results175 rfl rfl (((aa (λ_=>False) _ _).block _ (by simp) (λh=>h)).trans (aB (by simp) _)) ⟨rfl,(aj _ _ _ _).trans ((aa _ _ _).trans (aa _ _ _)),_,(j.out w (bf _ _)).new ((aa _ _ _).trans (aa _ _ _))⟩
theorem dW (h:DmQ K w0 w val e hv (.slice (some ⟨g,0,none⟩) (ds.length+1) cap) fo s (ds++ [d])) (u:V) (h4:d.zv.length<=4000):
  Calls prog 177 #[.pointer (some ⟨g,ds.length*4,none⟩),cW u] w λen w'=>en= .returned (.tuple #[])/\ ∃sv',DmQ K w0 w' val e hv (.slice (some ⟨g,0,none⟩) (ds.length+1) cap) fo s (ds++ [{d with sv:=sv',zv:=d.zv++ [u]}]):=by
 obtain⟨q,pc,zv,loc,sv,lv⟩:=d;obtain⟨B,a0,a1,_,_,c2,_,fz⟩:=h.cs;have F:=h.st;simp only at h4 c2 F⊢;obtain⟨a,c,rfl⟩:=ay F;have Y:=hid (λ(w1:World) (v:Value)=>h.zv (w1:=w1) (v:=v) (l:=zv++ [u]));have ab: ¬(Value.slice a zv.length c).ownBlock=some g:=λe=>(h.rn jX e).2.2 rfl
 have an: ¬(Value.slice a zv.length c).ownBlock=some w.heap.size:=λe=>by have:=aY F _ e;omega
 have x:=fz (ds.length*4+2);have X:=h.old.size;obtain⟨i0,J,M,O,P⟩:=info_parts yA;generalize y:w.alloc (.cells #[.int .u8 u.K,.int .i64 u.N] 135)=W;have D:B_ w W:=by rw[<-y];exact aa _ _ _
 have z:W.heap.size=w.heap.size+1:=by rw[<-y];simp
 have E:W.heap[w.heap.size]?=some (.cells #[.int .u8 u.K,.int .i64 u.N] 135):=by rw[<-y];exact aO _ _
 have Z:=ce0 E;have b1:=ce1 E;have d2:=D.kc c2 B;have dz:=D.kz x B;have L:=ag F D (λ_ _ h=>h);have i:g<W.heap.size:=by omega
 have A:=ae E;have H:=hid y;have n:=hid z;clear y h fz x c2 E z;generalize C:zv.length=ns at*;have G:=hid C;clear C;generalize ds.length*4=o at*;simp only[cW]
 go_in
 go_wp2_with fail;rw[H.out];refine aD (But (λk=>(Value.slice a ns c).ownBlock=some k) W) 8 ?_;have I:But (λk=>(Value.slice a ns c).ownBlock=some k) W W.drew:=aA _ _
 iterate 6 (refine aF (v:=?_) rfl I ?_ ?_;rotate_left;(focus (intro wS h;have q0:=((h.cell (p:=⟨g,o+2,none⟩) i ab).trans d2);have q1:=((h.cell (p:=⟨w.heap.size,0,none⟩) A an).trans Z);have q2:=((h.cell (p:=⟨w.heap.size,1,none⟩) A an).trans b1);clear h;go_simp;try rfl));dsimp only[Act.put];try simp only[bW])
 refine au rfl ?_;intro KS hKS;go_simp;refine hKS.out _ _ (λ_=>(aa _ _ _).trans (aA _ _)) ?_;clear hKS KS;refine au rfl ?_;intro KS hKS
 refine step_append_lies _ (by rfl) _ _ _ (by rfl) w0.heap.size 135 i0 _ 2 16 (by kernel_rfl) J M O P rfl (by omega) _ ns (aJ zv) (by rfl) ((L.alloc _).drew)
         ⟨W.heap.size,0,none⟩ 1 1 [.int .u8 u.K,.int .i64 u.N] (by rfl) (by rfl) (iu (cs:=#[.int .u8 u.K,.int .i64 u.N]) (t:=135) (fr:=(0,0)) (aO W _)) (by simp[Value.oneCell'])
         (by omega) (by unfold maxLen;omega) (by omega) (by have:=n.out;simp;omega) (W.heap.size+1) (by simp) ?_
 intro gg r Q m j f T;have b:But (λk=>(Value.slice a ns c).ownBlock=some k) W Q:=((aa _ _ _).trans (aA _ _)).trans (a8 j);refine hKS.out _ _ (λ_=>b) ?_;clear hKS KS;have y0:=(b.cell (p:=⟨g,o+2,none⟩) i ab).trans d2;have y1:=(b.frozen (p:=⟨g,o+2,none⟩) i ab).trans dz;have S:g<Q.heap.size:=bK i b.size;refine dU rfl ?_;go_wp2_with fail;go_end0;refine⟨rfl,_,Y.out Q (.slice (some ⟨gg,0,none⟩) (ns+1) r) ((D.mono (λ_ _ h=>h.elim)).trans b) ?_ (λg' hg'=> ?_)⟩
 .rw[aN,G.out,mP];exact m
 .simp only[Value.ownBlock,Option.some.injEq]at hg';subst hg';obtain f|f:=f
  .exact Or.inr f
  .have:=n.out;left;omega
end
def br (im:Img) (x:Ins):L_:=
 if x.op.toNat=119\/x.op.toNat=102 then [105]
 else if x.op.toNat=43\/x.op.toNat=45\/x.op.toNat=42\/x.op.toNat=47\/x.op.toNat=60\/x.op.toNat=61 then [105,105]
 else if x.op.toNat=101 then [111,111]
 else if x.op.toNat=103\/x.op.toNat=120 then [111]
 else if x.op.toNat=112 then if(cj im.zq x.a x.b).toNat=105 then [111,105]else [111,111]
 else if x.op.toNat=99 then if(fU im.zx x.b).toNat=105 then [111,105]else [111,111]
 else []
def bk (x:Ins):Value:= .agg #[.int .u8 x.op.toNat,.int .i64 x.a,.int .i64 x.b,.int .i64 x.pos]
theorem Fh {α:Type} (n:Nat) (p q:α):(if n=105 then p else q)=if((n:Int)==105)=true then p else q:=by
 by_cases h:n=105
 .subst h;rfl
 .rw[if_neg h,if_neg (by rw[aX];omega)]
section
variable {K:Dk} {w0 w w':World} {val e:Int} {hv fv:Value} {fo:List Value} {s:Ev} {ds:List Fd} {d:Fd} {im:Img} {x:Ins} {nl:Nat}
theorem AC (h:DmQ K w0 w val e hv fv fo s ds) (hI:cH w0 K.bi im) (hx:WfX im.zq im.zx.length nl x):
  Calls prog 109 #[.pointer (some ⟨K.mb,0,none⟩),bk x] w λen w'=>en= .returned (.string ⟨(br im x).toArray⟩)/\B_ w w':=by
 have c0:=h.mc.cs.1;have q:=h.lt;have c:=hx.op;simp[cE]at c;unfold bk
 by_cases h112:x.op.toNat=112
 .obtain⟨g,m,cap,fl,d0,hm,hc,d,i,lbi,lg⟩:=(hI.but h.old).cls.flds (hx.cls (by omega)) (hx.fld (by omega));have f:br im x=if(cj im.zq x.a x.b).toNat=105 then [111,105]else [111,111]:=by simp[br,h112]
  rw[f,h112,<-i];have k: ∀h,(⟨fl.toArray⟩:ByteArray)[x.b]'h=fl.getD x.b 0:=λh=>by rw[bF fl _ d];exact ii fl _ d _
  have l:(x.b:Int)<(fl.length:Int):=by omega
  have r:x.b<(⟨fl.toArray⟩:ByteArray).size:=d;have p:(x.a:Int)<(m:Int):=by omega
  generalize fl.getD x.b 0=C at*;clear i c h112 f;rw[Fh];obtain⟨b,j⟩: ∃b,((C.toNat:Int)==105)=b:=⟨_,rfl⟩;rw[j]
  cases b
  all_goals
   go_in
   go_wp2_with fail
   go_quiet (fail)
   go_wp2_with fail;go_ret;exact⟨rfl,(aa _ _ _).trans (aH _ _ _)⟩
 by_cases h99:x.op.toNat=99
 .obtain⟨g,n,cap,d1,hn,hc,_,lbi,lg⟩:=(hI.but h.old).sig.at (hx.sig (by omega));have f:br im x=if(fU im.zx x.b).toNat=105 then [111,105]else [111,111]:=by simp[br,h99]
  rw[f,h99];generalize fU im.zx x.b=C at*;clear c h112 h99 f;rw[Fh];obtain⟨b,j⟩: ∃b,((C.toNat:Int)==105)=b:=⟨_,rfl⟩;rw[j]
  cases b
  all_goals
   go_in
   go_wp2_with fail
   go_quiet (fail)
   go_wp2_with fail;go_ret;exact⟨rfl,(aa _ _ _).trans (aH _ _ _)⟩
 simp only[h112,h99,or_false,false_or]at c;obtain h'|h'|h'|h'|h'|h'|h'|h'|h'|h'|h'|h'|h'|h'|h'|h'|h'|h'|h'|h':=c
 all_goals
  rw[show br im x=_ from by simp only[br,h'];rfl,h'];clear h112 h99 h'
  go_in
  go_wp2_with fail;go_ret;exact⟨rfl,aa _ _ _⟩
end
theorem wn:((V.z).K:Int)=122:=rfl
theorem wu:(V.z).N=0:=rfl
theorem wv {k:Nat}:((V.o k).K:Int)=111:=rfl
theorem ww {k:Nat}:(V.o k).N=(k:Int):=rfl
theorem oC {n:Int}:((V.i n).K:Int)=105:=rfl
theorem oD {n:Int}:(V.i n).N=n:=rfl
def mQ (ts:L_) (zv:List V):Prop:=ts.length<=zv.length/\ ∀(j:Nat) (t:UInt8) v,ts[j]?=some t->zv[zv.length-ts.length+j]?=some v->((t.toNat:Int)==105)=((v.K:Int)==105)
section
variable {K:Dk} {w0 w w':World} {val e:Int} {hv fv:Value} {fo:List Value} {s:Ev} {ds:List Fd} {d:Fd} {g cap:Nat}
theorem xX (h:DmQ K w0 w val e hv (.slice (some ⟨g,0,none⟩) (ds.length+1) cap) fo s (ds++ [d])) (h4:d.zv.length<=4000) (ts:L_) (ht:mQ ts d.zv) (i:ts.length<=2):
  Calls prog 110 #[.pointer (some ⟨g,ds.length*4,none⟩),.string ⟨ts.toArray⟩] w λen w'=>en= .returned (.bool true)/\w'=w:=by
 obtain⟨q,pc,zv,loc,sv,lv⟩:=d;obtain⟨A,B,D,_,_,c2,_,fz⟩:=h.cs;have n:=h.st;simp only at h4 c2 n ht⊢;obtain⟨a,c,rfl⟩:=ay n;obtain⟨m,hm⟩: ∃m,zv.length=m+ts.length:=⟨zv.length-ts.length,by have:=ht.1;omega⟩;have y:=hid n;have HT:=hid ht.2;have x:=hid hm;rw[hm]at c2 h4;clear h n ht fz hm;generalize ds.length*4=o at*
 go_in
 go_wp2_with fail
 go_loopg [6] ts.length (λmm is wr=> ∃k:Nat,is= .int .i64 k/\k+mm<=ts.length/\ts.length<=k+mm/\wr=w)
 case atStart=>exact⟨0,rfl,by omega,by omega,rfl⟩
 case round=>
  obtain⟨k,rfl,E,F,l⟩:=hrel;rw[l];clear l
  by_cases hlt:k<ts.length
  .have t:(k:Int)<(ts.length:Int):=by omega
   have i:k<ts.length:=hlt;have j:m+k<zv.length:=by rw[x.out];omega
   obtain⟨gs,r,H,I,f⟩:=aE y.out (by omega);obtain⟨C,p⟩: ∃C,ts[k]=C:=⟨_,rfl⟩;obtain⟨v,hv⟩: ∃v,zv[m+k]?=some v:=⟨_,aG j⟩;have L:w.cell? ⟨gs,(m+k)*2,none⟩=some (.int .u8 v.K):=f _ _ (aP (k:=0) hv (by omega));have kC: ∀h,(⟨ts.toArray⟩:ByteArray)[k]'h=C:=λh=>by rw[<-p];exact ii ts _ i _
   have J:k<(⟨ts.toArray⟩:ByteArray).size:=i;have heq:=HT.out k C v (by rw[aG i,p]) (by rw[x.out];simpa using hv);obtain⟨b,z⟩: ∃b,((v.K:Int)==105)=b:=⟨_,rfl⟩;rw[z]at heq;subst r;have G:(m:Int)+k<(m:Int)+ts.length:=by omega
   clear p hv f j i
   cases b
   all_goals
    go_wp2_with fail
    go_roundg (ts.length-(k+1))
    case measure=>omega
    case rel=>exact⟨k+1,by simp,by omega,by omega,rfl⟩
  .have t: ¬(k:Int)<(ts.length:Int):=by omega
   go_wp2_with fail;go_ret;exact⟨rfl,rfl⟩
theorem DmQ.obj {k:Nat} {ob:Ob} (h:DmQ K w0 w val e hv fv fo s ds) (hk:s.heap[k]?=some ob): ∃g cap v,hv= .slice (some ⟨g,0,none⟩) s.heap.length cap/\fo[k]?=some v/\g<w.heap.size/\w.cell? ⟨g,k*2,none⟩=some (.int .i64 ob.cls)/\w.cell? ⟨g,k*2+1,none⟩=some v/\w.ownsRow w0.heap.size 135 2 v ob.fs.length (aJ ob.fs):=by
 have d:=(bc hk).1;obtain⟨v,hv'⟩: ∃v,fo[k]?=some v:=⟨_,aG (by rw[h.len];exact d)⟩;have f:=h.hp;obtain⟨a,c,rfl⟩:=ay f;obtain⟨g,rfl,b,i,hc⟩:=aE f (by omega);exact⟨g,c,v,rfl,hv',b,hc _ _ (k9 (j:=0) hk hv' (by omega)),hc _ _ (k9 (j:=1) hk hv' (by omega)),h.rw.row _ _ _ (rq hk hv')⟩
theorem DJ (h:DmQ K w0 w val e hv fv fo s ds) (y:Nat):
  Calls prog 176 #[.pointer (some ⟨K.mb,0,none⟩),cW .z,.int .i64 y] w λen w'=>en= .returned (.bool true)/\B_ w w':=by
 clear h;simp only[cW,wn,wu]
 go_in
 go_wp2_with fail;go_ret;exact⟨rfl,aa _ _ _⟩
theorem DK {im:Img} {k:Nat} {ob:Ob} (h:DmQ K w0 w val e hv fv fo s ds) (hI:cH w0 K.bi im) (hw:WfC im.zq) (hk:s.heap[k]?=some ob) (hc:ob.cls<im.zq.length) (h4:s.heap.length<=4000) (y:Nat):
  Calls prog 176 #[.pointer (some ⟨K.mb,0,none⟩),cW (.o k),.int .i64 y] w λen w'=>en= .returned (.bool (bu im.zq 5 ob.cls y))/\B_ w w':=by
 obtain⟨g,cap,v,rfl,_,c,i,_,_⟩:=h.obj hk;obtain⟨c0,_,c2,_⟩:=h.mc.cs;have f:=h.lt;have d:(k:Int)<(s.heap.length:Int):=by have:=(bc hk).1;omega
 have b:=hid (λ(Y:World) (hY:B_ w Y)=>mo K.bi im.zq ob.cls y Y (hI.but (h.old.trans hY)).cls hw (by omega) (by omega));generalize bu im.zq 5 ob.cls y=R at*;generalize ob.cls=oc at*;clear h hk hI hc;generalize s.heap.length=nh at*;simp only[cW,wv,ww];have a:=hid (λn=>b.out ((w.alloc (.cells #[.int .u8 111,.int .i64 k] 135)).drewN n) ((aa _ _ _).trans (aH _ _ _)));clear b
 go_in
 go_wp2_with fail
 go_quiet (exact Calls.quiet_of_same (a.out _))
 go_wp2_with fail;go_ret;exact⟨rfl,(aa _ _ _).trans (aH _ _ _)⟩
end
def kD (K:Dk) (w0:World) (g cap:Nat) (ds:List Fd) (q:Nat) (s:Ev) (pc:Int) (zv loc:List V) (e:Int) (w':World):Prop:=
 ∃hv fo sv lv,DmQ K w0 w' 0 e hv (.slice (some ⟨g,0,none⟩) (ds.length+1) cap) fo s (ds++ [⟨q,pc,zv,loc,sv,lv⟩])
section
variable {K:Dk} {w0 w w':World} {hv:Value} {fo:List Value} {s:Ev} {ds:List Fd} {d:Fd} {g cap:Nat} {x:Ins}
theorem Fi (h:DmQ K w0 w 0 12 hv (.slice (some ⟨g,0,none⟩) (ds.length+1) cap) fo s (ds++ [d])) (h4:d.zv.length<=4000) (ho:x.op.toNat=107):
  Calls prog 115 #[.pointer (some ⟨K.mb,0,none⟩),.pointer (some ⟨g,ds.length*4,none⟩),bk x] w λen w'=>en= .returned (.tuple #[])/\kD K w0 g cap ds d.q s d.pc (d.zv++ [.i x.b]) d.loc 12 w':=by
 have a:=hid (λY (hY:B_ w Y)=>dW (h.new hY) (.i x.b) h4);clear h;unfold bk;rw[ho];clear ho;simp only[cW,V.K,V.N]at a;generalize ds.length*4=o at*
 go_in
 go_wp2_with fail;refine(a.out _ (aa _ _ _)).mono ?_;rintro en w1 ⟨rfl,sv,c⟩;clear a;go_wp2_with fail;go_end0;exact⟨rfl,_,_,_,_,c⟩
theorem Fj (h:DmQ K w0 w 0 12 hv (.slice (some ⟨g,0,none⟩) (ds.length+1) cap) fo s (ds++ [d])) (h4:d.zv.length<=4000) (hr:s.read<=4000) (ho:x.op.toNat=114):
  Calls prog 115 #[.pointer (some ⟨K.mb,0,none⟩),.pointer (some ⟨g,ds.length*4,none⟩),bk x] w λen w'=>en= .returned (.tuple #[])/\kD K w0 g cap ds d.q {s with read:=s.read+1} d.pc (d.zv++ [.i (iV K.inp s.read)]) d.loc 12 w':=by
 obtain⟨_,_,_,_,c4,c5,_⟩:=h.mc.cs;have e:=h.lt;have fz:=h.mc.fz 5;have b:=hid (λY=>qZ K.inp s.read (by omega) Y);have a:=hid (λY (hY:B_ w Y)=>dW ((h.new hY).own (val':=0) (e':=12) (s':={s with read:=s.read+1}) (aj Y K.mb 5 (.int .i64 ((s.read:Int)+1))) rfl (by have:=(h.new hY).mc.set5 ((s.read:Int)+1);simpa using this)) (.i (iV K.inp s.read)) h4);clear h;unfold bk;rw[ho];clear ho;simp only[cW,V.K,V.N]at a;generalize ds.length*4=o at*;generalize iV K.inp s.read=nv at*
 go_in
 go_wp2_with fail
 go_quiet (exact Calls.quiet_of_same (b.out _))
 go_wp2_with fail;refine(a.out _ ((aa _ _ _).trans (aH _ _ _))).mono ?_;rintro en w1 ⟨rfl,sv,c⟩;clear a;go_wp2_with fail;go_end0;exact⟨rfl,_,_,_,_,c⟩
theorem Fk (h:DmQ K w0 w 0 12 hv (.slice (some ⟨g,0,none⟩) (ds.length+1) cap) fo s (ds++ [d])) (h4:d.zv.length<=4000) (ht:iM w0) (hol:s.out.length<=90000) (hl:1<=d.zv.length) {m:Int} (hm:bT d.zv= .i m) (hm1: -2147483648<=m) (hm2:m<2147483648) (ho:x.op.toNat=119):
  Calls prog 115 #[.pointer (some ⟨K.mb,0,none⟩),.pointer (some ⟨g,ds.length*4,none⟩),bk x] w λen w'=>en= .returned (.tuple #[])/\kD K w0 g cap ds d.q (s.say m) d.pc (cG d.zv) d.loc 12 w':=by
 have j:=hid (λY (hY:B_ w Y)=>iq (h.new hY) hl h4);have p:=Lib.itoa_length_le m (by omega) (by omega);obtain⟨D,l⟩: ∃D,Lib.itoa m=D:=⟨_,rfl⟩;have t:Hid (s.say m={s with out:=s.out++D++ [32]}):=by show _=_;simp[Ev.say,l]
 have b:=λw ht=>rc m hm1 hm2 w ht
 rw[l]at b p;have c:=hid b;rw[hm]at j;clear h b l hm hm1 hm2;unfold bk;rw[ho];clear ho;simp only[cW,V.K,V.N]at j;generalize ds.length*4=o at*
 go_in
 go_wp2_with fail;refine(j.out _ (aa _ _ _)).mono ?_;rintro en w1 ⟨rfl,k,sv,n⟩;clear j k;go_wp2_with fail;refine(c.out _ (ht.but (n.new (aa _ _ _)).old)).mono ?_;rintro en B ⟨rfl,f⟩;have a:=(n.new (aa _ _ _)).new f;clear c n f;obtain⟨_,_,_,_,_,_,_,c7,_⟩:=a.mc.cs;have C:=a.mc.fz 7;have z:=a.lt;have v:=db s.out D;have y:=fp (s.out++D) 32;have A:(⟨s.out.toArray⟩:ByteArray).size+(⟨D.toArray⟩:ByteArray).size<=200000:=by show s.out.toArray.size+D.toArray.size<=200000;simp;omega
 have r:(⟨(s.out++D).toArray⟩:ByteArray).size+(⟨#[32]⟩:ByteArray).size<=200000:=by show(s.out++D).toArray.size+1<=200000;simp;omega
 have e:=hid a;clear a;go_wp2_with fail;go_end0;rw[t.out];exact⟨rfl,_,_,_,_,e.out.own (s':={s with out:=s.out++D++ [32]}) (aj _ K.mb 7 (.string ⟨(s.out++(D++ [32])).toArray⟩)) rfl (by rw[ky];exact e.out.mc.set7 _)⟩
theorem Fl (h:DmQ K w0 w 0 12 hv (.slice (some ⟨g,0,none⟩) (ds.length+1) cap) fo s (ds++ [d])) (h4:d.zv.length<=4000) (hl:1<=d.zv.length) (hx:x.b<100) (ho:x.op.toNat=102):
  Calls prog 115 #[.pointer (some ⟨K.mb,0,none⟩),.pointer (some ⟨g,ds.length*4,none⟩),bk x] w λen w'=>en= .returned (.tuple #[])/\kD K w0 g cap ds d.q s (if(bT d.zv).N=0 then(x.b:Int)-1 else d.pc) (cG d.zv) d.loc 12 w':=by
 have f:=hid (λY (hY:B_ w Y)=>iq (h.new hY) hl h4);have m:=h.cs.1;clear h;unfold bk;rw[ho];clear ho;simp only[cW]at f;generalize r:bT d.zv=u at*;obtain⟨p,hp⟩: ∃p,(if u.N=0 then(x.b:Int)-1 else d.pc)=p:=⟨_,rfl⟩;rw[hp];have a:=hid hp;clear r hp
 go_in
 go_wp2_with fail;refine(f.out _ (aa _ _ _)).mono ?_;rintro en w1 ⟨rfl,c,sv,e⟩;have hi:=(c.block w.heap.size (by simp) (by show¬w.heap.size=g;omega)).trans (aO w _);have y:=ce2 hi;have n:=ae hi;obtain⟨l,_,_,_,c1,_,_,fz⟩:=e.cs;have v:=fz (ds.length*4+1);have j:=hid e;have i:=hid (e.pc ((x.b:Int)-1));have t:=dc ((x.b:Int)-1) (by omega) (by omega);simp only at c1;clear f hi fz e c;generalize ds.length*4=o at*
 by_cases h0:u.N=0
 .have k:(u.N==0)=true:=by simp[h0]
  rw[if_pos h0]at a;clear h0;go_wp2_with fail;go_end0;rw[<-a.out];exact⟨rfl,_,_,_,_,i.out.new (aa _ _ _)⟩
 .have k:(u.N==0)=false:=by simp[h0]
  rw[if_neg h0]at a;clear h0;go_wp2_with fail;go_end0;rw[<-a.out];exact⟨rfl,_,_,_,_,j.out.new (aa _ _ _)⟩
end
end
end Go.Proofs.YtpfkkmacakjmbaaGreatDoor
