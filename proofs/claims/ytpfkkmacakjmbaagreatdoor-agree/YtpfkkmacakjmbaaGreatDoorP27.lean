import Derived.Test.YtpfkkmacakjmbaaGreatDoorP26
set_option maxRecDepth 100000
set_option maxHeartbeats 6400000
set_option linter.all false
namespace Go.Proofs.YtpfkkmacakjmbaaGreatDoor
open Proofs.Tryz
section
open Go Go.RowKit Sp
attribute [local go_sem ↓] eF eG
theorem DH:(prog.info? 315).map (λi=>(i.zero,i.size,i.bytes))=some (some (.pointer none),1,8):=by kernel_rfl
section
variable {P:Nat->Prop} {w0 w:World} {be bw tx bl:Nat} {inp:ByteArray} {s:Ev} {lv vo vb:Value} {l:List V} {gs:List Nat} {fv:List Value}
theorem gT {α:Type} {xs:List α} {x u:α} {i:Nat} (h:(xs++ [x])[i]?=some u):(i<xs.length/\xs[i]?=some u)\/(i=xs.length/\u=x):=by
 obtain hl|hl:=ju i xs.length
 .rw[eQ hl]at h;exact Or.inl ⟨hl,h⟩
 .rw[gG hl]at h
  cases hq:i-xs.length with
  |zero=>rw[hq]at h;cases h;exact Or.inr ⟨by omega,rfl⟩
  |succ q=>rw[hq]at h;simp at h
end
theorem Ci:(prog.info? 5).map (λi=>(i.zero,i.size,i.bytes))=some (some (.int .u8 0),1,1):=by kernel_rfl
theorem AI {w w':World} (h:B_ w w'):Below w.heap.size w w':=h.toBelow (bG _) (λ_ h=>h.elim)
section
variable {P:Nat->Prop} {w0 w w':World} {be bw tx bl:Nat} {inp:ByteArray} {s:Ev} {lv vo vb:Value} {l:List V} {gs:List Nat} {fv:List Value}
structure dK (w0 w w':World):Prop where
 bel:Below w0.heap.size w w'
 kept: ∀(k:Nat) o,w.heap[k]?=some o->(∀c fz,o≠ .cells c 5 fz)->w'.heap[k]?=some o
theorem dK.grown {X w2:World} {v:Value} {n:Nat} {xs:List Value} (h0:w0.heap.size<=X.heap.size) (ho:X.ownsRow w0.heap.size 5 1 v n xs) (hB:But (λk=>v.ownBlock=some k) X w2):dK w0 X w2:=by
 refine⟨⟨hB.os,hB.tape,hB.output,hB.size,λk hk=> ?_⟩,λk o hk hn=> ?_⟩
 .exact hB.block k (by omega) (λhv=>by have:=aC ho k hv;omega)
 .refine(hB.block k (ae hk) (λhv=> ?_)).trans hk;obtain⟨cur,hc⟩:=dw ho hv;rw[hk]at hc
  cases hc
  exact hn _ _ rfl
end
def ReV (P:Nat->Prop) (w0 w:World) (be bw tx:Nat) (inp:ByteArray) (bl:Nat) (lv:Value) (r:R) (en:Ending) (w':World):Prop:=
 But (FrQ P w0) w w'/\ ∃vo vb gs fv,match r with
 | .ok u l s=>en= .returned (.tuple #[aI u,.int .i64 0])/\StQ P w0 w' be bw tx inp s bl lv l vo vb gs fv
 | .bad e o=>en= .returned (.tuple #[.agg #[.int .i32 0,.int .i64 0],.int .i64 (cr e)])/\ ∃s l,s.out=o/\StQ P w0 w' be bw tx inp s bl lv l vo vb gs fv
structure NB (w X:World):Prop where
 but:B_ w X
 nb: ∀k,w.heap.size<=k->k<X.heap.size-> ∀c fz,X.heap[k]?≠some (.cells c 5 fz)
theorem NB.refl (w:World):NB w w:=⟨cq _ _,λk h1 h2=>by omega⟩
theorem NB.alloc {w X:World} {c:Array Value} {t:Nat} (h:NB w X) (ht:t≠5):NB w (X.alloc (.cells c t)):=by
 refine⟨h.but.trans (ag _ _ _),λk h1 a c' fz e=> ?_⟩;have a:k<X.heap.size+1:=by simpa using a
 obtain h3|h3:=ju k X.heap.size
 .rw[(ag (λ_=>False) X _).block k h3 (λh=>h)]at e;exact h.nb k h1 h3 c' fz e
 .have:k=X.heap.size:=by omega
  subst this;rw[bj]at e
  cases e
  exact ht rfl
theorem fH {w:World} {c1 c2 c3 c4:Array Value}:NB w ((((w.alloc (.cells c1 219)).alloc (.cells c2 168)).alloc (.cells c3 168)).alloc (.cells c4 168)):=
 ((((NB.refl w).alloc (by decide)).alloc (by decide)).alloc (by decide)).alloc (by decide)
section
variable {P:Nat->Prop} {w0 w:World} {be bw tx bl:Nat} {inp:ByteArray} {s:Ev} {lv vo vb:Value} {l:List V} {gs:List Nat} {fv:List Value}
abbrev PQ (P:Nat->Prop) (w X:World) (k:Nat):Prop:=P k\/(w.heap.size<=k/\k<X.heap.size)
theorem StQ.grown {X:World} (h:StQ P w0 w be bw tx inp s bl lv l vo vb gs fv) (hN:NB w X):StQ (PQ P w X) w0 X be bw tx inp s bl lv l vo vb gs fv:=h.grow hN.but hN.nb
theorem StQ.fin {X X':World} {r:Nat} (hN:NB w X) (h0:w0.heap.size<=w.heap.size) (hs:StQ (PQ P w X) w0 X' be bw tx inp s bl lv l vo vb gs fv) (hB:But (FrQ (PQ P w X) w0) X X') (hr:w.heap.size<=r) (hx:dE X r) (a b:Int):
  dE X' r/\But (FrQ P w0) w ((X'.setCell ⟨r,0,none⟩ (.int .i32 a)).setCell ⟨r,1,none⟩ (.int .i64 b))/\StQ P w0 ((X'.setCell ⟨r,0,none⟩ (.int .i32 a)).setCell ⟨r,1,none⟩ (.int .i64 b)) be bw tx inp s bl lv l vo vb gs fv:=by
 have d:r<X.heap.size:=by obtain⟨K,N,hx⟩:=hx;exact ae hx
 have f:dE X' r:=hx.but hB (λhf=>hf.2 (Or.inr ⟨hr,d⟩));refine⟨f,?_,?_⟩
 .refine((hN.but.mono (λ_ _ h=>h.elim)).trans (hB.mono (λk hk hf=>⟨hf.1,λhp=>hf.2 (Or.inl hp)⟩))).next (dH _ _ _ _) (λk hk e=>by have e:k=r:=e;omega)
 .refine(hs.tmp (F:=(· =r)) (dH _ _ _ _) (λk e=>by have e:k=r:=e;subst e;exact⟨Or.inr ⟨hr,d⟩,by omega⟩) (λk e c fz he=> ?_)).less (λk hp=>Or.inl hp);have e:k=r:=e;subst e;rw[f.put]at he
  cases he
theorem StQ.fin0 {X X':World} {r:Nat} (h:StQ P w0 w be bw tx inp s bl lv l vo vb gs fv) (hN:NB w X) (hB:B_ X X') (hr:w.heap.size<=r) (hx:dE X r) (a b:Int):
  dE X' r/\But (FrQ P w0) w ((X'.setCell ⟨r,0,none⟩ (.int .i32 a)).setCell ⟨r,1,none⟩ (.int .i64 b))/\StQ P w0 ((X'.setCell ⟨r,0,none⟩ (.int .i32 a)).setCell ⟨r,1,none⟩ (.int .i64 b)) be bw tx inp s bl lv l vo vb gs fv:=
 StQ.fin hN h.old.size ((h.grown hN).new hB) (hB.mono (λ_ _ h=>h.elim)) hr hx a b
end
theorem gI {fn:Func} {Rr:Ending->World->Prop} {a:Act} {w:World} {c f:Nat} {u v:Value} (hf:fn.results=#[.tmp c,.tmp f]) (hd:a.defers=[]) (hc:a.tmps.getD c undef=u) (he:a.tmps.getD f undef=v) (hR:Rr (.returned (.tuple #[u,v])) w):bodyPost prog fn Rr .ret a w:=by
 refine cU (v:= .tuple #[u,v]) ?_ hd hR;have b:a.tmps[c]?.getD undef=u:=by simpa using hc
 have d:a.tmps[f]?.getD undef=v:=by simpa using he
 simp[results,hf,b,d,go_sem]
theorem FR {fn:Func} {Rr:Ending->World->Prop} {a:Act} {w:World} {c r:Nat} {v0 v1 v2 v3 v4:Value} (hf:fn.results=#[.cell c 219]) (hd:a.defers=[]) (hc:a.tmps.getD c undef= .pointer (some ⟨r,0,none⟩))
  (h0:w.heap[r]?=some (.cells #[v0,v1,v2,v3,v4] 219)) (hR:Rr (.returned (.agg #[v0,v1,v2,v3,v4])) w):bodyPost prog fn Rr .ret a w:=by
 have r0:=ce0 h0;have d:=ce1 h0;have e:=ce2 h0;have f:=ce3 h0;have g:=ce4 h0;refine cU (v:= .agg #[v0,v1,v2,v3,v4]) ?_ hd hR;have b:a.tmps[c]?.getD undef= .pointer (some ⟨r,0,none⟩):=by simpa using hc
 simp[results,hf,b,go_sem,r0,d,e,f,g]
def cR (x:XIt):Value:= .agg #[.int .i64 x.place,.int .u8 x.op.toNat,.int .u8 x.cls.toNat,.int .i64 x.num,.slice x.pa x.pn x.pc]
theorem qS (c:UInt8) (m:Nat) (an:UInt8) (vl vi:Value) (its:List XIt) (i:Nat) (x:XIt) (w:World) (hI:ItB w 0 vi its) (hx:its[i]?=some x) (hl:its.length<=1000):
  Calls prog 152 #[.agg #[.int .u8 c.toNat,.int .i64 m,.int .u8 an.toNat,vl,vi],.int .i64 i] w λen w'=>en= .returned (cR x)/\NB w w':=by
 have j:=(bn hx).1;unfold ItB at hI;obtain⟨ai,ci,rfl⟩:=aA hI;obtain⟨g,rfl,b,d,a⟩:=aL hI (by omega);have l:w.cell? ⟨g,i*5,none⟩=some _:=a _ _ (aW (k:=0) hx (by omega));have n:w.cell? ⟨g,i*5+1,none⟩=some _:=a _ _ (aW (k:=1) hx (by omega));have p:w.cell? ⟨g,i*5+2,none⟩=some _:=a _ _ (aW (k:=2) hx (by omega));have q:w.cell? ⟨g,i*5+3,none⟩=some _:=a _ _ (aW (k:=3) hx (by omega));have r:w.cell? ⟨g,i*5+4,none⟩=some _:=a _ _ (aW (k:=4) hx (by omega));have e: ¬((i:Int)<0):=by omega
 have f: ¬((its.length:Int)<=(i:Int)):=by omega
 have h:(i:Int)<(its.length:Int):=by omega
 unfold cR;clear a hx hI;generalize its.length=ni at*
 go_in
 go_wp2_with fail;exact FR results152 rfl rfl (aw (by simp) _) ⟨rfl,((NB.refl w).alloc (by decide)).alloc (by decide)⟩
def FrB (w:World) (bf d:Nat) (X:bK) (vl vi:Value) (bl:Nat):Prop:=
 w.heap[bf]?=some (.cells #[.int .i64 d,.int .u8 X.cls.toNat,.int .i64 X.meth,.int .u8 X.ans.toNat,vl,vi,.pointer (some ⟨bl,0,none⟩)] 234)
theorem FrB.but {F:Nat->Prop} {w w':World} {bf d bl:Nat} {X:bK} {vl vi:Value} (h:FrB w bf d X vl vi bl) (hb:But F w w') (hf: ¬F bf):FrB w' bf d X vl vi bl:=(hb.block bf (ae h) hf).trans h
structure DI (w:World) (gs:List Sig) (b:Bod) (X:bK) (vl vi:Value):Prop where
 bt:BtB w 0 vl X.zy
 it:ItB w 0 vi X.items
 bd:BdN w 0 gs X b
section
variable {P:Nat->Prop} {w0 w w':World} {be bw tx bl:Nat} {inp:ByteArray} {s:Ev} {lv vo vb:Value} {l:List V} {gs:List Nat} {fv:List Value}
theorem mK {fu:Int} (he:XeB w be tx bw fu) (h0:B_ w0 w) (im:Img) (hT:eS w0 tx im) (q d:Nat) (b:Bod) (hq:im.zj[q]?=some b) (hlo:b.zy.length<=5) (hnb:im.zj.length<=100):
  Calls prog 92 #[.pointer (some ⟨be,0,none⟩),.int .i64 q,.int .i64 d] w λen w'=> ∃(bf bl':Nat) (lv':Value) (X:bK) (vl vi:Value),en= .returned (.pointer (some ⟨bf,0,none⟩))/\B_ w w'/\FrB w' bf d X vl vi bl'/\DI w0 im.zx b X vl vi/\w'.heap[bl']?=some (.cells #[lv'] 280)/\w'.ownsRow w.heap.size 168 2 lv' b.zy.length (az (b.zy.map du))/\w.heap.size<=bl'/\w.heap.size<=bf:=by
 obtain⟨bs,⟨v2,t2,n,lb,Q,hm,T⟩,m,y⟩:=hT.bod;have S:=(bn hq).1;have B:lb.length=im.zj.length:=by rw[<-m,<-hm];simp
 obtain⟨⟨X,vl,vi⟩,l⟩: ∃x,lb[q]?=some x:=⟨_,aM (by omega)⟩;have t:bs[q]?=some X:=by rw[<-hm];simp[l]
 have M:=y q X b t hq;obtain⟨J,L⟩:=T _ (a9 l);simp only at J L;have p:Hid (DI w0 im.zx b X vl vi):=⟨J,L,M⟩;obtain⟨al,capl,rfl⟩:=aA J;obtain⟨ai,capi,rfl⟩:=aA L;obtain⟨ao,capo,rfl⟩:=aA Q;obtain⟨g,rfl,c,a1,a⟩:=aL Q (by omega);have E:=a _ _ (br (k:=0) l (by omega));have F:=a _ _ (br (k:=1) l (by omega));have G:=a _ _ (br (k:=2) l (by omega));have H:=a _ _ (br (k:=3) l (by omega));have I:=a _ _ (br (k:=4) l (by omega));simp only[Nat.add_zero,List.getElem?_cons_zero,List.getElem?_cons_succ]at E F G H I;have C:X.zy.length=b.zy.length:=by rw[M.loc]
 rw[C]at p;have r:=hid (λY=>mJ X.cls (X.meth:Int) X.ans X.zy al capl ai X.items.length capi Y (by omega));have O:=hid M.loc;have Z:=he.c0;have a0:=he.lt;have a2:(0:Int)<=(q:Int):=by omega
 have a3:(q:Int)<(lb.length:Int):=by omega
 replace E:=(h0.cell c (λh=>h)).trans E;replace F:=(h0.cell c (λh=>h)).trans F;replace G:=(h0.cell c (λh=>h)).trans G;replace H:=(h0.cell c (λh=>h)).trans H;replace I:=(h0.cell c (λh=>h)).trans I;replace t2:=(h0.cell n (λh=>h)).trans t2;replace c:=aP c h0.size;replace n:=aP n h0.size;clear m y B l t M J L a T Q hm hq S hT he;generalize lb.length=nb at*
 go_in
 go_wp2_with fail;have i:=bj w (.cells #[.int .u8 X.cls.toNat,.int .i64 X.meth,.int .u8 X.ans.toNat,.slice al b.zy.length capl,.slice ai X.items.length capi] 115);have f:B_ w (w.alloc (.cells #[.int .u8 X.cls.toNat,.int .i64 X.meth,.int .u8 X.ans.toNat,.slice al b.zy.length capl,.slice ai X.items.length capi] 115)):=ag _ _ _;revert i f;generalize (w.alloc (.cells #[.int .u8 X.cls.toNat,.int .i64 X.meth,.int .u8 X.ans.toNat,.slice al b.zy.length capl,.slice ai X.items.length capi] 115))=W;intro i f;obtain⟨k0,k1,k2,k3,k4⟩:=bI i;have gltW:=ae i;clear E F G H I t2 Z i;have s:B_ W W.drew:=aD _ _
 rw[C]at r;refine aF (B_ W) 6 ?_
 iterate 3 (refine aN (v:=?_) rfl s ?_ ?_;rotate_left;(focus (intro wS h;have E:=(h.kc k0 gltW);have F:=(h.kc k1 gltW);have G:=(h.kc k2 gltW);have H:=(h.kc k3 gltW);have I:=(h.kc k4 gltW);clear h;go_simp;try rfl));dsimp only[Act.put];try simp only[bW])
 refine au rfl ?_;intro KS hKS;go_simp;refine(r.out _).mono ?_;rintro en w1 ⟨bl',lv',rfl,P,A,D,z⟩;have e:=s.trans P;refine hKS.out _ _ (λ_=>e) ?_;clear hKS KS;refine au rfl ?_;intro KS hKS;go_simp;refine hKS.out _ _ (λ_=>e) ?_;clear hKS KS;refine au rfl ?_;intro KS hKS;go_simp;refine hKS.out _ _ (λ_=>e.trans (ag _ _ _)) ?_;clear hKS KS;refine md rfl ?_;go_wp2_with fail;go_ret;have j:=f.trans e;refine⟨_,bl',lv',X,_,_,rfl,j.trans (ag _ _ _),bj _ _,p.out,((ag (λ_=>False) _ _).block bl' (ae A) (λh=>h)).trans A,?_,Nat.le_trans f.size z,j.size⟩;rw[O.out]at D;exact dh (ah D (ag (λ_=>False) _ _) (λ_ _ h=>h)) f.size
theorem tY (h:StQ P w0 w be bw tx inp s bl lv l vo vb gs fv) (im:Img) (hT:eS w0 tx im) (q d:Nat) (b:Bod) (hq:im.zj[q]?=some b) (hlo:b.zy.length<=5) (hnb:im.zj.length<=100):
  Calls prog 92 #[.pointer (some ⟨be,0,none⟩),.int .i64 q,.int .i64 d] w λen w'=> ∃(bf bl':Nat) (lv':Value) (X:bK) (vl vi:Value),en= .returned (.pointer (some ⟨bf,0,none⟩))/\B_ w w'/\FrB w' bf d X vl vi bl'/\DI w0 im.zx b X vl vi/\w'.heap[bl']?=some (.cells #[lv'] 280)/\w'.ownsRow w.heap.size 168 2 lv' b.zy.length (az (b.zy.map du))/\w.heap.size<=bl'/\w.heap.size<=bf:=mK h.ev h.old im hT q d b hq hlo hnb
abbrev rH (bl:Nat) (lv:Value) (k:Nat):Prop:=k=bl\/lv.ownBlock=some k
theorem StQ.enter {bl':Nat} {lv':Value} {l':List V} (h:StQ P w0 w be bw tx inp s bl lv l vo vb gs fv) (hB:B_ w w') (hb:w'.heap[bl']?=some (.cells #[lv'] 280)) (hr:w'.ownsRow w.heap.size 168 2 lv' l'.length (az l')) (hbl:w.heap.size<=bl'):
  StQ (λk=>P k\/rH bl lv k) w0 w' be bw tx inp s bl' lv' l' vo vb gs fv:=by
 have f:=h.new hB;have p:=h.old.size;have i: ∀k,lv'.ownBlock=some k->w.heap.size<=k:=λk d=>aC hr k d
 have old: ∀{k},xS be bw bl vo vb lv gs fv k-> ¬rH bl lv k->(w0.heap.size<=k/\ ¬(P k\/rH bl lv k)):=λd hn=>⟨(h.own _ d).1,λhp=>hp.elim (h.own _ d).2 hn⟩
 have nl: ∀{k},∀{c:Array Value} {t:Nat} {fz:Nat×Nat},w.heap[k]?=some (.cells c t fz)->t≠280->t≠168-> ¬rH bl lv k:=λd f h2 hl=>by
  obtain rfl|hl:=hl
  .rw[h.lb]at d;cases d;exact f rfl
  .obtain⟨cur,hc⟩:=dw h.lo hl;rw[hc]at d;cases d;exact h2 rfl
 have nr: ∀{v:Value} {t z n:Nat} {xs:List Value} {k:Nat},w.ownsRow w0.heap.size t z v n xs->v.ownBlock=some k->t≠280->t≠168-> ¬rH bl lv k:=λhr d a b=>by
  obtain⟨cur,hc⟩:=dw hr d;exact nl hc a b
 refine⟨f.old,f.ev,f.wd,f.out,f.ob,f.lg,f.lf,f.obs,f.nd,hb,dh hr p,?_,?_,?_,f.sf⟩
 .intro k d
  have new:w.heap.size<=k->(w0.heap.size<=k/\ ¬(P k\/rH bl lv k)):=λhw=>⟨by omega,λhp=>by
   obtain hp|rfl|hp:=hp
   .have:=(h.pl k hp).1;omega
   .have:=ae h.lb;omega
   .have:=bB h.lo k hp;omega⟩
  obtain rfl|rfl|rfl|d|d|d|d| ⟨v,m,d⟩:=d
  .exact old (Or.inl rfl) (nl h.ev (by decide) (by decide))
  .exact old (Or.inr (Or.inl rfl)) (nl h.wd (by decide) (by decide))
  .exact new hbl
  .exact old (Or.inr (Or.inr (Or.inr (Or.inl d)))) (nr h.out d (by decide) (by decide))
  .exact old (Or.inr (Or.inr (Or.inr (Or.inr (Or.inl d))))) (nr h.ob d (by decide) (by decide))
  .exact new (i k d)
  .obtain⟨c,v,j⟩:=h.mg d;exact old (Or.inr (Or.inr (Or.inr (Or.inr (Or.inr (Or.inr (Or.inl d))))))) (nl j (by decide) (by decide))
  .refine old (Or.inr (Or.inr (Or.inr (Or.inr (Or.inr (Or.inr (Or.inr ⟨v,m,d⟩))))))) (λhl=> ?_);obtain rfl|hl:=hl
   .obtain⟨n,xs,j⟩:=h.mv m;obtain⟨cur,hc⟩:=dw j d;rw[h.lb]at hc;injection hc with hc;injection hc with _ h2;exact absurd h2 (by decide)
   .exact h.sl v m k d hl
 .intro k d;obtain d|d:=d
  .exact f.pl k d
  .obtain rfl|d:=d
   .exact⟨ae f.lb,λc fz e=>by rw[f.lb]at e;injection e with e;injection e with _ h2;exact absurd h2 (by decide)⟩
   .refine⟨bB f.lo k d,λc fz e=> ?_⟩;obtain⟨cur,hc⟩:=dw f.lo d;rw[hc]at e;injection e with e;injection e with _ h2;exact absurd h2 (by decide)
 .intro v m g q hl;obtain⟨n,xs,j⟩:=h.mv m;have:=bB j g q;have:=i g hl;omega
theorem StQ.leave {Q:Nat->Prop} {bl':Nat} {lv' vo' vb':Value} {l':List V} {gs':List Nat} {fv':List Value} {s':Ev} (h:StQ P w0 w be bw tx inp s bl lv l vo vb gs fv) (h':StQ Q w0 w' be bw tx inp s' bl' lv' l' vo' vb' gs' fv') (hB:But (FrQ Q w0) w w') (hQ: ∀k,P k\/rH bl lv k->Q k):StQ P w0 w' be bw tx inp s' bl lv l vo' vb' gs' fv':=by
 have b: ∀k,rH bl lv k-> ¬FrQ Q w0 k:=λk a hf=>hf.2 (hQ k (Or.inr a))
 refine⟨h'.old,h'.ev,h'.wd,h'.out,h'.ob,h'.lg,h'.lf,h'.obs,h'.nd,(hB.block bl (ae h.lb) (b bl (Or.inl rfl))).trans h.lb,ah h.lo hB (λg c=>b g (Or.inr c)),?_,λk a=>h'.pl k (hQ k (Or.inl a)),?_,h'.sf⟩
 .intro k a;have new: ∀{k},xS be bw bl' vo' vb' lv' gs' fv' k->(w0.heap.size<=k/\ ¬P k):=λa=>⟨(h'.own _ a).1,λhp=>(h'.own _ a).2 (hQ _ (Or.inl hp))⟩
  obtain rfl|rfl|rfl|a|a|a|a|a:=a
  .exact new (Or.inl rfl)
  .exact new (Or.inr (Or.inl rfl))
  .exact h.k3
  .exact new (Or.inr (Or.inr (Or.inr (Or.inl a))))
  .exact new (Or.inr (Or.inr (Or.inr (Or.inr (Or.inl a)))))
  .exact h.k6 a
  .exact new (Or.inr (Or.inr (Or.inr (Or.inr (Or.inr (Or.inr (Or.inl a)))))))
  .exact new (Or.inr (Or.inr (Or.inr (Or.inr (Or.inr (Or.inr (Or.inr a)))))))
 .intro v d g c hl;exact(h'.k8 d c).2 (hQ g (Or.inr (Or.inr hl)))
end
end
end Go.Proofs.YtpfkkmacakjmbaaGreatDoor
