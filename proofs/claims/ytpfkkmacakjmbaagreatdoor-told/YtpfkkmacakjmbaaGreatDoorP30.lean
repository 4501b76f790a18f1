import Derived.Test.YtpfkkmacakjmbaaGreatDoorP29
set_option maxRecDepth 100000
set_option maxHeartbeats 6400000
set_option linter.unusedSimpArgs false
set_option linter.unusedVariables false
namespace Go.Proofs.YtpfkkmacakjmbaaGreatDoor
section
open Go Go.RowKit Sp
attribute [local go_sem ↓] Go.wp_at_zero Go.wp_at_succ
theorem zX:(Tryz.prog.info? 315).map (fun i=>(i.zero,i.size,i.bytes))=some (some (.pointer none),1,8):=by kernel_rfl
section
variable {P:Nat→Prop} {w0 w:World} {be bw tx bl:Nat} {inp:ByteArray} {s:Ev} {lv vo vb:Value} {l:List V} {gs:List Nat} {fv:List Value}
theorem eM {α:Type} {xs:List α} {x u:α} {i:Nat} (h:(xs++ [x])[i]?=some u):(i<xs.length∧xs[i]?=some u)∨(i=xs.length∧u=x):=by
 rcases Nat.lt_or_ge i xs.length with hl|hl
 ·rw[List.getElem?_append_left hl]at h;exact Or.inl ⟨hl,h⟩
 ·rw[List.getElem?_append_right hl]at h
  cases hq:i-xs.length with
  |zero=>rw[hq]at h;cases h;exact Or.inr ⟨by omega,rfl⟩
  |succ q=>rw[hq]at h;simp at h
end
theorem yA:(Tryz.prog.info? 5).map (fun i=>(i.zero,i.size,i.bytes))=some (some (.int .u8 0),1,1):=by kernel_rfl
theorem wH {w w':World} (h:But (fun _=>False) w w'):Below w.heap.size w w':=h.toBelow (Nat.le_refl _) (fun _ h=>h.elim)
section
variable {P:Nat→Prop} {w0 w w':World} {be bw tx bl:Nat} {inp:ByteArray} {s:Ev} {lv vo vb:Value} {l:List V} {gs:List Nat} {fv:List Value}
structure cX (w0 w w':World):Prop where
 bel:Below w0.heap.size w w'
 kept: ∀(k:Nat) o,w.heap[k]?=some o→(∀c fz,o≠ .cells c 5 fz)→w'.heap[k]?=some o
theorem cX.grown {X w2:World} {v:Value} {n:Nat} {xs:List Value} (h0:w0.heap.size≤X.heap.size) (ho:X.ownsRow w0.heap.size 5 1 v n xs) (hB:But (fun k=>v.ownBlock=some k) X w2):cX w0 X w2:=by
 refine⟨⟨hB.os,hB.tape,hB.output,hB.size,fun k hk=> ?_⟩,fun k o hk hn=> ?_⟩
 ·exact hB.block k (by omega) (fun hv=>by have:=aA ho k hv;omega)
 ·refine(hB.block k (ae hk) (fun hv=> ?_)).trans hk;obtain⟨cur,hc⟩:=cD ho hv;rw[hk]at hc
  cases hc
  exact hn _ _ rfl
end
def ReV (P:Nat→Prop) (w0 w:World) (be bw tx:Nat) (inp:ByteArray) (bl:Nat) (lv:Value) (r:R) (en:Ending) (w':World):Prop:=
 But (FrQ P w0) w w'∧ ∃vo vb gs fv,match r with
 | .ok u l s=>en= .returned (.tuple #[aG u,.int .i64 0])∧StQ P w0 w' be bw tx inp s bl lv l vo vb gs fv
 | .bad e o=>en= .returned (.tuple #[.agg #[.int .i32 0,.int .i64 0],.int .i64 (bK e)])∧ ∃s l,s.out=o∧StQ P w0 w' be bw tx inp s bl lv l vo vb gs fv
structure NB (w X:World):Prop where
 but:But (fun _=>False) w X
 nb: ∀k,w.heap.size≤k→k<X.heap.size→ ∀c fz,X.heap[k]?≠some (.cells c 5 fz)
theorem NB.refl (w:World):NB w w:=⟨But.refl _ _,fun k h1 h2=>by omega⟩
theorem NB.alloc {w X:World} {c:Array Value} {t:Nat} (h:NB w X) (ht:t≠5):NB w (X.alloc (.cells c t)):=by
 refine⟨h.but.trans (But.alloc _ _ _),fun k h1 h2 c' fz e=> ?_⟩;have h2:k<X.heap.size+1:=by simpa using h2
 rcases Nat.lt_or_ge k X.heap.size with h3|h3
 ·rw[(But.alloc (fun _=>False) X _).block k h3 (fun h=>h)]at e;exact h.nb k h1 h3 c' fz e
 ·have:k=X.heap.size:=by omega
  subst this;rw[heap_alloc_new]at e
  cases e
  exact ht rfl
theorem dY {w:World} {c1 c2 c3 c4:Array Value}:NB w ((((w.alloc (.cells c1 219)).alloc (.cells c2 168)).alloc (.cells c3 168)).alloc (.cells c4 168)):=
 ((((NB.refl w).alloc (by decide)).alloc (by decide)).alloc (by decide)).alloc (by decide)
section
variable {P:Nat→Prop} {w0 w:World} {be bw tx bl:Nat} {inp:ByteArray} {s:Ev} {lv vo vb:Value} {l:List V} {gs:List Nat} {fv:List Value}
abbrev PQ (P:Nat→Prop) (w X:World) (k:Nat):Prop:=P k∨(w.heap.size≤k∧k<X.heap.size)
theorem StQ.grown {X:World} (h:StQ P w0 w be bw tx inp s bl lv l vo vb gs fv) (hN:NB w X):StQ (PQ P w X) w0 X be bw tx inp s bl lv l vo vb gs fv:=h.grow hN.but hN.nb
theorem StQ.fin {X X':World} {r:Nat} (hN:NB w X) (h0:w0.heap.size≤w.heap.size) (hs:StQ (PQ P w X) w0 X' be bw tx inp s bl lv l vo vb gs fv) (hB:But (FrQ (PQ P w X) w0) X X') (hr:w.heap.size≤r) (hx:cQ X r) (a b:Int):
  cQ X' r∧But (FrQ P w0) w ((X'.setCell ⟨r,0,none⟩ (.int .i32 a)).setCell ⟨r,1,none⟩ (.int .i64 b))∧StQ P w0 ((X'.setCell ⟨r,0,none⟩ (.int .i32 a)).setCell ⟨r,1,none⟩ (.int .i64 b)) be bw tx inp s bl lv l vo vb gs fv:=by
 have a0:r<X.heap.size:=by obtain⟨K,N,hx⟩:=hx;exact ae hx
 have a1:cQ X' r:=hx.but hB (fun hf=>hf.2 (Or.inr ⟨hr,a0⟩));refine⟨a1,?_,?_⟩
 ·refine((hN.but.mono (fun _ _ h=>h.elim)).trans (hB.mono (fun k hk hf=>⟨hf.1,fun hp=>hf.2 (Or.inl hp)⟩))).next (cU _ _ _ _) (fun k hk e=>by have e:k=r:=e;omega)
 ·refine(hs.tmp (F:=(· =r)) (cU _ _ _ _) (fun k e=>by have e:k=r:=e;subst e;exact⟨Or.inr ⟨hr,a0⟩,by omega⟩) (fun k e c fz he=> ?_)).less (fun k hp=>Or.inl hp);have e:k=r:=e;subst e;rw[a1.put]at he
  cases he
theorem StQ.fin0 {X X':World} {r:Nat} (h:StQ P w0 w be bw tx inp s bl lv l vo vb gs fv) (hN:NB w X) (hB:But (fun _=>False) X X') (hr:w.heap.size≤r) (hx:cQ X r) (a b:Int):
  cQ X' r∧But (FrQ P w0) w ((X'.setCell ⟨r,0,none⟩ (.int .i32 a)).setCell ⟨r,1,none⟩ (.int .i64 b))∧StQ P w0 ((X'.setCell ⟨r,0,none⟩ (.int .i32 a)).setCell ⟨r,1,none⟩ (.int .i64 b)) be bw tx inp s bl lv l vo vb gs fv:=
 StQ.fin hN h.old.size ((h.grown hN).new hB) (hB.mono (fun _ _ h=>h.elim)) hr hx a b
end
theorem fh {fn:Func} {Rr:Ending→World→Prop} {a:Act} {w:World} {c f:Nat} {u v:Value} (hf:fn.results=#[.tmp c,.tmp f]) (hd:a.defers=[]) (hc:a.tmps.getD c undef=u) (he:a.tmps.getD f undef=v) (hR:Rr (.returned (.tuple #[u,v])) w):bodyPost Tryz.prog fn Rr .ret a w:=by
 refine bodyPost_ret (v:= .tuple #[u,v]) ?_ hd hR;have a0:a.tmps[c]?.getD undef=u:=by simpa using hc
 have a1:a.tmps[f]?.getD undef=v:=by simpa using he
 simp[results,hf,a0,a1,go_sem]
theorem BW {fn:Func} {Rr:Ending→World→Prop} {a:Act} {w:World} {c r:Nat} {v0 v1 v2 v3 v4:Value} (hf:fn.results=#[.cell c 219]) (hd:a.defers=[]) (hc:a.tmps.getD c undef= .pointer (some ⟨r,0,none⟩))
  (h0:w.heap[r]?=some (.cells #[v0,v1,v2,v3,v4] 219)) (hR:Rr (.returned (.agg #[v0,v1,v2,v3,v4])) w):bodyPost Tryz.prog fn Rr .ret a w:=by
 have r0:=ce0 h0;have r1:=ce1 h0;have r2:=ce2 h0;have r3:=ce3 h0;have r4:=ce4 h0;refine bodyPost_ret (v:= .agg #[v0,v1,v2,v3,v4]) ?_ hd hR;have a0:a.tmps[c]?.getD undef= .pointer (some ⟨r,0,none⟩):=by simpa using hc
 simp[results,hf,a0,go_sem,r0,r1,r2,r3,r4]
def bU (x:XIt):Value:= .agg #[.int .i64 x.place,.int .u8 x.op.toNat,.int .u8 x.cls.toNat,.int .i64 x.num,.slice x.pa x.pn x.pc]
theorem od (c:UInt8) (m:Nat) (an:UInt8) (vl vi:Value) (its:List XIt) (i:Nat) (x:XIt) (w:World) (hI:ItB w 0 vi its) (hx:its[i]?=some x) (hl:its.length≤1000):
  Calls Tryz.prog 152 #[.agg #[.int .u8 c.toNat,.int .i64 m,.int .u8 an.toNat,vl,vi],.int .i64 i] w fun en w'=>en= .returned (bU x)∧NB w w':=by
 have a6:=(List.getElem?_eq_some_iff.1 hx).1;unfold ItB at hI;obtain⟨ai,ci,rfl⟩:=aw hI;obtain⟨g,rfl,a1,a2,a0⟩:=aI hI (by omega);have q0:w.cell? ⟨g,i*5,none⟩=some _:=a0 _ _ (aP (k:=0) hx (by omega));have q1:w.cell? ⟨g,i*5+1,none⟩=some _:=a0 _ _ (aP (k:=1) hx (by omega));have q2:w.cell? ⟨g,i*5+2,none⟩=some _:=a0 _ _ (aP (k:=2) hx (by omega));have q3:w.cell? ⟨g,i*5+3,none⟩=some _:=a0 _ _ (aP (k:=3) hx (by omega));have q4:w.cell? ⟨g,i*5+4,none⟩=some _:=a0 _ _ (aP (k:=4) hx (by omega));have a3: ¬((i:Int)<0):=by omega
 have a4: ¬((its.length:Int)≤(i:Int)):=by omega
 have a5:(i:Int)<(its.length:Int):=by omega
 unfold bU;clear a0 hx hI;generalize its.length=ni at*
 go_in
 go_wp2_with fail;exact BW Tryz.results152 rfl rfl (aq (by simp) _) ⟨rfl,((NB.refl w).alloc (by decide)).alloc (by decide)⟩
def FrB (w:World) (bf d:Nat) (X:bu) (vl vi:Value) (bl:Nat):Prop:=
 w.heap[bf]?=some (.cells #[.int .i64 d,.int .u8 X.cls.toNat,.int .i64 X.meth,.int .u8 X.ans.toNat,vl,vi,.pointer (some ⟨bl,0,none⟩)] 234)
theorem FrB.but {F:Nat→Prop} {w w':World} {bf d bl:Nat} {X:bu} {vl vi:Value} (h:FrB w bf d X vl vi bl) (hb:But F w w') (hf: ¬F bf):FrB w' bf d X vl vi bl:=(hb.block bf (ae h) hf).trans h
structure zY (w:World) (gs:List Sig) (b:Bod) (X:bu) (vl vi:Value):Prop where
 bt:BtB w 0 vl X.locals
 it:ItB w 0 vi X.items
 bd:BdN w 0 gs X b
section
variable {P:Nat→Prop} {w0 w w':World} {be bw tx bl:Nat} {inp:ByteArray} {s:Ev} {lv vo vb:Value} {l:List V} {gs:List Nat} {fv:List Value}
theorem ki {fu:Int} (he:XeB w be tx bw fu) (h0:But (fun _=>False) w0 w) (im:Img) (hT:dC w0 tx im) (q d:Nat) (b:Bod) (hq:im.bodies[q]?=some b) (hlo:b.locals.length≤5) (hnb:im.bodies.length≤100):
  Calls Tryz.prog 92 #[.pointer (some ⟨be,0,none⟩),.int .i64 q,.int .i64 d] w fun en w'=> ∃(bf bl':Nat) (lv':Value) (X:bu) (vl vi:Value),en= .returned (.pointer (some ⟨bf,0,none⟩))∧But (fun _=>False) w w'∧FrB w' bf d X vl vi bl'∧zY w0 im.sigs b X vl vi∧w'.heap[bl']?=some (.cells #[lv'] 280)∧w'.ownsRow w.heap.size 168 2 lv' b.locals.length (au (b.locals.map cB))∧w.heap.size≤bl'∧w.heap.size≤bf:=by
 obtain⟨bs,⟨v2,t2,a9,lb,hO,hm,hf⟩,a5,b4⟩:=hT.bod;have e1:=(List.getElem?_eq_some_iff.1 hq).1;have a8:lb.length=im.bodies.length:=by rw[←a5,←hm];simp
 obtain⟨⟨X,vl,vi⟩,hX⟩: ∃x,lb[q]?=some x:=⟨_,List.getElem?_eq_getElem (by omega)⟩;have b3:bs[q]?=some X:=by rw[←hm];simp[hX]
 have hB:=b4 q X b b3 hq;obtain⟨f1,f2⟩:=hf _ (List.mem_of_getElem? hX);simp only at f1 f2;have b0:Hid (zY w0 im.sigs b X vl vi):=⟨f1,f2,hB⟩;obtain⟨al,capl,rfl⟩:=aw f1;obtain⟨ai,capi,rfl⟩:=aw f2;obtain⟨ao,capo,rfl⟩:=aw hO;obtain⟨g,rfl,a2,e3,a0⟩:=aI hO (by omega);have q0:=a0 _ _ (aV (k:=0) hX (by omega));have q1:=a0 _ _ (aV (k:=1) hX (by omega));have q2:=a0 _ _ (aV (k:=2) hX (by omega));have q3:=a0 _ _ (aV (k:=3) hX (by omega));have q4:=a0 _ _ (aV (k:=4) hX (by omega));simp only[Nat.add_zero,List.getElem?_cons_zero,List.getElem?_cons_succ]at q0 q1 q2 q3 q4;have b6:X.locals.length=b.locals.length:=by rw[hB.loc]
 rw[b6]at b0;have b1:=hid (fun Y=>kh X.cls (X.meth:Int) X.ans X.locals al capl ai X.items.length capi Y (by omega));have c6:=hid hB.loc;have e0:=he.c0;have e2:=he.lt;have e4:(0:Int)≤(q:Int):=by omega
 have e5:(q:Int)<(lb.length:Int):=by omega
 replace q0:=(h0.cell a2 (fun h=>h)).trans q0;replace q1:=(h0.cell a2 (fun h=>h)).trans q1;replace q2:=(h0.cell a2 (fun h=>h)).trans q2;replace q3:=(h0.cell a2 (fun h=>h)).trans q3;replace q4:=(h0.cell a2 (fun h=>h)).trans q4;replace t2:=(h0.cell a9 (fun h=>h)).trans t2;replace a2:=Nat.lt_of_lt_of_le a2 h0.size;replace a9:=Nat.lt_of_lt_of_le a9 h0.size;clear a5 b4 a8 hX b3 hB f1 f2 a0 hf hO hm hq e1 hT he;generalize lb.length=nb at*
 go_in
 go_wp2_with fail;have a6:=heap_alloc_new w (.cells #[.int .u8 X.cls.toNat,.int .i64 X.meth,.int .u8 X.ans.toNat,.slice al b.locals.length capl,.slice ai X.items.length capi] 115);have a3:But (fun _=>False) w (w.alloc (.cells #[.int .u8 X.cls.toNat,.int .i64 X.meth,.int .u8 X.ans.toNat,.slice al b.locals.length capl,.slice ai X.items.length capi] 115)):=But.alloc _ _ _;revert a6 a3;generalize (w.alloc (.cells #[.int .u8 X.cls.toNat,.int .i64 X.meth,.int .u8 X.ans.toNat,.slice al b.locals.length capl,.slice ai X.items.length capi] 115))=W;intro a6 a3;obtain⟨k0,k1,k2,k3,k4⟩:=bn a6;have gltW:=ae a6
 clear q0 q1 q2 q3 q4 t2 e0 a6;have b2:But (fun _=>False) W W.drew:=But.drew _ _;rw[b6]at b1;refine aD (But (fun _=>False) W) 6 (by kernel_rfl) ?_
 iterate 3 (refine aJ (v:=?_) rfl (by kernel_rfl) (fun _ _ _ h=>h) rfl b2 ?_ ?_;rotate_left;(focus (intro wS h;have q0:=(h.kc k0 gltW);have q1:=(h.kc k1 gltW);have q2:=(h.kc k2 gltW);have q3:=(h.kc k3 gltW);have q4:=(h.kc k4 gltW);clear h;go_simp;try rfl));dsimp only[Act.put];try simp only[aK])
 refine ag rfl (by kernel_rfl) ?_;intro KS hKS;go_simp;refine(b1.out _).mono ?_;rintro en w1 ⟨bl',lv',rfl,d6,b5,b9,a7⟩;have a1:=b2.trans d6;refine hKS.out _ _ (fun _=>a1) ?_;clear hKS KS;refine ag rfl (by kernel_rfl) ?_;intro KS hKS;go_simp;refine hKS.out _ _ (fun _=>a1) ?_;clear hKS KS;refine ag rfl (by kernel_rfl) ?_;intro KS hKS;go_simp;refine hKS.out _ _ (fun _=>a1.trans (But.alloc _ _ _)) ?_;clear hKS KS;refine jM rfl (by kernel_rfl) ?_;go_wp2_with fail;go_ret;have a4:=a3.trans a1;refine⟨_,bl',lv',X,_,_,rfl,a4.trans (But.alloc _ _ _),heap_alloc_new _ _,b0.out,((But.alloc (fun _=>False) _ _).block bl' (ae b5) (fun h=>h)).trans b5,?_,Nat.le_trans a3.size a7,a4.size⟩
 rw[c6.out]at b9;exact World.ownsRow.mono (ah b9 (But.alloc (fun _=>False) _ _) (fun _ _ h=>h)) a3.size
theorem qD (h:StQ P w0 w be bw tx inp s bl lv l vo vb gs fv) (im:Img) (hT:dC w0 tx im) (q d:Nat) (b:Bod) (hq:im.bodies[q]?=some b) (hlo:b.locals.length≤5) (hnb:im.bodies.length≤100):
  Calls Tryz.prog 92 #[.pointer (some ⟨be,0,none⟩),.int .i64 q,.int .i64 d] w fun en w'=> ∃(bf bl':Nat) (lv':Value) (X:bu) (vl vi:Value),en= .returned (.pointer (some ⟨bf,0,none⟩))∧But (fun _=>False) w w'∧FrB w' bf d X vl vi bl'∧zY w0 im.sigs b X vl vi∧w'.heap[bl']?=some (.cells #[lv'] 280)∧w'.ownsRow w.heap.size 168 2 lv' b.locals.length (au (b.locals.map cB))∧w.heap.size≤bl'∧w.heap.size≤bf:=ki h.ev h.old im hT q d b hq hlo hnb
abbrev oL (bl:Nat) (lv:Value) (k:Nat):Prop:=k=bl∨lv.ownBlock=some k
theorem StQ.enter {bl':Nat} {lv':Value} {l':List V} (h:StQ P w0 w be bw tx inp s bl lv l vo vb gs fv) (hB:But (fun _=>False) w w') (hb:w'.heap[bl']?=some (.cells #[lv'] 280)) (hr:w'.ownsRow w.heap.size 168 2 lv' l'.length (au l')) (hbl:w.heap.size≤bl'):
  StQ (fun k=>P k∨oL bl lv k) w0 w' be bw tx inp s bl' lv' l' vo vb gs fv:=by
 have h1:=h.new hB;have h0:=h.old.size;have a0: ∀k,lv'.ownBlock=some k→w.heap.size≤k:=fun k hk=>aA hr k hk
 have old: ∀{k},ua be bw bl vo vb lv gs fv k→ ¬oL bl lv k→(w0.heap.size≤k∧ ¬(P k∨oL bl lv k)):=fun hk hn=>⟨(h.own _ hk).1,fun hp=>hp.elim (h.own _ hk).2 hn⟩
 have nl: ∀{k},∀{c:Array Value} {t:Nat} {fz:Nat×Nat},w.heap[k]?=some (.cells c t fz)→t≠280→t≠168→ ¬oL bl lv k:=fun hk h1 h2 hl=>by
  rcases hl with rfl|hl
  ·rw[h.lb]at hk;cases hk;exact h1 rfl
  ·obtain⟨cur,hc⟩:=cD h.lo hl;rw[hc]at hk;cases hk;exact h2 rfl
 have nr: ∀{v:Value} {t z n:Nat} {xs:List Value} {k:Nat},w.ownsRow w0.heap.size t z v n xs→v.ownBlock=some k→t≠280→t≠168→ ¬oL bl lv k:=fun hr hk a b=>by
  obtain⟨cur,hc⟩:=cD hr hk;exact nl hc a b
 refine⟨h1.old,h1.ev,h1.wd,h1.out,h1.ob,h1.lg,h1.lf,h1.obs,h1.nd,hb,World.ownsRow.mono hr h0,?_,?_,?_,h1.sf⟩
 ·intro k hk
  have new:w.heap.size≤k→(w0.heap.size≤k∧ ¬(P k∨oL bl lv k)):=fun hw=>⟨by omega,fun hp=>by
   rcases hp with hp|rfl|hp
   ·have:=(h.pl k hp).1;omega
   ·have:=ae h.lb;omega
   ·have:=aW h.lo k hp;omega⟩
  rcases hk with rfl|rfl|rfl|hk|hk|hk|hk| ⟨v,hv,hk⟩
  ·exact old (Or.inl rfl) (nl h.ev (by decide) (by decide))
  ·exact old (Or.inr (Or.inl rfl)) (nl h.wd (by decide) (by decide))
  ·exact new hbl
  ·exact old (Or.inr (Or.inr (Or.inr (Or.inl hk)))) (nr h.out hk (by decide) (by decide))
  ·exact old (Or.inr (Or.inr (Or.inr (Or.inr (Or.inl hk))))) (nr h.ob hk (by decide) (by decide))
  ·exact new (a0 k hk)
  ·obtain⟨c,v,ho⟩:=h.mg hk;exact old (Or.inr (Or.inr (Or.inr (Or.inr (Or.inr (Or.inr (Or.inl hk))))))) (nl ho (by decide) (by decide))
  ·refine old (Or.inr (Or.inr (Or.inr (Or.inr (Or.inr (Or.inr (Or.inr ⟨v,hv,hk⟩))))))) (fun hl=> ?_);rcases hl with rfl|hl
   ·obtain⟨n,xs,ho⟩:=h.mv hv;obtain⟨cur,hc⟩:=cD ho hk;rw[h.lb]at hc;injection hc with hc;injection hc with _ h2;exact absurd h2 (by decide)
   ·exact h.sl v hv k hk hl
 ·intro k hk;rcases hk with hk|hk
  ·exact h1.pl k hk
  ·rcases hk with rfl|hk
   ·exact⟨ae h1.lb,fun c fz e=>by rw[h1.lb]at e;injection e with e;injection e with _ h2;exact absurd h2 (by decide)⟩
   ·refine⟨aW h1.lo k hk,fun c fz e=> ?_⟩;obtain⟨cur,hc⟩:=cD h1.lo hk;rw[hc]at e;injection e with e;injection e with _ h2;exact absurd h2 (by decide)
 ·intro v hv g hg hl;obtain⟨n,xs,ho⟩:=h.mv hv;have:=aW ho g hg;have:=a0 g hl;omega
theorem StQ.leave {Q:Nat→Prop} {bl':Nat} {lv' vo' vb':Value} {l':List V} {gs':List Nat} {fv':List Value} {s':Ev} (h:StQ P w0 w be bw tx inp s bl lv l vo vb gs fv) (h':StQ Q w0 w' be bw tx inp s' bl' lv' l' vo' vb' gs' fv') (hB:But (FrQ Q w0) w w') (hQ: ∀k,P k∨oL bl lv k→Q k):StQ P w0 w' be bw tx inp s' bl lv l vo' vb' gs' fv':=by
 have a0: ∀k,oL bl lv k→ ¬FrQ Q w0 k:=fun k hk hf=>hf.2 (hQ k (Or.inr hk))
 refine⟨h'.old,h'.ev,h'.wd,h'.out,h'.ob,h'.lg,h'.lf,h'.obs,h'.nd,(hB.block bl (ae h.lb) (a0 bl (Or.inl rfl))).trans h.lb,ah h.lo hB (fun g hg=>a0 g (Or.inr hg)),?_,fun k hk=>h'.pl k (hQ k (Or.inl hk)),?_,h'.sf⟩
 ·intro k hk;have new: ∀{k},ua be bw bl' vo' vb' lv' gs' fv' k→(w0.heap.size≤k∧ ¬P k):=fun hk=>⟨(h'.own _ hk).1,fun hp=>(h'.own _ hk).2 (hQ _ (Or.inl hp))⟩
  rcases hk with rfl|rfl|rfl|hk|hk|hk|hk|hk
  ·exact new (Or.inl rfl)
  ·exact new (Or.inr (Or.inl rfl))
  ·exact h.k3
  ·exact new (Or.inr (Or.inr (Or.inr (Or.inl hk))))
  ·exact new (Or.inr (Or.inr (Or.inr (Or.inr (Or.inl hk)))))
  ·exact h.k6 hk
  ·exact new (Or.inr (Or.inr (Or.inr (Or.inr (Or.inr (Or.inr (Or.inl hk)))))))
  ·exact new (Or.inr (Or.inr (Or.inr (Or.inr (Or.inr (Or.inr (Or.inr hk)))))))
 ·intro v hv g hg hl;exact(h'.k8 hv hg).2 (hQ g (Or.inr (Or.inr hl)))
end
end
end Go.Proofs.YtpfkkmacakjmbaaGreatDoor
