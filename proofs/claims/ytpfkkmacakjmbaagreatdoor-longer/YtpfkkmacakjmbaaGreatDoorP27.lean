import Derived.Test.YtpfkkmacakjmbaaGreatDoorP26
set_option maxRecDepth 100000
set_option maxHeartbeats 6400000
set_option linter.unusedSimpArgs false
set_option linter.unusedVariables false
namespace Go.Proofs.YtpfkkmacakjmbaaGreatDoor
section
open Go Go.RowKit Sp
attribute [local go_sem ↓] Go.wp_at_zero Go.wp_at_succ
structure Fr where
 fb:Nat
 bl:Nat
 sg:Nat
 vl:Value
 vi:Value
 lv:Value
 sv:Value
 b:Bod
 tab:List St
def jr (r:Fr) (k:Nat):Prop:=k=r.fb∨k=r.bl∨r.lv.ownBlock=some k∨r.sv.ownBlock=some k
structure FrM (w0 w:World) (im:Img) (T:cw) (ca:Option Nat) (d:Nat) (r:Fr) (f:Fm):Prop where
 hb:im.bodies[f.q]?=some r.b
 ht:T[f.q]?=some r.tab
 fr:FbB w r.fb ca d (aN im.sigs r.b) r.vl r.vi (.slice (some ⟨r.sg,0,none⟩) r.tab.length r.tab.length) f.pc r.bl r.sv
 lb:w.heap[r.bl]?=some (.cells #[r.lv] 280)
 lo:w.ownsRow w0.heap.size 168 2 r.lv f.loc.length (au f.loc)
 st:w.ownsRow w0.heap.size 168 2 r.sv f.stk.length (au f.stk)
 bt:BtB w0 0 r.vl (aN im.sigs r.b).locals
 it:ItB w0 0 r.vi (aN im.sigs r.b).items
 tb:StB w0 r.sg r.tab
 ap: ∀k,r.lv.ownBlock=some k→r.sv.ownBlock≠some k
 g1:w0.heap.size≤r.fb
 g2:w0.heap.size≤r.bl
def g8:List Fr→Option Nat
 | []=>none
 |r::_=>some r.fb
def oD (w0 w:World) (im:Img) (T:cw):List Fr→List Fm→Prop
 | [],[]=>True
 |r::rs,f::fs=>FrM w0 w im T (g8 rs) (fs.length+1) r f∧oD w0 w im T rs fs∧ ∀k,jr r k→ ∀q∈rs,¬jr q k
 |_,_=>False
section
variable {w0 w w':World} {im:Img} {T:cw} {ca:Option Nat} {d:Nat} {r:Fr} {f:Fm}
theorem FrM.ge (h:FrM w0 w im T ca d r f) {k:Nat} (hk:jr r k):w0.heap.size≤k:=by
 rcases hk with rfl|rfl|hk|hk
 ·exact h.g1
 ·exact h.g2
 ·exact aA h.lo k hk
 ·exact aA h.st k hk
theorem FrM.lt (h:FrM w0 w im T ca d r f) {k:Nat} (hk:jr r k):k<w.heap.size:=by
 rcases hk with rfl|rfl|hk|hk
 ·exact h.fr.lt
 ·exact ae h.lb
 ·exact aX h.lo k hk
 ·exact aX h.st k hk
theorem FrM.nb (h:FrM w0 w im T ca d r f) {k:Nat} (hk:jr r k) (c:Array Value) (fz:Nat×Nat):w.heap[k]?≠some (.cells c 5 fz):=fun e=>by
 rcases hk with rfl|rfl|hk|hk
 ·exact bv h.fr e (by decide) rfl
 ·exact bv h.lb e (by decide) rfl
 ·exact aC h.lo e (by decide) hk
 ·exact aC h.st e (by decide) hk
theorem FrM.but {F:Nat→Prop} (h:FrM w0 w im T ca d r f) (hb:But F w w') (hf: ∀k,jr r k→ ¬F k):FrM w0 w' im T ca d r f:=
 ⟨h.hb,h.ht,h.fr.but hb (hf _ (Or.inl rfl)),(hb.block r.bl (ae h.lb) (hf _ (Or.inr (Or.inl rfl)))).trans h.lb,ag h.lo hb (fun k hk=>hf k (Or.inr (Or.inr (Or.inl hk)))),ag h.st hb (fun k hk=>hf k (Or.inr (Or.inr (Or.inr hk)))),h.bt,h.it,h.tb,h.ap,h.g1,h.g2⟩
theorem oD.but {F:Nat→Prop}: ∀{rs:List Fr} {fs:List Fm},oD w0 w im T rs fs→But F w w'→(∀r∈rs,∀k,jr r k→ ¬F k)→oD w0 w' im T rs fs
 | [],[],_,_,_=>trivial
 |r::rs,f::fs,h,hb,hf=>⟨h.1.but hb (hf r (List.mem_cons_self ..)),oD.but h.2.1 hb (fun q hq=>hf q (List.mem_cons_of_mem _ hq)),h.2.2⟩
 | [],_::_,h,_,_=>h.elim
 |_::_,[],h,_,_=>h.elim
theorem oD.mem: ∀{rs:List Fr} {fs:List Fm},oD w0 w im T rs fs→ ∀r∈rs,∃ca d f,FrM w0 w im T ca d r f
 | [],[],_,r,hr=>by cases hr
 |q::rs,f::fs,h,r,hr=>by
  rcases List.mem_cons.1 hr with rfl|hr
  ·exact⟨_,_,_,h.1⟩
  ·exact oD.mem h.2.1 r hr
 | [],_::_,h,_,_=>h.elim
 |_::_,[],h,_,_=>h.elim
end
abbrev iH (mb:Nat) (rs:List Fr) (k:Nat):Prop:=k=mb∨ ∃r∈rs,jr r k
structure McQ (w0 w:World) (im:Img) (T:cw) (mb tx:Nat) (tv:Value) (bw cells:Nat) (ans:Int) (inp:ByteArray) (rs:List Fr) (fs:List Fm) (s:Ev) (vo vb:Value) (gs:List Nat) (fv:List Value) (cn:Int) (sn:Nat→Int):Prop where
 wd:WdQ (iH mb rs) w0 w bw tx inp s vo vb gs fv cn sn
 mc:MbB w mb tx tv bw cells (g8 rs) ans
 fr:oD w0 w im T rs fs
 gm:w0.heap.size≤mb
section
variable {w0 w w':World} {im:Img} {T:cw} {mb tx:Nat} {tv:Value} {bw cells:Nat} {ans:Int} {inp:ByteArray} {rs:List Fr} {fs:List Fm} {s:Ev} {vo vb:Value} {gs:List Nat} {fv:List Value} {cn:Int} {sn:Nat→Int}
theorem McQ.off (h:McQ w0 w im T mb tx tv bw cells ans inp rs fs s vo vb gs fv cn sn) {r:Fr} (hr:r∈rs): ¬jr r mb:=fun hk=>by
 obtain⟨ca,d,f,hf⟩:=h.fr.mem r hr;rcases hk with e|e|e|e
 ·exact bv hf.fr h.mc (by decide) e.symm
 ·exact bv hf.lb h.mc (by decide) e.symm
 ·exact aC hf.lo h.mc (by decide) e
 ·exact aC hf.st h.mc (by decide) e
theorem McQ.new (h:McQ w0 w im T mb tx tv bw cells ans inp rs fs s vo vb gs fv cn sn) (hB:But (fun _=>False) w w'):McQ w0 w' im T mb tx tv bw cells ans inp rs fs s vo vb gs fv cn sn:=
 ⟨h.wd.new hB,h.mc.but hB nF,h.fr.but hB (fun _ _ _ _ h=>h),h.gm⟩
theorem McQ.turn {F:Nat→Prop} {s':Ev} {vo' vb':Value} {gs':List Nat} {fv':List Value} {cn':Int} {sn':Nat→Int} (h:McQ w0 w im T mb tx tv bw cells ans inp rs fs s vo vb gs fv cn sn) (hB:But F w w') (hF: ∀k,F k→ ¬iH mb rs k) (hw:WdQ (iH mb rs) w0 w' bw tx inp s' vo' vb' gs' fv' cn' sn'):McQ w0 w' im T mb tx tv bw cells ans inp rs fs s' vo' vb' gs' fv' cn' sn':=
 ⟨hw,h.mc.but hB (fun hf=>hF _ hf (Or.inl rfl)),h.fr.but hB (fun r hr k hk hf=>hF k hf (Or.inr ⟨r,hr,hk⟩)),h.gm⟩
theorem McQ.step {F:Nat→Prop} {rs':List Fr} {fs':List Fm} {ans':Int} (h:McQ w0 w im T mb tx tv bw cells ans inp rs fs s vo vb gs fv cn sn) (hB:But F w w') (hF: ∀k,F k→iH mb rs k) (hm:MbB w' mb tx tv bw cells (g8 rs') ans') (hr:oD w0 w' im T rs' fs') (hn: ∀k,iH mb rs' k→iH mb rs k∨w.heap.size≤k):McQ w0 w' im T mb tx tv bw cells ans' inp rs' fs' s vo vb gs fv cn sn:=by
 have a0: ∀k,iH mb rs k→w0.heap.size≤k:=fun k hk=>by
  rcases hk with rfl| ⟨r,hr,hk⟩
  ·exact h.gm
  ·obtain⟨ca,d,f,hf⟩:=h.fr.mem r hr;exact hf.ge hk
 have a:=(h.wd.less (Q:=fun _=>False) (fun _ h=>h.elim)).but hB (fun k hk=>a0 k (hF k hk)) (fun k hk hf=>(h.wd.own k hk).2 (hF k hf)) (fun _ h=>h.elim);refine⟨⟨a.old,a.wd,a.out,a.ob,a.lg,a.lf,a.obs,a.nd,fun k hk=>⟨(h.wd.own k hk).1,fun hp=> ?_⟩,fun k hk=> ?_,a.sf,a.se⟩,hm,hr,h.gm⟩
 ·rcases hn k hp with hp|hp
  ·exact(h.wd.own k hk).2 hp
  ·have:=h.wd.lt hk;omega
 ·rcases hk with rfl| ⟨r,a1,hk⟩
  ·exact⟨hm.lt,fun c fz e=>bv hm e (by decide) rfl⟩
  ·obtain⟨ca,d,f,hf⟩:=hr.mem r a1;exact⟨hf.lt hk,fun c fz e=>hf.nb hk c fz e⟩
end
section
variable {w:World} {bl base:Nat} {lv:Value} {l:List V}
theorem AO (hb:w.heap[bl]?=some (.cells #[lv] 280)) (ho:w.ownsRow base 168 2 lv l.length (au l)) (j:Nat) (u:V) (hu:l[j]?=some u):
  Calls Tryz.prog 196 #[.pointer (some ⟨bl,0,none⟩),.int .i64 j] w fun en w'=>en= .returned (aG u)∧But (fun _=>False) w w':=by
 have hj:=(List.getElem?_eq_some_iff.1 hu).1;obtain⟨al,capl,rfl⟩:=aw ho;obtain⟨g,rfl,a2,a3,a0⟩:=aI ho (by omega);have q0:w.cell? ⟨g,j*2,none⟩=some (.int .i32 (xN u)):=a0 _ _ (bq (k:=0) hu (by omega));have q1:w.cell? ⟨g,j*2+1,none⟩=some (.int .i64 (xO u)):=a0 _ _ (bq (k:=1) hu (by omega));have b0:=ce0 hb;have a1:=ae hb;have a5: ¬((l.length:Int)≤(j:Int)):=by omega
 have a6:((j:Int))<(l.length:Int):=by omega
 have a4: ¬((j:Int)<0):=by omega
 clear a0 hu hb ho;generalize l.length=nl at*
 go_in
 go_wp2_with fail;exact pN Tryz.results196 rfl rfl (aq rfl _) ⟨rfl,But.alloc _ _ _⟩
theorem qV (hb:w.heap[bl]?=some (.cells #[lv] 280)) (ho:w.ownsRow base 168 2 lv l.length (au l)) (j:Nat) (u:V) (hj:j<l.length):
  Calls Tryz.prog 194 #[.pointer (some ⟨bl,0,none⟩),.int .i64 j,aG u] w fun en w'=>en= .returned (.tuple #[])∧But (fun k=>lv.ownBlock=some k) w w'∧w'.ownsRow base 168 2 lv l.length (au (l.set j u)):=by
 unfold aG;obtain⟨al,capl,rfl⟩:=aw ho;obtain⟨g,rfl,a5,a8,a0⟩:=aI ho (by omega);obtain⟨u',hu⟩: ∃u',l[j]?=some u':=⟨_,List.getElem?_eq_getElem hj⟩;have q0:w.cell? ⟨g,j*2,none⟩=some (.int .i32 (xN u')):=a0 _ _ (bq (k:=0) hu (by omega));have q1:w.cell? ⟨g,j*2+1,none⟩=some (.int .i64 (xO u')):=a0 _ _ (bq (k:=1) hu (by omega));obtain⟨cur,a1⟩:=cD ho (g:=g) rfl;have z0:=frozen_of_row w g (j*2) _ _ a1;have z1:=frozen_of_row w g (j*2+1) _ _ a1;have b0:=ce0 hb;have a7:=ae hb;have b3:((j:Int))<(l.length:Int):=by omega
 have b2:0≤(j:Int):=by omega
 clear a0 hu hb a1;have HO:=hid ho;clear ho;generalize l.length=nl at*
 go_in
 go_wp2_with fail;have a4:But (fun _=>False) w (w.alloc (.cells #[.int .i32 (xN u),.int .i64 (xO u)] 168)):=But.alloc _ _ _;have a3:=heap_alloc_new w (.cells #[.int .i32 (xN u),.int .i64 (xO u)] 168);revert a4 a3;generalize (w.alloc (.cells #[.int .i32 (xN u),.int .i64 (xO u)] 168))=W;intro a4 a3;have a6:But (fun _=>False) W W.drew:=But.drew _ _;have y0:=ce0 a3;have y1:=ce1 a3;have b1:=a4.kc b0 a7;have m1:=ae a3;have m2:bl<W.heap.size:=by omega
 have a2:=a4.trans a6;have p0:=a2.kc q0 a5;have p1:=a2.kc q1 a5;have p2:=a2.kz z0 a5;have p3:=a2.kz z1 a5;have HP:=hid (And.intro p0 (And.intro p1 (And.intro p2 p3)));clear p0 p1 p2 p3 q0 q1 z0 z1 b0;refine aD (But (fun _=>False) W) 7 (by kernel_rfl) ?_
 iterate 7 (refine aJ (v:=?_) rfl (by kernel_rfl) (fun _ _ _ h=>h) rfl a6 ?_ ?_;rotate_left;(focus (intro wS h;have q0:=(h.kc b1 m2);have q1:=(h.kc y0 m1);have q2:=(h.kc y1 m1);clear h;go_simp;try rfl));dsimp only[Act.put];try simp only[aL])
 obtain⟨p0,p1,p2,p3⟩:=HP.out;have HS:=hid (fun X (hX:But (fun _=>False) w X)=>l7 (g:=g) (j:=j) u (ag HO.out hX (fun _ _ h=>h)) rfl);clear y0 y1 b1 a6 HP;generalize W.drew=wd at*;refine ah rfl (by kernel_rfl) ?_;intro KS hKS;go_simp;refine hKS.out _ _ nofun ?_;clear hKS KS;refine aH rfl (by kernel_rfl) ?_;go_end0;exact⟨rfl,(a2.mono (fun _ _ h=>h.elim)).trans (((But.setB _ _ _ _).trans (But.setB _ _ _ _)).mono (fun k _ e=>by have e:k=g:=e;rw[e];rfl)),HS.out wd a2⟩
end
theorem tn {b:Bod} (u v:V) (h:2≤b.locals.length):((b.locals.map cC).set 0 u).set 1 v=aR b [u,v]:=by
 unfold aR
 match hb:b.locals,h with
 |x::y::r,_=>simp
section
variable {w0 w w':World} {im:Img} {T:cw} {mb tx:Nat} {tv:Value} {bw cells:Nat} {ans:Int} {inp:ByteArray} {r:Fr} {rs:List Fr} {f:Fm} {fs:List Fm} {s:Ev} {vo vb:Value} {gs:List Nat} {fv:List Value} {cn:Int} {sn:Nat→Int}
theorem tq (h:McQ w0 w im T mb tx tv bw cells ans inp (r::rs) (f::fs) s vo vb gs fv cn sn) (m:Nat) (u v:V) (q e:Int) (he:e≠0)
  (hc: ∀Y,But (fun _=>False) w Y→Calls Tryz.prog 193 #[.pointer (some ⟨bw,0,none⟩),aG u,.int .i64 m,.int .i64 (fs.length+1:Nat)] Y fun en w'=>But (fun _=>False) Y w'∧en= .returned (.tuple #[.int .i64 q,.int .i64 e])):
  Calls Tryz.prog 142 #[.pointer (some ⟨mb,0,none⟩),.int .i64 m,aG u,aG v] w fun en w'=>en= .returned (.int .i64 e)∧But (fun _=>False) w w':=by
 have k2:=h.mc.c2;have k4:w.cell? ⟨mb,4,none⟩=some (.pointer (some ⟨r.fb,0,none⟩)):=h.mc.c4;have f1:=h.fr.1.fr.c1;have a0:=h.mc.lt;have a1:=h.fr.1.fr.lt;have HC:=hid hc;unfold aG at HC;simp only[aG];clear h hc;have a4:But (fun _=>False) w ((w.alloc (.cells #[.int .i32 (xN u),.int .i64 (xO u)] 168)).alloc (.cells #[.int .i32 (xN v),.int .i64 (xO v)] 168)):=(But.alloc _ _ _).trans (But.alloc _ _ _);have hu:cK ((w.alloc (.cells #[.int .i32 (xN u),.int .i64 (xO u)] 168)).alloc (.cells #[.int .i32 (xN v),.int .i64 (xO v)] 168)) w.heap.size u:=((But.alloc (fun _=>False) _ _).block _ (by simp) nF).trans (heap_alloc_new w _)
 have HB:=hid a4;have HU:=hid hu;clear a4 hu
 go_in
 go_wp2_with fail;revert HB HU;generalize ((w.alloc (.cells #[.int .i32 (xN u),.int .i64 (xO u)] 168)).alloc (.cells #[.int .i32 (xN v),.int .i64 (xO v)] 168))=W;intro HB HU;have hB:=HB.out;obtain⟨v0,v1,_,_,a5⟩:=HU.out.parts;replace k2:=(hB.cell (p:=⟨mb,2,none⟩) a0 nF).trans k2;replace k4:=(hB.cell (p:=⟨mb,4,none⟩) a0 nF).trans k4;replace f1:=(hB.cell (p:=⟨r.fb,1,none⟩) a1 nF).trans f1;replace a0:=Nat.lt_of_lt_of_le a0 hB.size;replace a1:=Nat.lt_of_lt_of_le a1 hB.size;have a2:But (fun _=>False) W W.drew:=But.drew _ _;refine aD (But (fun _=>False) W) 19 (by kernel_rfl) ?_
 iterate 13 (refine aJ (v:=?_) rfl (by kernel_rfl) (fun _ _ _ h=>h) rfl a2 ?_ ?_;rotate_left;(focus (intro wS h;have q0:=((h.cell (p:=⟨mb,2,none⟩) a0 nF).trans k2);have q1:=((h.cell (p:=⟨mb,4,none⟩) a0 nF).trans k4);have q2:=((h.cell (p:=⟨r.fb,1,none⟩) a1 nF).trans f1);have q3:=((h.cell (p:=⟨w.heap.size,0,none⟩) a5 nF).trans v0);have q4:=((h.cell (p:=⟨w.heap.size,1,none⟩) a5 nF).trans v1);clear h;go_simp;try rfl));dsimp only[Act.put];try simp only[aL])
 refine ah rfl (by kernel_rfl) ?_;intro KS hKS;go_simp;refine(HC.out _ (hB.trans a2)).mono ?_;rintro en w1 ⟨a6,rfl⟩;have a3:=a2.trans a6;refine hKS.out _ _ (fun _=>a3) ?_;clear hKS KS
 iterate 5 (refine aJ (v:=?_) rfl (by kernel_rfl) (fun _ _ _ h=>h) rfl a3 ?_ ?_;rotate_left;(focus (intro wS h;clear h;go_simp;try rfl));dsimp only[Act.put];try simp only[aL])
 refine aH rfl (by kernel_rfl) ?_;clear v0 v1 k2 k4 f1;go_wp2_with fail;exact b8 (.int .i64 e) Tryz.results142 rfl rfl ⟨rfl,hB.trans a3⟩
theorem tr (w:World) (base:Nat):w.ownsRow base 168 2 (.slice none 0 0) 0 (au []):=⟨rfl,Or.inl ⟨rfl,rfl⟩⟩
theorem AP (h:McQ w0 w im T mb tx tv bw cells ans inp (r::rs) (f::fs) s vo vb gs fv cn sn) (m:Nat) (u v:V) (q base:Nat) (b:Bod) (l:List (Nat×List St)) (p:Nat×List St) (hT:dk w0 tx im) (hl:el w0 base tv l) (hTl:l.map (·.2)=T) (hq:im.bodies[q]?=some b) (hp:l[q]?=some p) (hlo:b.locals.length≤5) (hl2:2≤b.locals.length) (hnb:im.bodies.length≤100) (hd:fs.length≤90)
  (hc: ∀Y,But (fun _=>False) w Y→Calls Tryz.prog 193 #[.pointer (some ⟨bw,0,none⟩),aG u,.int .i64 m,.int .i64 (fs.length+1:Nat)] Y fun en w'=>But (fun _=>False) Y w'∧en= .returned (.tuple #[.int .i64 q,.int .i64 0])):
  Calls Tryz.prog 142 #[.pointer (some ⟨mb,0,none⟩),.int .i64 m,aG u,aG v] w fun en w'=>en= .returned (.int .i64 0)∧ ∃r',McQ w0 w' im T mb tx tv bw cells ans inp (r'::r::rs) (⟨q,0,[],aR b [u,v]⟩::f::fs) s vo vb gs fv cn sn:=by
 have k2:=h.mc.c2;have k4:w.cell? ⟨mb,4,none⟩=some (.pointer (some ⟨r.fb,0,none⟩)):=h.mc.c4;have f1:=h.fr.1.fr.c1;have a6:=h.mc.lt;have b6:=h.fr.1.fr.lt;have HC:=hid hc;unfold aG at HC;simp only[aG];have HM:=hid h;clear h hc;have f5:But (fun _=>False) w ((w.alloc (.cells #[.int .i32 (xN u),.int .i64 (xO u)] 168)).alloc (.cells #[.int .i32 (xN v),.int .i64 (xO v)] 168)):=(But.alloc _ _ _).trans (But.alloc _ _ _);have hu:cK ((w.alloc (.cells #[.int .i32 (xN u),.int .i64 (xO u)] 168)).alloc (.cells #[.int .i32 (xN v),.int .i64 (xO v)] 168)) w.heap.size u:=((But.alloc (fun _=>False) _ _).block _ (by simp) nF).trans (heap_alloc_new w _)
 have hv:cK ((w.alloc (.cells #[.int .i32 (xN u),.int .i64 (xO u)] 168)).alloc (.cells #[.int .i32 (xN v),.int .i64 (xO v)] 168)) (w.heap.size+1) v:=aq (by simp) _;have HV:=hid hv;have HB:=hid f5;have HU:=hid hu;clear f5 hu hv
 go_in
 go_wp2_with fail;revert HV HB HU;generalize ((w.alloc (.cells #[.int .i32 (xN u),.int .i64 (xO u)] 168)).alloc (.cells #[.int .i32 (xN v),.int .i64 (xO v)] 168))=W;intro HV HB HU;have hB:=HB.out;obtain⟨v0,v1,_,_,g3⟩:=HU.out.parts;replace k2:=(hB.cell (p:=⟨mb,2,none⟩) a6 nF).trans k2;replace k4:=(hB.cell (p:=⟨mb,4,none⟩) a6 nF).trans k4;replace f1:=(hB.cell (p:=⟨r.fb,1,none⟩) b6 nF).trans f1;replace a6:=Nat.lt_of_lt_of_le a6 hB.size;replace b6:=Nat.lt_of_lt_of_le b6 hB.size;have e2:But (fun _=>False) W W.drew:=But.drew _ _;refine aD (But (fun _=>False) W) 19 (by kernel_rfl) ?_
 iterate 13 (refine aJ (v:=?_) rfl (by kernel_rfl) (fun _ _ _ h=>h) rfl e2 ?_ ?_;rotate_left;(focus (intro wS h;have q0:=((h.cell (p:=⟨mb,2,none⟩) a6 nF).trans k2);have q1:=((h.cell (p:=⟨mb,4,none⟩) a6 nF).trans k4);have q2:=((h.cell (p:=⟨r.fb,1,none⟩) b6 nF).trans f1);have q3:=((h.cell (p:=⟨w.heap.size,0,none⟩) g3 nF).trans v0);have q4:=((h.cell (p:=⟨w.heap.size,1,none⟩) g3 nF).trans v1);clear h;go_simp;try rfl));dsimp only[Act.put];try simp only[aL])
 refine ah rfl (by kernel_rfl) ?_;intro KS hKS;go_simp;refine(HC.out _ (hB.trans e2)).mono ?_;rintro en w1 ⟨g7,rfl⟩;have b2:=e2.trans g7;refine hKS.out _ _ (fun _=>b2) ?_;clear hKS KS
 iterate 5 (refine aJ (v:=?_) rfl (by kernel_rfl) (fun _ _ _ h=>h) rfl b2 ?_ ?_;rotate_left;(focus (intro wS h;clear h;go_simp;try rfl));dsimp only[Act.put];try simp only[aL])
 refine aH rfl (by kernel_rfl) ?_;have a1:=hB.trans b2;have b1:=HM.out.new a1;have e9:=hid (pV w0 w1 mb tx bw cells (fs.length+1) base tv ans im l q b p (some r.fb) (Or.inr ⟨r.fb,rfl,b1.fr.1.fr.lt,b1.fr.1.fr.c1⟩) (by omega) b1.mc b1.wd.old hT hl hq hp hlo hnb);have f2:=hid (HU.out.but b2 nF);have d6:=hid (HV.out.but b2 nF);clear v0 v1 k2 k4 f1 b1;go_wp2_with fail;refine e9.out.mono ?_;rintro en w2 ⟨rfl,fb,bl,lv,vl,vi,HG⟩;have hG:=hid HG;have c4:w2.cell? ⟨mb,4,none⟩=some (.pointer (some ⟨fb,0,none⟩)):=HG.mc.c4;have c9:=HG.fr.c9;have a5:=HG.mc.lt;have a4:=HG.fr.lt;have h8:mb<w.heap.size:=HM.out.mc.lt
 have h7:=ae d6.out;have f3:cK w2 w.heap.size u:=f2.out.but HG.but (by show¬w.heap.size=mb;omega);have f4:cK w2 (w.heap.size+1) v:=d6.out.but HG.but (by show¬w.heap.size+1=mb;omega);have a0:w2.heap[bl]?=some (.cells #[lv] 280):=HG.lb
 have HL:w2.ownsRow w1.heap.size 168 2 lv (b.locals.map cC).length (au (b.locals.map cC)):=by
  have:=HG.lo;rw[List.length_map];exact this
 have b3: ∀k,lv.ownBlock=some k→w1.heap.size≤k:=fun k hk=>aA HL k hk
 have nm:lv.ownBlock≠some mb:=fun e=>by have:=b3 _ e;have:=a1.size;omega
 have nf:lv.ownBlock≠some fb:=fun e=>aC HL HG.fr (by decide) e
 have nb:lv.ownBlock≠some bl:=fun e=>aC HL a0 (by decide) e
 have nu:lv.ownBlock≠some w.heap.size:=fun e=>by have:=b3 _ e;omega
 have nv:lv.ownBlock≠some (w.heap.size+1):=fun e=>by have:=b3 _ e;omega
 have h6:2≤(b.locals.map cC).length:=by rw[List.length_map];exact hl2
 clear e9 f2 d6 HG;obtain⟨L0,e1⟩: ∃L0,b.locals.map cC=L0:=⟨_,rfl⟩;rw[e1]at HL h6;have g5:=hid e1;clear e1;obtain⟨y0,y1,_,_,g4⟩:=f3.parts;obtain⟨z0,z1,_,_,e8⟩:=f4.parts;have f0:=hid (And.intro a0 (And.intro z0 z1));clear f3 f4 z0 z1 a0;go_wp2_with fail;have f8:But (fun k=>lv.ownBlock=some k) w2 w2.drew:=But.drew _ _;refine aD (But (fun k=>lv.ownBlock=some k) w2) 9 (by kernel_rfl) ?_
 iterate 8 (refine aJ (v:=?_) rfl (by kernel_rfl) (fun _ _ _ h=>h) rfl f8 ?_ ?_;rotate_left;(focus (intro wS h;have q0:=((h.cell (p:=⟨mb,4,none⟩) a5 nm).trans c4);have q1:=((h.cell (p:=⟨fb,9,none⟩) a4 nf).trans c9);have q2:=((h.cell (p:=⟨w.heap.size,0,none⟩) g4 nu).trans y0);have q3:=((h.cell (p:=⟨w.heap.size,1,none⟩) g4 nu).trans y1);clear h;go_simp;try rfl));dsimp only[Act.put];try simp only[aL])
 obtain⟨a0,z0,z1⟩:=f0.out;have b5:=ae a0;have g1:But (fun _=>False) w2 w2.drew:=But.drew _ _;have b9:=hid (qV ((g1.block bl b5 nF).trans a0) (ag HL g1 (fun _ _ h=>h)) 0 u (by omega));unfold aG at b9;clear f0;have HZ:=hid (And.intro a0 (And.intro z0 z1));clear a0 z0 z1;refine ah rfl (by kernel_rfl) ?_;intro KS hKS;go_simp;refine b9.out.mono ?_;rintro en w3 ⟨rfl,h0,h2⟩;have a2:=f8.trans h0;refine hKS.out _ _ (fun _=>a2) ?_;clear hKS KS;refine aH rfl (by kernel_rfl) ?_;obtain⟨a0,z0,z1⟩:=HZ.out;replace c4:=(a2.cell (p:=⟨mb,4,none⟩) a5 nm).trans c4;replace c9:=(a2.cell (p:=⟨fb,9,none⟩) a4 nf).trans c9
 replace z0:=(a2.cell (p:=⟨w.heap.size+1,0,none⟩) e8 nv).trans z0;replace z1:=(a2.cell (p:=⟨w.heap.size+1,1,none⟩) e8 nv).trans z1;have a7:=(a2.block bl b5 nb).trans a0;have e5:=Nat.lt_of_lt_of_le a5 a2.size;have e4:=Nat.lt_of_lt_of_le a4 a2.size;have b4:=Nat.lt_of_lt_of_le e8 a2.size;have e3:=Nat.lt_of_lt_of_le b5 a2.size;have g6:=hid a7;clear y0 y1 b9 HZ a0 a7 HL;go_wp2_with fail;have f9:But (fun k=>lv.ownBlock=some k) w3 w3.drew:=But.drew _ _;refine aD (But (fun k=>lv.ownBlock=some k) w3) 9 (by kernel_rfl) ?_
 iterate 8 (refine aJ (v:=?_) rfl (by kernel_rfl) (fun _ _ _ h=>h) rfl f9 ?_ ?_;rotate_left;(focus (intro wS h;have q0:=((h.cell (p:=⟨mb,4,none⟩) e5 nm).trans c4);have q1:=((h.cell (p:=⟨fb,9,none⟩) e4 nf).trans c9);have q2:=((h.cell (p:=⟨w.heap.size+1,0,none⟩) b4 nv).trans z0);have q3:=((h.cell (p:=⟨w.heap.size+1,1,none⟩) b4 nv).trans z1);clear h;go_simp;try rfl));dsimp only[Act.put];try simp only[aL])
 have g2:But (fun _=>False) w3 w3.drew:=But.drew _ _;have b0:w3.ownsRow w1.heap.size 168 2 lv (L0.set 0 u).length (au (L0.set 0 u)):=by rw[List.length_set];exact h2
 have c6:=hid (qV ((g2.block bl e3 nF).trans g6.out) (ag b0 g2 (fun _ _ h=>h)) 1 v (by rw[List.length_set];omega));unfold aG at c6;clear b0;refine ah rfl (by kernel_rfl) ?_;intro KS hKS;go_simp;refine c6.out.mono ?_;rintro en w4 ⟨rfl,h1,f6⟩;have g0:=f9.trans h1;refine hKS.out _ _ (fun _=>g0) ?_;clear hKS KS;refine aH rfl (by kernel_rfl) ?_;have a3:=a2.trans g0;clear c4 c9 z0 z1 c6;go_wp2_with fail;refine b8 (.int .i64 0) Tryz.results142 rfl rfl ⟨rfl,⟨fb,bl,p.1,vl,vi,lv,.slice none 0 0,b,p.2⟩,?_⟩;have hg:=hG.out;have e0:But (· =mb) w w2:=(a1.mono (fun _ _ h=>h.elim)).trans hg.but;have a8:But (· =mb) w w4:=e0.next a3 (fun k hk e=>by have:=b3 k e;have:=a1.size;omega)
 have h9:=a1.size;have h3:T[q]?=some p.2:=by rw[←hTl,List.getElem?_map,hp];rfl
 have h5:=HM.out.wd.old.size
 have f7: ∀k,jr ⟨fb,bl,p.1,vl,vi,lv,.slice none 0 0,b,p.2⟩ k→w.heap.size≤k:=fun k hk=>by
  rcases hk with e|e|e|e
  ·have:=hg.gf;have e:k=fb:=e;omega
  ·have:=hg.gl;have e:k=bl:=e;omega
  ·have:=b3 k e;omega
  ·cases e
 have e7:w4.ownsRow w0.heap.size 168 2 lv (aR b [u,v]).length (au (aR b [u,v])):=by
  rw[←tn u v hl2,g5.out,List.length_set,List.length_set];rw[List.length_set]at f6;exact World.ownsRow.mono f6 (by omega)
 refine HM.out.step a8 (fun k e=>Or.inl e) (hg.mc.but a3 nm) ⟨⟨hq,h3,hg.fr.but a3 nf,(a3.block bl b5 nb).trans hg.lb,e7,tr _ _,hg.bt,hg.it,hg.tb,fun k _ e=>(by cases e),Nat.le_trans (by omega) hg.gf,Nat.le_trans (by omega) hg.gl⟩,HM.out.fr.but a8 (fun q hq k hk e=>HM.out.off hq (e▸hk)),fun k hk q hq hk'=> ?_⟩ (fun k hk=> ?_)
 ·obtain⟨ca,d,f',h4⟩:=HM.out.fr.mem q hq;have:=h4.lt hk';have:=f7 k hk;omega
 ·rcases hk with e| ⟨q',e6,hk⟩
  ·exact Or.inl (Or.inl e)
  ·rcases List.mem_cons.1 e6 with rfl|e6
   ·exact Or.inr (f7 k hk)
   ·exact Or.inl (Or.inr ⟨q',e6,hk⟩)
end
def eb (T:cw) (fs:List Fm):List V:=fs.flatMap (fW T)
theorem uN {T:cw} {fs:List Fm} (k:Nat):V.o k∈eb T fs↔fX T fs k:=by
 unfold eb fX;exact List.mem_flatMap
def BM (T:cw) (n:Nat) (fs:List Fm):Prop:= ∀f∈fs,(∃st lo,gM T f.q f.pc=some (st,lo))∧f.stk.length≤1000∧f.loc.length≤1000∧(∀t,T[f.q]?=some t→t.length≤100)∧ ∀u∈fW T f,iE n u
theorem uO (T:cw) (f:Fm):(fW T f).length≤f.stk.length+f.loc.length:=by
 unfold fW
 split
 ·rw[List.length_append];have:=fA f.stk (by assumption)
  rename_i s l _
  have h1:=fA f.stk s;have h2:=fA f.loc l;omega
 ·simp
theorem tu {hp:List Ob} {vs:List V} {cs:List bA} (hob:l9 cs hp): ∀(n i:Nat) (F:List Nat),sw hp vs i F→hp.length≤i+n→ ∃i' F',sw hp vs i' F'∧F'.length≤i'
 |0,i,F,h,hn=>⟨i,F,h,by have:=lz h;omega⟩
 |n+1,i,F,h,hn=>by
  by_cases hlt:i<F.length
  ·obtain⟨j,hj⟩: ∃j,F[i]?=some j:=⟨_,List.getElem?_eq_getElem hlt⟩;have a0:=h.lt j (List.mem_of_getElem? hj);obtain⟨o,ho⟩: ∃o,hp[j]?=some o:=⟨_,List.getElem?_eq_getElem a0⟩;exact tu hob n (i+1) _ (pD h hj ho (hob o (List.mem_of_getElem? ho)).2.2) (by omega)
  ·exact⟨i,F,h,by omega⟩
theorem xM {hp:List Ob} {vs:List V} {cs:List bA} (hob:l9 cs hp) (hv: ∀u∈vs,iE hp.length u) (h4:hp.length≤4000):dH hp (fun k=>V.o k∈vs)≤404000:=by
 obtain⟨i,F,hw,hi⟩:=tu hob hp.length 0 _ (oe hv) (by omega);rw[sx hw hi];have h1:=uM (jl hp) 101 (tk hob) F;have h2:=lz hw;omega
section
variable {w0 w w':World} {im:Img} {T:cw} {mb tx:Nat} {tv:Value} {bw cells:Nat} {ans:Int} {inp:ByteArray} {rs:List Fr} {fs:List Fm} {s:Ev} {vo vb:Value} {gs:List Nat} {fv:List Value} {cn:Int} {sn:Nat→Int}
theorem tw (h:McQ w0 w im T mb tx tv bw cells ans inp rs fs s vo vb gs fv cn sn) (h4:s.heap.length≤4000) (hcn:cn≤100000) (hfs:BM T s.heap.length fs) (h12:fs.length≤12) (cs:List bA) (hn:cs.length≤100) (hT:TxC w0 tx cs) (hob:l9 cs s.heap) (c:UInt8) (hc:(bI cs c).length≤1000):
  Calls Tryz.prog 195 #[.pointer (some ⟨mb,0,none⟩),.int .u8 c.toNat] w fun en w'=>en= .returned (.bool (decide (dH s.heap (fX T fs)+(1+(bI cs c).length)≤cells)))∧But (fun k=>k=bw∨k∈gs) w w'∧ ∃sn',McQ w0 w' im T mb tx tv bw cells ans inp rs fs s vo vb gs fv (cn+1) sn':=by
 have c4:=h.mc.c4;have h6:=h.mc.lt;have HM:=hid h;have e8:=hid hfs;have g1:Hid (∀vs:List V,(∀u∈vs,iE s.heap.length u)→dH s.heap (fun k=>V.o k∈vs)≤404000):=fun vs hv=>xM hob hv h4
 have g3:But (fun _=>False) w (w.alloc (.cells #[] 168)):=But.alloc _ _ _;clear h hfs;obtain⟨cu,e3⟩: ∃cu,g8 rs=cu:=⟨_,rfl⟩;rw[e3]at c4;have f9:=hid e3;clear e3;simp only[iG]at c4
 go_in
 go_wp2_with fail
 go_loopg [5,6] fs.length (fun mm vt pv wr=> ∃(ao:Option Addr) (cap:Nat) (b9:List Fr) (a0 a7:List Fm),vt= .slice ao (eb T a0).length cap∧pv=iG (g8 b9)∧a7.length≤mm∧mm≤a7.length∧Hid (fs=a0++a7)∧But (fun _=>False) w wr∧wr.ownsRow w.heap.size 168 2 (.slice ao (eb T a0).length cap) (eb T a0).length (au (eb T a0))∧Hid (oD w0 w im T b9 a7)∧(eb T a0).length≤2000*a0.length)
 case atStart=>exact⟨_,0,rs,[],fs,rfl,by rw[f9.out];rfl,by omega,by omega,rfl,g3,vD w,HM.out.fr,by simp[eb]⟩
 case round=>
  obtain⟨ao,cap,b9,a0,a7,rfl,rfl,g5,g6,HE,a2,hO,HF,h5⟩:=hrel
  match b9,a7,HF with
  | [],_::_,HF=>exact HF.out.elim
  |_::_,[],HF=>exact HF.out.elim
  |r::rs2,f::fs2,HF=>
   obtain⟨hF,f1,_⟩:=HF.out;have g0:=hid f1;obtain⟨⟨st,lo,e6⟩,l1,l2,l3,l4⟩:=e8.out f (by rw[HE.out];simp);have f5:=(cO hF.ht).1 e6;have b3:=HM.out.wd.old;have e0:=hid (xL wr r.fb (fs2.length+1) f.pc r.bl r.sg w0.heap.size (g8 rs2) (aN im.sigs r.b) r.vl r.vi r.sv r.lv f.stk f.loc r.tab (hF.fr.but a2 nF) ((hF.tb.off b3 nF (fun _ _ _=>nF)).off a2 nF (fun _ _ _=>nF)) st lo f5 ((a2.block r.bl (ae hF.lb) nF).trans hF.lb) (ag hF.st a2 (fun _ _ h=>h)) (ag hF.lo a2 (fun _ _ h=>h)) (by omega) (by omega) (l3 _ hF.ht));have f7:fW T f=dg f.stk st++dg f.loc lo:=by unfold fW;rw[e6]
   rw[←f7]at e0;have h9:=uO T f;have f6:eb T (a0++ [f])=eb T a0++fW T f:=by simp[eb]
   have c0:wr.cell? ⟨r.fb,0,none⟩=some (iG (g8 rs2)):=(hF.fr.but a2 nF).c0;have b0:=(hF.fr.but a2 nF).lt;have h3:=hF.fr.lt;have g4:a0.length+(fs2.length+1)=fs.length:=by rw[HE.out];simp
   have d6:=hid f6;have hw:=a2.size;clear hF f1 e6 f5 b3 f7 f6 l3 l4 HF;obtain⟨e1,a6⟩: ∃e1,iG (g8 rs2)= .pointer e1:=⟨_,rfl⟩;rw[a6]at c0;have f8:=hid a6;clear a6;simp only[g8,iG,Option.map_some];generalize h2:eb T a0=A0 at*;generalize fW T f=A1 at*;simp only[List.length_cons]at g5 g6;go_wp2_with fail;refine e0.out.mono ?_;rintro en w1 ⟨a5,v1,rfl,f2⟩;clear e0;have a4:=ag hO a5 (fun _ _ h=>h);have a3:=a2.trans a5;replace c0:=(a5.cell (p:=⟨r.fb,0,none⟩) b0 nF).trans c0;replace b0:=Nat.lt_of_lt_of_le b0 a5.size;go_wp2_with (at_builtin;refine jT rfl _ _ rfl w.heap.size _ _ v1 A0 A1 rfl rfl a4 f2 (by omega) a3.size ?_)
   intro aj cj w2 f3 b5 _;have e2:But (fun _=>False) w w2:=a3.next b5 (fun k hk h=>by have:=aA a4 k h;omega);have h1:w2.cell? ⟨r.fb,0,none⟩=some (.pointer e1):=(b5.cell (p:=⟨r.fb,0,none⟩) b0 (fun h=>by have:=aA a4 r.fb h;omega)).trans c0;replace b0:=Nat.lt_of_lt_of_le b0 b5.size;have f0:=hid f3;clear c0 f3 a4 f2 b5 hO;go_wp2_with fail
   go_roundg fs2.length
   case measure=>omega
   case rel=>exact⟨aj,cj,rs2,a0++ [f],fs2,by rw[d6.out,List.length_append],f8.out.symm,by omega,by omega,hid (by rw[HE.out];simp),e2,by rw[d6.out];first|exact f0.out| (rw[List.length_append];exact f0.out),g0,by rw[d6.out,List.length_append,List.length_append,List.length_singleton];omega⟩
  | [],[],HF=>
   have he:fs=a0:=by rw[HE.out];simp
   have a8:=HM.out.new a2
   have e4: ∀u∈eb T a0,iE s.heap.length u:=fun u hu=>by
    obtain⟨f,hf,hu⟩:=List.mem_flatMap.1 hu;exact(e8.out f (by rw[he];exact hf)).2.2.2.2 u hu
   have g4:a0.length=fs.length:=by rw[he]
   have b4:=hid (tm a8.wd h4 hcn w.heap.size cap ao (eb T a0) hO (by omega) e4 cs hn hT hob);have e5:dH s.heap (fun k=>V.o k∈eb T a0)=dH s.heap (fX T fs):=qF (fun k=>by rw[he];exact uN k);rw[e5]at b4;obtain⟨RC,b6⟩: ∃RC,dH s.heap (fX T fs)=RC:=⟨_,rfl⟩
   have h8:RC≤404000:=by
    rw[←b6,←e5];exact g1.out _ e4
   rw[b6]at b4;have g2:=hid b6;have k2:=a8.mc.c2;have h7:=a8.mc.lt;have e9:=hid a8;have hK: ∀k,(k=bw∨k∈gs)→FrQ (iH mb rs) w0 k:=fun k hk=>a8.wd.own k (hk.elim Or.inl (fun h=>Or.inr (Or.inr (Or.inr (Or.inl h)))))
   have HK:=hid hK;have e7:=hid (fun(Y:World) (hY:But (fun _=>False) w0 Y)=>mH tx cs c Y hn (hT.but hY) hc);clear a8 e4 e5 b6 hK he;simp only[g8,iG,Option.map_none];generalize (eb T a0).length=nA at*;go_wp2_with fail;refine b4.out.mono ?_;rintro en w1 ⟨rfl,a5,h0,f4⟩;clear b4 k2;have b1:=hid (e9.out.turn a5 (fun k hk=>(HK.out k hk).2) f4);have a3:But (fun k=>k=bw∨k∈gs) w w1:=(a2.mono (fun _ _ h=>h.elim)).trans a5;have k0:=b1.out.mc.c0;have k3:=b1.out.mc.c3;have b2:=b1.out.mc.lt;have c6:=hid b1.out.wd.old;clear e9 a5 f4 hO;generalize g7:(bI cs c).length=nc at*;have i0:=dE ((RC:Int)+(1+(nc:Int))) (by omega) (by omega)
   go_wp2_with fail;have a1:But (fun _=>False) w1 w1.drew:=But.drew _ _;refine cB (But (fun _=>False) w1) 14 (by kernel_rfl) ?_;have fSA:=hid (fun wS (h:(But (fun _=>False) w1) wS)=>(And.intro ((h.cell (p:=⟨mb,0,none⟩) b2 nF).trans k0) ((h.cell (p:=⟨mb,3,none⟩) b2 nF).trans k3)));refine aB (k:=0) (v:= ?vA0) rfl (by decide) (by kernel_rfl) (fun _ _ _ h=>h) rfl a1 ?yA0 ?rA0
   case yA0=>intro wS h;obtain⟨q0,q1⟩:=fSA.out wS h;clear h;go_simp;try rfl
   dsimp only[Act.put]
   try simp only[aL]
   refine aB (k:=1) (v:= ?vA1) rfl (by decide) (by kernel_rfl) (fun _ _ _ h=>h) rfl a1 ?yA1 ?rA1
   case yA1=>intro wS h;obtain⟨q0,q1⟩:=fSA.out wS h;clear h;go_simp;try rfl
   dsimp only[Act.put]
   try simp only[aL]
   refine aB (k:=2) (v:= ?vA2) rfl (by decide) (by kernel_rfl) (fun _ _ _ h=>h) rfl a1 ?yA2 ?rA2
   case yA2=>intro wS h;obtain⟨q0,q1⟩:=fSA.out wS h;clear h;go_simp;try rfl
   dsimp only[Act.put]
   try simp only[aL]
   refine aB (k:=3) (v:= ?vA3) rfl (by decide) (by kernel_rfl) (fun _ _ _ h=>h) rfl a1 ?yA3 ?rA3
   case yA3=>intro wS h;obtain⟨q0,q1⟩:=fSA.out wS h;clear h;go_simp;try rfl
   dsimp only[Act.put]
   try simp only[aL]
   refine aB (k:=4) (v:= ?vA4) rfl (by decide) (by kernel_rfl) (fun _ _ _ h=>h) rfl a1 ?yA4 ?rA4
   case yA4=>intro wS h;obtain⟨q0,q1⟩:=fSA.out wS h;clear h;go_simp;try rfl
   dsimp only[Act.put]
   try simp only[aL]
   refine aB (k:=5) (v:= ?vA5) rfl (by decide) (by kernel_rfl) (fun _ _ _ h=>h) rfl a1 ?yA5 ?rA5
   case yA5=>intro wS h;obtain⟨q0,q1⟩:=fSA.out wS h;clear h;go_simp;try rfl
   dsimp only[Act.put]
   try simp only[aL]
   refine aB (k:=8) (v:= ?vA8) rfl (by decide) (by kernel_rfl) (fun _ _ _ h=>h) rfl a1 ?yA8 ?rA8
   case yA8=>intro wS h;obtain⟨q0,q1⟩:=fSA.out wS h;clear h;go_simp;try rfl
   dsimp only[Act.put]
   try simp only[aL]
   refine aB (k:=9) (v:= ?vA9) rfl (by decide) (by kernel_rfl) (fun _ _ _ h=>h) rfl a1 ?yA9 ?rA9
   case yA9=>intro wS h;obtain⟨q0,q1⟩:=fSA.out wS h;clear h;go_simp;try rfl
   dsimp only[Act.put]
   try simp only[aL]
   refine aB (k:=10) (v:= ?vA10) rfl (by decide) (by kernel_rfl) (fun _ _ _ h=>h) rfl a1 ?yA10 ?rA10
   case yA10=>intro wS h;obtain⟨q0,q1⟩:=fSA.out wS h;clear h;go_simp;try rfl
   dsimp only[Act.put]
   try simp only[aL]
   refine aB (k:=11) (v:= ?vA11) rfl (by decide) (by kernel_rfl) (fun _ _ _ h=>h) rfl a1 ?yA11 ?rA11
   case yA11=>intro wS h;obtain⟨q0,q1⟩:=fSA.out wS h;clear h;go_simp;try rfl
   dsimp only[Act.put]
   try simp only[aL]
   try clear fSA
   refine aE (k:=6) rfl (by decide) (by kernel_rfl) ?_;intro KS hKS;go_simp;refine(e7.out _ (c6.out.trans a1)).mono ?_;rintro en wx ⟨rfl,rfl⟩;refine hKS.out _ _ (fun _=>a1) ?_;clear hKS KS;refine aE (k:=7) rfl (by decide) (by kernel_rfl) ?_;intro KS hKS;go_simp;refine hKS.out _ _ (fun _=>a1) ?_;clear hKS KS;refine aE (k:=12) rfl (by decide) (by kernel_rfl) ?_;intro KS hKS;go_simp;refine hKS.out _ _ (fun _=>a1) ?_;clear hKS KS;refine aE (k:=13) rfl (by decide) (by kernel_rfl) ?_;intro KS hKS;go_simp;refine hKS.out _ _ (fun _=>a1) ?_;clear hKS KS;refine ck rfl (by kernel_rfl) ?_;clear k0 k3 e7;go_wp2_with fail
   refine b8 (.bool (decide ((RC:Int)+(1+(nc:Int))≤(cells:Int)))) Tryz.results195 rfl rfl ⟨?_,a3.trans ((But.drew _ _)),h0,b1.out.new (But.drew _ _)⟩;rw[g2.out,g7]
   congr 2
   exact decide_eq_decide.2 (by omega)
end
structure PsW (w W:World) (x:XIt) (u1 u2:V):Prop where
 but:But (fun _=>False) w W
 nb:NB w W
 b0:W.heap[w.heap.size]?=some (.cells #[.int .i64 x.place,.int .u8 x.op.toNat,.int .u8 x.cls.toNat,.int .i64 x.num,.slice x.pa x.pn x.pc] 219)
 b1:cK W (w.heap.size+1) u1
 b2:cK W (w.heap.size+1+1) u2
 sz:W.heap.size=w.heap.size+1+1+1
theorem psW (w:World) (x:XIt) (u1 u2:V):PsW w (((w.alloc (.cells #[.int .i64 x.place,.int .u8 x.op.toNat,.int .u8 x.cls.toNat,.int .i64 x.num,.slice x.pa x.pn x.pc] 219)).alloc (.cells #[.int .i32 (xN u1),.int .i64 (xO u1)] 168)).alloc (.cells #[.int .i32 (xN u2),.int .i64 (xO u2)] 168)) x u1 u2:=by
 refine⟨((But.alloc _ _ _).trans (But.alloc _ _ _)).trans (But.alloc _ _ _),(((NB.refl w).alloc (by decide)).alloc (by decide)).alloc (by decide),?_,?_,aq (by simp) _,by simp⟩
 ·exact(((But.alloc (fun _=>False) _ _).trans (But.alloc _ _ _)).block _ (by simp) nF).trans (heap_alloc_new w _)
 ·exact((But.alloc (fun _=>False) _ _).block _ (by simp) nF).trans (aq (by simp) _)
section
variable {w0 w w':World} {im:Img} {T:cw} {mb tx:Nat} {tv:Value} {bw cells:Nat} {ans:Int} {inp:ByteArray} {r:Fr} {rs:List Fr} {f:Fm} {fs:List Fm} {s:Ev} {vo vb:Value} {gs:List Nat} {fv:List Value} {cn:Int} {sn:Nat→Int}
theorem McQ.pushed (h:McQ w0 w im T mb tx tv bw cells ans inp (r::rs) (f::fs) s vo vb gs fv cn sn) {sv':Value} {pc':Nat} {stk':List V} (hB:But (fun k=>k=r.fb∨r.sv.ownBlock=some k) w w')
  (hf:FbB w' r.fb (g8 rs) (fs.length+1) (aN im.sigs r.b) r.vl r.vi (.slice (some ⟨r.sg,0,none⟩) r.tab.length r.tab.length) pc' r.bl sv') (ho:w'.ownsRow w0.heap.size 168 2 sv' stk'.length (au stk')) (hs:sv'.ownBlock=r.sv.ownBlock∨ ∃k,sv'.ownBlock=some k∧w.heap.size≤k):
  McQ w0 w' im T mb tx tv bw cells ans inp ({r with sv:=sv'}::rs) ({f with pc:=pc',stk:=stk'}::fs) s vo vb gs fv cn sn:=by
 obtain⟨hF,a0,a1⟩:=h.fr
 have hO: ∀k,jr {r with sv:=sv'} k→jr r k∨w.heap.size≤k:=fun k hk=>by
  rcases hk with e|e|e|e
  ·exact Or.inl (Or.inl e)
  ·exact Or.inl (Or.inr (Or.inl e))
  ·exact Or.inl (Or.inr (Or.inr (Or.inl e)))
  ·rcases hs with h1| ⟨j,h1,h2⟩
   ·exact Or.inl (Or.inr (Or.inr (Or.inr (h1▸e))))
   ·have e:sv'.ownBlock=some k:=e;rw[h1]at e
    cases e
    exact Or.inr h2
 have hR: ∀k,(k=r.fb∨r.sv.ownBlock=some k)→jr r k:=fun k hk=>hk.elim Or.inl (fun e=>Or.inr (Or.inr (Or.inr e)))
 have a3: ¬(mb=r.fb∨r.sv.ownBlock=some mb):=fun e=>h.off (List.mem_cons_self ..) (hR mb e)
 have a5: ∀k,r.lv.ownBlock=some k→ ¬(k=r.fb∨r.sv.ownBlock=some k):=fun k hk e=>by
  rcases e with e|e
  ·exact aC hF.lo hF.fr (by decide) (e▸hk)
  ·exact hF.ap k hk e
 have a4: ¬(r.bl=r.fb∨r.sv.ownBlock=some r.bl):=fun e=>by
  rcases e with e|e
  ·exact bv hF.lb hF.fr (by decide) e
  ·exact aC hF.st hF.lb (by decide) e
 refine h.step hB (fun k hk=>Or.inr ⟨r,List.mem_cons_self ..,hR k hk⟩) (h.mc.but hB a3) ⟨⟨hF.hb,hF.ht,hf,(hB.block r.bl (ae hF.lb) a4).trans hF.lb,ag hF.lo hB a5,ho,hF.bt,hF.it,hF.tb,fun k hk e=> ?_,hF.g1,hF.g2⟩,a0.but hB (fun q hq k hk e=>a1 k (hR k e) q hq hk),fun k hk q hq hk'=> ?_⟩ (fun k hk=> ?_)
 ·have hk:r.lv.ownBlock=some k:=hk;rcases hs with h1| ⟨j,h1,h2⟩
  ·exact hF.ap k hk (h1▸e)
  ·have e:sv'.ownBlock=some k:=e;rw[h1]at e
   cases e
   have:=aX hF.lo _ hk;omega
 ·rcases hO k hk with h1|h1
  ·exact a1 k h1 q hq hk'
  ·obtain⟨ca,d,f',a2⟩:=a0.mem q hq;have:=a2.lt hk';omega
 ·rcases hk with e| ⟨q,hq,hk⟩
  ·exact Or.inl (Or.inl e)
  ·rcases List.mem_cons.1 hq with rfl|hq
   ·rcases hO k hk with h1|h1
    ·exact Or.inl (Or.inr ⟨r,List.mem_cons_self ..,h1⟩)
    ·exact Or.inr h1
   ·exact Or.inl (Or.inr ⟨q,List.mem_cons_of_mem _ hq,hk⟩)
theorem McQ.setL (h:McQ w0 w im T mb tx tv bw cells ans inp (r::rs) (f::fs) s vo vb gs fv cn sn) {l':List V} (hB:But (fun k=>r.lv.ownBlock=some k) w w') (ho:w'.ownsRow w0.heap.size 168 2 r.lv l'.length (au l')):
  McQ w0 w' im T mb tx tv bw cells ans inp (r::rs) ({f with loc:=l'}::fs) s vo vb gs fv cn sn:=by
 obtain⟨hF,a1,a0⟩:=h.fr;have hR: ∀k,r.lv.ownBlock=some k→jr r k:=fun k e=>Or.inr (Or.inr (Or.inl e))
 have nf:r.lv.ownBlock≠some r.fb:=fun e=>aC hF.lo hF.fr (by decide) e
 have nb:r.lv.ownBlock≠some r.bl:=fun e=>aC hF.lo hF.lb (by decide) e
 exact h.step hB (fun k hk=>Or.inr ⟨r,List.mem_cons_self ..,hR k hk⟩) (h.mc.but hB (fun e=>h.off (List.mem_cons_self ..) (hR mb e))) ⟨⟨hF.hb,hF.ht,hF.fr.but hB nf,(hB.block r.bl (ae hF.lb) nb).trans hF.lb,ho,ag hF.st hB (fun k hk e=>hF.ap k e hk),hF.bt,hF.it,hF.tb,hF.ap,hF.g1,hF.g2⟩,a1.but hB (fun q hq k hk e=>a0 k (hR k e) q hq hk),a0⟩ (fun k hk=>Or.inl hk)
theorem BN (h:McQ w0 w im T mb tx tv bw cells ans inp (r::rs) (f::fs) s vo vb gs fv cn sn) (hT:dk w0 tx im) (hcl:(im.classes.map toX).length≤100) (hsg:im.sigs.length≤100) (h4:f.stk.length≤4000) (hpc:f.pc≤1000) (x:XIt) (u1 u2 u:V) (hx:x.op.toNat=108) (hu:f.loc[x.num]?=some u) (hly:(aF (im.classes.map toX) im.sigs x.op x.cls x.num (aN im.sigs r.b).locals).toNat≠0):
  Calls Tryz.prog 145 #[.pointer (some ⟨mb,0,none⟩),.pointer (some ⟨r.fb,0,none⟩),bU x,aG u1,aG u2] w fun en w'=>en= .returned (.int .i64 0)∧ ∃r',McQ w0 w' im T mb tx tv bw cells ans inp (r'::rs) ({f with pc:=f.pc+1,stk:=f.stk++ [u]}::fs) s vo vb gs fv cn sn:=by
 obtain⟨al,capl,e7⟩:=aw h.fr.1.bt;have g7:BtB w0 0 (.slice al (aN im.sigs r.b).locals.length capl) (aN im.sigs r.b).locals:=e7▸h.fr.1.bt;have e9:=hid (fun(Y:World) (hY:But (fun _=>False) w0 Y)=>fd tx (im.classes.map toX) im.sigs x.place x.num x.op x.cls al capl (aN im.sigs r.b).locals Y (ap:=x.pa) (np:=x.pn) (cp:=x.pc) hcl hsg (hT.cls.but hY) (hT.met.but hY) (g7.but hY (fun _ _ h=>h)));obtain⟨LY,h0⟩: ∃LY,aF (im.classes.map toX) im.sigs x.op x.cls x.num (aN im.sigs r.b).locals=LY:=⟨_,rfl⟩;rw[h0]at e9 hly;have h9:=hid e7;clear g7 h0 e7;have HP:=hid (psW w x u1 u2);have h1:(x.op.toNat:Int)=108:=by omega
 rw[h1]at HP e9;have e3:=h.fr.1.fr.c9;have f9:=h.fr.1.fr.lt;have HG:=hid (fun(Y:World) (hY:But (fun _=>False) w Y)=>AO ((hY.block r.bl (ae h.fr.1.lb) nF).trans h.fr.1.lb) (ag h.fr.1.lo hY (fun _ _ h=>h)) x.num u hu);have HM:=hid h;clear h hu;simp only[bU,aG]
 go_in
 go_wp2_with fail;revert HP;generalize (((w.alloc (.cells #[.int .i64 x.place,.int .u8 108,.int .u8 x.cls.toNat,.int .i64 x.num,.slice x.pa x.pn x.pc] 219)).alloc (.cells #[.int .i32 (xN u1),.int .i64 (xO u1)] 168)).alloc (.cells #[.int .i32 (xN u2),.int .i64 (xO u2)] 168))=W0;intro HP;obtain⟨rb,c6⟩: ∃rb,rb=w.heap.size+1+1+1:=⟨_,rfl⟩;have hP:=HP.out;have b2:But (fun _=>False) w (W0.alloc (.cells #[.int .i32 0,.int .i64 0] 168)):=hP.but.trans (But.alloc _ _ _);have b5:=((But.alloc (fun _=>False) W0 (.cells #[.int .i32 0,.int .i64 0] 168)).block w.heap.size (ae hP.b0) nF).trans hP.b0;have f3:cK (W0.alloc (.cells #[.int .i32 0,.int .i64 0] 168)) rb .z:=aq (by rw[hP.sz,c6]) _
 rw[←c6];rw[h1]at b5;revert b2 b5 f3;generalize (W0.alloc (.cells #[.int .i32 0,.int .i64 0] 168))=W1;intro b2 b5 f3;clear hP HP;have i6:w.heap.size+1≤rb:=by omega
 have h8:Hid (r.sv.ownBlock≠some rb):=fun e=>by have:=aX HM.out.fr.1.st _ e;omega
 clear c6;have b9:=(b2.cell (p:=⟨r.fb,9,none⟩) f9 nF).trans e3;obtain⟨_,_,_,i3,_⟩:=bp b5;have g0:=ae b5;have e4:=Nat.lt_of_lt_of_le f9 b2.size;have a1:But (fun _=>False) W1 W1.drew:=But.drew _ _;refine aD (But (fun _=>False) W1) 7 (by kernel_rfl) ?_
 iterate 6 (refine aJ (v:=?_) rfl (by kernel_rfl) (fun _ _ _ h=>h) rfl a1 ?_ ?_;rotate_left;(focus (intro wS h;have q0:=((h.cell (p:=⟨r.fb,9,none⟩) e4 nF).trans b9);have q1:=((h.cell (p:=⟨w.heap.size,3,none⟩) g0 nF).trans i3);clear h;go_simp;try rfl));dsimp only[Act.put];try simp only[aL])
 refine ah rfl (by kernel_rfl) ?_;intro KS hKS;go_simp;refine(HG.out _ (b2.trans a1)).mono ?_;rintro en w2 ⟨rfl,g6⟩;have e1:=a1.trans g6;refine hKS.out _ _ (fun _=>e1) ?_;clear hKS KS;have f8:=f3.but e1 nF;have f6:=(e1.block w.heap.size g0 nF).trans b5;obtain⟨v0,v1,z0,z1,e7⟩:=f8.parts;simp only[xN,xO]at v0 v1;simp only[aG];refine ah rfl (by kernel_rfl) ?_;intro KS hKS;go_simp;refine hKS.out _ _ nofun ?_;clear hKS KS;refine aH rfl (by kernel_rfl) ?_;have a5:But (· =rb) w2 ((w2.setCell ⟨rb,0,none⟩ (.int .i32 (xN u))).setCell ⟨rb,1,none⟩ (.int .i64 (xO u))):=(But.setB _ _ _ _).trans (But.setB _ _ _ _)
 have a6:=hid (HM.out.new ((b2.trans e1).next a5 (fun k hk e=>by have e:k=rb:=e;omega)));have e0:=hid ((a5.block w.heap.size (ae f6) (by show¬w.heap.size=rb;omega)).trans f6);have f0:=hid (f8.put u);clear v0 v1 z0 z1 e7 f8 f6 a5 e1 g6 a1 b9 i3 g0 e4 f3 b5 b2 HG HM e3 f9;revert a6 e0 f0;generalize ((w2.setCell ⟨rb,0,none⟩ (.int .i32 (xN u))).setCell ⟨rb,1,none⟩ (.int .i64 (xO u)))=W2;intro a6 e0 f0;have m0:=a6.out.mc.c0;have c5:=a6.out.fr.1.fr.body.2.2.2.1;rw[h9.out]at c5;have e6:=a6.out.mc.lt;have e5:=a6.out.fr.1.fr.lt;have a0:=ae e0.out;obtain⟨h2,h3,h5,h6,h7⟩:=bp e0.out;generalize (aN im.sigs r.b).locals.length=nL at*
 go_wp2_with fail;have a1:But (fun _=>False) W2 W2.drew:=But.drew _ _;refine aD (But (fun _=>False) W2) 12 (by kernel_rfl) ?_
 iterate 10 (refine aJ (v:=?_) rfl (by kernel_rfl) (fun _ _ _ h=>h) rfl a1 ?_ ?_;rotate_left;(focus (intro wS h;have q0:=((h.cell (p:=⟨mb,0,none⟩) e6 nF).trans m0);have q1:=((h.cell (p:=⟨r.fb,5,none⟩) e5 nF).trans c5);have q2:=((h.cell (p:=⟨w.heap.size,0,none⟩) a0 nF).trans h2);have q3:=((h.cell (p:=⟨w.heap.size,1,none⟩) a0 nF).trans h3);have q4:=((h.cell (p:=⟨w.heap.size,2,none⟩) a0 nF).trans h5);have q5:=((h.cell (p:=⟨w.heap.size,3,none⟩) a0 nF).trans h6);have q6:=((h.cell (p:=⟨w.heap.size,4,none⟩) a0 nF).trans h7);clear h;go_simp;try rfl));dsimp only[Act.put];try simp only[aL])
 clear m0 c5 h2 h3 h5 h6 h7;refine ah rfl (by kernel_rfl) ?_;intro KS hKS;go_simp;refine(e9.out _ (a6.out.wd.old.trans a1)).mono ?_;rintro en w3 ⟨rfl,a5⟩;have e2:=a1.trans a5;refine hKS.out _ _ (fun _=>e2) ?_;clear hKS KS;refine ah rfl (by kernel_rfl) ?_;intro KS hKS;go_simp;refine hKS.out _ _ (fun _=>e2) ?_;clear hKS KS;refine aH rfl (by kernel_rfl) ?_;have a4:=hid (a6.out.new e2);have g4:=hid (f0.out.but e2 nF);clear a6 f0 e0 e9 e2 a1 a5 e6 e5 a0;have j4:(LY.toNat:Int)≠0:=by omega
 obtain⟨i0,i4,j0,j1,j2⟩:=info_parts gE;obtain⟨a2,a7,g1⟩:=aw a4.out.fr.1.st;have f7:=a4.out.fr.1.st;have f1:=a4.out.fr.1.fr.c10;have g5:=a4.out.fr.1.fr.fz 10;have ac:r.sv.ownBlock≠some r.fb:=fun e=>aC a4.out.fr.1.st a4.out.fr.1.fr (by decide) e
 rw[g1]at f7 f1 ac;have f4:=hid g1;clear g1;have b6:=a4.out.fr.1.fr.lt;obtain⟨v0,v1,_,_,e8⟩:=g4.out.parts;have i7:=i6;have av:(Value.slice a2 f.stk.length a7).ownBlock≠some rb:=fun e=>h8.out (f4.out▸e)
 have j3:w0.heap.size≤w3.heap.size:=a4.out.wd.old.size;go_wp2_with fail;have a1:But (fun k=>(Value.slice a2 f.stk.length a7).ownBlock=some k) w3 w3.drew:=But.drew _ _;refine aD (But (fun k=>(Value.slice a2 f.stk.length a7).ownBlock=some k) w3) 8 (by kernel_rfl) ?_
 iterate 6 (refine aJ (v:=?_) rfl (by kernel_rfl) (fun _ _ _ h=>h) rfl a1 ?_ ?_;rotate_left;(focus (intro wS h;have q0:=((h.cell (p:=⟨r.fb,10,none⟩) b6 ac).trans f1);have q1:=((h.cell (p:=⟨rb,0,none⟩) e8 av).trans v0);have q2:=((h.cell (p:=⟨rb,1,none⟩) e8 av).trans v1);clear h;go_simp;try rfl));dsimp only[Act.put];try simp only[aL])
 refine ah rfl (by kernel_rfl) ?_;intro KS hKS;go_simp;refine hKS.out _ _ (fun _=>(But.alloc _ _ _).trans (But.drew _ _)) ?_;clear hKS KS;refine ah rfl (by kernel_rfl) ?_;intro KS hKS
 refine step_append_lies _ (by rfl) _ _ _ (by rfl) w0.heap.size 168 i0 _ 2 16 (by kernel_rfl) i4 j0 j1 j2 rfl (by omega) _ f.stk.length (au f.stk) (by rfl) ((f7.alloc _).drew)
    ⟨w3.heap.size,0,none⟩ 1 1 [.int .i32 (xN u),.int .i64 (xO u)] (by rfl) (by rfl) (World.news_of_block (cs:=#[.int .i32 (xN u),.int .i64 (xO u)]) (t:=168) (fr:=(0,0)) (heap_alloc_new w3 _)) (by simp[Value.oneCell'])
    (by omega) (by unfold maxLen;omega) (by omega) (by simp;omega) (w3.heap.size+1) (by simp) ?_
 intro gg a8 w4 a3 b1 i1 i5;have d6:But (fun k=>(Value.slice a2 f.stk.length a7).ownBlock=some k) w3 w4:=((But.alloc _ _ _).trans (But.drew _ _)).trans (bc b1);refine hKS.out _ _ (fun _=>d6) ?_;clear hKS KS;have y0:=(d6.cell (p:=⟨r.fb,10,none⟩) b6 ac).trans f1;have y1:=(d6.frozen (p:=⟨r.fb,10,none⟩) b6 ac).trans g5;refine ah rfl (by kernel_rfl) ?_;intro KS hKS;go_simp;refine hKS.out _ _ nofun ?_;clear hKS KS;refine ah rfl (by kernel_rfl) ?_;intro KS hKS;go_simp;refine hKS.out _ _ nofun ?_;clear hKS KS;refine ah rfl (by kernel_rfl) ?_;intro KS hKS;go_simp;refine hKS.out _ _ nofun ?_;clear hKS KS
 refine aH rfl (by kernel_rfl) ?_;have b4:=a4.out.fr.1.fr.but d6 ac;have b3:=b4.set10 (.slice (some ⟨gg,0,none⟩) (f.stk.length+1) a8);have f2:=ag a3 (But.setB w4 r.fb 10 (.slice (some ⟨gg,0,none⟩) (f.stk.length+1) a8)) (fun g hg e=>aC a3 b4 (by decide) (e▸hg));have a5:But (fun k=>k=r.fb∨r.sv.ownBlock=some k) w3 (w4.setCell ⟨r.fb,10,none⟩ (.slice (some ⟨gg,0,none⟩) (f.stk.length+1) a8)):=(d6.mono (fun k _ h=>Or.inr (by rw[f4.out];exact h))).trans ((But.setB _ _ _ _).mono (fun _ _ h=>Or.inl h));clear y0 y1 a3 b1 d6 b4 f7 f1 g5 v0 v1 g4;revert b3 f2 a5;generalize (w4.setCell ⟨r.fb,10,none⟩ (.slice (some ⟨gg,0,none⟩) (f.stk.length+1) a8))=W3
 intro b3 f2 a5;have c8:=b3.c8;have z8:=b3.fz 8;have g2:=hid b3;have g3:=hid f2;have j5:=dE ((f.pc:Int)+1) (by omega) (by omega);have i2:=b3.lt;clear b3 f2;go_wp2_with fail;have f5:=a4.out.pushed (stk':=f.stk++ [u]) (a5.trans ((But.setB _ _ _ _).mono (fun _ _ h=>Or.inl h))) (g2.out.set8 (f.pc+1)) (by rw[dU,List.length_append];exact ag g3.out (But.setB _ _ _ _) (fun g hg e=>aC g3.out g2.out (by decide) (e▸hg))) (i1.imp (fun h=>by rw[f4.out];exact h.symm) (fun h=>⟨gg,rfl,by omega⟩));exact b8 (.int .i64 0) Tryz.results145 rfl rfl ⟨rfl,_,f5⟩
theorem BO (h:McQ w0 w im T mb tx tv bw cells ans inp (r::rs) (f::fs) s vo vb gs fv cn sn) (hT:dk w0 tx im) (hcl:(im.classes.map toX).length≤100) (hsg:im.sigs.length≤100) (h4:f.stk.length≤4000) (hpc:f.pc≤1000) (x:XIt) (u1 u2:V) (hx:x.op.toNat=115) (hu:x.num<f.loc.length) (hly:(aF (im.classes.map toX) im.sigs x.op x.cls x.num (aN im.sigs r.b).locals).toNat=0):
  Calls Tryz.prog 145 #[.pointer (some ⟨mb,0,none⟩),.pointer (some ⟨r.fb,0,none⟩),bU x,aG u1,aG u2] w fun en w'=>en= .returned (.int .i64 0)∧ ∃r',McQ w0 w' im T mb tx tv bw cells ans inp (r'::rs) ({f with pc:=f.pc+1,loc:=f.loc.set x.num u1}::fs) s vo vb gs fv cn sn:=by
 obtain⟨al,capl,e6⟩:=aw h.fr.1.bt;have f0:BtB w0 0 (.slice al (aN im.sigs r.b).locals.length capl) (aN im.sigs r.b).locals:=e6▸h.fr.1.bt;have b5:=hid (fun(Y:World) (hY:But (fun _=>False) w0 Y)=>fd tx (im.classes.map toX) im.sigs x.place x.num x.op x.cls al capl (aN im.sigs r.b).locals Y (ap:=x.pa) (np:=x.pn) (cp:=x.pc) hcl hsg (hT.cls.but hY) (hT.met.but hY) (f0.but hY (fun _ _ h=>h)));obtain⟨LY,f2⟩: ∃LY,aF (im.classes.map toX) im.sigs x.op x.cls x.num (aN im.sigs r.b).locals=LY:=⟨_,rfl⟩;rw[f2]at b5 hly;have f9:=hid e6;clear f0 f2 e6;have HP:=hid (psW w x u1 u2);have f3:(x.op.toNat:Int)=115:=by omega
 rw[f3]at HP b5;have a8:=h.fr.1.fr.c9;have e3:=h.fr.1.fr.lt;have HG:=hid (fun(Y:World) (hY:But (fun _=>False) w Y)=>qV ((hY.block r.bl (ae h.fr.1.lb) nF).trans h.fr.1.lb) (ag h.fr.1.lo hY (fun _ _ h=>h)) x.num u1 hu);unfold aG at HG;have nf:r.lv.ownBlock≠some r.fb:=fun e=>aC h.fr.1.lo h.fr.1.fr (by decide) e
 have e5: ∀k,r.lv.ownBlock=some k→k<w.heap.size:=fun k hk=>aX h.fr.1.lo k hk
 have HM:=hid h;clear h hu;simp only[bU,aG]
 go_in
 go_wp2_with fail;revert HP;generalize (((w.alloc (.cells #[.int .i64 x.place,.int .u8 115,.int .u8 x.cls.toNat,.int .i64 x.num,.slice x.pa x.pn x.pc] 219)).alloc (.cells #[.int .i32 (xN u1),.int .i64 (xO u1)] 168)).alloc (.cells #[.int .i32 (xN u2),.int .i64 (xO u2)] 168))=W0;intro HP;obtain⟨rb,a6⟩: ∃rb,rb=w.heap.size+1+1+1:=⟨_,rfl⟩;have hP:=HP.out;have a4:But (fun _=>False) w (W0.alloc (.cells #[.int .i32 0,.int .i64 0] 168)):=hP.but.trans (But.alloc _ _ _);have a5:=((But.alloc (fun _=>False) W0 (.cells #[.int .i32 0,.int .i64 0] 168)).block w.heap.size (ae hP.b0) nF).trans hP.b0;have d6:cK (W0.alloc (.cells #[.int .i32 0,.int .i64 0] 168)) rb .z:=aq (by rw[hP.sz,a6]) _
 rw[←a6];rw[f3]at a5;have c6:=hP.b1.but (But.alloc (fun _=>False) W0 (.cells #[.int .i32 0,.int .i64 0] 168)) nF;revert a4 a5 d6 c6;generalize (W0.alloc (.cells #[.int .i32 0,.int .i64 0] 168))=W1;intro a4 a5 d6 c6;clear hP HP;have g4:w.heap.size+1≤rb:=by omega
 have g1:Hid (r.sv.ownBlock≠some rb):=fun e=>by have:=aX HM.out.fr.1.st _ e;omega
 clear a6;have b9:=(a4.cell (p:=⟨r.fb,9,none⟩) e3 nF).trans a8;obtain⟨_,_,_,i3,_⟩:=bp a5;have e4:=ae a5;have b2:=Nat.lt_of_lt_of_le e3 a4.size;obtain⟨y0,y1,_,_,e7⟩:=c6.parts;have ni:r.lv.ownBlock≠some w.heap.size:=fun e=>by have:=e5 _ e;omega
 have nu:r.lv.ownBlock≠some (w.heap.size+1):=fun e=>by have:=e5 _ e;omega
 have nr:r.lv.ownBlock≠some rb:=fun e=>by have:=e5 _ e;omega
 have hd:But (fun _=>False) W1 W1.drew:=But.drew _ _;have a2:But (fun k=>r.lv.ownBlock=some k) W1 W1.drew:=But.drew _ _;refine aD (But (fun k=>r.lv.ownBlock=some k) W1) 8 (by kernel_rfl) ?_
 iterate 7 (refine aJ (v:=?_) rfl (by kernel_rfl) (fun _ _ _ h=>h) rfl a2 ?_ ?_;rotate_left;(focus (intro wS h;have q0:=((h.cell (p:=⟨r.fb,9,none⟩) b2 nf).trans b9);have q1:=((h.cell (p:=⟨w.heap.size,3,none⟩) e4 ni).trans i3);have q2:=((h.cell (p:=⟨w.heap.size+1,0,none⟩) e7 nu).trans y0);have q3:=((h.cell (p:=⟨w.heap.size+1,1,none⟩) e7 nu).trans y1);clear h;go_simp;try rfl));dsimp only[Act.put];try simp only[aL])
 refine ah rfl (by kernel_rfl) ?_;intro KS hKS;go_simp;refine(HG.out _ (a4.trans hd)).mono ?_;rintro en W2 ⟨rfl,e1,f1⟩;have b6:=a2.trans e1;refine hKS.out _ _ (fun _=>b6) ?_;clear hKS KS;refine aH rfl (by kernel_rfl) ?_;have a3:=hid ((HM.out.new (a4.trans hd)).setL (l':=f.loc.set x.num u1) e1 (by rw[List.length_set];exact f1));have e0:=hid ((b6.block w.heap.size e4 ni).trans a5);have e8:=hid (d6.but b6 nr);clear b6 e1 a2 b9 i3 e4 b2 d6 a5 a4 HG HM a8 e3 y0 y1 e7 c6 f1 hd;have m0:=a3.out.mc.c0;have c5:=a3.out.fr.1.fr.body.2.2.2.1;rw[f9.out]at c5;have b4:=a3.out.mc.lt;have b3:=a3.out.fr.1.fr.lt;have a0:=ae e0.out
 obtain⟨f4,f5,f6,f7,f8⟩:=bp e0.out;generalize (aN im.sigs r.b).locals.length=nL at*;go_wp2_with fail;have a2:But (fun _=>False) W2 W2.drew:=But.drew _ _;refine aD (But (fun _=>False) W2) 12 (by kernel_rfl) ?_
 iterate 10 (refine aJ (v:=?_) rfl (by kernel_rfl) (fun _ _ _ h=>h) rfl a2 ?_ ?_;rotate_left;(focus (intro wS h;have q0:=((h.cell (p:=⟨mb,0,none⟩) b4 nF).trans m0);have q1:=((h.cell (p:=⟨r.fb,5,none⟩) b3 nF).trans c5);have q2:=((h.cell (p:=⟨w.heap.size,0,none⟩) a0 nF).trans f4);have q3:=((h.cell (p:=⟨w.heap.size,1,none⟩) a0 nF).trans f5);have q4:=((h.cell (p:=⟨w.heap.size,2,none⟩) a0 nF).trans f6);have q5:=((h.cell (p:=⟨w.heap.size,3,none⟩) a0 nF).trans f7);have q6:=((h.cell (p:=⟨w.heap.size,4,none⟩) a0 nF).trans f8);clear h;go_simp;try rfl));dsimp only[Act.put];try simp only[aL])
 clear m0 c5 f4 f5 f6 f7 f8;refine ah rfl (by kernel_rfl) ?_;intro KS hKS;go_simp;refine(b5.out _ (a3.out.wd.old.trans a2)).mono ?_;rintro en w3 ⟨rfl,e9⟩;have a7:=a2.trans e9;refine hKS.out _ _ (fun _=>a7) ?_;clear hKS KS;refine ah rfl (by kernel_rfl) ?_;intro KS hKS;go_simp;refine hKS.out _ _ (fun _=>a7) ?_;clear hKS KS;refine aH rfl (by kernel_rfl) ?_;have a1:=hid (a3.out.new a7);have g2:=hid (e8.out.but a7 nF);clear a3 e8 e0 b5 a7 a2 e9 b4 b3 a0;have g3:(LY.toNat:Int)=0:=by omega
 have c8:=a1.out.fr.1.fr.c8;have z8:=a1.out.fr.1.fr.fz 8;have g0:=a1.out.fr.1.fr.lt;have g5:=dE ((f.pc:Int)+1) (by omega) (by omega);go_wp2_with fail;have e2:=a1.out.pushed (sv':=r.sv) (stk':=f.stk) ((But.setB _ _ _ _).mono (fun _ _ h=>Or.inl h)) (a1.out.fr.1.fr.set8 (f.pc+1)) (ag a1.out.fr.1.st (But.setB _ _ _ _) (fun g hg e=>aC a1.out.fr.1.st a1.out.fr.1.fr (by decide) (e▸hg))) (Or.inl rfl);exact b8 (.int .i64 0) Tryz.results145 rfl rfl ⟨rfl,_,e2⟩
end
end
end Go.Proofs.YtpfkkmacakjmbaaGreatDoor
