import Derived.Test.YtpfkkmacakjmbaaGreatDoorP34
set_option maxRecDepth 100000
set_option maxHeartbeats 6400000
set_option linter.unusedSimpArgs false
set_option linter.unusedVariables false
namespace Go.Proofs.YtpfkkmacakjmbaaGreatDoor
section
open Go Go.RowKit Sp
attribute [local go_sem ↓] Go.wp_at_zero Go.wp_at_succ
structure Fr where
 fb:Nat
 bl:Nat
 sg:Nat
 vl:Value
 vi:Value
 lv:Value
 sv:Value
 b:Bod
 tab:List St
def jl (r:Fr) (k:Nat):Prop:=k=r.fb∨k=r.bl∨r.lv.ownBlock=some k∨r.sv.ownBlock=some k
structure FrM (w0 w:World) (im:Img) (T:bU) (ca:Option Nat) (d:Nat) (r:Fr) (f:Fm):Prop where
 hb:im.bodies[f.q]?=some r.b
 ht:T[f.q]?=some r.tab
 fr:FbB w r.fb ca d (aN im.sigs r.b) r.vl r.vi (.slice (some ⟨r.sg,0,none⟩) r.tab.length r.tab.length) f.pc r.bl r.sv
 lb:w.heap[r.bl]?=some (.cells #[r.lv] 280)
 lo:w.ownsRow w0.heap.size 168 2 r.lv f.loc.length (aA f.loc)
 st:w.ownsRow w0.heap.size 168 2 r.sv f.stk.length (aA f.stk)
 bt:BtB w0 0 r.vl (aN im.sigs r.b).locals
 it:ItB w0 0 r.vi (aN im.sigs r.b).items
 tb:StB w0 r.sg r.tab
 ap: ∀k,r.lv.ownBlock=some k→r.sv.ownBlock≠some k
 g1:w0.heap.size≤r.fb
 g2:w0.heap.size≤r.bl
def ik:List Fr→Option Nat
 | []=>none
 |r::_=>some r.fb
def nV (w0 w:World) (im:Img) (T:bU):List Fr→List Fm→Prop
 | [],[]=>True
 |r::rs,f::fs=>FrM w0 w im T (ik rs) (fs.length+1) r f∧nV w0 w im T rs fs∧ ∀k,jl r k→ ∀q∈rs,¬jl q k
 |_,_=>False
section
variable {w0 w w':World} {im:Img} {T:bU} {ca:Option Nat} {d:Nat} {r:Fr} {f:Fm}
theorem FrM.ge (h:FrM w0 w im T ca d r f) {k:Nat} (hk:jl r k):w0.heap.size≤k:=by
 rcases hk with rfl|rfl|hk|hk
 ·exact h.g1
 ·exact h.g2
 ·exact ay h.lo k hk
 ·exact ay h.st k hk
theorem FrM.lt (h:FrM w0 w im T ca d r f) {k:Nat} (hk:jl r k):k<w.heap.size:=by
 rcases hk with rfl|rfl|hk|hk
 ·exact h.fr.lt
 ·exact ae h.lb
 ·exact aU h.lo k hk
 ·exact aU h.st k hk
theorem FrM.nb (h:FrM w0 w im T ca d r f) {k:Nat} (hk:jl r k) (c:Array Value) (fz:Nat×Nat):w.heap[k]?≠some (.cells c 5 fz):=fun e=>by
 rcases hk with rfl|rfl|hk|hk
 ·exact cr h.fr e (by decide) rfl
 ·exact cr h.lb e (by decide) rfl
 ·exact aF h.lo e (by decide) hk
 ·exact aF h.st e (by decide) hk
theorem FrM.but {F:Nat→Prop} (h:FrM w0 w im T ca d r f) (hb:But F w w') (hf: ∀k,jl r k→ ¬F k):FrM w0 w' im T ca d r f:=
 ⟨h.hb,h.ht,h.fr.but hb (hf _ (Or.inl rfl)),(hb.block r.bl (ae h.lb) (hf _ (Or.inr (Or.inl rfl)))).trans h.lb,ar h.lo hb (fun k hk=>hf k (Or.inr (Or.inr (Or.inl hk)))),ar h.st hb (fun k hk=>hf k (Or.inr (Or.inr (Or.inr hk)))),h.bt,h.it,h.tb,h.ap,h.g1,h.g2⟩
theorem nV.but {F:Nat→Prop}: ∀{rs:List Fr} {fs:List Fm},nV w0 w im T rs fs→But F w w'→(∀r∈rs,∀k,jl r k→ ¬F k)→nV w0 w' im T rs fs
 | [],[],_,_,_=>trivial
 |r::rs,f::fs,h,hb,hf=>⟨h.1.but hb (hf r (List.mem_cons_self ..)),nV.but h.2.1 hb (fun q hq=>hf q (List.mem_cons_of_mem _ hq)),h.2.2⟩
 | [],_::_,h,_,_=>h.elim
 |_::_,[],h,_,_=>h.elim
theorem nV.mem: ∀{rs:List Fr} {fs:List Fm},nV w0 w im T rs fs→ ∀r∈rs,∃ca d f,FrM w0 w im T ca d r f
 | [],[],_,r,hr=>by cases hr
 |q::rs,f::fs,h,r,hr=>by
  rcases List.mem_cons.1 hr with rfl|hr
  ·exact⟨_,_,_,h.1⟩
  ·exact nV.mem h.2.1 r hr
 | [],_::_,h,_,_=>h.elim
 |_::_,[],h,_,_=>h.elim
end
abbrev iI (mb:Nat) (rs:List Fr) (k:Nat):Prop:=k=mb∨ ∃r∈rs,jl r k
structure McQ (w0 w:World) (im:Img) (T:bU) (mb tx:Nat) (tv:Value) (bw cells:Nat) (ans:Int) (inp:ByteArray) (rs:List Fr) (fs:List Fm) (s:Ev) (vo vb:Value) (gs:List Nat) (fv:List Value) (cn:Int) (sn:Nat→Int):Prop where
 wd:WdQ (iI mb rs) w0 w bw tx inp s vo vb gs fv cn sn
 mc:MbB w mb tx tv bw cells (ik rs) ans
 fr:nV w0 w im T rs fs
 gm:w0.heap.size≤mb
section
variable {w0 w w':World} {im:Img} {T:bU} {mb tx:Nat} {tv:Value} {bw cells:Nat} {ans:Int} {inp:ByteArray} {rs:List Fr} {fs:List Fm} {s:Ev} {vo vb:Value} {gs:List Nat} {fv:List Value} {cn:Int} {sn:Nat→Int}
theorem McQ.off (h:McQ w0 w im T mb tx tv bw cells ans inp rs fs s vo vb gs fv cn sn) {r:Fr} (hr:r∈rs): ¬jl r mb:=fun hk=>by
 obtain⟨ca,d,f,hf⟩:=h.fr.mem r hr;rcases hk with e|e|e|e
 ·exact cr hf.fr h.mc (by decide) e.symm
 ·exact cr hf.lb h.mc (by decide) e.symm
 ·exact aF hf.lo h.mc (by decide) e
 ·exact aF hf.st h.mc (by decide) e
theorem McQ.new (h:McQ w0 w im T mb tx tv bw cells ans inp rs fs s vo vb gs fv cn sn) (hB:But (fun _=>False) w w'):McQ w0 w' im T mb tx tv bw cells ans inp rs fs s vo vb gs fv cn sn:=
 ⟨h.wd.new hB,h.mc.but hB nF,h.fr.but hB (fun _ _ _ _ h=>h),h.gm⟩
theorem McQ.turn {F:Nat→Prop} {s':Ev} {vo' vb':Value} {gs':List Nat} {fv':List Value} {cn':Int} {sn':Nat→Int} (h:McQ w0 w im T mb tx tv bw cells ans inp rs fs s vo vb gs fv cn sn) (hB:But F w w') (hF: ∀k,F k→ ¬iI mb rs k) (hw:WdQ (iI mb rs) w0 w' bw tx inp s' vo' vb' gs' fv' cn' sn'):McQ w0 w' im T mb tx tv bw cells ans inp rs fs s' vo' vb' gs' fv' cn' sn':=
 ⟨hw,h.mc.but hB (fun hf=>hF _ hf (Or.inl rfl)),h.fr.but hB (fun r hr k hk hf=>hF k hf (Or.inr ⟨r,hr,hk⟩)),h.gm⟩
theorem McQ.step {F:Nat→Prop} {rs':List Fr} {fs':List Fm} {ans':Int} (h:McQ w0 w im T mb tx tv bw cells ans inp rs fs s vo vb gs fv cn sn) (hB:But F w w') (hF: ∀k,F k→iI mb rs k) (hm:MbB w' mb tx tv bw cells (ik rs') ans') (hr:nV w0 w' im T rs' fs') (hn: ∀k,iI mb rs' k→iI mb rs k∨w.heap.size≤k):McQ w0 w' im T mb tx tv bw cells ans' inp rs' fs' s vo vb gs fv cn sn:=by
 have a0: ∀k,iI mb rs k→w0.heap.size≤k:=fun k hk=>by
  rcases hk with rfl| ⟨r,hr,hk⟩
  ·exact h.gm
  ·obtain⟨ca,d,f,hf⟩:=h.fr.mem r hr;exact hf.ge hk
 have a:=(h.wd.less (Q:=fun _=>False) (fun _ h=>h.elim)).but hB (fun k hk=>a0 k (hF k hk)) (fun k hk hf=>(h.wd.own k hk).2 (hF k hf)) (fun _ h=>h.elim);refine⟨⟨a.old,a.wd,a.out,a.ob,a.lg,a.lf,a.obs,a.nd,fun k hk=>⟨(h.wd.own k hk).1,fun hp=> ?_⟩,fun k hk=> ?_,a.sf,a.se⟩,hm,hr,h.gm⟩
 ·rcases hn k hp with hp|hp
  ·exact(h.wd.own k hk).2 hp
  ·have:=h.wd.lt hk;omega
 ·rcases hk with rfl| ⟨r,a1,hk⟩
  ·exact⟨hm.lt,fun c fz e=>cr hm e (by decide) rfl⟩
  ·obtain⟨ca,d,f,hf⟩:=hr.mem r a1;exact⟨hf.lt hk,fun c fz e=>hf.nb hk c fz e⟩
end
section
variable {w:World} {bl base:Nat} {lv:Value} {l:List V}
theorem yt (hb:w.heap[bl]?=some (.cells #[lv] 280)) (ho:w.ownsRow base 168 2 lv l.length (aA l)) (j:Nat) (u:V) (hu:l[j]?=some u):
  Calls Tryz.prog 196 #[.pointer (some ⟨bl,0,none⟩),.int .i64 j] w fun en w'=>en= .returned (aJ u)∧But (fun _=>False) w w':=by
 have hj:=(List.getElem?_eq_some_iff.1 hu).1;obtain⟨al,capl,rfl⟩:=au ho;obtain⟨g,rfl,a2,a3,a0⟩:=aG ho (by omega);have q0:w.cell? ⟨g,j*2,none⟩=some (.int .i32 (xN u)):=a0 _ _ (bF (k:=0) hu (by omega));have q1:w.cell? ⟨g,j*2+1,none⟩=some (.int .i64 (xO u)):=a0 _ _ (bF (k:=1) hu (by omega));have b0:=ce0 hb;have a1:=ae hb;have a5: ¬((l.length:Int)≤(j:Int)):=by omega
 have a6:((j:Int))<(l.length:Int):=by omega
 have a4: ¬((j:Int)<0):=by omega
 clear a0 hu hb ho;generalize l.length=nl at*
 go_in
 go_wp2_with fail;exact rJ Tryz.results196 rfl rfl (aw rfl _) ⟨rfl,But.alloc _ _ _⟩
theorem qk (hb:w.heap[bl]?=some (.cells #[lv] 280)) (ho:w.ownsRow base 168 2 lv l.length (aA l)) (j:Nat) (u:V) (hj:j<l.length):
  Calls Tryz.prog 194 #[.pointer (some ⟨bl,0,none⟩),.int .i64 j,aJ u] w fun en w'=>en= .returned (.tuple #[])∧But (fun k=>lv.ownBlock=some k) w w'∧w'.ownsRow base 168 2 lv l.length (aA (l.set j u)):=by
 unfold aJ;obtain⟨al,capl,rfl⟩:=au ho;obtain⟨g,rfl,a5,a8,a0⟩:=aG ho (by omega);obtain⟨u',hu⟩: ∃u',l[j]?=some u':=⟨_,List.getElem?_eq_getElem hj⟩;have q0:w.cell? ⟨g,j*2,none⟩=some (.int .i32 (xN u')):=a0 _ _ (bF (k:=0) hu (by omega));have q1:w.cell? ⟨g,j*2+1,none⟩=some (.int .i64 (xO u')):=a0 _ _ (bF (k:=1) hu (by omega));obtain⟨cur,a1⟩:=eM ho (g:=g) rfl;have z0:=frozen_of_row w g (j*2) _ _ a1;have z1:=frozen_of_row w g (j*2+1) _ _ a1;have b0:=ce0 hb;have a7:=ae hb;have b2:((j:Int))<(l.length:Int):=by omega
 have a9:0≤(j:Int):=by omega
 clear a0 hu hb a1;have HO:=hid ho;clear ho;generalize l.length=nl at*
 go_in
 go_wp2_with fail;have a4:But (fun _=>False) w (w.alloc (.cells #[.int .i32 (xN u),.int .i64 (xO u)] 168)):=But.alloc _ _ _;have a3:=heap_alloc_new w (.cells #[.int .i32 (xN u),.int .i64 (xO u)] 168);revert a4 a3;generalize (w.alloc (.cells #[.int .i32 (xN u),.int .i64 (xO u)] 168))=W;intro a4 a3;have a6:But (fun _=>False) W W.drew:=But.drew _ _;have y0:=ce0 a3;have y1:=ce1 a3;have b1:=a4.kc b0 a7;have m1:=ae a3;have m2:bl<W.heap.size:=by omega
 have a2:=a4.trans a6;have p0:=a2.kc q0 a5;have p1:=a2.kc q1 a5;have p2:=a2.kz z0 a5;have p3:=a2.kz z1 a5;have HP:=hid (And.intro p0 (And.intro p1 (And.intro p2 p3)));clear p0 p1 p2 p3 q0 q1 z0 z1 b0;refine az (But (fun _=>False) W) 7 (by kernel_rfl) ?_
 iterate 7 (refine aB (v:=?_) rfl (by kernel_rfl) (fun _ _ _ h=>h) rfl a6 ?_ ?_;rotate_left;(focus (intro wS h;have q0:=(h.kc b1 m2);have q1:=(h.kc y0 m1);have q2:=(h.kc y1 m1);clear h;go_simp;try rfl));dsimp only[Act.put];try simp only[aR])
 obtain⟨p0,p1,p2,p3⟩:=HP.out;have HS:=hid (fun X (hX:But (fun _=>False) w X)=>pd (g:=g) (j:=j) u (ar HO.out hX (fun _ _ h=>h)) rfl);clear y0 y1 b1 a6 HP;generalize W.drew=wd at*;refine ag rfl (by kernel_rfl) ?_;intro KS hKS;go_simp;refine hKS.out _ _ nofun ?_;clear hKS KS;refine aD rfl (by kernel_rfl) ?_;go_end0;exact⟨rfl,(a2.mono (fun _ _ h=>h.elim)).trans (((But.setB _ _ _ _).trans (But.setB _ _ _ _)).mono (fun k _ e=>by have e:k=g:=e;rw[e];rfl)),HS.out wd a2⟩
end
theorem rV {b:Bod} (u v:V) (h:2≤b.locals.length):((b.locals.map bN).set 0 u).set 1 v=bA b [u,v]:=by
 unfold bA
 match hb:b.locals,h with
 |x::y::r,_=>simp
section
variable {w0 w w':World} {im:Img} {T:bU} {mb tx:Nat} {tv:Value} {bw cells:Nat} {ans:Int} {inp:ByteArray} {r:Fr} {rs:List Fr} {f:Fm} {fs:List Fm} {s:Ev} {vo vb:Value} {gs:List Nat} {fv:List Value} {cn:Int} {sn:Nat→Int}
theorem rW (h:McQ w0 w im T mb tx tv bw cells ans inp (r::rs) (f::fs) s vo vb gs fv cn sn) (m:Nat) (u v:V) (q e:Int) (he:e≠0)
  (hc: ∀Y,But (fun _=>False) w Y→Calls Tryz.prog 193 #[.pointer (some ⟨bw,0,none⟩),aJ u,.int .i64 m,.int .i64 (fs.length+1:Nat)] Y fun en w'=>But (fun _=>False) Y w'∧en= .returned (.tuple #[.int .i64 q,.int .i64 e])):
  Calls Tryz.prog 142 #[.pointer (some ⟨mb,0,none⟩),.int .i64 m,aJ u,aJ v] w fun en w'=>en= .returned (.int .i64 e)∧But (fun _=>False) w w':=by
 have k2:=h.mc.c2;have k4:w.cell? ⟨mb,4,none⟩=some (.pointer (some ⟨r.fb,0,none⟩)):=h.mc.c4;have f1:=h.fr.1.fr.c1;have a0:=h.mc.lt;have a1:=h.fr.1.fr.lt;have HC:=hid hc;unfold aJ at HC;simp only[aJ];clear h hc;have a4:But (fun _=>False) w ((w.alloc (.cells #[.int .i32 (xN u),.int .i64 (xO u)] 168)).alloc (.cells #[.int .i32 (xN v),.int .i64 (xO v)] 168)):=(But.alloc _ _ _).trans (But.alloc _ _ _);have hu:cJ ((w.alloc (.cells #[.int .i32 (xN u),.int .i64 (xO u)] 168)).alloc (.cells #[.int .i32 (xN v),.int .i64 (xO v)] 168)) w.heap.size u:=((But.alloc (fun _=>False) _ _).block _ (by simp) nF).trans (heap_alloc_new w _)
 have HB:=hid a4;have HU:=hid hu;clear a4 hu
 go_in
 go_wp2_with fail;revert HB HU;generalize ((w.alloc (.cells #[.int .i32 (xN u),.int .i64 (xO u)] 168)).alloc (.cells #[.int .i32 (xN v),.int .i64 (xO v)] 168))=W;intro HB HU;have hB:=HB.out;obtain⟨v0,v1,_,_,a5⟩:=HU.out.parts;replace k2:=(hB.cell (p:=⟨mb,2,none⟩) a0 nF).trans k2;replace k4:=(hB.cell (p:=⟨mb,4,none⟩) a0 nF).trans k4;replace f1:=(hB.cell (p:=⟨r.fb,1,none⟩) a1 nF).trans f1;replace a0:=Nat.lt_of_lt_of_le a0 hB.size;replace a1:=Nat.lt_of_lt_of_le a1 hB.size;have a2:But (fun _=>False) W W.drew:=But.drew _ _;refine az (But (fun _=>False) W) 19 (by kernel_rfl) ?_
 iterate 13 (refine aB (v:=?_) rfl (by kernel_rfl) (fun _ _ _ h=>h) rfl a2 ?_ ?_;rotate_left;(focus (intro wS h;have q0:=((h.cell (p:=⟨mb,2,none⟩) a0 nF).trans k2);have q1:=((h.cell (p:=⟨mb,4,none⟩) a0 nF).trans k4);have q2:=((h.cell (p:=⟨r.fb,1,none⟩) a1 nF).trans f1);have q3:=((h.cell (p:=⟨w.heap.size,0,none⟩) a5 nF).trans v0);have q4:=((h.cell (p:=⟨w.heap.size,1,none⟩) a5 nF).trans v1);clear h;go_simp;try rfl));dsimp only[Act.put];try simp only[aR])
 refine ag rfl (by kernel_rfl) ?_;intro KS hKS;go_simp;refine(HC.out _ (hB.trans a2)).mono ?_;rintro en w1 ⟨a6,rfl⟩;have a3:=a2.trans a6;refine hKS.out _ _ (fun _=>a3) ?_;clear hKS KS
 iterate 5 (refine aB (v:=?_) rfl (by kernel_rfl) (fun _ _ _ h=>h) rfl a3 ?_ ?_;rotate_left;(focus (intro wS h;clear h;go_simp;try rfl));dsimp only[Act.put];try simp only[aR])
 refine aD rfl (by kernel_rfl) ?_;clear v0 v1 k2 k4 f1;go_wp2_with fail;exact cB (.int .i64 e) Tryz.results142 rfl rfl ⟨rfl,hB.trans a3⟩
theorem rX (w:World) (base:Nat):w.ownsRow base 168 2 (.slice none 0 0) 0 (aA []):=⟨rfl,Or.inl ⟨rfl,rfl⟩⟩
theorem yu (h:McQ w0 w im T mb tx tv bw cells ans inp (r::rs) (f::fs) s vo vb gs fv cn sn) (m:Nat) (u v:V) (q base:Nat) (b:Bod) (l:List (Nat×List St)) (p:Nat×List St) (hT:dk w0 tx im) (hl:eN w0 base tv l) (hTl:l.map (·.2)=T) (hq:im.bodies[q]?=some b) (hp:l[q]?=some p) (hlo:b.locals.length≤5) (hl2:2≤b.locals.length) (hnb:im.bodies.length≤100) (hd:fs.length≤90)
  (hc: ∀Y,But (fun _=>False) w Y→Calls Tryz.prog 193 #[.pointer (some ⟨bw,0,none⟩),aJ u,.int .i64 m,.int .i64 (fs.length+1:Nat)] Y fun en w'=>But (fun _=>False) Y w'∧en= .returned (.tuple #[.int .i64 q,.int .i64 0])):
  Calls Tryz.prog 142 #[.pointer (some ⟨mb,0,none⟩),.int .i64 m,aJ u,aJ v] w fun en w'=>en= .returned (.int .i64 0)∧ ∃r',McQ w0 w' im T mb tx tv bw cells ans inp (r'::r::rs) (⟨q,0,[],bA b [u,v]⟩::f::fs) s vo vb gs fv cn sn:=by
 have k2:=h.mc.c2;have k4:w.cell? ⟨mb,4,none⟩=some (.pointer (some ⟨r.fb,0,none⟩)):=h.mc.c4;have f1:=h.fr.1.fr.c1;have a6:=h.mc.lt;have b5:=h.fr.1.fr.lt;have HC:=hid hc;unfold aJ at HC;simp only[aJ];have HM:=hid h;clear h hc;have f8:But (fun _=>False) w ((w.alloc (.cells #[.int .i32 (xN u),.int .i64 (xO u)] 168)).alloc (.cells #[.int .i32 (xN v),.int .i64 (xO v)] 168)):=(But.alloc _ _ _).trans (But.alloc _ _ _);have hu:cJ ((w.alloc (.cells #[.int .i32 (xN u),.int .i64 (xO u)] 168)).alloc (.cells #[.int .i32 (xN v),.int .i64 (xO v)] 168)) w.heap.size u:=((But.alloc (fun _=>False) _ _).block _ (by simp) nF).trans (heap_alloc_new w _)
 have hv:cJ ((w.alloc (.cells #[.int .i32 (xN u),.int .i64 (xO u)] 168)).alloc (.cells #[.int .i32 (xN v),.int .i64 (xO v)] 168)) (w.heap.size+1) v:=aw (by simp) _;have HV:=hid hv;have HB:=hid f8;have HU:=hid hu;clear f8 hu hv
 go_in
 go_wp2_with fail;revert HV HB HU;generalize ((w.alloc (.cells #[.int .i32 (xN u),.int .i64 (xO u)] 168)).alloc (.cells #[.int .i32 (xN v),.int .i64 (xO v)] 168))=W;intro HV HB HU;have hB:=HB.out;obtain⟨v0,v1,_,_,g7⟩:=HU.out.parts;replace k2:=(hB.cell (p:=⟨mb,2,none⟩) a6 nF).trans k2;replace k4:=(hB.cell (p:=⟨mb,4,none⟩) a6 nF).trans k4;replace f1:=(hB.cell (p:=⟨r.fb,1,none⟩) b5 nF).trans f1;replace a6:=Nat.lt_of_lt_of_le a6 hB.size;replace b5:=Nat.lt_of_lt_of_le b5 hB.size;have e4:But (fun _=>False) W W.drew:=But.drew _ _;refine az (But (fun _=>False) W) 19 (by kernel_rfl) ?_
 iterate 13 (refine aB (v:=?_) rfl (by kernel_rfl) (fun _ _ _ h=>h) rfl e4 ?_ ?_;rotate_left;(focus (intro wS h;have q0:=((h.cell (p:=⟨mb,2,none⟩) a6 nF).trans k2);have q1:=((h.cell (p:=⟨mb,4,none⟩) a6 nF).trans k4);have q2:=((h.cell (p:=⟨r.fb,1,none⟩) b5 nF).trans f1);have q3:=((h.cell (p:=⟨w.heap.size,0,none⟩) g7 nF).trans v0);have q4:=((h.cell (p:=⟨w.heap.size,1,none⟩) g7 nF).trans v1);clear h;go_simp;try rfl));dsimp only[Act.put];try simp only[aR])
 refine ag rfl (by kernel_rfl) ?_;intro KS hKS;go_simp;refine(HC.out _ (hB.trans e4)).mono ?_;rintro en w1 ⟨h3,rfl⟩;have b1:=e4.trans h3;refine hKS.out _ _ (fun _=>b1) ?_;clear hKS KS
 iterate 5 (refine aB (v:=?_) rfl (by kernel_rfl) (fun _ _ _ h=>h) rfl b1 ?_ ?_;rotate_left;(focus (intro wS h;clear h;go_simp;try rfl));dsimp only[Act.put];try simp only[aR])
 refine aD rfl (by kernel_rfl) ?_;have a1:=hB.trans b1;have b0:=HM.out.new a1;have f3:=hid (pe w0 w1 mb tx bw cells (fs.length+1) base tv ans im l q b p (some r.fb) (Or.inr ⟨r.fb,rfl,b0.fr.1.fr.lt,b0.fr.1.fr.c1⟩) (by omega) b0.mc b0.wd.old hT hl hq hp hlo hnb);have f5:=hid (HU.out.but b1 nF);have e1:=hid (HV.out.but b1 nF);clear v0 v1 k2 k4 f1 b0;go_wp2_with fail;refine f3.out.mono ?_;rintro en w2 ⟨rfl,fb,bl,lv,vl,vi,HG⟩;have hG:=hid HG;have c4:w2.cell? ⟨mb,4,none⟩=some (.pointer (some ⟨fb,0,none⟩)):=HG.mc.c4;have c9:=HG.fr.c9;have a5:=HG.mc.lt;have a4:=HG.fr.lt;have i2:mb<w.heap.size:=HM.out.mc.lt
 have i1:=ae e1.out;have f6:cJ w2 w.heap.size u:=f5.out.but HG.but (by show¬w.heap.size=mb;omega);have f7:cJ w2 (w.heap.size+1) v:=e1.out.but HG.but (by show¬w.heap.size+1=mb;omega);have a0:w2.heap[bl]?=some (.cells #[lv] 280):=HG.lb
 have HL:w2.ownsRow w1.heap.size 168 2 lv (b.locals.map bN).length (aA (b.locals.map bN)):=by
  have:=HG.lo;rw[List.length_map];exact this
 have b2: ∀k,lv.ownBlock=some k→w1.heap.size≤k:=fun k hk=>ay HL k hk
 have nm:lv.ownBlock≠some mb:=fun e=>by have:=b2 _ e;have:=a1.size;omega
 have nf:lv.ownBlock≠some fb:=fun e=>aF HL HG.fr (by decide) e
 have nb:lv.ownBlock≠some bl:=fun e=>aF HL a0 (by decide) e
 have nu:lv.ownBlock≠some w.heap.size:=fun e=>by have:=b2 _ e;omega
 have nv:lv.ownBlock≠some (w.heap.size+1):=fun e=>by have:=b2 _ e;omega
 have i0:2≤(b.locals.map bN).length:=by rw[List.length_map];exact hl2
 clear f3 f5 e1 HG;obtain⟨L0,e3⟩: ∃L0,b.locals.map bN=L0:=⟨_,rfl⟩;rw[e3]at HL i0;have h1:=hid e3;clear e3;obtain⟨y0,y1,_,_,h0⟩:=f6.parts;obtain⟨z0,z1,_,_,f2⟩:=f7.parts;have f4:=hid (And.intro a0 (And.intro z0 z1));clear f6 f7 z0 z1 a0;go_wp2_with fail;have g2:But (fun k=>lv.ownBlock=some k) w2 w2.drew:=But.drew _ _;refine az (But (fun k=>lv.ownBlock=some k) w2) 9 (by kernel_rfl) ?_
 iterate 8 (refine aB (v:=?_) rfl (by kernel_rfl) (fun _ _ _ h=>h) rfl g2 ?_ ?_;rotate_left;(focus (intro wS h;have q0:=((h.cell (p:=⟨mb,4,none⟩) a5 nm).trans c4);have q1:=((h.cell (p:=⟨fb,9,none⟩) a4 nf).trans c9);have q2:=((h.cell (p:=⟨w.heap.size,0,none⟩) h0 nu).trans y0);have q3:=((h.cell (p:=⟨w.heap.size,1,none⟩) h0 nu).trans y1);clear h;go_simp;try rfl));dsimp only[Act.put];try simp only[aR])
 obtain⟨a0,z0,z1⟩:=f4.out;have b4:=ae a0;have g5:But (fun _=>False) w2 w2.drew:=But.drew _ _;have b9:=hid (qk ((g5.block bl b4 nF).trans a0) (ar HL g5 (fun _ _ h=>h)) 0 u (by omega));unfold aJ at b9;clear f4;have HZ:=hid (And.intro a0 (And.intro z0 z1));clear a0 z0 z1;refine ag rfl (by kernel_rfl) ?_;intro KS hKS;go_simp;refine b9.out.mono ?_;rintro en w3 ⟨rfl,h4,h6⟩;have a2:=g2.trans h4;refine hKS.out _ _ (fun _=>a2) ?_;clear hKS KS;refine aD rfl (by kernel_rfl) ?_;obtain⟨a0,z0,z1⟩:=HZ.out;replace c4:=(a2.cell (p:=⟨mb,4,none⟩) a5 nm).trans c4;replace c9:=(a2.cell (p:=⟨fb,9,none⟩) a4 nf).trans c9
 replace z0:=(a2.cell (p:=⟨w.heap.size+1,0,none⟩) f2 nv).trans z0;replace z1:=(a2.cell (p:=⟨w.heap.size+1,1,none⟩) f2 nv).trans z1;have a7:=(a2.block bl b4 nb).trans a0;have e7:=Nat.lt_of_lt_of_le a5 a2.size;have e6:=Nat.lt_of_lt_of_le a4 a2.size;have b3:=Nat.lt_of_lt_of_le f2 a2.size;have e5:=Nat.lt_of_lt_of_le b4 a2.size;have h2:=hid a7;clear y0 y1 b9 HZ a0 a7 HL;go_wp2_with fail;have g3:But (fun k=>lv.ownBlock=some k) w3 w3.drew:=But.drew _ _;refine az (But (fun k=>lv.ownBlock=some k) w3) 9 (by kernel_rfl) ?_
 iterate 8 (refine aB (v:=?_) rfl (by kernel_rfl) (fun _ _ _ h=>h) rfl g3 ?_ ?_;rotate_left;(focus (intro wS h;have q0:=((h.cell (p:=⟨mb,4,none⟩) e7 nm).trans c4);have q1:=((h.cell (p:=⟨fb,9,none⟩) e6 nf).trans c9);have q2:=((h.cell (p:=⟨w.heap.size+1,0,none⟩) b3 nv).trans z0);have q3:=((h.cell (p:=⟨w.heap.size+1,1,none⟩) b3 nv).trans z1);clear h;go_simp;try rfl));dsimp only[Act.put];try simp only[aR])
 have g6:But (fun _=>False) w3 w3.drew:=But.drew _ _;have a9:w3.ownsRow w1.heap.size 168 2 lv (L0.set 0 u).length (aA (L0.set 0 u)):=by rw[List.length_set];exact h6
 have e0:=hid (qk ((g6.block bl e5 nF).trans h2.out) (ar a9 g6 (fun _ _ h=>h)) 1 v (by rw[List.length_set];omega));unfold aJ at e0;clear a9;refine ag rfl (by kernel_rfl) ?_;intro KS hKS;go_simp;refine e0.out.mono ?_;rintro en w4 ⟨rfl,h5,g0⟩;have g4:=g3.trans h5;refine hKS.out _ _ (fun _=>g4) ?_;clear hKS KS;refine aD rfl (by kernel_rfl) ?_;have a3:=a2.trans g4;clear c4 c9 z0 z1 e0;go_wp2_with fail;refine cB (.int .i64 0) Tryz.results142 rfl rfl ⟨rfl,⟨fb,bl,p.1,vl,vi,lv,.slice none 0 0,b,p.2⟩,?_⟩;have hg:=hG.out;have e2:But (· =mb) w w2:=(a1.mono (fun _ _ h=>h.elim)).trans hg.but;have a8:But (· =mb) w w4:=e2.next a3 (fun k hk e=>by have:=b2 k e;have:=a1.size;omega)
 have i3:=a1.size;have h7:T[q]?=some p.2:=by rw[←hTl,List.getElem?_map,hp];rfl
 have h9:=HM.out.wd.old.size
 have g1: ∀k,jl ⟨fb,bl,p.1,vl,vi,lv,.slice none 0 0,b,p.2⟩ k→w.heap.size≤k:=fun k hk=>by
  rcases hk with e|e|e|e
  ·have:=hg.gf;have e:k=fb:=e;omega
  ·have:=hg.gl;have e:k=bl:=e;omega
  ·have:=b2 k e;omega
  ·cases e
 have f0:w4.ownsRow w0.heap.size 168 2 lv (bA b [u,v]).length (aA (bA b [u,v])):=by
  rw[←rV u v hl2,h1.out,List.length_set,List.length_set];rw[List.length_set]at g0;exact World.ownsRow.mono g0 (by omega)
 refine HM.out.step a8 (fun k e=>Or.inl e) (hg.mc.but a3 nm) ⟨⟨hq,h7,hg.fr.but a3 nf,(a3.block bl b4 nb).trans hg.lb,f0,rX _ _,hg.bt,hg.it,hg.tb,fun k _ e=>(by cases e),Nat.le_trans (by omega) hg.gf,Nat.le_trans (by omega) hg.gl⟩,HM.out.fr.but a8 (fun q hq k hk e=>HM.out.off hq (e▸hk)),fun k hk q hq hk'=> ?_⟩ (fun k hk=> ?_)
 ·obtain⟨ca,d,f',h8⟩:=HM.out.fr.mem q hq;have:=h8.lt hk';have:=g1 k hk;omega
 ·rcases hk with e| ⟨q',e8,hk⟩
  ·exact Or.inl (Or.inl e)
  ·rcases List.mem_cons.1 e8 with rfl|e8
   ·exact Or.inr (g1 k hk)
   ·exact Or.inl (Or.inr ⟨q',e8,hk⟩)
end
def d9 (T:bU) (fs:List Fm):List V:=fs.flatMap (cK T)
theorem nW {T:bU} {fs:List Fm} (k:Nat):V.o k∈d9 T fs↔db T fs k:=by
 unfold d9 db;exact List.mem_flatMap
def va (T:bU) (n:Nat) (fs:List Fm):Prop:= ∀f∈fs,(∃st lo,fx T f.q f.pc=some (st,lo))∧f.stk.length≤1000∧f.loc.length≤1000∧(∀t,T[f.q]?=some t→t.length≤100)∧ ∀u∈cK T f,ie n u
theorem nX (T:bU) (f:Fm):(cK T f).length≤f.stk.length+f.loc.length:=by
 unfold cK
 split
 ·rw[List.length_append];have:=fN f.stk (by assumption)
  rename_i s l _
  have h1:=fN f.stk s;have h2:=fN f.loc l;omega
 ·simp
theorem rY {hp:List Ob} {vs:List V} {cs:List bB} (hob:jG cs hp): ∀(n i:Nat) (F:List Nat),qa hp vs i F→hp.length≤i+n→ ∃i' F',qa hp vs i' F'∧F'.length≤i'
 |0,i,F,h,hn=>⟨i,F,h,by have:=iF h;omega⟩
 |n+1,i,F,h,hn=>by
  by_cases hlt:i<F.length
  ·obtain⟨j,hj⟩: ∃j,F[i]?=some j:=⟨_,List.getElem?_eq_getElem hlt⟩;have a0:=h.lt j (List.mem_of_getElem? hj);obtain⟨o,ho⟩: ∃o,hp[j]?=some o:=⟨_,List.getElem?_eq_getElem a0⟩;exact rY hob n (i+1) _ (lN h hj ho (hob o (List.mem_of_getElem? ho)).2.2) (by omega)
  ·exact⟨i,F,h,by omega⟩
theorem pf {hp:List Ob} {vs:List V} {cs:List bB} (hob:jG cs hp) (hv: ∀u∈vs,ie hp.length u) (h4:hp.length≤4000):ck hp (fun k=>V.o k∈vs)≤404000:=by
 obtain⟨i,F,hw,hi⟩:=rY hob hp.length 0 _ (kw hv) (by omega);rw[nE hw hi];have h1:=qj (eK hp) 101 (nU hob) F;have h2:=iF hw;omega
section
variable {w0 w w':World} {im:Img} {T:bU} {mb tx:Nat} {tv:Value} {bw cells:Nat} {ans:Int} {inp:ByteArray} {rs:List Fr} {fs:List Fm} {s:Ev} {vo vb:Value} {gs:List Nat} {fv:List Value} {cn:Int} {sn:Nat→Int}
theorem rZ (h:McQ w0 w im T mb tx tv bw cells ans inp rs fs s vo vb gs fv cn sn) (h4:s.heap.length≤4000) (hcn:cn≤100000) (hfs:va T s.heap.length fs) (h12:fs.length≤12) (cs:List bB) (hn:cs.length≤100) (hT:TxC w0 tx cs) (hob:jG cs s.heap) (c:UInt8) (hc:(bQ cs c).length≤1000):
  Calls Tryz.prog 195 #[.pointer (some ⟨mb,0,none⟩),.int .u8 c.toNat] w fun en w'=>en= .returned (.bool (decide (ck s.heap (db T fs)+(1+(bQ cs c).length)≤cells)))∧But (fun k=>k=bw∨k∈gs) w w'∧ ∃sn',McQ w0 w' im T mb tx tv bw cells ans inp rs fs s vo vb gs fv (cn+1) sn':=by
 have c4:=h.mc.c4;have i0:=h.mc.lt;have HM:=hid h;have f1:=hid hfs;have g5:Hid (∀vs:List V,(∀u∈vs,ie s.heap.length u)→ck s.heap (fun k=>V.o k∈vs)≤404000):=fun vs hv=>pf hob hv h4
 have g7:But (fun _=>False) w (w.alloc (.cells #[] 168)):=But.alloc _ _ _;clear h hfs;obtain⟨cu,e5⟩: ∃cu,ik rs=cu:=⟨_,rfl⟩;rw[e5]at c4;have g3:=hid e5;clear e5;simp only[iH]at c4
 go_in
 go_wp2_with fail
 go_loopg [5,6] fs.length (fun mm vt pv wr=> ∃(ao:Option Addr) (cap:Nat) (b9:List Fr) (a0 a7:List Fm),vt= .slice ao (d9 T a0).length cap∧pv=iH (ik b9)∧a7.length≤mm∧mm≤a7.length∧Hid (fs=a0++a7)∧But (fun _=>False) w wr∧wr.ownsRow w.heap.size 168 2 (.slice ao (d9 T a0).length cap) (d9 T a0).length (aA (d9 T a0))∧Hid (nV w0 w im T b9 a7)∧(d9 T a0).length≤2000*a0.length)
 case atStart=>exact⟨_,0,rs,[],fs,rfl,by rw[g3.out];rfl,by omega,by omega,rfl,g7,tR w,HM.out.fr,by simp[d9]⟩
 case round=>
  obtain⟨ao,cap,b9,a0,a7,rfl,rfl,h1,h2,HE,a2,hO,HF,h9⟩:=hrel
  match b9,a7,HF with
  | [],_::_,HF=>exact HF.out.elim
  |_::_,[],HF=>exact HF.out.elim
  |r::rs2,f::fs2,HF=>
   obtain⟨hF,f4,_⟩:=HF.out;have g4:=hid f4;obtain⟨⟨st,lo,e8⟩,l1,l2,l3,l4⟩:=f1.out f (by rw[HE.out];simp);have f8:=(cm hF.ht).1 e8;have b2:=HM.out.wd.old;have e2:=hid (u9 wr r.fb (fs2.length+1) f.pc r.bl r.sg w0.heap.size (ik rs2) (aN im.sigs r.b) r.vl r.vi r.sv r.lv f.stk f.loc r.tab (hF.fr.but a2 nF) ((hF.tb.off b2 nF (fun _ _ _=>nF)).off a2 nF (fun _ _ _=>nF)) st lo f8 ((a2.block r.bl (ae hF.lb) nF).trans hF.lb) (ar hF.st a2 (fun _ _ h=>h)) (ar hF.lo a2 (fun _ _ h=>h)) (by omega) (by omega) (l3 _ hF.ht));have g1:cK T f=bX f.stk st++bX f.loc lo:=by unfold cK;rw[e8]
   rw[←g1]at e2;have i3:=nX T f;have g0:d9 T (a0++ [f])=d9 T a0++cK T f:=by simp[d9]
   have c0:wr.cell? ⟨r.fb,0,none⟩=some (iH (ik rs2)):=(hF.fr.but a2 nF).c0;have a9:=(hF.fr.but a2 nF).lt;have h8:=hF.fr.lt;have h0:a0.length+(fs2.length+1)=fs.length:=by rw[HE.out];simp
   have e1:=hid g0;have hw:=a2.size;clear hF f4 e8 f8 b2 g1 g0 l3 l4 HF;obtain⟨e3,a6⟩: ∃e3,iH (ik rs2)= .pointer e3:=⟨_,rfl⟩;rw[a6]at c0;have g2:=hid a6;clear a6;simp only[ik,iH,Option.map_some];generalize h7:d9 T a0=A0 at*;generalize cK T f=A1 at*;simp only[List.length_cons]at h1 h2;go_wp2_with fail;refine e2.out.mono ?_;rintro en w1 ⟨a5,v1,rfl,f5⟩;clear e2;have a4:=ar hO a5 (fun _ _ h=>h);have a3:=a2.trans a5;replace c0:=(a5.cell (p:=⟨r.fb,0,none⟩) a9 nF).trans c0;replace a9:=Nat.lt_of_lt_of_le a9 a5.size;go_wp2_with (at_builtin;refine jF rfl _ _ rfl w.heap.size _ _ v1 A0 A1 rfl rfl a4 f5 (by omega) a3.size ?_)
   intro aj cj w2 f6 b4 _;have e4:But (fun _=>False) w w2:=a3.next b4 (fun k hk h=>by have:=ay a4 k h;omega);have h6:w2.cell? ⟨r.fb,0,none⟩=some (.pointer e3):=(b4.cell (p:=⟨r.fb,0,none⟩) a9 (fun h=>by have:=ay a4 r.fb h;omega)).trans c0;replace a9:=Nat.lt_of_lt_of_le a9 b4.size;have f3:=hid f6;clear c0 f6 a4 f5 b4 hO;go_wp2_with fail
   go_roundg fs2.length
   case measure=>omega
   case rel=>exact⟨aj,cj,rs2,a0++ [f],fs2,by rw[e1.out,List.length_append],g2.out.symm,by omega,by omega,hid (by rw[HE.out];simp),e4,by rw[e1.out];first|exact f3.out| (rw[List.length_append];exact f3.out),g4,by rw[e1.out,List.length_append,List.length_append,List.length_singleton];omega⟩
  | [],[],HF=>
   have he:fs=a0:=by rw[HE.out];simp
   have a8:=HM.out.new a2
   have e6: ∀u∈d9 T a0,ie s.heap.length u:=fun u hu=>by
    obtain⟨f,hf,hu⟩:=List.mem_flatMap.1 hu;exact(f1.out f (by rw[he];exact hf)).2.2.2.2 u hu
   have h0:a0.length=fs.length:=by rw[he]
   have b3:=hid (rU a8.wd h4 hcn w.heap.size cap ao (d9 T a0) hO (by omega) e6 cs hn hT hob);have e7:ck s.heap (fun k=>V.o k∈d9 T a0)=ck s.heap (db T fs):=gu (fun k=>by rw[he];exact nW k);rw[e7]at b3;obtain⟨RC,b5⟩: ∃RC,ck s.heap (db T fs)=RC:=⟨_,rfl⟩
   have i2:RC≤404000:=by
    rw[←b5,←e7];exact g5.out _ e6
   rw[b5]at b3;have g6:=hid b5;have k2:=a8.mc.c2;have i1:=a8.mc.lt;have f2:=hid a8;have hK: ∀k,(k=bw∨k∈gs)→FrQ (iI mb rs) w0 k:=fun k hk=>a8.wd.own k (hk.elim Or.inl (fun h=>Or.inr (Or.inr (Or.inr (Or.inl h)))))
   have HK:=hid hK;have f0:=hid (fun(Y:World) (hY:But (fun _=>False) w0 Y)=>mj tx cs c Y hn (hT.but hY) hc);clear a8 e6 e7 b5 hK he;simp only[ik,iH,Option.map_none];generalize (d9 T a0).length=nA at*;go_wp2_with fail;refine b3.out.mono ?_;rintro en w1 ⟨rfl,a5,h5,f7⟩;clear b3 k2;have b0:=hid (f2.out.turn a5 (fun k hk=>(HK.out k hk).2) f7);have a3:But (fun k=>k=bw∨k∈gs) w w1:=(a2.mono (fun _ _ h=>h.elim)).trans a5;have k0:=b0.out.mc.c0;have k3:=b0.out.mc.c3;have b1:=b0.out.mc.lt;have e0:=hid b0.out.wd.old;clear f2 a5 f7 hO;generalize h3:(bQ cs c).length=nc at*;have i4:=bH ((RC:Int)+(1+(nc:Int))) (by omega) (by omega)
   go_wp2_with fail;have a1:But (fun _=>False) w1 w1.drew:=But.drew _ _;refine jN (But (fun _=>False) w1) 14 (by kernel_rfl) ?_;have fSA:=hid (fun wS (h:(But (fun _=>False) w1) wS)=>(And.intro ((h.cell (p:=⟨mb,0,none⟩) b1 nF).trans k0) ((h.cell (p:=⟨mb,3,none⟩) b1 nF).trans k3)));refine bn (k:=0) (v:= ?vA0) rfl (by decide) (by kernel_rfl) (fun _ _ _ h=>h) rfl a1 ?yA0 ?rA0
   case yA0=>intro wS h;obtain⟨q0,q1⟩:=fSA.out wS h;clear h;go_simp;try rfl
   dsimp only[Act.put]
   try simp only[aR]
   refine bn (k:=1) (v:= ?vA1) rfl (by decide) (by kernel_rfl) (fun _ _ _ h=>h) rfl a1 ?yA1 ?rA1
   case yA1=>intro wS h;obtain⟨q0,q1⟩:=fSA.out wS h;clear h;go_simp;try rfl
   dsimp only[Act.put]
   try simp only[aR]
   refine bn (k:=2) (v:= ?vA2) rfl (by decide) (by kernel_rfl) (fun _ _ _ h=>h) rfl a1 ?yA2 ?rA2
   case yA2=>intro wS h;obtain⟨q0,q1⟩:=fSA.out wS h;clear h;go_simp;try rfl
   dsimp only[Act.put]
   try simp only[aR]
   refine bn (k:=3) (v:= ?vA3) rfl (by decide) (by kernel_rfl) (fun _ _ _ h=>h) rfl a1 ?yA3 ?rA3
   case yA3=>intro wS h;obtain⟨q0,q1⟩:=fSA.out wS h;clear h;go_simp;try rfl
   dsimp only[Act.put]
   try simp only[aR]
   refine bn (k:=4) (v:= ?vA4) rfl (by decide) (by kernel_rfl) (fun _ _ _ h=>h) rfl a1 ?yA4 ?rA4
   case yA4=>intro wS h;obtain⟨q0,q1⟩:=fSA.out wS h;clear h;go_simp;try rfl
   dsimp only[Act.put]
   try simp only[aR]
   refine bn (k:=5) (v:= ?vA5) rfl (by decide) (by kernel_rfl) (fun _ _ _ h=>h) rfl a1 ?yA5 ?rA5
   case yA5=>intro wS h;obtain⟨q0,q1⟩:=fSA.out wS h;clear h;go_simp;try rfl
   dsimp only[Act.put]
   try simp only[aR]
   refine bn (k:=8) (v:= ?vA8) rfl (by decide) (by kernel_rfl) (fun _ _ _ h=>h) rfl a1 ?yA8 ?rA8
   case yA8=>intro wS h;obtain⟨q0,q1⟩:=fSA.out wS h;clear h;go_simp;try rfl
   dsimp only[Act.put]
   try simp only[aR]
   refine bn (k:=9) (v:= ?vA9) rfl (by decide) (by kernel_rfl) (fun _ _ _ h=>h) rfl a1 ?yA9 ?rA9
   case yA9=>intro wS h;obtain⟨q0,q1⟩:=fSA.out wS h;clear h;go_simp;try rfl
   dsimp only[Act.put]
   try simp only[aR]
   refine bn (k:=10) (v:= ?vA10) rfl (by decide) (by kernel_rfl) (fun _ _ _ h=>h) rfl a1 ?yA10 ?rA10
   case yA10=>intro wS h;obtain⟨q0,q1⟩:=fSA.out wS h;clear h;go_simp;try rfl
   dsimp only[Act.put]
   try simp only[aR]
   refine bn (k:=11) (v:= ?vA11) rfl (by decide) (by kernel_rfl) (fun _ _ _ h=>h) rfl a1 ?yA11 ?rA11
   case yA11=>intro wS h;obtain⟨q0,q1⟩:=fSA.out wS h;clear h;go_simp;try rfl
   dsimp only[Act.put]
   try simp only[aR]
   try clear fSA
   refine cF (k:=6) rfl (by decide) (by kernel_rfl) ?_;intro KS hKS;go_simp;refine(f0.out _ (e0.out.trans a1)).mono ?_;rintro en wx ⟨rfl,rfl⟩;refine hKS.out _ _ (fun _=>a1) ?_;clear hKS KS;refine cF (k:=7) rfl (by decide) (by kernel_rfl) ?_;intro KS hKS;go_simp;refine hKS.out _ _ (fun _=>a1) ?_;clear hKS KS;refine cF (k:=12) rfl (by decide) (by kernel_rfl) ?_;intro KS hKS;go_simp;refine hKS.out _ _ (fun _=>a1) ?_;clear hKS KS;refine cF (k:=13) rfl (by decide) (by kernel_rfl) ?_;intro KS hKS;go_simp;refine hKS.out _ _ (fun _=>a1) ?_;clear hKS KS;refine kG rfl (by kernel_rfl) ?_;clear k0 k3 f0;go_wp2_with fail
   refine cB (.bool (decide ((RC:Int)+(1+(nc:Int))≤(cells:Int)))) Tryz.results195 rfl rfl ⟨?_,a3.trans ((But.drew _ _)),h5,b0.out.new (But.drew _ _)⟩;rw[g6.out,h3]
   congr 2
   exact decide_eq_decide.2 (by omega)
end
structure PsW (w W:World) (x:XIt) (u1 u2:V):Prop where
 but:But (fun _=>False) w W
 nb:NB w W
 b0:W.heap[w.heap.size]?=some (.cells #[.int .i64 x.place,.int .u8 x.op.toNat,.int .u8 x.cls.toNat,.int .i64 x.num,.slice x.pa x.pn x.pc] 219)
 b1:cJ W (w.heap.size+1) u1
 b2:cJ W (w.heap.size+1+1) u2
 sz:W.heap.size=w.heap.size+1+1+1
theorem psW (w:World) (x:XIt) (u1 u2:V):PsW w (((w.alloc (.cells #[.int .i64 x.place,.int .u8 x.op.toNat,.int .u8 x.cls.toNat,.int .i64 x.num,.slice x.pa x.pn x.pc] 219)).alloc (.cells #[.int .i32 (xN u1),.int .i64 (xO u1)] 168)).alloc (.cells #[.int .i32 (xN u2),.int .i64 (xO u2)] 168)) x u1 u2:=by
 refine⟨((But.alloc _ _ _).trans (But.alloc _ _ _)).trans (But.alloc _ _ _),(((NB.refl w).alloc (by decide)).alloc (by decide)).alloc (by decide),?_,?_,aw (by simp) _,by simp⟩
 ·exact(((But.alloc (fun _=>False) _ _).trans (But.alloc _ _ _)).block _ (by simp) nF).trans (heap_alloc_new w _)
 ·exact((But.alloc (fun _=>False) _ _).block _ (by simp) nF).trans (aw (by simp) _)
section
variable {w0 w w':World} {im:Img} {T:bU} {mb tx:Nat} {tv:Value} {bw cells:Nat} {ans:Int} {inp:ByteArray} {r:Fr} {rs:List Fr} {f:Fm} {fs:List Fm} {s:Ev} {vo vb:Value} {gs:List Nat} {fv:List Value} {cn:Int} {sn:Nat→Int}
theorem McQ.pushed (h:McQ w0 w im T mb tx tv bw cells ans inp (r::rs) (f::fs) s vo vb gs fv cn sn) {sv':Value} {pc':Nat} {stk':List V} (hB:But (fun k=>k=r.fb∨r.sv.ownBlock=some k) w w')
  (hf:FbB w' r.fb (ik rs) (fs.length+1) (aN im.sigs r.b) r.vl r.vi (.slice (some ⟨r.sg,0,none⟩) r.tab.length r.tab.length) pc' r.bl sv') (ho:w'.ownsRow w0.heap.size 168 2 sv' stk'.length (aA stk')) (hs:sv'.ownBlock=r.sv.ownBlock∨ ∃k,sv'.ownBlock=some k∧w.heap.size≤k):
  McQ w0 w' im T mb tx tv bw cells ans inp ({r with sv:=sv'}::rs) ({f with pc:=pc',stk:=stk'}::fs) s vo vb gs fv cn sn:=by
 obtain⟨hF,a0,a1⟩:=h.fr
 have hO: ∀k,jl {r with sv:=sv'} k→jl r k∨w.heap.size≤k:=fun k hk=>by
  rcases hk with e|e|e|e
  ·exact Or.inl (Or.inl e)
  ·exact Or.inl (Or.inr (Or.inl e))
  ·exact Or.inl (Or.inr (Or.inr (Or.inl e)))
  ·rcases hs with h1| ⟨j,h1,h2⟩
   ·exact Or.inl (Or.inr (Or.inr (Or.inr (h1▸e))))
   ·have e:sv'.ownBlock=some k:=e;rw[h1]at e
    cases e
    exact Or.inr h2
 have hR: ∀k,(k=r.fb∨r.sv.ownBlock=some k)→jl r k:=fun k hk=>hk.elim Or.inl (fun e=>Or.inr (Or.inr (Or.inr e)))
 have a3: ¬(mb=r.fb∨r.sv.ownBlock=some mb):=fun e=>h.off (List.mem_cons_self ..) (hR mb e)
 have a5: ∀k,r.lv.ownBlock=some k→ ¬(k=r.fb∨r.sv.ownBlock=some k):=fun k hk e=>by
  rcases e with e|e
  ·exact aF hF.lo hF.fr (by decide) (e▸hk)
  ·exact hF.ap k hk e
 have a4: ¬(r.bl=r.fb∨r.sv.ownBlock=some r.bl):=fun e=>by
  rcases e with e|e
  ·exact cr hF.lb hF.fr (by decide) e
  ·exact aF hF.st hF.lb (by decide) e
 refine h.step hB (fun k hk=>Or.inr ⟨r,List.mem_cons_self ..,hR k hk⟩) (h.mc.but hB a3) ⟨⟨hF.hb,hF.ht,hf,(hB.block r.bl (ae hF.lb) a4).trans hF.lb,ar hF.lo hB a5,ho,hF.bt,hF.it,hF.tb,fun k hk e=> ?_,hF.g1,hF.g2⟩,a0.but hB (fun q hq k hk e=>a1 k (hR k e) q hq hk),fun k hk q hq hk'=> ?_⟩ (fun k hk=> ?_)
 ·have hk:r.lv.ownBlock=some k:=hk;rcases hs with h1| ⟨j,h1,h2⟩
  ·exact hF.ap k hk (h1▸e)
  ·have e:sv'.ownBlock=some k:=e;rw[h1]at e
   cases e
   have:=aU hF.lo _ hk;omega
 ·rcases hO k hk with h1|h1
  ·exact a1 k h1 q hq hk'
  ·obtain⟨ca,d,f',a2⟩:=a0.mem q hq;have:=a2.lt hk';omega
 ·rcases hk with e| ⟨q,hq,hk⟩
  ·exact Or.inl (Or.inl e)
  ·rcases List.mem_cons.1 hq with rfl|hq
   ·rcases hO k hk with h1|h1
    ·exact Or.inl (Or.inr ⟨r,List.mem_cons_self ..,h1⟩)
    ·exact Or.inr h1
   ·exact Or.inl (Or.inr ⟨q,List.mem_cons_of_mem _ hq,hk⟩)
theorem McQ.setL (h:McQ w0 w im T mb tx tv bw cells ans inp (r::rs) (f::fs) s vo vb gs fv cn sn) {l':List V} (hB:But (fun k=>r.lv.ownBlock=some k) w w') (ho:w'.ownsRow w0.heap.size 168 2 r.lv l'.length (aA l')):
  McQ w0 w' im T mb tx tv bw cells ans inp (r::rs) ({f with loc:=l'}::fs) s vo vb gs fv cn sn:=by
 obtain⟨hF,a1,a0⟩:=h.fr;have hR: ∀k,r.lv.ownBlock=some k→jl r k:=fun k e=>Or.inr (Or.inr (Or.inl e))
 have nf:r.lv.ownBlock≠some r.fb:=fun e=>aF hF.lo hF.fr (by decide) e
 have nb:r.lv.ownBlock≠some r.bl:=fun e=>aF hF.lo hF.lb (by decide) e
 exact h.step hB (fun k hk=>Or.inr ⟨r,List.mem_cons_self ..,hR k hk⟩) (h.mc.but hB (fun e=>h.off (List.mem_cons_self ..) (hR mb e))) ⟨⟨hF.hb,hF.ht,hF.fr.but hB nf,(hB.block r.bl (ae hF.lb) nb).trans hF.lb,ho,ar hF.st hB (fun k hk e=>hF.ap k e hk),hF.bt,hF.it,hF.tb,hF.ap,hF.g1,hF.g2⟩,a1.but hB (fun q hq k hk e=>a0 k (hR k e) q hq hk),a0⟩ (fun k hk=>Or.inl hk)
theorem zx (h:McQ w0 w im T mb tx tv bw cells ans inp (r::rs) (f::fs) s vo vb gs fv cn sn) (hT:dk w0 tx im) (hcl:(im.classes.map toX).length≤100) (hsg:im.sigs.length≤100) (h4:f.stk.length≤4000) (hpc:f.pc≤1000) (x:XIt) (u1 u2 u:V) (hx:x.op.toNat=108) (hu:f.loc[x.num]?=some u) (hly:(aI (im.classes.map toX) im.sigs x.op x.cls x.num (aN im.sigs r.b).locals).toNat≠0):
  Calls Tryz.prog 145 #[.pointer (some ⟨mb,0,none⟩),.pointer (some ⟨r.fb,0,none⟩),ek x,aJ u1,aJ u2] w fun en w'=>en= .returned (.int .i64 0)∧ ∃r',McQ w0 w' im T mb tx tv bw cells ans inp (r'::rs) ({f with pc:=f.pc+1,stk:=f.stk++ [u]}::fs) s vo vb gs fv cn sn:=by
 obtain⟨al,capl,e8⟩:=au h.fr.1.bt;have h2:BtB w0 0 (.slice al (aN im.sigs r.b).locals.length capl) (aN im.sigs r.b).locals:=e8▸h.fr.1.bt;have f1:=hid (fun(Y:World) (hY:But (fun _=>False) w0 Y)=>gD tx (im.classes.map toX) im.sigs x.place x.num x.op x.cls al capl (aN im.sigs r.b).locals Y (ap:=x.pa) (np:=x.pn) (cp:=x.pc) hcl hsg (hT.cls.but hY) (hT.met.but hY) (h2.but hY (fun _ _ h=>h)));obtain⟨LY,h3⟩: ∃LY,aI (im.classes.map toX) im.sigs x.op x.cls x.num (aN im.sigs r.b).locals=LY:=⟨_,rfl⟩;rw[h3]at f1 hly;have i4:=hid e8;clear h2 h3 e8;have HP:=hid (psW w x u1 u2);have h5:(x.op.toNat:Int)=108:=by omega
 rw[h5]at HP f1;have e4:=h.fr.1.fr.c9;have g2:=h.fr.1.fr.lt;have HG:=hid (fun(Y:World) (hY:But (fun _=>False) w Y)=>yt ((hY.block r.bl (ae h.fr.1.lb) nF).trans h.fr.1.lb) (ar h.fr.1.lo hY (fun _ _ h=>h)) x.num u hu);have HM:=hid h;clear h hu;simp only[ek,aJ]
 go_in
 go_wp2_with fail;revert HP;generalize (((w.alloc (.cells #[.int .i64 x.place,.int .u8 108,.int .u8 x.cls.toNat,.int .i64 x.num,.slice x.pa x.pn x.pc] 219)).alloc (.cells #[.int .i32 (xN u1),.int .i64 (xO u1)] 168)).alloc (.cells #[.int .i32 (xN u2),.int .i64 (xO u2)] 168))=W0;intro HP;obtain⟨rb,b5⟩: ∃rb,rb=w.heap.size+1+1+1:=⟨_,rfl⟩;have hP:=HP.out;have a9:But (fun _=>False) w (W0.alloc (.cells #[.int .i32 0,.int .i64 0] 168)):=hP.but.trans (But.alloc _ _ _);have b3:=((But.alloc (fun _=>False) W0 (.cells #[.int .i32 0,.int .i64 0] 168)).block w.heap.size (ae hP.b0) nF).trans hP.b0;have f5:cJ (W0.alloc (.cells #[.int .i32 0,.int .i64 0] 168)) rb .z:=aw (by rw[hP.sz,b5]) _
 rw[←b5];rw[h5]at b3;revert a9 b3 f5;generalize (W0.alloc (.cells #[.int .i32 0,.int .i64 0] 168))=W1;intro a9 b3 f5;clear hP HP;have j0:w.heap.size+1≤rb:=by omega
 have i2:Hid (r.sv.ownBlock≠some rb):=fun e=>by have:=aU HM.out.fr.1.st _ e;omega
 clear b5;have b9:=(a9.cell (p:=⟨r.fb,9,none⟩) g2 nF).trans e4;obtain⟨_,_,_,i3,_⟩:=bC b3;have g3:=ae b3;have e5:=Nat.lt_of_lt_of_le g2 a9.size;have a1:But (fun _=>False) W1 W1.drew:=But.drew _ _;refine az (But (fun _=>False) W1) 7 (by kernel_rfl) ?_
 iterate 6 (refine aB (v:=?_) rfl (by kernel_rfl) (fun _ _ _ h=>h) rfl a1 ?_ ?_;rotate_left;(focus (intro wS h;have q0:=((h.cell (p:=⟨r.fb,9,none⟩) e5 nF).trans b9);have q1:=((h.cell (p:=⟨w.heap.size,3,none⟩) g3 nF).trans i3);clear h;go_simp;try rfl));dsimp only[Act.put];try simp only[aR])
 refine ag rfl (by kernel_rfl) ?_;intro KS hKS;go_simp;refine(HG.out _ (a9.trans a1)).mono ?_;rintro en w2 ⟨rfl,h1⟩;have e2:=a1.trans h1;refine hKS.out _ _ (fun _=>e2) ?_;clear hKS KS;have g1:=f5.but e2 nF;have f8:=(e2.block w.heap.size g3 nF).trans b3;obtain⟨v0,v1,z0,z1,e8⟩:=g1.parts;simp only[xN,xO]at v0 v1;simp only[aJ];refine ag rfl (by kernel_rfl) ?_;intro KS hKS;go_simp;refine hKS.out _ _ nofun ?_;clear hKS KS;refine aD rfl (by kernel_rfl) ?_;have a5:But (· =rb) w2 ((w2.setCell ⟨rb,0,none⟩ (.int .i32 (xN u))).setCell ⟨rb,1,none⟩ (.int .i64 (xO u))):=(But.setB _ _ _ _).trans (But.setB _ _ _ _)
 have a6:=hid (HM.out.new ((a9.trans e2).next a5 (fun k hk e=>by have e:k=rb:=e;omega)));have e1:=hid ((a5.block w.heap.size (ae f8) (by show¬w.heap.size=rb;omega)).trans f8);have f2:=hid (g1.put u);clear v0 v1 z0 z1 e8 g1 f8 a5 e2 h1 a1 b9 i3 g3 e5 f5 b3 a9 HG HM e4 g2;revert a6 e1 f2;generalize ((w2.setCell ⟨rb,0,none⟩ (.int .i32 (xN u))).setCell ⟨rb,1,none⟩ (.int .i64 (xO u)))=W2;intro a6 e1 f2;have m0:=a6.out.mc.c0;have c5:=a6.out.fr.1.fr.body.2.2.2.1;rw[i4.out]at c5;have e7:=a6.out.mc.lt;have e6:=a6.out.fr.1.fr.lt;have a0:=ae e1.out;obtain⟨h6,h7,h8,h9,i1⟩:=bC e1.out;generalize (aN im.sigs r.b).locals.length=nL at*
 go_wp2_with fail;have a1:But (fun _=>False) W2 W2.drew:=But.drew _ _;refine az (But (fun _=>False) W2) 12 (by kernel_rfl) ?_
 iterate 10 (refine aB (v:=?_) rfl (by kernel_rfl) (fun _ _ _ h=>h) rfl a1 ?_ ?_;rotate_left;(focus (intro wS h;have q0:=((h.cell (p:=⟨mb,0,none⟩) e7 nF).trans m0);have q1:=((h.cell (p:=⟨r.fb,5,none⟩) e6 nF).trans c5);have q2:=((h.cell (p:=⟨w.heap.size,0,none⟩) a0 nF).trans h6);have q3:=((h.cell (p:=⟨w.heap.size,1,none⟩) a0 nF).trans h7);have q4:=((h.cell (p:=⟨w.heap.size,2,none⟩) a0 nF).trans h8);have q5:=((h.cell (p:=⟨w.heap.size,3,none⟩) a0 nF).trans h9);have q6:=((h.cell (p:=⟨w.heap.size,4,none⟩) a0 nF).trans i1);clear h;go_simp;try rfl));dsimp only[Act.put];try simp only[aR])
 clear m0 c5 h6 h7 h8 h9 i1;refine ag rfl (by kernel_rfl) ?_;intro KS hKS;go_simp;refine(f1.out _ (a6.out.wd.old.trans a1)).mono ?_;rintro en w3 ⟨rfl,a5⟩;have e3:=a1.trans a5;refine hKS.out _ _ (fun _=>e3) ?_;clear hKS KS;refine ag rfl (by kernel_rfl) ?_;intro KS hKS;go_simp;refine hKS.out _ _ (fun _=>e3) ?_;clear hKS KS;refine aD rfl (by kernel_rfl) ?_;have a4:=hid (a6.out.new e3);have g7:=hid (f2.out.but e3 nF);clear a6 f2 e1 f1 e3 a1 a5 e7 e6 a0;have j7:(LY.toNat:Int)≠0:=by omega
 obtain⟨i0,i7,j2,j3,j4⟩:=info_parts gR;obtain⟨a2,a7,g4⟩:=au a4.out.fr.1.st;have g0:=a4.out.fr.1.st;have f3:=a4.out.fr.1.fr.c10;have h0:=a4.out.fr.1.fr.fz 10;have ac:r.sv.ownBlock≠some r.fb:=fun e=>aF a4.out.fr.1.st a4.out.fr.1.fr (by decide) e
 rw[g4]at g0 f3 ac;have f6:=hid g4;clear g4;have b4:=a4.out.fr.1.fr.lt;obtain⟨v0,v1,_,_,f0⟩:=g7.out.parts;have j1:=j0;have av:(Value.slice a2 f.stk.length a7).ownBlock≠some rb:=fun e=>i2.out (f6.out▸e)
 have j5:w0.heap.size≤w3.heap.size:=a4.out.wd.old.size;go_wp2_with fail;have a1:But (fun k=>(Value.slice a2 f.stk.length a7).ownBlock=some k) w3 w3.drew:=But.drew _ _;refine az (But (fun k=>(Value.slice a2 f.stk.length a7).ownBlock=some k) w3) 8 (by kernel_rfl) ?_
 iterate 6 (refine aB (v:=?_) rfl (by kernel_rfl) (fun _ _ _ h=>h) rfl a1 ?_ ?_;rotate_left;(focus (intro wS h;have q0:=((h.cell (p:=⟨r.fb,10,none⟩) b4 ac).trans f3);have q1:=((h.cell (p:=⟨rb,0,none⟩) f0 av).trans v0);have q2:=((h.cell (p:=⟨rb,1,none⟩) f0 av).trans v1);clear h;go_simp;try rfl));dsimp only[Act.put];try simp only[aR])
 refine ag rfl (by kernel_rfl) ?_;intro KS hKS;go_simp;refine hKS.out _ _ (fun _=>(But.alloc _ _ _).trans (But.drew _ _)) ?_;clear hKS KS;refine ag rfl (by kernel_rfl) ?_;intro KS hKS
 refine step_append_lies _ (by rfl) _ _ _ (by rfl) w0.heap.size 168 i0 _ 2 16 (by kernel_rfl) i7 j2 j3 j4 rfl (by omega) _ f.stk.length (aA f.stk) (by rfl) ((g0.alloc _).drew)
    ⟨w3.heap.size,0,none⟩ 1 1 [.int .i32 (xN u),.int .i64 (xO u)] (by rfl) (by rfl) (World.news_of_block (cs:=#[.int .i32 (xN u),.int .i64 (xO u)]) (t:=168) (fr:=(0,0)) (heap_alloc_new w3 _)) (by simp[Value.oneCell'])
    (by omega) (by unfold maxLen;omega) (by omega) (by simp;omega) (w3.heap.size+1) (by simp) ?_
 intro gg cap3 w4 a3 a8 i5 i9;have e0:But (fun k=>(Value.slice a2 f.stk.length a7).ownBlock=some k) w3 w4:=((But.alloc _ _ _).trans (But.drew _ _)).trans (aQ a8);refine hKS.out _ _ (fun _=>e0) ?_;clear hKS KS;have y0:=(e0.cell (p:=⟨r.fb,10,none⟩) b4 ac).trans f3;have y1:=(e0.frozen (p:=⟨r.fb,10,none⟩) b4 ac).trans h0;refine ag rfl (by kernel_rfl) ?_;intro KS hKS;go_simp;refine hKS.out _ _ nofun ?_;clear hKS KS;refine ag rfl (by kernel_rfl) ?_;intro KS hKS;go_simp;refine hKS.out _ _ nofun ?_;clear hKS KS;refine ag rfl (by kernel_rfl) ?_;intro KS hKS;go_simp;refine hKS.out _ _ nofun ?_;clear hKS KS
 refine aD rfl (by kernel_rfl) ?_;have b2:=a4.out.fr.1.fr.but e0 ac;have b1:=b2.set10 (.slice (some ⟨gg,0,none⟩) (f.stk.length+1) cap3);have f4:=ar a3 (But.setB w4 r.fb 10 (.slice (some ⟨gg,0,none⟩) (f.stk.length+1) cap3)) (fun g hg e=>aF a3 b2 (by decide) (e▸hg));have a5:But (fun k=>k=r.fb∨r.sv.ownBlock=some k) w3 (w4.setCell ⟨r.fb,10,none⟩ (.slice (some ⟨gg,0,none⟩) (f.stk.length+1) cap3)):=(e0.mono (fun k _ h=>Or.inr (by rw[f6.out];exact h))).trans ((But.setB _ _ _ _).mono (fun _ _ h=>Or.inl h));clear y0 y1 a3 a8 e0 b2 g0 f3 h0 v0 v1 g7;revert b1 f4 a5;generalize (w4.setCell ⟨r.fb,10,none⟩ (.slice (some ⟨gg,0,none⟩) (f.stk.length+1) cap3))=W3
 intro b1 f4 a5;have c8:=b1.c8;have z8:=b1.fz 8;have g5:=hid b1;have g6:=hid f4;have k0:=bH ((f.pc:Int)+1) (by omega) (by omega);have i6:=b1.lt;clear b1 f4;go_wp2_with fail;have f7:=a4.out.pushed (stk':=f.stk++ [u]) (a5.trans ((But.setB _ _ _ _).mono (fun _ _ h=>Or.inl h))) (g5.out.set8 (f.pc+1)) (by rw[d8,List.length_append];exact ar g6.out (But.setB _ _ _ _) (fun g hg e=>aF g6.out g5.out (by decide) (e▸hg))) (i5.imp (fun h=>by rw[f6.out];exact h.symm) (fun h=>⟨gg,rfl,by omega⟩));exact cB (.int .i64 0) Tryz.results145 rfl rfl ⟨rfl,_,f7⟩
theorem zy (h:McQ w0 w im T mb tx tv bw cells ans inp (r::rs) (f::fs) s vo vb gs fv cn sn) (hT:dk w0 tx im) (hcl:(im.classes.map toX).length≤100) (hsg:im.sigs.length≤100) (h4:f.stk.length≤4000) (hpc:f.pc≤1000) (x:XIt) (u1 u2:V) (hx:x.op.toNat=115) (hu:x.num<f.loc.length) (hly:(aI (im.classes.map toX) im.sigs x.op x.cls x.num (aN im.sigs r.b).locals).toNat=0):
  Calls Tryz.prog 145 #[.pointer (some ⟨mb,0,none⟩),.pointer (some ⟨r.fb,0,none⟩),ek x,aJ u1,aJ u2] w fun en w'=>en= .returned (.int .i64 0)∧ ∃r',McQ w0 w' im T mb tx tv bw cells ans inp (r'::rs) ({f with pc:=f.pc+1,loc:=f.loc.set x.num u1}::fs) s vo vb gs fv cn sn:=by
 obtain⟨al,capl,e8⟩:=au h.fr.1.bt;have f3:BtB w0 0 (.slice al (aN im.sigs r.b).locals.length capl) (aN im.sigs r.b).locals:=e8▸h.fr.1.bt;have b4:=hid (fun(Y:World) (hY:But (fun _=>False) w0 Y)=>gD tx (im.classes.map toX) im.sigs x.place x.num x.op x.cls al capl (aN im.sigs r.b).locals Y (ap:=x.pa) (np:=x.pn) (cp:=x.pc) hcl hsg (hT.cls.but hY) (hT.met.but hY) (f3.but hY (fun _ _ h=>h)));obtain⟨LY,f5⟩: ∃LY,aI (im.classes.map toX) im.sigs x.op x.cls x.num (aN im.sigs r.b).locals=LY:=⟨_,rfl⟩;rw[f5]at b4 hly;have g3:=hid e8;clear f3 f5 e8;have HP:=hid (psW w x u1 u2);have f6:(x.op.toNat:Int)=115:=by omega
 rw[f6]at HP b4;have a8:=h.fr.1.fr.c9;have e5:=h.fr.1.fr.lt;have HG:=hid (fun(Y:World) (hY:But (fun _=>False) w Y)=>qk ((hY.block r.bl (ae h.fr.1.lb) nF).trans h.fr.1.lb) (ar h.fr.1.lo hY (fun _ _ h=>h)) x.num u1 hu);unfold aJ at HG;have nf:r.lv.ownBlock≠some r.fb:=fun e=>aF h.fr.1.lo h.fr.1.fr (by decide) e
 have e7: ∀k,r.lv.ownBlock=some k→k<w.heap.size:=fun k hk=>aU h.fr.1.lo k hk
 have HM:=hid h;clear h hu;simp only[ek,aJ]
 go_in
 go_wp2_with fail;revert HP;generalize (((w.alloc (.cells #[.int .i64 x.place,.int .u8 115,.int .u8 x.cls.toNat,.int .i64 x.num,.slice x.pa x.pn x.pc] 219)).alloc (.cells #[.int .i32 (xN u1),.int .i64 (xO u1)] 168)).alloc (.cells #[.int .i32 (xN u2),.int .i64 (xO u2)] 168))=W0;intro HP;obtain⟨rb,a6⟩: ∃rb,rb=w.heap.size+1+1+1:=⟨_,rfl⟩;have hP:=HP.out;have a4:But (fun _=>False) w (W0.alloc (.cells #[.int .i32 0,.int .i64 0] 168)):=hP.but.trans (But.alloc _ _ _);have a5:=((But.alloc (fun _=>False) W0 (.cells #[.int .i32 0,.int .i64 0] 168)).block w.heap.size (ae hP.b0) nF).trans hP.b0;have e1:cJ (W0.alloc (.cells #[.int .i32 0,.int .i64 0] 168)) rb .z:=aw (by rw[hP.sz,a6]) _
 rw[←a6];rw[f6]at a5;have e0:=hP.b1.but (But.alloc (fun _=>False) W0 (.cells #[.int .i32 0,.int .i64 0] 168)) nF;revert a4 a5 e1 e0;generalize (W0.alloc (.cells #[.int .i32 0,.int .i64 0] 168))=W1;intro a4 a5 e1 e0;clear hP HP;have h0:w.heap.size+1≤rb:=by omega
 have g5:Hid (r.sv.ownBlock≠some rb):=fun e=>by have:=aU HM.out.fr.1.st _ e;omega
 clear a6;have b9:=(a4.cell (p:=⟨r.fb,9,none⟩) e5 nF).trans a8;obtain⟨_,_,_,i3,_⟩:=bC a5;have e6:=ae a5;have a9:=Nat.lt_of_lt_of_le e5 a4.size;obtain⟨y0,y1,_,_,f0⟩:=e0.parts;have ni:r.lv.ownBlock≠some w.heap.size:=fun e=>by have:=e7 _ e;omega
 have nu:r.lv.ownBlock≠some (w.heap.size+1):=fun e=>by have:=e7 _ e;omega
 have nr:r.lv.ownBlock≠some rb:=fun e=>by have:=e7 _ e;omega
 have hd:But (fun _=>False) W1 W1.drew:=But.drew _ _;have a2:But (fun k=>r.lv.ownBlock=some k) W1 W1.drew:=But.drew _ _;refine az (But (fun k=>r.lv.ownBlock=some k) W1) 8 (by kernel_rfl) ?_
 iterate 7 (refine aB (v:=?_) rfl (by kernel_rfl) (fun _ _ _ h=>h) rfl a2 ?_ ?_;rotate_left;(focus (intro wS h;have q0:=((h.cell (p:=⟨r.fb,9,none⟩) a9 nf).trans b9);have q1:=((h.cell (p:=⟨w.heap.size,3,none⟩) e6 ni).trans i3);have q2:=((h.cell (p:=⟨w.heap.size+1,0,none⟩) f0 nu).trans y0);have q3:=((h.cell (p:=⟨w.heap.size+1,1,none⟩) f0 nu).trans y1);clear h;go_simp;try rfl));dsimp only[Act.put];try simp only[aR])
 refine ag rfl (by kernel_rfl) ?_;intro KS hKS;go_simp;refine(HG.out _ (a4.trans hd)).mono ?_;rintro en W2 ⟨rfl,e3,f4⟩;have b5:=a2.trans e3;refine hKS.out _ _ (fun _=>b5) ?_;clear hKS KS;refine aD rfl (by kernel_rfl) ?_;have a3:=hid ((HM.out.new (a4.trans hd)).setL (l':=f.loc.set x.num u1) e3 (by rw[List.length_set];exact f4));have e2:=hid ((b5.block w.heap.size e6 ni).trans a5);have f1:=hid (e1.but b5 nr);clear b5 e3 a2 b9 i3 e6 a9 e1 a5 a4 HG HM a8 e5 y0 y1 f0 e0 f4 hd;have m0:=a3.out.mc.c0;have c5:=a3.out.fr.1.fr.body.2.2.2.1;rw[g3.out]at c5;have b3:=a3.out.mc.lt;have b2:=a3.out.fr.1.fr.lt;have a0:=ae e2.out
 obtain⟨f7,f8,g0,g1,g2⟩:=bC e2.out;generalize (aN im.sigs r.b).locals.length=nL at*;go_wp2_with fail;have a2:But (fun _=>False) W2 W2.drew:=But.drew _ _;refine az (But (fun _=>False) W2) 12 (by kernel_rfl) ?_
 iterate 10 (refine aB (v:=?_) rfl (by kernel_rfl) (fun _ _ _ h=>h) rfl a2 ?_ ?_;rotate_left;(focus (intro wS h;have q0:=((h.cell (p:=⟨mb,0,none⟩) b3 nF).trans m0);have q1:=((h.cell (p:=⟨r.fb,5,none⟩) b2 nF).trans c5);have q2:=((h.cell (p:=⟨w.heap.size,0,none⟩) a0 nF).trans f7);have q3:=((h.cell (p:=⟨w.heap.size,1,none⟩) a0 nF).trans f8);have q4:=((h.cell (p:=⟨w.heap.size,2,none⟩) a0 nF).trans g0);have q5:=((h.cell (p:=⟨w.heap.size,3,none⟩) a0 nF).trans g1);have q6:=((h.cell (p:=⟨w.heap.size,4,none⟩) a0 nF).trans g2);clear h;go_simp;try rfl));dsimp only[Act.put];try simp only[aR])
 clear m0 c5 f7 f8 g0 g1 g2;refine ag rfl (by kernel_rfl) ?_;intro KS hKS;go_simp;refine(b4.out _ (a3.out.wd.old.trans a2)).mono ?_;rintro en w3 ⟨rfl,f2⟩;have a7:=a2.trans f2;refine hKS.out _ _ (fun _=>a7) ?_;clear hKS KS;refine ag rfl (by kernel_rfl) ?_;intro KS hKS;go_simp;refine hKS.out _ _ (fun _=>a7) ?_;clear hKS KS;refine aD rfl (by kernel_rfl) ?_;have a1:=hid (a3.out.new a7);have g6:=hid (f1.out.but a7 nF);clear a3 f1 e2 b4 a7 a2 f2 b3 b2 a0;have g7:(LY.toNat:Int)=0:=by omega
 have c8:=a1.out.fr.1.fr.c8;have z8:=a1.out.fr.1.fr.fz 8;have g4:=a1.out.fr.1.fr.lt;have h1:=bH ((f.pc:Int)+1) (by omega) (by omega);go_wp2_with fail;have e4:=a1.out.pushed (sv':=r.sv) (stk':=f.stk) ((But.setB _ _ _ _).mono (fun _ _ h=>Or.inl h)) (a1.out.fr.1.fr.set8 (f.pc+1)) (ar a1.out.fr.1.st (But.setB _ _ _ _) (fun g hg e=>aF a1.out.fr.1.st a1.out.fr.1.fr (by decide) (e▸hg))) (Or.inl rfl);exact cB (.int .i64 0) Tryz.results145 rfl rfl ⟨rfl,_,e4⟩
end
end
end Go.Proofs.YtpfkkmacakjmbaaGreatDoor
