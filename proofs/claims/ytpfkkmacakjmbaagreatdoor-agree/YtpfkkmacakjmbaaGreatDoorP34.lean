import Derived.Test.YtpfkkmacakjmbaaGreatDoorP33
set_option maxRecDepth 100000
set_option maxHeartbeats 6400000
set_option linter.all false
namespace Go.Proofs.YtpfkkmacakjmbaaGreatDoor
open Proofs.Tryz
section
open Go Go.RowKit Sp
attribute [local go_sem ↓] eF eG
structure Fr where
 fb:Nat
 bl:Nat
 sg:Nat
 vl:Value
 vi:Value
 lv:Value
 sv:Value
 b:Bod
 tab:List St
def lz (r:Fr) (k:Nat):Prop:=k=r.fb\/k=r.bl\/r.lv.ownBlock=some k\/r.sv.ownBlock=some k
structure FrM (w0 w:World) (im:Img) (T:cG) (ca:Option Nat) (d:Nat) (r:Fr) (f:Fm):Prop where
 hb:im.zj[f.q]?=some r.b
 ht:T[f.q]?=some r.tab
 fr:FbB w r.fb ca d (aR im.zx r.b) r.vl r.vi (.slice (some ⟨r.sg,0,none⟩) r.tab.length r.tab.length) f.pc r.bl r.sv
 lb:w.heap[r.bl]?=some (.cells #[r.lv] 280)
 lo:w.ownsRow w0.heap.size 168 2 r.lv f.loc.length (az f.loc)
 st:w.ownsRow w0.heap.size 168 2 r.sv f.zv.length (az f.zv)
 bt:BtB w0 0 r.vl (aR im.zx r.b).zy
 it:ItB w0 0 r.vi (aR im.zx r.b).items
 tb:StB w0 r.sg r.tab
 ap: ∀k,r.lv.ownBlock=some k->r.sv.ownBlock≠some k
 g1:w0.heap.size<=r.fb
 g2:w0.heap.size<=r.bl
def jR:List Fr->Option Nat
 | []=>none
 |r::_=>some r.fb
def qZ (w0 w:World) (im:Img) (T:cG):List Fr->List Fm->Prop
 | [],[]=>True
 |r::rs,f::fs=>FrM w0 w im T (jR rs) (fs.length+1) r f/\qZ w0 w im T rs fs/\ ∀k,lz r k-> ∀q∈rs,¬lz q k
 |_,_=>False
section
variable {w0 w w':World} {im:Img} {T:cG} {ca:Option Nat} {d:Nat} {r:Fr} {f:Fm}
theorem FrM.ge (h:FrM w0 w im T ca d r f) {k:Nat} (hk:lz r k):w0.heap.size<=k:=by
 obtain rfl|rfl|hk|hk:=hk
 .exact h.g1
 .exact h.g2
 .exact aC h.lo k hk
 .exact aC h.st k hk
theorem FrM.lt (h:FrM w0 w im T ca d r f) {k:Nat} (hk:lz r k):k<w.heap.size:=by
 obtain rfl|rfl|hk|hk:=hk
 .exact h.fr.lt
 .exact ae h.lb
 .exact bB h.lo k hk
 .exact bB h.st k hk
theorem FrM.nb (h:FrM w0 w im T ca d r f) {k:Nat} (hk:lz r k) (c:Array Value) (fz:Nat×Nat):w.heap[k]?≠some (.cells c 5 fz):=λe=>by
 obtain rfl|rfl|hk|hk:=hk
 .exact bL h.fr e (by decide) rfl
 .exact bL h.lb e (by decide) rfl
 .exact aE h.lo e (by decide) hk
 .exact aE h.st e (by decide) hk
theorem FrM.but {F:Nat->Prop} (h:FrM w0 w im T ca d r f) (hb:But F w w') (hf: ∀k,lz r k-> ¬F k):FrM w0 w' im T ca d r f:=
 ⟨h.hb,h.ht,h.fr.but hb (hf _ (Or.inl rfl)),(hb.block r.bl (ae h.lb) (hf _ (Or.inr (Or.inl rfl)))).trans h.lb,ah h.lo hb (λk hk=>hf k (Or.inr (Or.inr (Or.inl hk)))),ah h.st hb (λk hk=>hf k (Or.inr (Or.inr (Or.inr hk)))),h.bt,h.it,h.tb,h.ap,h.g1,h.g2⟩
theorem qZ.but {F:Nat->Prop}: ∀{rs:List Fr} {fs:List Fm},qZ w0 w im T rs fs->But F w w'->(∀r∈rs,∀k,lz r k-> ¬F k)->qZ w0 w' im T rs fs
 | [],[],_,_,_=>trivial
 |r::rs,f::fs,h,hb,hf=>⟨h.1.but hb (hf r (List.mem_cons_self ..)),qZ.but h.2.1 hb (λq hq=>hf q (List.mem_cons_of_mem _ hq)),h.2.2⟩
 | [],_::_,h,_,_=>h.elim
 |_::_,[],h,_,_=>h.elim
theorem qZ.mem: ∀{rs:List Fr} {fs:List Fm},qZ w0 w im T rs fs-> ∀r∈rs,∃ca d f,FrM w0 w im T ca d r f
 | [],[],_,r,hr=>by cases hr
 |q::rs,f::fs,h,r,hr=>by
  obtain rfl|hr:=List.mem_cons.1 hr
  .exact⟨_,_,_,h.1⟩
  .exact qZ.mem h.2.1 r hr
 | [],_::_,h,_,_=>h.elim
 |_::_,[],h,_,_=>h.elim
end
abbrev kB (mb:Nat) (rs:List Fr) (k:Nat):Prop:=k=mb\/ ∃r∈rs,lz r k
structure McQ (w0 w:World) (im:Img) (T:cG) (mb tx:Nat) (tv:Value) (bw cells:Nat) (ans:Int) (inp:ByteArray) (rs:List Fr) (fs:List Fm) (s:Ev) (vo vb:Value) (gs:List Nat) (fv:List Value) (cn:Int) (sn:Nat->Int):Prop where
 wd:WdQ (kB mb rs) w0 w bw tx inp s vo vb gs fv cn sn
 mc:MbB w mb tx tv bw cells (jR rs) ans
 fr:qZ w0 w im T rs fs
 gm:w0.heap.size<=mb
section
variable {w0 w w':World} {im:Img} {T:cG} {mb tx:Nat} {tv:Value} {bw cells:Nat} {ans:Int} {inp:ByteArray} {rs:List Fr} {fs:List Fm} {s:Ev} {vo vb:Value} {gs:List Nat} {fv:List Value} {cn:Int} {sn:Nat->Int}
theorem McQ.off (h:McQ w0 w im T mb tx tv bw cells ans inp rs fs s vo vb gs fv cn sn) {r:Fr} (hr:r∈rs): ¬lz r mb:=λhk=>by
 obtain⟨ca,d,f,a⟩:=h.fr.mem r hr;obtain e|e|e|e:=hk
 .exact bL a.fr h.mc (by decide) e.symm
 .exact bL a.lb h.mc (by decide) e.symm
 .exact aE a.lo h.mc (by decide) e
 .exact aE a.st h.mc (by decide) e
theorem McQ.new (h:McQ w0 w im T mb tx tv bw cells ans inp rs fs s vo vb gs fv cn sn) (hB:B_ w w'):McQ w0 w' im T mb tx tv bw cells ans inp rs fs s vo vb gs fv cn sn:=
 ⟨h.wd.new hB,h.mc.but hB nF,h.fr.but hB (λ_ _ _ _ h=>h),h.gm⟩
theorem McQ.turn {F:Nat->Prop} {s':Ev} {vo' vb':Value} {gs':List Nat} {fv':List Value} {cn':Int} {sn':Nat->Int} (h:McQ w0 w im T mb tx tv bw cells ans inp rs fs s vo vb gs fv cn sn) (hB:But F w w') (hF: ∀k,F k-> ¬kB mb rs k) (hw:WdQ (kB mb rs) w0 w' bw tx inp s' vo' vb' gs' fv' cn' sn'):McQ w0 w' im T mb tx tv bw cells ans inp rs fs s' vo' vb' gs' fv' cn' sn':=
 ⟨hw,h.mc.but hB (λhf=>hF _ hf (Or.inl rfl)),h.fr.but hB (λr hr k hk hf=>hF k hf (Or.inr ⟨r,hr,hk⟩)),h.gm⟩
theorem McQ.step {F:Nat->Prop} {rs':List Fr} {fs':List Fm} {ans':Int} (h:McQ w0 w im T mb tx tv bw cells ans inp rs fs s vo vb gs fv cn sn) (hB:But F w w') (hF: ∀k,F k->kB mb rs k) (hm:MbB w' mb tx tv bw cells (jR rs') ans') (hr:qZ w0 w' im T rs' fs') (hn: ∀k,kB mb rs' k->kB mb rs k\/w.heap.size<=k):McQ w0 w' im T mb tx tv bw cells ans' inp rs' fs' s vo vb gs fv cn sn:=by
 have g: ∀k,kB mb rs k->w0.heap.size<=k:=λk hk=>by
  obtain rfl| ⟨r,hr,hk⟩:=hk
  .exact h.gm
  .obtain⟨ca,d,f,b⟩:=h.fr.mem r hr;exact b.ge hk
 have a:=(h.wd.less (Q:=λ_=>False) (λ_ h=>h.elim)).but hB (λk hk=>g k (hF k hk)) (λk hk b=>(h.wd.own k hk).2 (hF k b)) (λ_ h=>h.elim);refine⟨⟨a.old,a.wd,a.out,a.ob,a.lg,a.lf,a.obs,a.nd,λk hk=>⟨(h.wd.own k hk).1,λhp=> ?_⟩,λk hk=> ?_,a.sf,a.se⟩,hm,hr,h.gm⟩
 .obtain hp|hp:=hn k hp
  .exact(h.wd.own k hk).2 hp
  .have:=h.wd.lt hk;omega
 .obtain rfl| ⟨r,hr',hk⟩:=hk
  .exact⟨hm.lt,λc fz e=>bL hm e (by decide) rfl⟩
  .obtain⟨ca,d,f,b⟩:=hr.mem r hr';exact⟨b.lt hk,λc fz e=>b.nb hk c fz e⟩
end
section
variable {w:World} {bl base:Nat} {lv:Value} {l:List V}
theorem DS (hb:w.heap[bl]?=some (.cells #[lv] 280)) (ho:w.ownsRow base 168 2 lv l.length (az l)) (j:Nat) (u:V) (hu:l[j]?=some u):
  Calls prog 196 #[.pointer (some ⟨bl,0,none⟩),.int .i64 j] w λen w'=>en= .returned (aI u)/\B_ w w':=by
 have i:=(bn hu).1;obtain⟨al,capl,rfl⟩:=aA ho;obtain⟨g,rfl,c,d,a⟩:=aL ho (by omega);have m:w.cell? ⟨g,j*2,none⟩=some (.int .i32 (xN u)):=a _ _ (bJ (k:=0) hu (by omega));have n:w.cell? ⟨g,j*2+1,none⟩=some (.int .i64 (xO u)):=a _ _ (bJ (k:=1) hu (by omega));have b0:=ce0 hb;have b:=ae hb;have f: ¬((l.length:Int)<=(j:Int)):=by omega
 have h:((j:Int))<(l.length:Int):=by omega
 have e: ¬((j:Int)<0):=by omega
 clear a hu hb ho;generalize l.length=nl at*
 go_in
 go_wp2_with fail;exact sA results196 rfl rfl (aw rfl _) ⟨rfl,ag _ _ _⟩
theorem t8 (hb:w.heap[bl]?=some (.cells #[lv] 280)) (ho:w.ownsRow base 168 2 lv l.length (az l)) (j:Nat) (u:V) (hj:j<l.length):
  Calls prog 194 #[.pointer (some ⟨bl,0,none⟩),.int .i64 j,aI u] w λen w'=>en= .returned (.tuple #[])/\But (λk=>lv.ownBlock=some k) w w'/\w'.ownsRow base 168 2 lv l.length (az (l.set j u)):=by
 unfold aI;obtain⟨al,capl,rfl⟩:=aA ho;obtain⟨g,rfl,i,G,a⟩:=aL ho (by omega);obtain⟨u',p⟩: ∃u',l[j]?=some u':=⟨_,aM hj⟩;have t:w.cell? ⟨g,j*2,none⟩=some (.int .i32 (xN u')):=a _ _ (bJ (k:=0) p (by omega));have x:w.cell? ⟨g,j*2+1,none⟩=some (.int .i64 (xO u')):=a _ _ (bJ (k:=1) p (by omega));obtain⟨cur,c⟩:=dw ho (g:=g) rfl;have C:=cw w g (j*2) _ _ c;have D:=cw w g (j*2+1) _ _ c;have b0:=ce0 hb;have n:=ae hb;have I:((j:Int))<(l.length:Int):=by omega
 have H:0<=(j:Int):=by omega
 clear a p hb c;have E:=hid ho;clear ho;generalize l.length=nl at*
 go_in
 go_wp2_with fail;have f:B_ w (w.alloc (.cells #[.int .i32 (xN u),.int .i64 (xO u)] 168)):=ag _ _ _;have d:=bj w (.cells #[.int .i32 (xN u),.int .i64 (xO u)] 168);revert f d;generalize (w.alloc (.cells #[.int .i32 (xN u),.int .i64 (xO u)] 168))=W;intro f d;have m:B_ W W.drew:=aD _ _;have A:=ce0 d;have B:=ce1 d;have b1:=f.kc b0 n;have z:=ae d;have J:bl<W.heap.size:=by omega
 have b:=f.trans m;have q:=b.kc t i;have r:=b.kc x i;have p2:=b.kz C i;have s:=b.kz D i;have y:=hid (And.intro q (And.intro r (And.intro p2 s)));clear q r p2 s t x C D b0;refine aF (B_ W) 7 ?_
 iterate 7 (refine aN (v:=?_) rfl m ?_ ?_;rotate_left;(focus (intro wS h;have t:=(h.kc b1 J);have x:=(h.kc A z);have L:=(h.kc B z);clear h;go_simp;try rfl));dsimp only[Act.put];try simp only[bW])
 obtain⟨q,r,p2,s⟩:=y.out;have F:=hid (λX (hX:B_ w X)=>oV (g:=g) (j:=j) u (ah E.out hX (λ_ _ h=>h)) rfl);clear A B b1 m y;generalize W.drew=wd at*;refine au rfl ?_;intro KS hKS;go_simp;refine hKS.out _ _ nofun ?_;clear hKS KS;refine aK rfl ?_;go_end0;exact⟨rfl,(b.mono (λ_ _ h=>h.elim)).trans (((aq _ _ _ _).trans (aq _ _ _ _)).mono (λk _ e=>by have e:k=g:=e;rw[e];rfl)),F.out wd b⟩
end
theorem wm {b:Bod} (u v:V) (h:2<=b.zy.length):((b.zy.map du).set 0 u).set 1 v=aO b [u,v]:=by
 unfold aO
 match hb:b.zy,h with
 |x::y::r,_=>simp
section
variable {w0 w w':World} {im:Img} {T:cG} {mb tx:Nat} {tv:Value} {bw cells:Nat} {ans:Int} {inp:ByteArray} {r:Fr} {rs:List Fr} {f:Fm} {fs:List Fm} {s:Ev} {vo vb:Value} {gs:List Nat} {fv:List Value} {cn:Int} {sn:Nat->Int}
theorem wn (h:McQ w0 w im T mb tx tv bw cells ans inp (r::rs) (f::fs) s vo vb gs fv cn sn) (m:Nat) (u v:V) (q e:Int) (he:e≠0)
  (hc: ∀Y,B_ w Y->Calls prog 193 #[.pointer (some ⟨bw,0,none⟩),aI u,.int .i64 m,.int .i64 (fs.length+1:Nat)] Y λen w'=>B_ Y w'/\en= .returned (.tuple #[.int .i64 q,.int .i64 e])):
  Calls prog 142 #[.pointer (some ⟨mb,0,none⟩),.int .i64 m,aI u,aI v] w λen w'=>en= .returned (.int .i64 e)/\B_ w w':=by
 have k2:=h.mc.c2;have k4:w.cell? ⟨mb,4,none⟩=some (.pointer (some ⟨r.fb,0,none⟩)):=h.mc.c4;have k:=h.fr.1.fr.c1;have a:=h.mc.lt;have b:=h.fr.1.fr.lt;have x:=hid hc;unfold aI at x;simp only[aI];clear h hc;have i:B_ w ((w.alloc (.cells #[.int .i32 (xN u),.int .i64 (xO u)] 168)).alloc (.cells #[.int .i32 (xN v),.int .i64 (xO v)] 168)):=(ag _ _ _).trans (ag _ _ _);have y:dB ((w.alloc (.cells #[.int .i32 (xN u),.int .i64 (xO u)] 168)).alloc (.cells #[.int .i32 (xN v),.int .i64 (xO v)] 168)) w.heap.size u:=((ag (λ_=>False) _ _).block _ (by simp) nF).trans (bj w _);have l:=hid i;have n:=hid y
 clear i y
 go_in
 go_wp2_with fail;revert l n;generalize ((w.alloc (.cells #[.int .i32 (xN u),.int .i64 (xO u)] 168)).alloc (.cells #[.int .i32 (xN v),.int .i64 (xO v)] 168))=W;intro l n;have c:=l.out;obtain⟨v0,v1,_,_,j⟩:=n.out.parts;replace k2:=(c.cell (p:=⟨mb,2,none⟩) a nF).trans k2;replace k4:=(c.cell (p:=⟨mb,4,none⟩) a nF).trans k4;replace k:=(c.cell (p:=⟨r.fb,1,none⟩) b nF).trans k;replace a:=aP a c.size;replace b:=aP b c.size;have d:B_ W W.drew:=aD _ _;refine aF (B_ W) 19 ?_
 iterate 13 (refine aN (v:=?_) rfl d ?_ ?_;rotate_left;(focus (intro wS h;have z:=((h.cell (p:=⟨mb,2,none⟩) a nF).trans k2);have A:=((h.cell (p:=⟨mb,4,none⟩) a nF).trans k4);have B:=((h.cell (p:=⟨r.fb,1,none⟩) b nF).trans k);have C:=((h.cell (p:=⟨w.heap.size,0,none⟩) j nF).trans v0);have D:=((h.cell (p:=⟨w.heap.size,1,none⟩) j nF).trans v1);clear h;go_simp;try rfl));dsimp only[Act.put];try simp only[bW])
 refine au rfl ?_;intro KS hKS;go_simp;refine(x.out _ (c.trans d)).mono ?_;rintro en w1 ⟨t,rfl⟩;have g:=d.trans t;refine hKS.out _ _ (λ_=>g) ?_;clear hKS KS
 iterate 5 (refine aN (v:=?_) rfl g ?_ ?_;rotate_left;(focus (intro wS h;clear h;go_simp;try rfl));dsimp only[Act.put];try simp only[bW])
 refine aK rfl ?_;clear v0 v1 k2 k4 k;go_wp2_with fail;exact cV (.int .i64 e) results142 rfl rfl ⟨rfl,c.trans g⟩
theorem wu (w:World) (base:Nat):w.ownsRow base 168 2 S_ 0 (az []):=⟨rfl,Or.inl ⟨rfl,rfl⟩⟩
theorem DT (h:McQ w0 w im T mb tx tv bw cells ans inp (r::rs) (f::fs) s vo vb gs fv cn sn) (m:Nat) (u v:V) (q base:Nat) (b:Bod) (l:List (Nat×List St)) (p:Nat×List St) (hT:d9 w0 tx im) (hl:fV w0 base tv l) (hTl:l.map (·.2)=T) (hq:im.zj[q]?=some b) (hp:l[q]?=some p) (hlo:b.zy.length<=5) (hl2:2<=b.zy.length) (hnb:im.zj.length<=100) (hd:fs.length<=90)
  (hc: ∀Y,B_ w Y->Calls prog 193 #[.pointer (some ⟨bw,0,none⟩),aI u,.int .i64 m,.int .i64 (fs.length+1:Nat)] Y λen w'=>B_ Y w'/\en= .returned (.tuple #[.int .i64 q,.int .i64 0])):
  Calls prog 142 #[.pointer (some ⟨mb,0,none⟩),.int .i64 m,aI u,aI v] w λen w'=>en= .returned (.int .i64 0)/\ ∃r',McQ w0 w' im T mb tx tv bw cells ans inp (r'::r::rs) (⟨q,0,[],aO b [u,v]⟩::f::fs) s vo vb gs fv cn sn:=by
 have k2:=h.mc.c2;have k4:w.cell? ⟨mb,4,none⟩=some (.pointer (some ⟨r.fb,0,none⟩)):=h.mc.c4;have f1:=h.fr.1.fr.c1;have j:=h.mc.lt;have F:=h.fr.1.fr.lt;have HC:=hid hc;unfold aI at HC;simp only[aI];have L:=hid h;clear h hc;have b1:B_ w ((w.alloc (.cells #[.int .i32 (xN u),.int .i64 (xO u)] 168)).alloc (.cells #[.int .i32 (xN v),.int .i64 (xO v)] 168)):=(ag _ _ _).trans (ag _ _ _);have hu:dB ((w.alloc (.cells #[.int .i32 (xN u),.int .i64 (xO u)] 168)).alloc (.cells #[.int .i32 (xN v),.int .i64 (xO v)] 168)) w.heap.size u:=((ag (λ_=>False) _ _).block _ (by simp) nF).trans (bj w _)
 have hv:dB ((w.alloc (.cells #[.int .i32 (xN u),.int .i64 (xO u)] 168)).alloc (.cells #[.int .i32 (xN v),.int .i64 (xO v)] 168)) (w.heap.size+1) v:=aw (by simp) _;have HV:=hid hv;have HB:=hid b1;have HU:=hid hu;clear b1 hu hv
 go_in
 go_wp2_with fail;revert HV HB HU;generalize ((w.alloc (.cells #[.int .i32 (xN u),.int .i64 (xO u)] 168)).alloc (.cells #[.int .i32 (xN v),.int .i64 (xO v)] 168))=W;intro HV HB HU;have Q:=HB.out;obtain⟨v0,v1,_,_,b9⟩:=HU.out.parts;replace k2:=(Q.cell (p:=⟨mb,2,none⟩) j nF).trans k2;replace k4:=(Q.cell (p:=⟨mb,4,none⟩) j nF).trans k4;replace f1:=(Q.cell (p:=⟨r.fb,1,none⟩) F nF).trans f1;replace j:=aP j Q.size;replace F:=aP F Q.size;have X:B_ W W.drew:=aD _ _;refine aF (B_ W) 19 ?_
 iterate 13 (refine aN (v:=?_) rfl X ?_ ?_;rotate_left;(focus (intro wS h;have q0:=((h.cell (p:=⟨mb,2,none⟩) j nF).trans k2);have q1:=((h.cell (p:=⟨mb,4,none⟩) j nF).trans k4);have q2:=((h.cell (p:=⟨r.fb,1,none⟩) F nF).trans f1);have q3:=((h.cell (p:=⟨w.heap.size,0,none⟩) b9 nF).trans v0);have q4:=((h.cell (p:=⟨w.heap.size,1,none⟩) b9 nF).trans v1);clear h;go_simp;try rfl));dsimp only[Act.put];try simp only[bW])
 refine au rfl ?_;intro KS hKS;go_simp;refine(HC.out _ (Q.trans X)).mono ?_;rintro en w1 ⟨e1,rfl⟩;have x:=X.trans e1;refine hKS.out _ _ (λ_=>x) ?_;clear hKS KS
 iterate 5 (refine aN (v:=?_) rfl x ?_ ?_;rotate_left;(focus (intro wS h;clear h;go_simp;try rfl));dsimp only[Act.put];try simp only[bW])
 refine aK rfl ?_;have g:=Q.trans x;have t:=L.out.new g;have a5:=hid (sG w0 w1 mb tx bw cells (fs.length+1) base tv ans im l q b p (some r.fb) (Or.inr ⟨r.fb,rfl,t.fr.1.fr.lt,t.fr.1.fr.c1⟩) (by omega) t.mc t.wd.old hT hl hq hp hlo hnb);have a7:=hid (HU.out.but x nF);have P:=hid (HV.out.but x nF);clear v0 v1 k2 k4 f1 t;go_wp2_with fail;refine a5.out.mono ?_;rintro en w2 ⟨rfl,fb,bl,lv,vl,vi,n⟩;have hG:=hid n;have c4:w2.cell? ⟨mb,4,none⟩=some (.pointer (some ⟨fb,0,none⟩)):=n.mc.c4;have c9:=n.fr.c9;have B:=n.mc.lt;have y:=n.fr.lt;have f0:mb<w.heap.size:=L.out.mc.lt;have e9:=ae P.out;have a8:dB w2 w.heap.size u:=a7.out.but n.but (by show¬w.heap.size=mb;omega)
 have b0:dB w2 (w.heap.size+1) v:=P.out.but n.but (by show¬w.heap.size+1=mb;omega);have a:w2.heap[bl]?=some (.cells #[lv] 280):=n.lb
 have HL:w2.ownsRow w1.heap.size 168 2 lv (b.zy.map du).length (az (b.zy.map du)):=by
  have:=n.lo;rw[bZ];exact this
 have A: ∀k,lv.ownBlock=some k->w1.heap.size<=k:=λk hk=>aC HL k hk
 have nm:lv.ownBlock≠some mb:=λe=>by have:=A _ e;have:=g.size;omega
 have nf:lv.ownBlock≠some fb:=λe=>aE HL n.fr (by decide) e
 have nb:lv.ownBlock≠some bl:=λe=>aE HL a (by decide) e
 have nu:lv.ownBlock≠some w.heap.size:=λe=>by have:=A _ e;omega
 have nv:lv.ownBlock≠some (w.heap.size+1):=λe=>by have:=A _ e;omega
 have e8:2<=(b.zy.map du).length:=by rw[bZ];exact hl2
 clear a5 a7 P n;obtain⟨L0,S⟩: ∃L0,b.zy.map du=L0:=⟨_,rfl⟩;rw[S]at HL e8;have d6:=hid S;clear S;obtain⟨y0,y1,_,_,c6⟩:=a8.parts;obtain⟨C,D,_,_,Z⟩:=b0.parts;have a6:=hid (And.intro a (And.intro C D));clear a8 b0 C D a;go_wp2_with fail;have b4:But (λk=>lv.ownBlock=some k) w2 w2.drew:=aD _ _;refine aF (But (λk=>lv.ownBlock=some k) w2) 9 ?_
 iterate 8 (refine aN (v:=?_) rfl b4 ?_ ?_;rotate_left;(focus (intro wS h;have q0:=((h.cell (p:=⟨mb,4,none⟩) B nm).trans c4);have q1:=((h.cell (p:=⟨fb,9,none⟩) y nf).trans c9);have q2:=((h.cell (p:=⟨w.heap.size,0,none⟩) c6 nu).trans y0);have q3:=((h.cell (p:=⟨w.heap.size,1,none⟩) c6 nu).trans y1);clear h;go_simp;try rfl));dsimp only[Act.put];try simp only[bW])
 obtain⟨a,C,D⟩:=a6.out;have E:=ae a;have b7:B_ w2 w2.drew:=aD _ _;have M:=hid (t8 ((b7.block bl E nF).trans a) (ah HL b7 (λ_ _ h=>h)) 0 u (by omega));unfold aI at M;clear a6;have HZ:=hid (And.intro a (And.intro C D));clear a C D;refine au rfl ?_;intro KS hKS;go_simp;refine M.out.mono ?_;rintro en w3 ⟨rfl,e2,e4⟩;have c:=b4.trans e2;refine hKS.out _ _ (λ_=>c) ?_;clear hKS KS;refine aK rfl ?_;obtain⟨a,C,D⟩:=HZ.out;replace c4:=(c.cell (p:=⟨mb,4,none⟩) B nm).trans c4;replace c9:=(c.cell (p:=⟨fb,9,none⟩) y nf).trans c9;replace C:=(c.cell (p:=⟨w.heap.size+1,0,none⟩) Z nv).trans C
 replace D:=(c.cell (p:=⟨w.heap.size+1,1,none⟩) Z nv).trans D;have G:=(c.block bl E nb).trans a;have a3:=aP B c.size;have a2:=aP y c.size;have J:=aP Z c.size;have a1:=aP E c.size;have e0:=hid G;clear y0 y1 M HZ a G HL;go_wp2_with fail;have b5:But (λk=>lv.ownBlock=some k) w3 w3.drew:=aD _ _;refine aF (But (λk=>lv.ownBlock=some k) w3) 9 ?_
 iterate 8 (refine aN (v:=?_) rfl b5 ?_ ?_;rotate_left;(focus (intro wS h;have q0:=((h.cell (p:=⟨mb,4,none⟩) a3 nm).trans c4);have q1:=((h.cell (p:=⟨fb,9,none⟩) a2 nf).trans c9);have q2:=((h.cell (p:=⟨w.heap.size+1,0,none⟩) J nv).trans C);have q3:=((h.cell (p:=⟨w.heap.size+1,1,none⟩) J nv).trans D);clear h;go_simp;try rfl));dsimp only[Act.put];try simp only[bW])
 have b8:B_ w3 w3.drew:=aD _ _;have I:w3.ownsRow w1.heap.size 168 2 lv (L0.set 0 u).length (az (L0.set 0 u)):=by rw[List.length_set];exact e4
 have O:=hid (t8 ((b8.block bl a1 nF).trans e0.out) (ah I b8 (λ_ _ h=>h)) 1 v (by rw[List.length_set];omega));unfold aI at O;clear I;refine au rfl ?_;intro KS hKS;go_simp;refine O.out.mono ?_;rintro en w4 ⟨rfl,e3,b2⟩;have b6:=b5.trans e3;refine hKS.out _ _ (λ_=>b6) ?_;clear hKS KS;refine aK rfl ?_;have i:=c.trans b6;clear c4 c9 C D O;go_wp2_with fail;refine cV (.int .i64 0) results142 rfl rfl ⟨rfl,⟨fb,bl,p.1,vl,vi,lv,S_,b,p.2⟩,?_⟩;have z:=hG.out;have a0:But (· =mb) w w2:=(g.mono (λ_ _ h=>h.elim)).trans z.but;have H:But (· =mb) w w4:=a0.next i (λk hk e=>by have:=A k e;have:=g.size;omega)
 have f2:=g.size;have e5:T[q]?=some p.2:=by rw[<-hTl,cg,hp];rfl
 have e7:=L.out.wd.old.size
 have b3: ∀k,lz ⟨fb,bl,p.1,vl,vi,lv,S_,b,p.2⟩ k->w.heap.size<=k:=λk hk=>by
  obtain e|e|e|e:=hk
  .have:=z.gf;have e:k=fb:=e;omega
  .have:=z.gl;have e:k=bl:=e;omega
  .have:=A k e;omega
  .cases e
 have a4:w4.ownsRow w0.heap.size 168 2 lv (aO b [u,v]).length (az (aO b [u,v])):=by
  rw[<-wm u v hl2,d6.out,List.length_set,List.length_set];rw[List.length_set]at b2;exact dh b2 (by omega)
 refine L.out.step H (λk e=>Or.inl e) (z.mc.but i nm) ⟨⟨hq,e5,z.fr.but i nf,(i.block bl E nb).trans z.lb,a4,wu _ _,z.bt,z.it,z.tb,λk _ e=>(by cases e),Nat.le_trans (by omega) z.gf,Nat.le_trans (by omega) z.gl⟩,L.out.fr.but H (λq hq k hk e=>L.out.off hq (e▸hk)),λk hk q hq hk'=> ?_⟩ (λk hk=> ?_)
 .obtain⟨ca,d,f',e6⟩:=L.out.fr.mem q hq;have:=e6.lt hk';have:=b3 k hk;omega
 .obtain e| ⟨q',hq',hk⟩:=hk
  .exact Or.inl (Or.inl e)
  .obtain rfl|hq':=List.mem_cons.1 hq'
   .exact Or.inr (b3 k hk)
   .exact Or.inl (Or.inr ⟨q',hq',hk⟩)
end
def fO (T:cG) (fs:List Fm):List V:=fs.flatMap (jg T)
theorem yd {T:cG} {fs:List Fm} (k:Nat):V.o k∈fO T fs↔jV T fs k:=by
 unfold fO jV;exact List.mem_flatMap
def E1 (T:cG) (n:Nat) (fs:List Fm):Prop:= ∀f∈fs,(∃st lo,jB T f.q f.pc=some (st,lo))/\f.zv.length<=1000/\f.loc.length<=1000/\(∀t,T[f.q]?=some t->t.length<=100)/\ ∀u∈jg T f,kw n u
theorem ye (T:cG) (f:Fm):(jg T f).length<=f.zv.length+f.loc.length:=by
 unfold jg
 split
 .rw[aV];have:=iH f.zv (by assumption)
  rename_i s l _
  have a:=iH f.zv s;have b:=iH f.loc l;omega
 .simp
theorem wv {hp:List Ob} {vs:List V} {cs:List bP} (hob:oX cs hp): ∀(n i:Nat) (F:List Nat),vk hp vs i F->hp.length<=i+n-> ∃i' F',vk hp vs i' F'/\F'.length<=i'
 |0,i,F,h,hn=>⟨i,F,h,by have:=oe h;omega⟩
 |n+1,i,F,h,hn=>by
  by_cases hlt:i<F.length
  .obtain⟨j,b⟩: ∃j,F[i]?=some j:=⟨_,aM hlt⟩;have a:=h.lt j (a9 b);obtain⟨o,c⟩: ∃o,hp[j]?=some o:=⟨_,aM a⟩;exact wv hob n (i+1) _ (sc h b c (hob o (a9 c)).2.2) (by omega)
  .exact⟨i,F,h,by omega⟩
theorem AU {hp:List Ob} {vs:List V} {cs:List bP} (hob:oX cs hp) (hv: ∀u∈vs,kw hp.length u) (h4:hp.length<=4000):fk hp (λk=>V.o k∈vs)<=404000:=by
 obtain⟨i,F,a,hi⟩:=wv hob hp.length 0 _ (qB hv) (by omega);rw[vm a hi];have b:=yc (lp hp) 101 (wj hob) F;have c:=oe a;omega
section
variable {w0 w w':World} {im:Img} {T:cG} {mb tx:Nat} {tv:Value} {bw cells:Nat} {ans:Int} {inp:ByteArray} {rs:List Fr} {fs:List Fm} {s:Ev} {vo vb:Value} {gs:List Nat} {fv:List Value} {cn:Int} {sn:Nat->Int}
theorem ww (h:McQ w0 w im T mb tx tv bw cells ans inp rs fs s vo vb gs fv cn sn) (h4:s.heap.length<=4000) (hcn:cn<=100000) (hfs:E1 T s.heap.length fs) (h12:fs.length<=12) (cs:List bP) (hn:cs.length<=100) (hT:TxC w0 tx cs) (hob:oX cs s.heap) (c:UInt8) (hc:(bV cs c).length<=1000):
  Calls prog 195 #[.pointer (some ⟨mb,0,none⟩),.int .u8 c.toNat] w λen w'=>en= .returned (.bool (decide (fk s.heap (jV T fs)+(1+(bV cs c).length)<=cells)))/\But (λk=>k=bw\/k∈gs) w w'/\ ∃sn',McQ w0 w' im T mb tx tv bw cells ans inp rs fs s vo vb gs fv (cn+1) sn':=by
 have c4:=h.mc.c4;have e1:=h.mc.lt;have HM:=hid h;have P:=hid hfs;have b1:Hid (∀vs:List V,(∀u∈vs,kw s.heap.length u)->fk s.heap (λk=>V.o k∈vs)<=404000):=λvs hv=>AU hob hv h4
 have b3:B_ w (w.alloc (.cells #[] 168)):=ag _ _ _;clear h hfs;obtain⟨cu,I⟩: ∃cu,jR rs=cu:=⟨_,rfl⟩;rw[I]at c4;have a8:=hid I;clear I;simp only[kA]at c4
 go_in
 go_wp2_with fail
 go_loopg [5,6] fs.length (λmm vt pv wr=> ∃(ao:Option Addr) (cap:Nat) (C:List Fr) (a j:List Fm),vt= .slice ao (fO T a).length cap/\pv=kA (jR C)/\j.length<=mm/\mm<=j.length/\Hid (fs=a++j)/\B_ w wr/\wr.ownsRow w.heap.size 168 2 (.slice ao (fO T a).length cap) (fO T a).length (az (fO T a))/\Hid (qZ w0 w im T C j)/\(fO T a).length<=2000*a.length)
 case atStart=>exact⟨_,0,rs,[],fs,rfl,by rw[a8.out];rfl,by omega,by omega,rfl,b3,yR w,HM.out.fr,by simp[fO]⟩
 case round=>
  obtain⟨ao,cap,C,a,j,rfl,rfl,b5,b6,HE,d,hO,y,e0⟩:=hrel
  match C,j,y with
  | [],_::_,y=>exact y.out.elim
  |_::_,[],y=>exact y.out.elim
  |r::rs2,f::fs2,y=>
   obtain⟨q,a0,_⟩:=y.out;have b0:=hid a0;obtain⟨⟨st,lo,M⟩,l1,l2,l3,l4⟩:=P.out f (by rw[HE.out];simp);have a4:=(dD q.ht).1 M;have E:=HM.out.wd.old;have G:=hid (AT wr r.fb (fs2.length+1) f.pc r.bl r.sg w0.heap.size (jR rs2) (aR im.zx r.b) r.vl r.vi r.sv r.lv f.zv f.loc r.tab (q.fr.but d nF) ((q.tb.off E nF (λ_ _ _=>nF)).off d nF (λ_ _ _=>nF)) st lo a4 ((d.block r.bl (ae q.lb) nF).trans q.lb) (ah q.st d (λ_ _ h=>h)) (ah q.lo d (λ_ _ h=>h)) (by omega) (by omega) (l3 _ q.ht));have a6:jg T f=dY f.zv st++dY f.loc lo:=by unfold jg;rw[M]
   rw[<-a6]at G;have e4:=ye T f;have a5:fO T (a++ [f])=fO T a++jg T f:=by simp[fO]
   have c0:wr.cell? ⟨r.fb,0,none⟩=some (kA (jR rs2)):=(q.fr.but d nF).c0;have n:=(q.fr.but d nF).lt;have d6:=q.fr.lt;have b4:a.length+(fs2.length+1)=fs.length:=by rw[HE.out];simp
   have F:=hid a5;have hw:=d.size;clear q a0 M a4 E a6 a5 l3 l4 y;obtain⟨H,x⟩: ∃H,kA (jR rs2)= .pointer H:=⟨_,rfl⟩;rw[x]at c0;have a7:=hid x;clear x;simp only[jR,kA,Option.map_some];generalize c6:fO T a=A0 at*;generalize jg T f=A1 at*;simp only[ie]at b5 b6;go_wp2_with fail;refine G.out.mono ?_;rintro en w1 ⟨e,v1,rfl,a1⟩;clear G;have i:=ah hO e (λ_ _ h=>h);have g:=d.trans e;replace c0:=(e.cell (p:=⟨r.fb,0,none⟩) n nF).trans c0;replace n:=aP n e.size;go_wp2_with (at_builtin;refine l9 rfl _ _ rfl w.heap.size _ _ v1 A0 A1 rfl rfl i a1 (by omega) g.size ?_);intro aj cj w2 a2 A _;have Z:B_ w w2:=g.next A (λk hk h=>by have:=aC i k h;omega)
   have b9:w2.cell? ⟨r.fb,0,none⟩=some (.pointer H):=(A.cell (p:=⟨r.fb,0,none⟩) n (λh=>by have:=aC i r.fb h;omega)).trans c0;replace n:=aP n A.size;have S:=hid a2;clear c0 a2 i a1 A hO;go_wp2_with fail
   go_roundg fs2.length
   case measure=>omega
   case rel=>exact⟨aj,cj,rs2,a++ [f],fs2,by rw[F.out,aV],a7.out.symm,by omega,by omega,hid (by rw[HE.out];simp),Z,by rw[F.out];first|exact S.out| (rw[aV];exact S.out),b0,by rw[F.out,aV,aV,fM];omega⟩
  | [],[],y=>
   have he:fs=a:=by rw[HE.out];simp
   have l:=HM.out.new d
   have J: ∀u∈fO T a,kw s.heap.length u:=λu hu=>by
    obtain⟨f,hf,hu⟩:=List.mem_flatMap.1 hu;exact(P.out f (by rw[he];exact hf)).2.2.2.2 u hu
   have b4:a.length=fs.length:=by rw[he]
   have z:=hid (wk l.wd h4 hcn w.heap.size cap ao (fO T a) hO (by omega) J cs hn hT hob);have L:fk s.heap (λk=>V.o k∈fO T a)=fk s.heap (jV T fs):=tD (λk=>by rw[he];exact yd k);rw[L]at z;obtain⟨RC,B⟩: ∃RC,fk s.heap (jV T fs)=RC:=⟨_,rfl⟩
   have e3:RC<=404000:=by
    rw[<-B,<-L];exact b1.out _ J
   rw[B]at z;have b2:=hid B;have k2:=l.mc.c2;have e2:=l.mc.lt;have Q:=hid l;have hK: ∀k,(k=bw\/k∈gs)->FrQ (kB mb rs) w0 k:=λk hk=>l.wd.own k (hk.elim Or.inl (λh=>Or.inr (Or.inr (Or.inr (Or.inl h)))))
   have HK:=hid hK;have O:=hid (λ(Y:World) (hY:B_ w0 Y)=>pA tx cs c Y hn (hT.but hY) hc);clear l J L B hK he;simp only[jR,kA,Option.map_none];generalize (fO T a).length=nA at*;go_wp2_with fail;refine z.out.mono ?_;rintro en w1 ⟨rfl,e,b8,a3⟩;clear z k2;have t:=hid (Q.out.turn e (λk hk=>(HK.out k hk).2) a3);have g:But (λk=>k=bw\/k∈gs) w w1:=(d.mono (λ_ _ h=>h.elim)).trans e;have k0:=t.out.mc.c0;have k3:=t.out.mc.c3;have D:=t.out.mc.lt;have X:=hid t.out.wd.old;clear Q e a3 hO;generalize b7:(bV cs c).length=nc at*;have e5:=dV ((RC:Int)+(1+(nc:Int))) (by omega) (by omega);go_wp2_with fail
   have m:B_ w1 w1.drew:=aD _ _;refine dr (B_ w1) 14 ?_;have fSA:=hid (λwS (h:(B_ w1) wS)=>(And.intro ((h.cell (p:=⟨mb,0,none⟩) D nF).trans k0) ((h.cell (p:=⟨mb,3,none⟩) D nF).trans k3)));refine cW [0,1,2,3,4,5,8,9,10,11] ?_
   iterate 10 (refine dt (v:=?_) rfl m ?_ ?_;rotate_left;(focus (intro wS h;obtain⟨q0,q1⟩:=fSA.out wS h;clear h;go_simp;try rfl));dsimp only[Act.put];try simp only[bW])
   try clear fSA
   refine aG (k:=6) rfl ?_;intro KS hKS;go_simp;refine(O.out _ (X.out.trans m)).mono ?_;rintro en wx ⟨rfl,rfl⟩;refine hKS.out _ _ (λ_=>m) ?_;clear hKS KS;refine aG (k:=7) rfl ?_;intro KS hKS;go_simp;refine hKS.out _ _ (λ_=>m) ?_;clear hKS KS;refine aG (k:=12) rfl ?_;intro KS hKS;go_simp;refine hKS.out _ _ (λ_=>m) ?_;clear hKS KS;refine aG (k:=13) rfl ?_;intro KS hKS;go_simp;refine hKS.out _ _ (λ_=>m) ?_;clear hKS KS;refine dg rfl ?_;clear k0 k3 O;go_wp2_with fail;refine cV (.bool (decide ((RC:Int)+(1+(nc:Int))<=(cells:Int)))) results195 rfl rfl ⟨?_,g.trans ((aD _ _)),b8,t.out.new (aD _ _)⟩
   rw[b2.out,b7]
   congr 2
   exact decide_eq_decide.2 (by omega)
end
structure PsW (w W:World) (x:XIt) (u1 u2:V):Prop where
 but:B_ w W
 nb:NB w W
 b0:W.heap[w.heap.size]?=some (.cells #[.int .i64 x.place,.int .u8 x.op.toNat,.int .u8 x.cls.toNat,.int .i64 x.num,.slice x.pa x.pn x.pc] 219)
 b1:dB W (w.heap.size+1) u1
 b2:dB W (w.heap.size+1+1) u2
 sz:W.heap.size=w.heap.size+1+1+1
theorem psW (w:World) (x:XIt) (u1 u2:V):PsW w (((w.alloc (.cells #[.int .i64 x.place,.int .u8 x.op.toNat,.int .u8 x.cls.toNat,.int .i64 x.num,.slice x.pa x.pn x.pc] 219)).alloc (.cells #[.int .i32 (xN u1),.int .i64 (xO u1)] 168)).alloc (.cells #[.int .i32 (xN u2),.int .i64 (xO u2)] 168)) x u1 u2:=by
 refine⟨((ag _ _ _).trans (ag _ _ _)).trans (ag _ _ _),(((NB.refl w).alloc (by decide)).alloc (by decide)).alloc (by decide),?_,?_,aw (by simp) _,by simp⟩
 .exact(((ag (λ_=>False) _ _).trans (ag _ _ _)).block _ (by simp) nF).trans (bj w _)
 .exact((ag (λ_=>False) _ _).block _ (by simp) nF).trans (aw (by simp) _)
section
variable {w0 w w':World} {im:Img} {T:cG} {mb tx:Nat} {tv:Value} {bw cells:Nat} {ans:Int} {inp:ByteArray} {r:Fr} {rs:List Fr} {f:Fm} {fs:List Fm} {s:Ev} {vo vb:Value} {gs:List Nat} {fv:List Value} {cn:Int} {sn:Nat->Int}
theorem McQ.pushed (h:McQ w0 w im T mb tx tv bw cells ans inp (r::rs) (f::fs) s vo vb gs fv cn sn) {sv':Value} {pc':Nat} {stk':List V} (hB:But (λk=>k=r.fb\/r.sv.ownBlock=some k) w w')
  (hf:FbB w' r.fb (jR rs) (fs.length+1) (aR im.zx r.b) r.vl r.vi (.slice (some ⟨r.sg,0,none⟩) r.tab.length r.tab.length) pc' r.bl sv') (ho:w'.ownsRow w0.heap.size 168 2 sv' stk'.length (az stk')) (hs:sv'.ownBlock=r.sv.ownBlock\/ ∃k,sv'.ownBlock=some k/\w.heap.size<=k):
  McQ w0 w' im T mb tx tv bw cells ans inp ({r with sv:=sv'}::rs) ({f with pc:=pc',zv:=stk'}::fs) s vo vb gs fv cn sn:=by
 obtain⟨c,g,i⟩:=h.fr
 have v: ∀k,lz {r with sv:=sv'} k->lz r k\/w.heap.size<=k:=λk a=>by
  obtain e|e|e|e:=a
  .exact Or.inl (Or.inl e)
  .exact Or.inl (Or.inr (Or.inl e))
  .exact Or.inl (Or.inr (Or.inr (Or.inl e)))
  .obtain h1| ⟨j,h1,h2⟩:=hs
   .exact Or.inl (Or.inr (Or.inr (Or.inr (h1▸e))))
   .have e:sv'.ownBlock=some k:=e;rw[h1]at e
    cases e
    exact Or.inr h2
 have l: ∀k,(k=r.fb\/r.sv.ownBlock=some k)->lz r k:=λk a=>a.elim Or.inl (λe=>Or.inr (Or.inr (Or.inr e)))
 have n: ¬(mb=r.fb\/r.sv.ownBlock=some mb):=λe=>h.off (List.mem_cons_self ..) (l mb e)
 have t: ∀k,r.lv.ownBlock=some k-> ¬(k=r.fb\/r.sv.ownBlock=some k):=λk a e=>by
  obtain e|e:=e
  .exact aE c.lo c.fr (by decide) (e▸a)
  .exact c.ap k a e
 have p: ¬(r.bl=r.fb\/r.sv.ownBlock=some r.bl):=λe=>by
  obtain e|e:=e
  .exact bL c.lb c.fr (by decide) e
  .exact aE c.st c.lb (by decide) e
 refine h.step hB (λk a=>Or.inr ⟨r,List.mem_cons_self ..,l k a⟩) (h.mc.but hB n) ⟨⟨c.hb,c.ht,hf,(hB.block r.bl (ae c.lb) p).trans c.lb,ah c.lo hB t,ho,c.bt,c.it,c.tb,λk a e=> ?_,c.g1,c.g2⟩,g.but hB (λq hq k a e=>i k (l k e) q hq a),λk a q hq hk'=> ?_⟩ (λk a=> ?_)
 .have a:r.lv.ownBlock=some k:=a;obtain h1| ⟨j,h1,h2⟩:=hs
  .exact c.ap k a (h1▸e)
  .have e:sv'.ownBlock=some k:=e;rw[h1]at e
   cases e
   have:=bB c.lo _ a;omega
 .obtain h1|h1:=v k a
  .exact i k h1 q hq hk'
  .obtain⟨ca,d,f',m⟩:=g.mem q hq;have:=m.lt hk';omega
 .obtain e| ⟨q,hq,a⟩:=a
  .exact Or.inl (Or.inl e)
  .obtain rfl|hq:=List.mem_cons.1 hq
   .obtain h1|h1:=v k a
    .exact Or.inl (Or.inr ⟨r,List.mem_cons_self ..,h1⟩)
    .exact Or.inr h1
   .exact Or.inl (Or.inr ⟨q,List.mem_cons_of_mem _ hq,a⟩)
theorem McQ.setL (h:McQ w0 w im T mb tx tv bw cells ans inp (r::rs) (f::fs) s vo vb gs fv cn sn) {l':List V} (hB:But (λk=>r.lv.ownBlock=some k) w w') (ho:w'.ownsRow w0.heap.size 168 2 r.lv l'.length (az l')):
  McQ w0 w' im T mb tx tv bw cells ans inp (r::rs) ({f with loc:=l'}::fs) s vo vb gs fv cn sn:=by
 obtain⟨a,c,b⟩:=h.fr;have d: ∀k,r.lv.ownBlock=some k->lz r k:=λk e=>Or.inr (Or.inr (Or.inl e))
 have nf:r.lv.ownBlock≠some r.fb:=λe=>aE a.lo a.fr (by decide) e
 have nb:r.lv.ownBlock≠some r.bl:=λe=>aE a.lo a.lb (by decide) e
 exact h.step hB (λk hk=>Or.inr ⟨r,List.mem_cons_self ..,d k hk⟩) (h.mc.but hB (λe=>h.off (List.mem_cons_self ..) (d mb e))) ⟨⟨a.hb,a.ht,a.fr.but hB nf,(hB.block r.bl (ae a.lb) nb).trans a.lb,ho,ah a.st hB (λk hk e=>a.ap k e hk),a.bt,a.it,a.tb,a.ap,a.g1,a.g2⟩,c.but hB (λq hq k hk e=>b k (d k e) q hq hk),b⟩ (λk hk=>Or.inl hk)
theorem E3 (h:McQ w0 w im T mb tx tv bw cells ans inp (r::rs) (f::fs) s vo vb gs fv cn sn) (hT:d9 w0 tx im) (hcl:(im.zq.map toX).length<=100) (hsg:im.zx.length<=100) (h4:f.zv.length<=4000) (hpc:f.pc<=1000) (x:XIt) (u1 u2 u:V) (hx:x.op.toNat=108) (hu:f.loc[x.num]?=some u) (hly:(aH (im.zq.map toX) im.zx x.op x.cls x.num (aR im.zx r.b).zy).toNat≠0):
  Calls prog 145 #[.pointer (some ⟨mb,0,none⟩),.pointer (some ⟨r.fb,0,none⟩),cR x,aI u1,aI u2] w λen w'=>en= .returned (.int .i64 0)/\ ∃r',McQ w0 w' im T mb tx tv bw cells ans inp (r'::rs) ({f with pc:=f.pc+1,zv:=f.zv++ [u]}::fs) s vo vb gs fv cn sn:=by
 obtain⟨al,capl,J⟩:=aA h.fr.1.bt;have c6:BtB w0 0 (.slice al (aR im.zx r.b).zy.length capl) (aR im.zx r.b).zy:=J▸h.fr.1.bt;have L:=hid (λ(Y:World) (hY:B_ w0 Y)=>ik tx (im.zq.map toX) im.zx x.place x.num x.op x.cls al capl (aR im.zx r.b).zy Y (ap:=x.pa) (np:=x.pn) (cp:=x.pc) hcl hsg (hT.cls.but hY) (hT.met.but hY) (c6.but hY (λ_ _ h=>h)));obtain⟨LY,d6⟩: ∃LY,aH (im.zq.map toX) im.zx x.op x.cls x.num (aR im.zx r.b).zy=LY:=⟨_,rfl⟩;rw[d6]at L hly;have e7:=hid J;clear c6 d6 J;have HP:=hid (psW w x u1 u2);have e0:(x.op.toNat:Int)=108:=by omega
 rw[e0]at HP L;have X:=h.fr.1.fr.c9;have b1:=h.fr.1.fr.lt;have HG:=hid (λ(Y:World) (hY:B_ w Y)=>DS ((hY.block r.bl (ae h.fr.1.lb) nF).trans h.fr.1.lb) (ah h.fr.1.lo hY (λ_ _ h=>h)) x.num u hu);have HM:=hid h;clear h hu;simp only[cR,aI]
 go_in
 go_wp2_with fail;revert HP;generalize (((w.alloc (.cells #[.int .i64 x.place,.int .u8 108,.int .u8 x.cls.toNat,.int .i64 x.num,.slice x.pa x.pn x.pc] 219)).alloc (.cells #[.int .i32 (xN u1),.int .i64 (xO u1)] 168)).alloc (.cells #[.int .i32 (xN u2),.int .i64 (xO u2)] 168))=W0;intro HP;obtain⟨rb,I⟩: ∃rb,rb=w.heap.size+1+1+1:=⟨_,rfl⟩;have hP:=HP.out;have l:B_ w (W0.alloc (.cells #[.int .i32 0,.int .i64 0] 168)):=hP.but.trans (ag _ _ _);have n:=((ag (λ_=>False) W0 (.cells #[.int .i32 0,.int .i64 0] 168)).block w.heap.size (ae hP.b0) nF).trans hP.b0;have Q:dB (W0.alloc (.cells #[.int .i32 0,.int .i64 0] 168)) rb .z:=aw (by rw[hP.sz,I]) _
 rw[<-I];rw[e0]at n;revert l n Q;generalize (W0.alloc (.cells #[.int .i32 0,.int .i64 0] 168))=W1;intro l n Q;clear hP HP;have f2:w.heap.size+1<=rb:=by omega
 have e6:Hid (r.sv.ownBlock≠some rb):=λe=>by have:=bB HM.out.fr.1.st _ e;omega
 clear I;have b9:=(l.cell (p:=⟨r.fb,9,none⟩) b1 nF).trans X;obtain⟨_,_,_,i3,_⟩:=bI n;have b2:=ae n;have Z:=aP b1 l.size;have a:B_ W1 W1.drew:=aD _ _;refine aF (B_ W1) 7 ?_
 iterate 6 (refine aN (v:=?_) rfl a ?_ ?_;rotate_left;(focus (intro wS h;have q0:=((h.cell (p:=⟨r.fb,9,none⟩) Z nF).trans b9);have q1:=((h.cell (p:=⟨w.heap.size,3,none⟩) b2 nF).trans i3);clear h;go_simp;try rfl));dsimp only[Act.put];try simp only[bW])
 refine au rfl ?_;intro KS hKS;go_simp;refine(HG.out _ (l.trans a)).mono ?_;rintro en w2 ⟨rfl,b8⟩;have E:=a.trans b8;refine hKS.out _ _ (λ_=>E) ?_;clear hKS KS;have a8:=Q.but E nF;have a6:=(E.block w.heap.size b2 nF).trans n;obtain⟨v0,v1,z0,z1,J⟩:=a8.parts;simp only[xN,xO]at v0 v1;simp only[aI];refine au rfl ?_;intro KS hKS;go_simp;refine hKS.out _ _ nofun ?_;clear hKS KS;refine aK rfl ?_;have d:But (· =rb) w2 ((w2.setCell ⟨rb,0,none⟩ (.int .i32 (xN u))).setCell ⟨rb,1,none⟩ (.int .i64 (xO u))):=(aq _ _ _ _).trans (aq _ _ _ _);have j:=hid (HM.out.new ((l.trans E).next d (λk hk e=>by have e:k=rb:=e;omega)))
 have C:=hid ((d.block w.heap.size (ae a6) (by show¬w.heap.size=rb;omega)).trans a6);have M:=hid (a8.put u);clear v0 v1 z0 z1 J a8 a6 d E b8 a b9 i3 b2 Z Q n l HG HM X b1;revert j C M;generalize ((w2.setCell ⟨rb,0,none⟩ (.int .i32 (xN u))).setCell ⟨rb,1,none⟩ (.int .i64 (xO u)))=W2;intro j C M;have m0:=j.out.mc.c0;have c5:=j.out.fr.1.fr.body.2.2.2.1;rw[e7.out]at c5;have a1:=j.out.mc.lt;have a0:=j.out.fr.1.fr.lt;have i:=ae C.out;obtain⟨e1,e2,e3,e4,e5⟩:=bI C.out;generalize (aR im.zx r.b).zy.length=nL at*;go_wp2_with fail;have a:B_ W2 W2.drew:=aD _ _;refine aF (B_ W2) 12 ?_
 iterate 10 (refine aN (v:=?_) rfl a ?_ ?_;rotate_left;(focus (intro wS h;have q0:=((h.cell (p:=⟨mb,0,none⟩) a1 nF).trans m0);have q1:=((h.cell (p:=⟨r.fb,5,none⟩) a0 nF).trans c5);have q2:=((h.cell (p:=⟨w.heap.size,0,none⟩) i nF).trans e1);have q3:=((h.cell (p:=⟨w.heap.size,1,none⟩) i nF).trans e2);have q4:=((h.cell (p:=⟨w.heap.size,2,none⟩) i nF).trans e3);have q5:=((h.cell (p:=⟨w.heap.size,3,none⟩) i nF).trans e4);have q6:=((h.cell (p:=⟨w.heap.size,4,none⟩) i nF).trans e5);clear h;go_simp;try rfl));dsimp only[Act.put];try simp only[bW])
 clear m0 c5 e1 e2 e3 e4 e5;refine au rfl ?_;intro KS hKS;go_simp;refine(L.out _ (j.out.wd.old.trans a)).mono ?_;rintro en S ⟨rfl,d⟩;have F:=a.trans d;refine hKS.out _ _ (λ_=>F) ?_;clear hKS KS;refine au rfl ?_;intro KS hKS;go_simp;refine hKS.out _ _ (λ_=>F) ?_;clear hKS KS;refine aK rfl ?_;have c:=hid (j.out.new F);have b6:=hid (M.out.but F nF);clear j M C L F a d a1 a0 i;have f8:(LY.toNat:Int)≠0:=by omega
 obtain⟨i0,f0,f4,f5,f6⟩:=info_parts jr;obtain⟨a2,y,b3⟩:=aA c.out.fr.1.st;have a7:=c.out.fr.1.st;have O:=c.out.fr.1.fr.c10;have b7:=c.out.fr.1.fr.fz 10;have ac:r.sv.ownBlock≠some r.fb:=λe=>aE c.out.fr.1.st c.out.fr.1.fr (by decide) e
 rw[b3]at a7 O ac;have a4:=hid b3;clear b3;have G:=c.out.fr.1.fr.lt;obtain⟨v0,v1,_,_,a3⟩:=b6.out.parts;have f3:=f2;have av:(Value.slice a2 f.zv.length y).ownBlock≠some rb:=λe=>e6.out (a4.out▸e)
 have f7:w0.heap.size<=S.heap.size:=c.out.wd.old.size;go_wp2_with fail;have a:But (λk=>(Value.slice a2 f.zv.length y).ownBlock=some k) S S.drew:=aD _ _;refine aF (But (λk=>(Value.slice a2 f.zv.length y).ownBlock=some k) S) 8 ?_
 iterate 6 (refine aN (v:=?_) rfl a ?_ ?_;rotate_left;(focus (intro wS h;have q0:=((h.cell (p:=⟨r.fb,10,none⟩) G ac).trans O);have q1:=((h.cell (p:=⟨rb,0,none⟩) a3 av).trans v0);have q2:=((h.cell (p:=⟨rb,1,none⟩) a3 av).trans v1);clear h;go_simp;try rfl));dsimp only[Act.put];try simp only[bW])
 refine au rfl ?_;intro KS hKS;go_simp;refine hKS.out _ _ (λ_=>(ag _ _ _).trans (aD _ _)) ?_;clear hKS KS;refine au rfl ?_;intro KS hKS
 refine step_append_lies _ (by rfl) _ _ _ (by rfl) w0.heap.size 168 i0 _ 2 16 (by kernel_rfl) f0 f4 f5 f6 rfl (by omega) _ f.zv.length (az f.zv) (by rfl) ((a7.alloc _).drew)
    ⟨S.heap.size,0,none⟩ 1 1 [.int .i32 (xN u),.int .i64 (xO u)] (by rfl) (by rfl) (iO (cs:=#[.int .i32 (xN u),.int .i64 (xO u)]) (t:=168) (fr:=(0,0)) (bj S _)) (by simp[Value.oneCell'])
    (by omega) (by unfold maxLen;omega) (by omega) (by simp;omega) (S.heap.size+1) (by simp) ?_
 intro gg A w4 q H e8 f1;have B:But (λk=>(Value.slice a2 f.zv.length y).ownBlock=some k) S w4:=((ag _ _ _).trans (aD _ _)).trans (bD H);refine hKS.out _ _ (λ_=>B) ?_;clear hKS KS;have y0:=(B.cell (p:=⟨r.fb,10,none⟩) G ac).trans O;have y1:=(B.frozen (p:=⟨r.fb,10,none⟩) G ac).trans b7;refine au rfl ?_;intro KS hKS;go_simp;refine hKS.out _ _ nofun ?_;clear hKS KS;refine au rfl ?_;intro KS hKS;go_simp;refine hKS.out _ _ nofun ?_;clear hKS KS;refine au rfl ?_;intro KS hKS;go_simp;refine hKS.out _ _ nofun ?_;clear hKS KS;refine aK rfl ?_;have D:=c.out.fr.1.fr.but B ac;have m:=D.set10 (.slice (some ⟨gg,0,none⟩) (f.zv.length+1) A)
 have P:=ah q (aq w4 r.fb 10 (.slice (some ⟨gg,0,none⟩) (f.zv.length+1) A)) (λg hg e=>aE q D (by decide) (e▸hg));have d:But (λk=>k=r.fb\/r.sv.ownBlock=some k) S (w4.setCell ⟨r.fb,10,none⟩ (.slice (some ⟨gg,0,none⟩) (f.zv.length+1) A)):=(B.mono (λk _ h=>Or.inr (by rw[a4.out];exact h))).trans ((aq _ _ _ _).mono (λ_ _ h=>Or.inl h));clear y0 y1 q H B D a7 O b7 v0 v1 b6;revert m P d;generalize (w4.setCell ⟨r.fb,10,none⟩ (.slice (some ⟨gg,0,none⟩) (f.zv.length+1) A))=W3;intro m P d;have c8:=m.c8;have z8:=m.fz 8;have b4:=hid m;have b5:=hid P;have g0:=dV ((f.pc:Int)+1) (by omega) (by omega)
 have e9:=m.lt;clear m P;go_wp2_with fail;have a5:=c.out.pushed (stk':=f.zv++ [u]) (d.trans ((aq _ _ _ _).mono (λ_ _ h=>Or.inl h))) (b4.out.set8 (f.pc+1)) (by rw[fq,aV];exact ah b5.out (aq _ _ _ _) (λg hg e=>aE b5.out b4.out (by decide) (e▸hg))) (e8.imp (λh=>by rw[a4.out];exact h.symm) (λh=>⟨gg,rfl,by omega⟩));exact cV (.int .i64 0) results145 rfl rfl ⟨rfl,_,a5⟩
theorem E4 (h:McQ w0 w im T mb tx tv bw cells ans inp (r::rs) (f::fs) s vo vb gs fv cn sn) (hT:d9 w0 tx im) (hcl:(im.zq.map toX).length<=100) (hsg:im.zx.length<=100) (h4:f.zv.length<=4000) (hpc:f.pc<=1000) (x:XIt) (u1 u2:V) (hx:x.op.toNat=115) (hu:x.num<f.loc.length) (hly:(aH (im.zq.map toX) im.zx x.op x.cls x.num (aR im.zx r.b).zy).toNat=0):
  Calls prog 145 #[.pointer (some ⟨mb,0,none⟩),.pointer (some ⟨r.fb,0,none⟩),cR x,aI u1,aI u2] w λen w'=>en= .returned (.int .i64 0)/\ ∃r',McQ w0 w' im T mb tx tv bw cells ans inp (r'::rs) ({f with pc:=f.pc+1,loc:=f.loc.set x.num u1}::fs) s vo vb gs fv cn sn:=by
 obtain⟨al,capl,L⟩:=aA h.fr.1.bt;have X:BtB w0 0 (.slice al (aR im.zx r.b).zy.length capl) (aR im.zx r.b).zy:=L▸h.fr.1.bt;have q:=hid (λ(Y:World) (hY:B_ w0 Y)=>ik tx (im.zq.map toX) im.zx x.place x.num x.op x.cls al capl (aR im.zx r.b).zy Y (ap:=x.pa) (np:=x.pn) (cp:=x.pc) hcl hsg (hT.cls.but hY) (hT.met.but hY) (X.but hY (λ_ _ h=>h)));obtain⟨LY,a1⟩: ∃LY,aH (im.zq.map toX) im.zx x.op x.cls x.num (aR im.zx r.b).zy=LY:=⟨_,rfl⟩;rw[a1]at q hly;have a8:=hid L;clear X a1 L;have P:=hid (psW w x u1 u2);have a2:(x.op.toNat:Int)=115:=by omega
 rw[a2]at P q;have B:=h.fr.1.fr.c9;have H:=h.fr.1.fr.lt;have HG:=hid (λ(Y:World) (hY:B_ w Y)=>t8 ((hY.block r.bl (ae h.fr.1.lb) nF).trans h.fr.1.lb) (ah h.fr.1.lo hY (λ_ _ h=>h)) x.num u1 hu);unfold aI at HG;have nf:r.lv.ownBlock≠some r.fb:=λe=>aE h.fr.1.lo h.fr.1.fr (by decide) e
 have J: ∀k,r.lv.ownBlock=some k->k<w.heap.size:=λk hk=>bB h.fr.1.lo k hk
 have HM:=hid h;clear h hu;simp only[cR,aI]
 go_in
 go_wp2_with fail;revert P;generalize (((w.alloc (.cells #[.int .i64 x.place,.int .u8 115,.int .u8 x.cls.toNat,.int .i64 x.num,.slice x.pa x.pn x.pc] 219)).alloc (.cells #[.int .i32 (xN u1),.int .i64 (xO u1)] 168)).alloc (.cells #[.int .i32 (xN u2),.int .i64 (xO u2)] 168))=W0;intro P;obtain⟨rb,n⟩: ∃rb,rb=w.heap.size+1+1+1:=⟨_,rfl⟩;have O:=P.out;have j:B_ w (W0.alloc (.cells #[.int .i32 0,.int .i64 0] 168)):=O.but.trans (ag _ _ _);have l:=((ag (λ_=>False) W0 (.cells #[.int .i32 0,.int .i64 0] 168)).block w.heap.size (ae O.b0) nF).trans O.b0;have A:dB (W0.alloc (.cells #[.int .i32 0,.int .i64 0] 168)) rb .z:=aw (by rw[O.sz,n]) _
 rw[<-n];rw[a2]at l;have y:=O.b1.but (ag (λ_=>False) W0 (.cells #[.int .i32 0,.int .i64 0] 168)) nF;revert j l A y;generalize (W0.alloc (.cells #[.int .i32 0,.int .i64 0] 168))=W1;intro j l A y;clear O P;have b6:w.heap.size+1<=rb:=by omega
 have b3:Hid (r.sv.ownBlock≠some rb):=λe=>by have:=bB HM.out.fr.1.st _ e;omega
 clear n;have b9:=(j.cell (p:=⟨r.fb,9,none⟩) H nF).trans B;obtain⟨_,_,_,i3,_⟩:=bI l;have I:=ae l;have C:=aP H j.size;obtain⟨y0,y1,_,_,M⟩:=y.parts;have ni:r.lv.ownBlock≠some w.heap.size:=λe=>by have:=J _ e;omega
 have nu:r.lv.ownBlock≠some (w.heap.size+1):=λe=>by have:=J _ e;omega
 have nr:r.lv.ownBlock≠some rb:=λe=>by have:=J _ e;omega
 have hd:B_ W1 W1.drew:=aD _ _;have d:But (λk=>r.lv.ownBlock=some k) W1 W1.drew:=aD _ _;refine aF (But (λk=>r.lv.ownBlock=some k) W1) 8 ?_
 iterate 7 (refine aN (v:=?_) rfl d ?_ ?_;rotate_left;(focus (intro wS h;have q0:=((h.cell (p:=⟨r.fb,9,none⟩) C nf).trans b9);have q1:=((h.cell (p:=⟨w.heap.size,3,none⟩) I ni).trans i3);have q2:=((h.cell (p:=⟨w.heap.size+1,0,none⟩) M nu).trans y0);have q3:=((h.cell (p:=⟨w.heap.size+1,1,none⟩) M nu).trans y1);clear h;go_simp;try rfl));dsimp only[Act.put];try simp only[bW])
 refine au rfl ?_;intro KS hKS;go_simp;refine(HG.out _ (j.trans hd)).mono ?_;rintro en W2 ⟨rfl,G,a0⟩;have t:=d.trans G;refine hKS.out _ _ (λ_=>t) ?_;clear hKS KS;refine aK rfl ?_;have i:=hid ((HM.out.new (j.trans hd)).setL (l':=f.loc.set x.num u1) G (by rw[List.length_set];exact a0));have F:=hid ((t.block w.heap.size I ni).trans l);have Q:=hid (A.but t nr);clear t G d b9 i3 I C A l j HG HM B H y0 y1 M y a0 hd;have m0:=i.out.mc.c0;have c5:=i.out.fr.1.fr.body.2.2.2.1;rw[a8.out]at c5;have E:=i.out.mc.lt;have D:=i.out.fr.1.fr.lt;have a:=ae F.out;obtain⟨a3,a4,a5,a6,a7⟩:=bI F.out;generalize (aR im.zx r.b).zy.length=nL at*
 go_wp2_with fail;have d:B_ W2 W2.drew:=aD _ _;refine aF (B_ W2) 12 ?_
 iterate 10 (refine aN (v:=?_) rfl d ?_ ?_;rotate_left;(focus (intro wS h;have q0:=((h.cell (p:=⟨mb,0,none⟩) E nF).trans m0);have q1:=((h.cell (p:=⟨r.fb,5,none⟩) D nF).trans c5);have q2:=((h.cell (p:=⟨w.heap.size,0,none⟩) a nF).trans a3);have q3:=((h.cell (p:=⟨w.heap.size,1,none⟩) a nF).trans a4);have q4:=((h.cell (p:=⟨w.heap.size,2,none⟩) a nF).trans a5);have q5:=((h.cell (p:=⟨w.heap.size,3,none⟩) a nF).trans a6);have q6:=((h.cell (p:=⟨w.heap.size,4,none⟩) a nF).trans a7);clear h;go_simp;try rfl));dsimp only[Act.put];try simp only[bW])
 clear m0 c5 a3 a4 a5 a6 a7;refine au rfl ?_;intro KS hKS;go_simp;refine(q.out _ (i.out.wd.old.trans d)).mono ?_;rintro en w3 ⟨rfl,S⟩;have m:=d.trans S;refine hKS.out _ _ (λ_=>m) ?_;clear hKS KS;refine au rfl ?_;intro KS hKS;go_simp;refine hKS.out _ _ (λ_=>m) ?_;clear hKS KS;refine aK rfl ?_;have c:=hid (i.out.new m);have b4:=hid (Q.out.but m nF);clear i Q F q m d S E D a;have b5:(LY.toNat:Int)=0:=by omega
 have c8:=c.out.fr.1.fr.c8;have z8:=c.out.fr.1.fr.fz 8;have b2:=c.out.fr.1.fr.lt;have b7:=dV ((f.pc:Int)+1) (by omega) (by omega);go_wp2_with fail;have Z:=c.out.pushed (sv':=r.sv) (stk':=f.zv) ((aq _ _ _ _).mono (λ_ _ h=>Or.inl h)) (c.out.fr.1.fr.set8 (f.pc+1)) (ah c.out.fr.1.st (aq _ _ _ _) (λg hg e=>aE c.out.fr.1.st c.out.fr.1.fr (by decide) (e▸hg))) (Or.inl rfl);exact cV (.int .i64 0) results145 rfl rfl ⟨rfl,_,Z⟩
end
end
end Go.Proofs.YtpfkkmacakjmbaaGreatDoor
