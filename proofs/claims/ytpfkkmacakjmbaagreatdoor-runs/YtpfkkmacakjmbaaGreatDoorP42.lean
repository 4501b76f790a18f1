import Derived.Test.YtpfkkmacakjmbaaGreatDoorP41
import Derived.Test.YtpfkkmacakjmbaaGreatDoorP38
set_option maxRecDepth 100000
set_option maxHeartbeats 6400000
set_option linter.unusedSimpArgs false
set_option linter.unusedVariables false
namespace Go.Proofs.YtpfkkmacakjmbaaGreatDoor
section
open Go Go.RowKit Sp
attribute [local go_sem ↓] Go.wp_at_zero Go.wp_at_succ
theorem AX:(Tryz.prog.info? 265).map (fun i=>(i.zero,i.size,i.bytes))=some (some (.agg #[.int .i64 0,.slice none 0 0]),2,32):=by kernel_rfl
section
variable {K:Dk} {w0 w w':World} {hv:Value} {fo:List Value} {s:Ev} {ds:List Fd} {d:Fd} {g cap:Nat} {x:Ins} {im:Img} {T:bU} {base:Nat} {L:List (Nat×List St)}
theorem AY (h:DmQ K w0 w 0 12 hv (.slice (some ⟨g,0,none⟩) (ds.length+1) cap) fo s (ds++ [d])) (h4:d.stk.length≤4000) (hI:bT w0 K.bi im) (hxa:x.a<im.classes.length) (hf8:bS im.classes x.a≤100) (hT:eU w0 base K.tv L) (hLT:L.map (·.2)=T) (hpc: ∀d'∈ds++ [d],0≤d'.pc) (hfs:va T s.heap.length ((ds++ [d]).map Fd.fm)) (h12:ds.length+1≤12) (cs:List bB) (hob:jG cs s.heap) (hh:s.heap.length≤4000) (hce:K.cells≤100) (hrs:ck s.heap (db T ((ds++ [d]).map Fd.fm))≤404000) (ho:x.op.toNat=110):
  Calls Tryz.prog 114 #[.pointer (some ⟨K.mb,0,none⟩),.pointer (some ⟨g,ds.length*4,none⟩),aY x] w fun en w'=>en= .returned (.tuple #[])∧((ck s.heap (db T ((ds++ [d]).map Fd.fm))+1+(bJ im.classes x.a).length>K.cells∧iy K w0 g cap ds d.q s d.pc d.stk d.loc 9 w')∨(¬ck s.heap (db T ((ds++ [d]).map Fd.fm))+1+(bJ im.classes x.a).length>K.cells∧iy K w0 g cap ds d.q {s with heap:=s.heap++ [⟨x.a,bJ im.classes x.a⟩]} d.pc (d.stk++ [.o s.heap.length]) d.loc 12 w')):=by
 have e1:=hid (fun Y (hY:But (fun _=>False) w Y)=>vv (h.new hY) hT hLT hpc hfs (by simp;omega) cs hob hh);obtain⟨RS,f2⟩: ∃RS,ck s.heap (db T ((ds++ [d]).map Fd.fm))=RS:=⟨_,rfl⟩;rw[f2]at e1 hrs⊢
 have h0:(bJ im.classes x.a).length≤100:=by
  have:(bJ im.classes x.a).length=bS im.classes x.a:=by simp[bJ,bz,bS,List.getElem?_eq_getElem hxa]
  omega
 clear hT hLT hpc hfs hob f2;unfold aY;rw[ho];clear ho;obtain⟨W,hW⟩: ∃W,w.alloc (.cells #[.int .u8 110,.int .i64 x.a,.int .i64 x.b,.int .i64 x.pos] 144)=W:=⟨_,rfl⟩;have b1:But (fun _=>False) w W:=by rw[←hW];exact But.alloc _ _ _
 have b9:W.heap[w.heap.size]?=some (.cells #[.int .u8 110,.int .i64 x.a,.int .i64 x.b,.int .i64 x.pos] 144):=by rw[←hW];exact heap_alloc_new _ _
 have b4:=h.new b1;have c0:=b4.mc.cs.1;have n1:=ce1 b9;have f4:=b4.lt;have e5:=ae b9;have e8:=hid hW;have HM:=hid h;have g3:=h.old.size;clear hW h
 go_in
 go_wp2_with fail;rw[e8.out];refine az (But (fun _=>False) W) 7 (by kernel_rfl) ?_;have a7:But (fun _=>False) W W.drew:=But.drew _ _
 iterate 6 (refine aB (v:=?_) rfl (by kernel_rfl) (fun _ _ _ h=>h) rfl a7 ?_ ?_;rotate_left;(focus (intro wS h;have q0:=(h.kc c0 f4);have q1:=(h.kc n1 e5);clear h;go_simp;try rfl));dsimp only[Act.put];try simp only[aR])
 refine ag rfl (by kernel_rfl) ?_;intro KS hKS;go_simp;refine(uO K.bi im x.a _ (hI.but (b4.new a7).old).cls hxa hf8).mono ?_;rintro en wf ⟨vf,rfl,e3,e2⟩;refine hKS.out _ _ (fun _=>a7.trans e2) ?_;clear hKS KS;refine ag rfl (by kernel_rfl) ?_;intro KS hKS;go_simp;refine hKS.out _ _ nofun ?_;clear hKS KS;refine aD rfl (by kernel_rfl) ?_;have a3:=a7.trans e2;have b2:=b1.trans a3;have a9:=(a3.block _ e5 (fun h=>h)).trans b9;obtain⟨af,capf,rfl⟩:=au e3;have a4:wf.ownsRow w.heap.size 135 2 (.slice af (bJ im.classes x.a).length capf) (bJ im.classes x.a).length (aM (bJ im.classes x.a)):=ft e3 b1.size;clear c0 n1 f4 e5 e2 e3 b4 b1 a3 b9 e8 a7
 go_wp2_with fail;refine(e1.out _ b2).mono ?_;rintro en w1 ⟨rfl,a6⟩;have a0:=HM.out.new (b2.trans a6);have f1:=ar a4 a6 (fun _ _ h=>h);have b5:=a6.kp a9
 have e6:Hid (∀g',(Value.slice af (bJ im.classes x.a).length capf).ownBlock=some g'→ ∀a v l,b8 s.heap fo (ds++ [d]) a=some (v,l)→v.ownBlock≠some g'):=fun g' hg' a v l ha hv=>by
  have:=ay a4 g' hg';have:=aU (HM.out.rw.row a v l ha) g' hv;omega
 have h2:=b2.size;have g4:=a6.size;clear e1 a6 a4 a9 b2 HM;obtain⟨_,_,c2,_,_,_,c6,_,_,c9⟩:=a0.mc.cs;have z9:=a0.mc.fz 9;have z2:=a0.mc.fz 2;have e4:=a0.lt;have n1:=ce1 b5;have g1:=ae b5;have b0:=hid a0;have e7:=hid f1;have h1:=a0.old.size;have ab:=a0.nh;have an:hv.ownBlock≠some w.heap.size:=aF a0.hp b5 (by decide);have HP:=a0.hp;obtain⟨ah,caph,rfl⟩:=au HP;clear a0 f1 b5;generalize f0:(bJ im.classes x.a).length=nf at*;have e0:=hid f0;clear f0
 by_cases hc:RS+1+nf>K.cells
 ·have f6:(K.cells:Int)<(RS:Int)+1+(nf:Int):=by omega
  go_wp2_with fail;refine eo Tryz.results114 rfl ?_;rw[e0.out];exact⟨rfl,Or.inl ⟨hc,_,_,_,_,b0.out.own (val':=0) (e':=9) (s':=s) (But.setB w1 K.mb 9 (.int .i64 9)) rfl (b0.out.mc.set9 9)⟩⟩
 ·have f6: ¬(K.cells:Int)<(RS:Int)+1+(nf:Int):=by omega
  have HC:=hid hc;clear hc;obtain⟨i0,f7,g5,g6,g7⟩:=info_parts AX;go_wp2_with fail;refine az (But (fun k=>(Value.slice ah s.heap.length caph).ownBlock=some k) w1) 11 (by kernel_rfl) ?_;have f3:But (fun k=>(Value.slice ah s.heap.length caph).ownBlock=some k) w1 w1.drew:=But.drew _ _
  iterate 9 (refine aB (v:=?_) rfl (by kernel_rfl) (fun _ _ _ h=>h) rfl f3 ?_ ?_;rotate_left;(focus (intro wS h;have q0:=((h.cell (p:=⟨K.mb,2,none⟩) e4 ab).trans c2);have q1:=((h.cell (p:=⟨w.heap.size,1,none⟩) g1 an).trans n1);clear h;go_simp;try rfl));dsimp only[Act.put];try simp only[aR])
  refine ag rfl (by kernel_rfl) ?_;intro KS hKS;go_simp;refine hKS.out _ _ (fun _=>(But.alloc _ _ _).trans (But.drew _ _)) ?_;clear hKS KS;refine ag rfl (by kernel_rfl) ?_;intro KS hKS
  refine step_append_lies _ (by rfl) _ _ _ (by rfl) w0.heap.size 265 i0 _ 2 32 (by kernel_rfl) f7 g5 g6 g7 rfl (by omega) _ s.heap.length (ey s.heap fo) (by rfl) ((HP.alloc _).drew)
          ⟨w1.heap.size,0,none⟩ 1 1 [.int .i64 x.a,.slice af nf capf] (by rfl) (by rfl) (World.news_of_block (cs:=#[.int .i64 x.a,.slice af nf capf]) (t:=265) (fr:=(0,0)) (heap_alloc_new w1 _)) (by simp[Value.oneCell'])
          (by omega) (by unfold maxLen;omega) (by omega) (by simp;omega) (w1.heap.size+1) (by simp) ?_
  intro gg a5 w2 a2 a1 f5 f8;have a8:But (fun k=>(Value.slice ah s.heap.length caph).ownBlock=some k) w1 w2:=((But.alloc _ _ _).trans (But.drew _ _)).trans (aQ a1);refine hKS.out _ _ (fun _=>a8) ?_;clear hKS KS;have y0:=(a8.cell (p:=⟨K.mb,2,none⟩) e4 ab).trans c2;have y1:=(a8.frozen (p:=⟨K.mb,2,none⟩) e4 ab).trans z2;refine ag rfl (by kernel_rfl) ?_;intro KS hKS;go_simp;refine hKS.out _ _ nofun ?_;clear hKS KS;refine ag rfl (by kernel_rfl) ?_;intro KS hKS;go_simp;refine hKS.out _ _ nofun ?_;clear hKS KS;refine ag rfl (by kernel_rfl) ?_;intro KS hKS;go_simp;refine hKS.out _ _ nofun ?_;clear hKS KS
  refine aD rfl (by kernel_rfl) ?_;have b3:=b0.out.ob (ob:=⟨x.a,bJ im.classes x.a⟩) (vf:= .slice af nf capf) (hv':= .slice (some ⟨gg,0,none⟩) (s.heap.length+1) a5) (by rw[e0.out];exact ft e7.out g3) e6.out a8 a2;clear y0 y1 c2 z2 n1 a8 a2 a1 f5 e6 b0 e7 f3 c6 c9 z9 HP;generalize (w2.setCell ⟨K.mb,2,none⟩ (.slice (some ⟨gg,0,none⟩) (s.heap.length+1) a5))=w3 at*;have c1:=b3.mc.cs.2.2.1;have g0:=b3.lt;have g2:=bH ((s.heap.length:Int)+1-1) (by omega) (by omega);rw[IntWalk.i64_left]at g2;have HQ:=hid (df b3 (.o s.heap.length) h4);simp only[cU,sd,si]at HQ;clear b3;go_wp2_with fail;refine HQ.out.mono ?_
  rintro en w4 ⟨rfl,sv',hM⟩;clear HQ;go_wp2_with fail;go_end0;rw[e0.out];exact⟨rfl,Or.inr ⟨HC.out,_,_,_,_,hM⟩⟩
end
end
section
open Go Go.RowKit Sp
theorem qo {stk:List V}:ke [] stk:=⟨by simp,fun j t v h=>by simp at h⟩
theorem yE {stk:List V} {a:UInt8} (hl:1≤stk.length) (h:((a.toNat:Int)==105)=(((aX stk).K:Int)==105)):ke [a] stk:=by
 refine⟨hl,fun j t v h1 h2=> ?_⟩
 cases j with
 |succ j=>simp at h1
 |zero=>
  simp at h1 h2;have:=(mJ hl).2.1;rw[h2]at this
  cases this
  rw[←h1];exact h
theorem yF {stk:List V} {a b:UInt8} (hl:2≤stk.length) (h:((a.toNat:Int)==105)=(((dP stk).K:Int)==105)) (h':((b.toNat:Int)==105)=(((aX stk).K:Int)==105)):ke [a,b] stk:=by
 refine⟨hl,fun j t v h1 h2=> ?_⟩
 match j with
 |0=>
  simp at h1 h2;have e:dP stk=v:=by unfold dP;rw[List.getD_eq_getElem?_getD,h2];rfl
  rw[←h1,h,e]
 |1=>
  simp at h1 h2;have:=(mJ (stk:=stk) (by omega)).2.1;rw[show stk.length-2+1=stk.length-1 from by omega,this]at h2
  cases h2
  rw[←h1];exact h'
 |j+2=>simp at h1
theorem sm {im:Img} {s:Ev} {v:V} (h:oa im s v):((v.K:Int)==105)=false:=by
 rcases h with rfl| ⟨k,ob,rfl,_⟩<;>rfl
def oe (K:Dk) (w0:World) (sr:SR) (w':World):Prop:=match sr with
 | .go m=> ∃hv fv fo ds d,DmQ K w0 w' 0 12 hv fv fo m.ev (ds++ [d])∧m.fr=d.fm::(ds.map Fd.fm).reverse∧ ∀d'∈ds++ [d],0≤d'.pc
 | .bad n o=>Ab K w0 n o w'
 | .fin v o=> ∃hv fv fo s,s.out=o∧DmQ K w0 w' v.N 0 hv fv fo s []
structure DAt (K:Dk) (w0 w:World) (im:Img) (T:bU) (hv:Value) (g cap:Nat) (fo:List Value) (s:Ev) (ds:List Fd) (d:Fd) (b:Bod) (x:Ins) (st l:List UInt8):Prop where
 dm:DmQ K w0 w 0 12 hv (.slice (some ⟨g,0,none⟩) (ds.length+1) cap) fo s (ds++ [d])
 cp:ds.length+1≤cap
 img:bT w0 K.bi im
 fit:Fit im T
 mt:MT im T d.fm (ds.map Fd.fm).reverse s
 top:ox im T s.heap d.fm b x st l
 pcs: ∀d'∈ds++ [d],0≤d'.pc
 hh:s.heap.length≤4000
def vw (K:Dk) (w0:World) (g cap:Nat) (ds:List Fd) (q:Nat) (sr:SR) (w':World):Prop:=
 ∃s pc stk loc e,-1≤pc∧pc≤200∧iy K w0 g cap ds q s pc stk loc e w'∧((e=12∧sr= .go ⟨⟨q,(pc+1).toNat,stk,loc⟩::(ds.map Fd.fm).reverse,s⟩)∨ ∃n:Nat,e=n∧sr= .bad n s.out)
section
variable {K:Dk} {w0 w w':World} {im:Img} {T:bU} {hv:Value} {g cap:Nat} {fo:List Value} {s:Ev} {ds:List Fd} {d:Fd} {b:Bod} {x:Ins} {st l:List UInt8}
theorem vw.next {q:Nat} {sr:SR} (hp: ∀d'∈ds,0≤d'.pc) (h:vw K w0 g cap ds q sr w'):sj K w0 g cap ds (oe K w0 sr) w':=by
 obtain⟨s,pc,stk,loc,e,p1,p2,⟨hv,fo,sv,lv,hM⟩,hc⟩:=h;refine⟨q,s,pc,stk,loc,e,hv,fo,sv,lv,p1,p2,hM,fun w'' hM2=> ?_⟩;rcases hc with⟨rfl,rfl⟩ | ⟨n,rfl,rfl⟩
 ·refine⟨_,_,_,ds,_,hM2,rfl,fun d' hd=> ?_⟩;rcases List.mem_append.1 hd with hd|hd
  ·exact hp d' hd
  ·rw[List.mem_singleton]at hd;subst hd;simp only;omega
 ·exact⟨_,_,_,_,_,rfl,hM2⟩
theorem DAt.wx (h:DAt K w0 w im T hv g cap fo s ds d b x st l):WfX im.classes im.sigs.length b.locals.length x:=(h.fit.wf.bod b (List.mem_of_getElem? h.top.bd)).code x (List.mem_of_getElem? h.top.ins)
theorem DAt.sml (h:DAt K w0 w im T hv g cap fo s ds d b x st l):d.stk.length≤1000∧d.pc≤100∧ds.length+1≤12∧0≤d.pc:=by
 have h1:=((mo h.fit h.mt).1 d.fm (List.mem_cons_self ..)).2.1;have h2:=(mo h.fit h.mt).2 d.fm (List.mem_cons_self ..);have h3:=h.mt.dep;have h4:=h.pcs d (by simp);simp at h3;have h5:d.pc.toNat≤100:=h2;exact⟨h1,by omega,by omega,h4⟩
theorem DAt.on (h:DAt K w0 w im T hv g cap fo s ds d b x st l) (stk:List V):d.fm.on stk=⟨d.q,(d.pc+1).toNat,stk,d.loc⟩:=by
 have:=h.sml.2.2.2;simp only[Fm.on,Fd.fm,Fm.mk.injEq,true_and,and_true];omega
theorem DAt.eff (h:DAt K w0 w im T hv g cap fo s ds d b x st l): ∃st' l',cy im.classes im.sigs b x st l=some (st',l'):=by
 obtain⟨t,ht,hG⟩:=h.fit.tab h.top.bd;obtain⟨st',l',he,_,_⟩:=hG.go d.fm.pc x st l h.top.ins ((cm ht).1 h.top.st);exact⟨st',l',he⟩
theorem DAt.step (h:DAt K w0 w im T hv g cap fo s ds d b x st l) (ht:ke (bh im x) d.stk) (sr:SR)
  (hK:(x.op.toNat=99∧ ∀Y,But (fun _=>False) w Y→Calls Tryz.prog 111 #[.pointer (some ⟨K.mb,0,none⟩),.pointer (some ⟨g,ds.length*4,none⟩),aY x] Y fun en w'=>en= .returned (.tuple #[])∧oe K w0 sr w')∨
   (x.op.toNat=116∧ ∀Y,But (fun _=>False) w Y→Calls Tryz.prog 112 #[.pointer (some ⟨K.mb,0,none⟩),.pointer (some ⟨g,ds.length*4,none⟩)] Y fun en w'=>en= .returned (.tuple #[])∧oe K w0 sr w')∨
   ((x.op.toNat=108∨x.op.toNat=115∨x.op.toNat=100∨x.op.toNat=106)∧ ∀Y,But (fun _=>False) w Y→Calls Tryz.prog 113 #[.pointer (some ⟨K.mb,0,none⟩),.pointer (some ⟨g,ds.length*4,none⟩),aY x] Y fun en w'=>en= .returned (.tuple #[])∧vw K w0 g cap ds d.q sr w')∨
   ((x.op.toNat=110∨x.op.toNat=122∨x.op.toNat=103∨x.op.toNat=112∨x.op.toNat=120)∧ ∀Y,But (fun _=>False) w Y→Calls Tryz.prog 114 #[.pointer (some ⟨K.mb,0,none⟩),.pointer (some ⟨g,ds.length*4,none⟩),aY x] Y fun en w'=>en= .returned (.tuple #[])∧vw K w0 g cap ds d.q sr w')∨
   ((x.op.toNat≠99∧x.op.toNat≠116∧x.op.toNat≠108∧x.op.toNat≠115∧x.op.toNat≠100∧x.op.toNat≠106∧x.op.toNat≠110∧x.op.toNat≠122∧x.op.toNat≠103∧x.op.toNat≠112∧x.op.toNat≠120)∧ ∀Y,But (fun _=>False) w Y→Calls Tryz.prog 115 #[.pointer (some ⟨K.mb,0,none⟩),.pointer (some ⟨g,ds.length*4,none⟩),aY x] Y fun en w'=>en= .returned (.tuple #[])∧vw K w0 g cap ds d.q sr w')):
  Calls Tryz.prog 67 #[.pointer (some ⟨K.mb,0,none⟩)] w fun en w'=>en= .returned (.tuple #[])∧oe K w0 sr w':=by
 have hs:=h.sml;have hn: ∀{en:Ending} {w':World},en= .returned (.tuple #[])∧vw K w0 g cap ds d.q sr w'→en= .returned (.tuple #[])∧sj K w0 g cap ds (oe K w0 sr) w':=fun⟨a,c⟩=>⟨a,c.next (fun d' hd=>h.pcs d' (List.mem_append_left _ hd))⟩
 refine vn h.dm (by omega) (by omega) h.img h.fit.wf h.top.bd hs.2.2.2 h.top.ins ht _ ?_;rcases hK with hK|hK| ⟨ho,hK⟩ | ⟨ho,hK⟩ | ⟨ho,hK⟩
 ·exact Or.inl hK
 ·exact Or.inr (Or.inl hK)
 ·exact Or.inr (Or.inr (Or.inl ⟨ho,fun Y hY=>(hK Y hY).mono (fun _ _ h=>hn h)⟩))
 ·exact Or.inr (Or.inr (Or.inr (Or.inl ⟨ho,fun Y hY=>(hK Y hY).mono (fun _ _ h=>hn h)⟩)))
 ·exact Or.inr (Or.inr (Or.inr (Or.inr ⟨ho,fun Y hY=>(hK Y hY).mono (fun _ _ h=>hn h)⟩)))
abbrev DAt.Goal (_:DAt K w0 w im T hv g cap fo s ds d b x st l):Prop:=Calls Tryz.prog 67 #[.pointer (some ⟨K.mb,0,none⟩)] w fun en w'=>en= .returned (.tuple #[])∧oe K w0 (Sp.stepX im K.inp T K.cells x d.fm (ds.map Fd.fm).reverse s) w'
theorem AZ (h:DAt K w0 w im T hv g cap fo s ds d b x st l) (ho:x.op.toNat=107):h.Goal:=by
 have hs:=h.sml;refine h.step (by rw[show bh im x=[]from by simp[bh,ho]];exact qo) _ (Or.inr (Or.inr (Or.inr (Or.inr ⟨by omega,fun Y hY=>(AO (h.dm.new hY) (by omega) ho).mono ?_⟩))));rintro en w' ⟨e,hP⟩;exact⟨e,_,_,_,_,_,by omega,by omega,hP,Or.inl ⟨rfl,by rw[←h.on];simp[Sp.stepX,ho];rfl⟩⟩
theorem A2 (h:DAt K w0 w im T hv g cap fo s ds d b x st l) (hr:s.read≤4000) (ho:x.op.toNat=114):h.Goal:=by
 have hs:=h.sml;refine h.step (by rw[show bh im x=[]from by simp[bh,ho]];exact qo) _ (Or.inr (Or.inr (Or.inr (Or.inr ⟨by omega,fun Y hY=>(AP (h.dm.new hY) (by omega) hr ho).mono ?_⟩))));rintro en w' ⟨e,hP⟩;exact⟨e,_,_,_,_,_,by omega,by omega,hP,Or.inl ⟨rfl,by rw[←h.on];simp[Sp.stepX,ho];rfl⟩⟩
theorem A3 (h:DAt K w0 w im T hv g cap fo s ds d b x st l) (ho:x.op.toNat=122):h.Goal:=by
 have hs:=h.sml;refine h.step (by rw[show bh im x=[]from by simp[bh,ho]];exact qo) _ (Or.inr (Or.inr (Or.inr (Or.inl ⟨by omega,fun Y hY=>(AV (h.dm.new hY) (by omega) ho).mono ?_⟩))));rintro en w' ⟨e,hP⟩;exact⟨e,_,_,_,_,_,by omega,by omega,hP,Or.inl ⟨rfl,by rw[←h.on];simp[Sp.stepX,ho];rfl⟩⟩
theorem A4 (h:DAt K w0 w im T hv g cap fo s ds d b x st l) (ht:gv w0) (hol:s.out.length≤90000) (ho:x.op.toNat=119):h.Goal:=by
 have hs:=h.sml;obtain⟨st',l',he⟩:=h.eff;obtain⟨hf,_,_⟩:=aW (by omega) (by omega) he;simp[aP,aL,ho]at hf;obtain⟨f1,f2⟩:=de hf;have hl:=h.top.stk.len;have a0:1≤d.stk.length:=by have:d.stk.length=_:=hl;omega
 obtain⟨n,hn,n1,n2⟩:=(h.top.stk.t1 f1).toInt h.fit.wf.cls h.fit.wf.nc h.mt.ht f2;have hn:aX d.stk= .i n:=hn;refine h.step (by rw[show bh im x=[105]from by simp[bh,ho]];exact yE a0 (by rw[hn];rfl)) _ (Or.inr (Or.inr (Or.inr (Or.inr ⟨by omega,fun Y hY=>(AQ (h.dm.new hY) (by omega) ht hol a0 hn n1 n2 ho).mono ?_⟩))));rintro en w' ⟨e,hP⟩;exact⟨e,_,_,_,_,_,by omega,by omega,hP,Or.inl ⟨rfl,by rw[←h.on];simp[Sp.stepX,ho,show aX d.fm.stk= .i n from hn,V.N];rfl⟩⟩
theorem A5 (h:DAt K w0 w im T hv g cap fo s ds d b x st l) (ho:x.op.toNat=102):h.Goal:=by
 have hs:=h.sml;obtain⟨st',l',he⟩:=h.eff;obtain⟨hf,_,_⟩:=aW (by omega) (by omega) he;simp[aP,aL,ho]at hf;obtain⟨f1,f2⟩:=de hf;have hl:=h.top.stk.len;have a0:1≤d.stk.length:=by have:d.stk.length=_:=hl;omega
 obtain⟨n,hn,n1,n2⟩:=(h.top.stk.t1 f1).toInt h.fit.wf.cls h.fit.wf.nc h.mt.ht f2;have hn:aX d.stk= .i n:=hn;have a1:=h.wx.num;refine h.step (by rw[show bh im x=[105]from by simp[bh,ho]];exact yE a0 (by rw[hn];rfl)) _ (Or.inr (Or.inr (Or.inr (Or.inr ⟨by omega,fun Y hY=>(AR (h.dm.new hY) (by omega) a0 h.wx.num ho).mono ?_⟩))));rintro en w' ⟨e,hP⟩;refine⟨e,_,_,_,_,_,by split<;>omega,by split<;>omega,hP,Or.inl ⟨rfl,?_⟩⟩;have e1:(aX d.stk).N=(aX d.fm.stk).N:=rfl;have e2:d.fm.pc=d.pc.toNat:=rfl;simp only[Sp.stepX,ho]
 by_cases h0:(aX d.stk).N=0
 ·simp[h0,←e1];exact⟨rfl,rfl,rfl⟩
 ·simp[h0,←e1,e2,show(d.pc+1).toNat=d.pc.toNat+1 from by omega];exact⟨rfl,rfl,rfl⟩
theorem A6 (h:DAt K w0 w im T hv g cap fo s ds d b x st l) (ho:x.op.toNat=100):h.Goal:=by
 have hs:=h.sml;obtain⟨st',l',he⟩:=h.eff;obtain⟨k,hk,_,_⟩:=gP (by omega) he;obtain⟨_,q1,_⟩:=dK (by omega) hk;have hl:=h.top.stk.len;have a0:1≤d.stk.length:=by have:d.stk.length=_:=hl;omega
 refine h.step (by rw[show bh im x=[]from by simp[bh,ho]];exact qo) _ (Or.inr (Or.inr (Or.inl ⟨by omega,fun Y hY=>(zY (h.dm.new hY) (by omega) a0 ho).mono ?_⟩)));rintro en w' ⟨e,hP⟩;exact⟨e,_,_,_,_,_,by omega,by omega,hP,Or.inl ⟨rfl,by rw[←h.on];simp[Sp.stepX,ho];rfl⟩⟩
theorem A7 (h:DAt K w0 w im T hv g cap fo s ds d b x st l) (ho:x.op.toNat=115):h.Goal:=by
 have hs:=h.sml;obtain⟨st',l',he⟩:=h.eff;obtain⟨k,hk,_,_⟩:=gP (by omega) he;obtain⟨_,q1,_⟩:=dK (by omega) hk;have hl:=h.top.stk.len;have a0:1≤d.stk.length:=by have:d.stk.length=_:=hl;omega
 have a1:x.b<d.loc.length:=by
  have h1:d.loc.length=l.length:=h.top.loc.len;rw[h1,p9 h.fit h.top];exact h.wx.loc (Or.inr ho)
 refine h.step (by rw[show bh im x=[]from by simp[bh,ho]];exact qo) _ (Or.inr (Or.inr (Or.inl ⟨by omega,fun Y hY=>(zZ (h.dm.new hY) (by omega) a0 a1 ho).mono ?_⟩)));rintro en w' ⟨e,hP⟩;exact⟨e,_,_,_,_,_,by omega,by omega,hP,Or.inl ⟨rfl,by simp[Sp.stepX,ho];exact⟨rfl,congrArg Fm.pc (h.on []),rfl,rfl⟩⟩⟩
theorem A8 (h:DAt K w0 w im T hv g cap fo s ds d b x st l) (ho:x.op.toNat=108):h.Goal:=by
 have hs:=h.sml
 have a0:x.b<d.loc.length:=by
  have h1:d.loc.length=l.length:=h.top.loc.len;rw[h1,p9 h.fit h.top];exact h.wx.loc (Or.inl ho)
 refine h.step (by rw[show bh im x=[]from by simp[bh,ho]];exact qo) _ (Or.inr (Or.inr (Or.inl ⟨by omega,fun Y hY=>(z6 (h.dm.new hY) (by omega) a0 ho).mono ?_⟩)));rintro en w' ⟨e,hP⟩;exact⟨e,_,_,_,_,_,by omega,by omega,hP,Or.inl ⟨rfl,by rw[←h.on];simp[Sp.stepX,ho];rfl⟩⟩
theorem A9 (h:DAt K w0 w im T hv g cap fo s ds d b x st l) (ho:x.op.toNat=106):h.Goal:=by
 have hs:=h.sml;have a0:=h.wx.num;refine h.step (by rw[show bh im x=[]from by simp[bh,ho]];exact qo) _ (Or.inr (Or.inr (Or.inl ⟨by omega,fun Y hY=>(zX (h.dm.new hY) h.wx.num ho).mono ?_⟩)));rintro en w' ⟨e,hP⟩;exact⟨e,_,_,_,_,_,by omega,by omega,hP,Or.inl ⟨rfl,by simp[Sp.stepX,ho];exact⟨rfl,rfl,rfl⟩⟩⟩
theorem jW {im:Img} {s:Ev} {v:V} (hh:HT im.classes s.heap) {t:UInt8} (h:VT im.classes s.heap t v) (ht:isR t=true):oa im s v:=by
 rcases h.ref ht with e| ⟨k,ob,e,hk,_,_⟩
 ·exact Or.inl e
 ·exact Or.inr ⟨k,ob,e,hk,hh.cls k ob hk⟩
theorem Ba {stk:List V} {t:UInt8} {n:Nat} (hl:2≤stk.length) (hn:n≤4) (hu:oa im s (dP stk)) (hv:VTm im.classes s.heap t (aX stk)) (ht:cA n t=true):ke (if t.toNat=105 then [111,105]else [111,111]) stk:=by
 have h1:=hv.not45 (kY ht);have h2:((((111:UInt8).toNat:Nat):Int)==105)=(((dP stk).K:Int)==105):=by rw[sm hu];rfl
 by_cases h:t.toNat=105
 ·rw[if_pos h];obtain⟨m,hm,_⟩:=h1.int h;exact yF hl h2 (by rw[hm];rfl)
 ·rw[if_neg h];have hr:isR t=true:=by simp[cA,aH,isR,isC]at ht⊢;omega
  refine yF hl h2 ?_;rcases h1.ref hr with e| ⟨k,ob,e,_⟩<;>rw[e]<;>rfl
theorem Bb (h:DAt K w0 w im T hv g cap fo s ds d b x st l) (ho:x.op.toNat=43∨x.op.toNat=45∨x.op.toNat=42∨x.op.toNat=60∨x.op.toNat=61∨x.op.toNat=47):h.Goal:=by
 have hs:=h.sml;obtain⟨st',l',he⟩:=h.eff;obtain⟨hf,_,_⟩:=aW (by omega) (by omega) he
 have hp:aP im.classes im.sigs b x=[105,105]:=by
  rcases ho with h'|h'|h'|h'|h'|h'<;>simp[aP,aL,h']
 rw[hp]at hf;obtain⟨f1,f2,f3⟩:=eh hf;have hl:d.stk.length=st.length:=h.top.stk.len;obtain⟨m,hm,m1,m2⟩:=(h.top.stk.t2 f1).toInt h.fit.wf.cls h.fit.wf.nc h.mt.ht f2;obtain⟨n,hn,n1,n2⟩:=(h.top.stk.t1 (by omega)).toInt h.fit.wf.cls h.fit.wf.nc h.mt.ht f3;have a0:dP d.stk= .i m:=hm;have a1:aX d.stk= .i n:=hn
 have hw:bh im x=[105,105]:=by
  rcases ho with h'|h'|h'|h'|h'|h'<;>simp[bh,h']
 have hX:Sp.stepX im K.inp T K.cells x d.fm (ds.map Fd.fm).reverse s=match eS x.op.toNat m n [] s with
  | .bad e o=> .bad e o
  | .ok v _ s=> .go ⟨d.fm.on (cH d.stk++ [v])::(ds.map Fd.fm).reverse,s⟩:=by
  unfold Sp.stepX;rw[if_neg (by omega),if_neg (by omega),if_neg (by omega),if_neg (by omega),if_neg (by omega),if_neg (by omega),if_neg (by omega),if_neg (by omega),if_neg (by omega),if_neg (by omega),if_neg (by omega),if_neg (by omega),if_neg (by omega),if_neg (by omega),if_neg (by omega),if_neg (by omega),hm,hn]
  rfl
 have ht:ke (bh im x) d.stk:=by rw[hw];exact yF (by omega) (by rw[a0];rfl) (by rw[a1];rfl)
 refine h.step ht _ (Or.inr (Or.inr (Or.inr (Or.inr ⟨by omega,fun Y hY=> ?_⟩))))
 by_cases h47:x.op.toNat=47
 ·refine(AU (h.dm.new hY) (by omega) (by omega) a0 a1 m1 m2 n1 n2 h47).mono ?_;rintro en w' ⟨e,⟨h0,hP⟩ | ⟨h0,hP⟩⟩
  ·exact⟨e,_,_,_,_,_,by omega,by omega,hP,Or.inr ⟨7,rfl,by rw[hX,h47,h0];simp[eS]⟩⟩
  ·exact⟨e,_,_,_,_,_,by omega,by omega,hP,Or.inl ⟨rfl,by rw[hX,h47];simp[eS,h0,h.on]⟩⟩
 ·refine(AT (h.dm.new hY) (by omega) (by omega) a0 a1 m1 m2 n1 n2 (by omega)).mono ?_;rintro en w' ⟨e,hP⟩;exact⟨e,_,_,_,_,_,by omega,by omega,hP,Or.inl ⟨rfl,by rw[hX];simp[eS,h47,h.on]⟩⟩
theorem Bc (h:DAt K w0 w im T hv g cap fo s ds d b x st l) (ho:x.op.toNat=101):h.Goal:=by
 have hs:=h.sml;obtain⟨st',l',he⟩:=h.eff;obtain⟨k,hk,_,_⟩:=dH (by omega) (by omega) he;obtain⟨_,q1,q3,q2⟩:=kv (by rw[ho]at hk;exact hk);have hl:d.stk.length=st.length:=h.top.stk.len;have hu:oa im s (dP d.stk):=jW h.mt.ht ((h.top.stk.t2 q1).toRef q2) q2;have hv:oa im s (aX d.stk):=jW h.mt.ht ((h.top.stk.t1 (by omega)).toRef q3) q3;refine h.step (by rw[show bh im x=[111,111]from by simp[bh,ho]];exact yF (by omega) (by rw[sm hu];rfl) (by rw[sm hv];rfl)) _ (Or.inr (Or.inr (Or.inr (Or.inr ⟨by omega,fun Y hY=>(AS (h.dm.new hY) (by omega) (by omega) ho).mono ?_⟩))));rintro en w' ⟨e,hP⟩;exact⟨e,_,_,_,_,_,by omega,by omega,hP,Or.inl ⟨rfl,by rw[←h.on];simp[Sp.stepX,ho];rfl⟩⟩
theorem Bd (h:DAt K w0 w im T hv g cap fo s ds d b x st l) (ho:x.op.toNat=120):h.Goal:=by
 have hs:=h.sml;obtain⟨st',l',he⟩:=h.eff;obtain⟨k,hk,_,_⟩:=dH (by omega) (by omega) he;obtain⟨_,q1,q2⟩:=dK (by omega) hk;have q2:=q2 ho;have hl:d.stk.length=st.length:=h.top.stk.len;have hv:oa im s (aX d.stk):=jW h.mt.ht ((h.top.stk.t1 q1).toRef q2) q2;refine h.step (by rw[show bh im x=[111]from by simp[bh,ho]];exact yE (by omega) (by rw[sm hv];rfl)) _ (Or.inr (Or.inr (Or.inr (Or.inl ⟨by omega,fun Y hY=>(AW (h.dm.new hY) (by omega) (by omega) h.img h.fit.wf.cls hv h.hh ho).mono ?_⟩))));rintro en w' ⟨e,hP⟩;refine⟨e,_,_,_,_,_,by omega,by omega,hP,?_⟩;have ef:aX d.fm.stk=aX d.stk:=rfl
 have eg:Sp.stepX im K.inp T K.cells x d.fm (ds.map Fd.fm).reverse s=if ofV im s (aX d.stk) x.a=true then .go ⟨d.fm.on d.stk::(ds.map Fd.fm).reverse,s⟩else .bad 8 s.out:=by
  rcases hv with hz| ⟨k,ob,hz,_⟩
  ·simp[Sp.stepX,ho,ef,hz,ofV];rfl
  ·simp[Sp.stepX,ho,ef,hz,ofV];rfl
 rw[eg]
 by_cases hb:ofV im s (aX d.stk) x.a=true
 ·rw[if_pos hb,if_pos hb];exact Or.inl ⟨rfl,by rw[h.on]⟩
 ·rw[if_neg hb,if_neg hb];exact Or.inr ⟨8,rfl,rfl⟩
theorem Be (h:DAt K w0 w im T hv g cap fo s ds d b x st l) (ho:x.op.toNat=103):h.Goal:=by
 have hs:=h.sml;obtain⟨st',l',he⟩:=h.eff;obtain⟨hf,_,_⟩:=aW (by omega) (by omega) he;simp[aP,aL,ho]at hf;obtain⟨f1,f2⟩:=de hf;have hl:d.stk.length=st.length:=h.top.stk.len;have hcl:=h.wx.cls (by omega);have a2:=h.fit.wf.nc;obtain⟨a0,a1⟩:=fP (a:=x.a) (by omega);have hv:=((h.top.stk.t1 f1).sub h.fit.wf.cls h.fit.wf.nc h.mt.ht f2).toRef (bE a0);have hR:oa im s (aX d.stk):=jW h.mt.ht hv (bE a0);refine h.step (by rw[show bh im x=[111]from by simp[bh,ho]];exact yE (by omega) (by rw[sm hR];rfl)) _ (Or.inr (Or.inr (Or.inr (Or.inl ⟨by omega,fun Y hY=> ?_⟩))));rcases hv.ref (bE a0)with e| ⟨k,ob,e,hk,_,hu⟩
 ·refine(Ad (h.dm.new hY) (by omega) (by omega) e ho).mono ?_;rintro en w' ⟨e',hP⟩;exact⟨e',_,_,_,_,_,by omega,by omega,hP,Or.inr ⟨6,rfl,by simp[Sp.stepX,ho,e]⟩⟩
 ·rw[a1]at hu;obtain⟨g1,g2⟩:=gE h.fit h.mt.ht hcl (h.wx.fld (by omega)) hk hu;refine(Ae (h.dm.new hY) (by omega) (by omega) h.img h.fit.wf.cls e hk (h.mt.ht.cls k ob hk) hu g1 h.hh ho).mono ?_;rintro en w' ⟨e',hP⟩;exact⟨e',_,_,_,_,_,by omega,by omega,hP,Or.inl ⟨rfl,by rw[←h.on];simp[Sp.stepX,ho,e,(Ev.at hk).2];rfl⟩⟩
theorem Bf (h:DAt K w0 w im T hv g cap fo s ds d b x st l) (ho:x.op.toNat=112):h.Goal:=by
 have hs:=h.sml;obtain⟨st',l',he⟩:=h.eff;obtain⟨hf,_,_⟩:=aW (by omega) (by omega) he;simp[aP,aL,ho]at hf;obtain⟨f1,f2,f3⟩:=eh hf;have hl:d.stk.length=st.length:=h.top.stk.len;have hcl:=h.wx.cls (by omega);have a3:=h.wx.fld (by omega);have a4:=h.fit.wf.nc;obtain⟨a0,a2⟩:=fP (a:=x.a) (by omega);have hv:=((h.top.stk.t2 f1).sub h.fit.wf.cls h.fit.wf.nc h.mt.ht f2).toRef (bE a0);have hR:oa im s (dP d.stk):=jW h.mt.ht hv (bE a0);have a6:=(h.top.stk.t1 (by omega)).sub h.fit.wf.cls h.fit.wf.nc h.mt.ht f3;have a5:=jV h.fit.wf hcl a3
 have a1:ke (bh im x) d.stk:=by
  rw[show bh im x=if(da im.classes x.a x.b).toNat=105 then [111,105]else [111,111]from by simp[bh,ho]];exact Ba (by omega) a4 hR a6 a5
 refine h.step a1 _ (Or.inr (Or.inr (Or.inr (Or.inl ⟨by omega,fun Y hY=> ?_⟩))));rcases hv.ref (bE a0)with e| ⟨k,ob,e,hk,_,hu⟩
 ·refine(Af (h.dm.new hY) (by omega) (by omega) e ho).mono ?_;rintro en w' ⟨e',hP⟩;exact⟨e',_,_,_,_,_,by omega,by omega,hP,Or.inr ⟨6,rfl,by simp[Sp.stepX,ho,e]⟩⟩
 ·rw[a2]at hu;obtain⟨g1,g2⟩:=gE h.fit h.mt.ht hcl (h.wx.fld (by omega)) hk hu;refine(Ag (h.dm.new hY) (by omega) (by omega) h.img h.fit.wf.cls e hk (h.mt.ht.cls k ob hk) hu g1 h.hh ho).mono ?_;rintro en w' ⟨e',hP⟩;exact⟨e',_,_,_,_,_,by omega,by omega,hP,Or.inl ⟨rfl,by rw[←h.on];simp[Sp.stepX,ho,e];exact⟨rfl,rfl⟩⟩⟩
theorem Bg (h:DAt K w0 w im T hv g cap fo s ds d b x st l) (hfin:ds=[]→ ∃n,aX d.stk= .i n) (ho:x.op.toNat=116):h.Goal:=by
 have hs:=h.sml;obtain⟨st',l',he⟩:=h.eff;obtain⟨hf,_,_⟩:=aW (by omega) (by omega) he;simp[aP,aL,ho]at hf;have f1:1≤st.length:=by split at hf<;>exact(de hf).1
 have hl:d.stk.length=st.length:=h.top.stk.len;refine h.step (by rw[show bh im x=[]from by simp[bh,ho]];exact qo) _ (Or.inr (Or.inl ⟨ho,fun Y hY=> ?_⟩))
 have hds:ds=[]∨ ∃es c,ds=es++ [c]:=by
  rcases List.eq_nil_or_concat ds with h| ⟨es,c,h⟩
  ·exact Or.inl h
  ·exact Or.inr ⟨es,c,by rw[h,List.concat_eq_append]⟩
 rcases hds with rfl| ⟨es,c,rfl⟩
 ·obtain⟨n,hn⟩:=hfin rfl;refine(yA (h.dm.new hY) h.cp (by omega) (by omega) hn).mono ?_;rintro en w' ⟨e,hv',fv',fo',hM⟩;refine⟨e,?_⟩;rw[show Sp.stepX im K.inp T K.cells x d.fm (([]:List Fd).map Fd.fm).reverse s= .fin (.i n) s.out from by simp[Sp.stepX,ho,show aX d.fm.stk= .i n from hn]];exact⟨_,_,_,_,rfl,hM⟩
 ·have hm:=mo h.fit h.mt;have hc:c.fm∈d.fm::((es++ [c]).map Fd.fm).reverse:=by simp
  have a1:=(hm.1 _ hc).2.1;have a5:c.pc.toNat≤100:=hm.2 _ hc;have a2:=h.pcs c (by simp);have a4:=h.dm.new hY;have a3:=h.cp;rw[List.length_append,List.length_singleton]at*;refine(Ac a4 a3 (by omega) (by omega) (Nat.le_trans a1 (by omega)) (by omega) ⟨a2,by omega⟩).mono ?_;rintro en w' ⟨e,fv',sv',lv',hM⟩;refine⟨e,?_⟩;have e1:Sp.stepX im K.inp T K.cells x d.fm ((es++ [c]).map Fd.fm).reverse s= .go ⟨c.fm.on (c.stk++ [aX d.stk])::(es.map Fd.fm).reverse,s⟩:=by simp[Sp.stepX,ho];rfl
  rw[e1];refine⟨_,_,_,es,_,hM,?_,fun d' a0=> ?_⟩
  ·simp only[Fm.on,Fd.fm,List.cons.injEq,Fm.mk.injEq,true_and,and_true];omega
  ·rcases List.mem_append.1 a0 with a0|a0
   ·exact h.pcs d' (by simp[a0])
   ·rw[List.mem_singleton]at a0;subst a0;simp only;omega
theorem Bh (h:DAt K w0 w im T hv g cap fo s ds d b x st l) {base:Nat} {L:List (Nat×List St)} (hT:eU w0 base K.tv L) (hLT:L.map (·.2)=T) (hce:K.cells≤100) (ho:x.op.toNat=110):h.Goal:=by
 have hs:=h.sml;have hcl:=h.wx.cls (by omega);have a1:=h.fit.wf.nc;have a4:=lh a1 hcl;have a5:=jz h.fit.wf.cls a1 (UInt8.ofNat (65+x.a));have a3:=(mo h.fit h.mt).1;have a2:=pg h.fit.wf h.mt.ht;have a9:bS im.classes x.a=(bz im.classes x.a).length:=rfl;rw[a4]at a5;have a0:va T s.heap.length ((ds++ [d]).map Fd.fm):=fun f hf=>a3 f (by simp at hf⊢;rcases hf with⟨a,ha,rfl⟩ |rfl;exact Or.inr ⟨a,ha,rfl⟩;exact Or.inl rfl)
 have a8:ck s.heap (db T ((ds++ [d]).map Fd.fm))=ck s.heap (db T (d.fm::(ds.map Fd.fm).reverse)):=gu (fun k=>by
  unfold db
  constructor
  ·rintro⟨f,hf,hk⟩;exact⟨f,by simp at hf⊢;rcases hf with⟨a,ha,rfl⟩ |rfl;exact Or.inr ⟨a,ha,rfl⟩;exact Or.inl rfl,hk⟩
  ·rintro⟨f,hf,hk⟩;exact⟨f,by simp at hf⊢;rcases hf with rfl| ⟨a,ha,rfl⟩;exact Or.inr rfl;exact Or.inl ⟨a,ha,rfl⟩,hk⟩)
 have a7:ck s.heap (db T ((ds++ [d]).map Fd.fm))≤404000:=by
  have a6:ck s.heap (db T ((ds++ [d]).map Fd.fm))=ck s.heap (fun k=>V.o k∈d9 T ((ds++ [d]).map Fd.fm)):=(gu (fun k=>nW k)).symm;rw[a6]
  exact pf a2 (fun u hu=>by
   obtain⟨f,hf,hu⟩:=List.mem_flatMap.1 hu;exact(a0 f hf).2.2.2.2 u hu) h.hh
 refine h.step (by rw[show bh im x=[]from by simp[bh,ho]];exact qo) _ (Or.inr (Or.inr (Or.inr (Or.inl ⟨by omega,fun Y hY=>(AY (h.dm.new hY) (by omega) h.img hcl (by omega) hT hLT h.pcs a0 (by omega) (im.classes.map toX) a2 h.hh hce a7 ho).mono ?_⟩))));rw[a8];rintro en w' ⟨e,⟨hc,hP⟩ | ⟨hc,hP⟩⟩
 ·exact⟨e,_,_,_,_,_,by omega,by omega,hP,Or.inr ⟨9,rfl,by simp only[Sp.stepX,ho];simp[hc]⟩⟩
 ·exact⟨e,_,_,_,_,_,by omega,by omega,hP,Or.inl ⟨rfl,by rw[←h.on];simp only[Sp.stepX,ho];simp[hc];rfl⟩⟩
theorem Bi (h:DAt K w0 w im T hv g cap fo s ds d b x st l) (ho:x.op.toNat=99):h.Goal:=by
 have hs:=h.sml;obtain⟨st',l',he⟩:=h.eff;obtain⟨hf,_,_⟩:=aW (by omega) (by omega) he;simp[aP,aL,ho]at hf;obtain⟨f1,f2,f3⟩:=eh hf;have hl:d.stk.length=st.length:=h.top.stk.len;have hcl:=h.wx.cls (by omega);have a7:=h.wx.sig ho;have b1:=h.fit.wf.nc;have b0:b∈im.bodies:=List.mem_of_getElem? h.top.bd;have b5:x∈b.code:=List.mem_of_getElem? h.top.ins;obtain⟨a1,a9⟩:=fP (a:=x.a) (by omega);have hv:=((h.top.stk.t2 f1).sub h.fit.wf.cls h.fit.wf.nc h.mt.ht f2).toRef (bE a1);have hR:oa im s (dP d.stk):=jW h.mt.ht hv (bE a1);have a6:=(h.top.stk.t1 (by omega)).sub h.fit.wf.cls h.fit.wf.nc h.mt.ht f3;have a5:=(p8 h.fit.wf a7).1
 have a2:ke (bh im x) d.stk:=by
  rw[show bh im x=if(ip im.sigs x.b).toNat=105 then [111,105]else [111,111]from by simp[bh,ho]];exact Ba (by omega) b1 hR a6 a5
 refine h.step a2 _ (Or.inl ⟨ho,fun Y hY=> ?_⟩);rcases hv.ref (bE a1)with e| ⟨k,ob,e,hk,_,hu⟩
 ·refine(yy (h.dm.new hY) (by omega) (by omega) e).mono ?_;rintro en w' ⟨e',hP⟩;refine⟨e',?_⟩;rw[show Sp.stepX im K.inp T K.cells x d.fm (ds.map Fd.fm).reverse s= .bad 6 s.out from by simp[Sp.stepX,ho,e]];exact hP
 ·rw[a9]at hu;have b2:=h.mt.ht.cls k ob hk;have b4:=a6.not45 (kY a5);have a4:=h.fit.lk b b0 x b5 ho;obtain⟨c1,c2,c3,c4,c5⟩:=p7 h.fit h.mt.ht hk hcl a7 hu a4 b4;have b9:=jB (bs:=im.bodies) (m:=x.b) h.fit.wf.cls 4 (x:=ob.cls) (y:=x.a) (by omega) (by omega) hu a4;have a3:s.cls k=ob.cls:=(Ev.at hk).1;rw[a3]at c1;obtain⟨q,hq⟩: ∃q:Nat,cd im.classes im.bodies x.b 5 ob.cls=q:=⟨(cd im.classes im.bodies x.b 5 ob.cls).toNat,by omega⟩;have a8:im.bodies[q]?=some (dB im x k s):=by rw[hq]at c1;exact c1
  obtain⟨tl,b3⟩:=h.fit.lc _ c2 c4;refine(yz (h.dm.new hY) (by omega) (by omega) h.img h.fit.wf e hk b2 hu h.hh (by omega) hq a8 (by rw[b3];simp)).mono ?_
  have e1:Sp.stepX im K.inp T K.cells x d.fm (ds.map Fd.fm).reverse s=if 12≤ds.length+1 then .bad 10 s.out else .go ⟨⟨q,0,[],bA (dB im x k s) [.o k,aX d.stk]⟩::{d.fm with stk:=cH d.stk}::(ds.map Fd.fm).reverse,s⟩:=by
   simp only[Sp.stepX,ho,e,a3,hq];simp
   rfl
  rw[e1];rintro en w' ⟨e',⟨hd,hP⟩ | ⟨hd,hv',fv',fo',sv',lv',vl,hM⟩⟩
  ·rw[if_pos hd];exact⟨e',hP⟩
  ·rw[if_neg hd];refine⟨e',_,_,_,_,_,hM,by simp[Fd.fm],fun d' a0=> ?_⟩;simp only[List.mem_append,List.mem_singleton]at a0;rcases a0 with(a0|rfl) |rfl
   ·exact h.pcs d' (List.mem_append_left _ a0)
   ·exact hs.2.2.2
   ·exact Int.le_refl 0
end
section
variable {K:Dk} {w0 w w':World} {im:Img} {T:bU} {hv fv:Value} {fo:List Value} {s:Ev} {ds:List Fd} {d:Fd} {base:Nat} {L:List (Nat×List St)}
theorem yG {n:Nat} (hM:DmQ K w0 w 0 12 hv fv fo s (ds++ [d])) (hpc: ∀d'∈ds++ [d],0≤d'.pc) (hI:bT w0 K.bi im) (hF:Fit im T) (hm:MTn im T d.fm (ds.map Fd.fm).reverse s (n+1)) (ht:gv w0) (hT:eU w0 base K.tv L) (hLT:L.map (·.2)=T) (hce:K.cells≤100):
  Calls Tryz.prog 67 #[.pointer (some ⟨K.mb,0,none⟩)] w (fun en w'=>en= .returned (.tuple #[])∧oe K w0 (mM im K.inp T K.cells ⟨d.fm::(ds.map Fd.fm).reverse,s⟩) w'):=by
 obtain⟨b,x,st,l,a1,hC,he,hR⟩:=mI K.inp K.cells hF hm;rw[he];obtain⟨g,cap,rfl,a0⟩:=hM.fs;have h:DAt K w0 w im T hv g cap fo s ds d b x st l:=⟨hM,a0,hI,hF,hm.mt,a1,hpc,by have:=hm.hn;omega⟩;have a2:=h.wx.op;simp[bM]at a2
 by_cases h107:x.op.toNat=107
 ·exact AZ h h107
 by_cases h114:x.op.toNat=114
 ·exact A2 h (by have:=hm.rn;omega) h114
 by_cases h119:x.op.toNat=119
 ·exact A4 h ht (by have:=hm.on;omega) h119
 by_cases h122:x.op.toNat=122
 ·exact A3 h h122
 by_cases h100:x.op.toNat=100
 ·exact A6 h h100
 by_cases h108:x.op.toNat=108
 ·exact A8 h h108
 by_cases h115:x.op.toNat=115
 ·exact A7 h h115
 by_cases h106:x.op.toNat=106
 ·exact A9 h h106
 by_cases h102:x.op.toNat=102
 ·exact A5 h h102
 by_cases h101:x.op.toNat=101
 ·exact Bc h h101
 by_cases h110:x.op.toNat=110
 ·exact Bh h hT hLT hce h110
 by_cases h120:x.op.toNat=120
 ·exact Bd h h120
 by_cases h103:x.op.toNat=103
 ·exact Be h h103
 by_cases h112:x.op.toNat=112
 ·exact Bf h h112
 by_cases h99:x.op.toNat=99
 ·exact Bi h h99
 by_cases h116:x.op.toNat=116
 ·refine Bg h (fun e=> ?_) h116;subst e;have e1:Sp.stepX im K.inp T K.cells x d.fm (([]:List Fd).map Fd.fm).reverse s= .fin (aX d.stk) s.out:=by simp[Sp.stepX,h116];rfl
  rw[e1]at hR;obtain⟨⟨n,hn,_⟩,_⟩:=hR;exact⟨n,hn⟩
 exact Bb h (by omega)
def Ah (K:Dk) (w0:World) (im:Img) (T:bU) (RV:List UInt8×Int×Nat) (n:Nat) (w:World):Prop:=
 (∃hv fv fo s ds d,DmQ K w0 w 0 12 hv fv fo s (ds++ [d])∧(∀d'∈ds++ [d],0≤d'.pc)∧MTn im T d.fm (ds.map Fd.fm).reverse s n∧gZ im K.inp T K.cells n ⟨d.fm::(ds.map Fd.fm).reverse,s⟩=RV)∨
 (∃hv fv fo s ds,∃val:Int,∃e:Nat,(e=0∨(6≤e∧e≤10))∧DmQ K w0 w val e hv fv fo s ds∧RV=(s.out,val,e))
theorem xD {n:Nat} {RV:List UInt8×Int×Nat} (hM:DmQ K w0 w 0 12 hv fv fo s (ds++ [d])) (hpc: ∀d'∈ds++ [d],0≤d'.pc) (hI:bT w0 K.bi im) (hF:Fit im T) (hm:MTn im T d.fm (ds.map Fd.fm).reverse s (n+1)) (ht:gv w0) (hT:eU w0 base K.tv L) (hLT:L.map (·.2)=T) (hce:K.cells≤100) (hR:gZ im K.inp T K.cells (n+1) ⟨d.fm::(ds.map Fd.fm).reverse,s⟩=RV):
  Calls Tryz.prog 67 #[.pointer (some ⟨K.mb,0,none⟩)] w (fun en w'=>en= .returned (.tuple #[])∧Ah K w0 im T RV n w'):=by
 refine(yG hM hpc hI hF hm ht hT hLT hce).mono ?_;rintro en w1 ⟨rfl,hQ⟩;refine⟨rfl,?_⟩;obtain⟨b,x,st,l,_,_,he,hO⟩:=mI K.inp K.cells hF hm;unfold gZ at hR;rw[he]at hQ hR
 cases hsr:Sp.stepX im K.inp T K.cells x d.fm (ds.map Fd.fm).reverse s with
 |go m=>
  rw[hsr]at hQ hO hR;obtain⟨hv',fv',fo',ds',d',a0,a1,hp'⟩:=hQ;obtain⟨f',r',e,a2⟩:=hO;rw[a1]at e
  cases e
  obtain⟨fr,ev⟩:=m;simp only at a1 a0 a2 hR;subst a1;exact Or.inl ⟨_,_,_,_,_,_,a0,hp',a2,hR⟩
 |bad m o=>
  rw[hsr]at hQ hO hR;obtain⟨hv',fv',fo',s',ds',ho,a0⟩:=hQ;exact Or.inr ⟨_,_,_,_,_,0,m,Or.inr ⟨hO.1,hO.2.1⟩,a0,by rw[ho];exact hR.symm⟩
 |fin v o=>
  rw[hsr]at hQ hO hR;obtain⟨hv',fv',fo',s',ho,a0⟩:=hQ;exact Or.inr ⟨_,_,_,_,_,v.N,0,Or.inl rfl,a0,by rw[ho];exact hR.symm⟩
end
end
section
open Go Go.RowKit Sp
attribute [local go_sem ↓] Go.wp_at_zero Go.wp_at_succ
theorem vx {K:Dk} {w0 w:World} (hB:But (fun _=>False) w0 w) (hm:DmB w K.mb K.bi K.tv (.slice none 0 0) (.slice none 0 0) K.inp 0 K.cells [] 0 12) (hg:w0.heap.size≤K.mb):DmQ K w0 w 0 12 (.slice none 0 0) (.slice none 0 0) [] ⟨[],0,0,[]⟩ []:=by
 have hr: ∀a p,b8 [] [] [] a≠some p:=fun a p h=>by
  obtain⟨a,k⟩:=a
  match a with
  |0=>simp[b8]at h
  |1=>simp[b8]at h
  |2=>simp[b8]at h
  |_+3=>simp[b8]at h
 exact⟨hB,hm,rfl,cC _ _ _ _,cC _ _ _ _,⟨fun a v l h=>absurd h (hr a _),fun a b v l v' l' g h=>absurd h (hr a _)⟩,hg⟩
def Bj (RV:List UInt8×Int×Nat) (w w':World) (mb:Nat):Prop:=mb<w'.heap.size∧But (fun _=>False) w w'∧w'.cell? ⟨mb,7,none⟩=some (.string ⟨RV.1.toArray⟩)∧w'.cell? ⟨mb,8,none⟩=some (.int .i64 RV.2.1)∧w'.cell? ⟨mb,9,none⟩=some (.int .i64 RV.2.2)
theorem DmQ.ranQ {K:Dk} {w0 w:World} {val:Int} {e:Nat} {hv fv:Value} {fo:List Value} {s:Ev} {ds:List Fd} (h:DmQ K w0 w val e hv fv fo s ds):Bj (s.out,val,e) w0 w K.mb:=by
 obtain⟨_,_,_,_,_,_,_,c7,c8,c9⟩:=h.mc.cs;exact⟨h.lt,h.old,c7,c8,c9⟩
section
variable {w:World} {im:Img} {T:bU} {bi base:Nat} {tv:Value} {cells fuel:Nat} {inp:ByteArray} {L:List (Nat×List St)}
theorem yH (hI:bT w bi im) (hF:Fit im T) (ht:gv w) (hT:eU w base tv L) (hLT:L.map (·.2)=T) (hce:cells≤100) (hfu:fuel≤4000):
  Calls Tryz.prog 38 #[.pointer (some ⟨bi,0,none⟩),tv,.string inp,.int .i64 cells,.int .i64 fuel] w (fun en w'=> ∃mb,en= .returned (.pointer (some ⟨mb,0,none⟩))∧Bj (iU im inp T cells fuel) w w' mb):=by
 obtain⟨at',ct,rfl⟩:=au hT.1;obtain⟨bs,m,e1,h4⟩:=hF.main;have a0:im.bodies.length=bs.length+1:=by rw[e1];simp
 have hq:im.bodies[bs.length]?=some m:=by rw[e1];simp
 obtain⟨gb,cb,ak,capk,e2,h9,i2,i1,_,f0,f1,f2,f3,f4⟩:=hI.body hq;rw[a0]at e2;have h1:=(hF.wf.bod m (List.mem_of_getElem? hq)).loc.1;have h5:=hF.wf.nb;have b4:=hid (pi m (.slice none 0 0) (.slice ak m.code.length capk) ⟨_,_,_,rfl⟩ [] none 0 w h1 (by simp) 0 (cC _ _ _ _));have g2:MTn im T ⟨bs.length,0,[],bA m []⟩ [] ⟨[],0,0,[]⟩ fuel:=⟨nB hF a0 hq,by simp;omega,by simp;omega,by simp;omega⟩
 have g1:gZ im inp T cells fuel ⟨[⟨bs.length,0,[],bA m []⟩],⟨[],0,0,[]⟩⟩=iU im inp T cells fuel:=by
  unfold iU;rw[a0];simp[hq]
 have HS:=hid (fun K w' hv fv fo s ds d n RV hM b0 hm hR (hK:K.bi=bi∧K.tv= .slice at' L.length ct∧K.cells=cells)=> @xD K w w' im T hv fv fo s ds d base L n RV hM b0 (by rw[hK.1];exact hI) hF hm ht (by rw[hK.2.1];exact hT) hLT (by rw[hK.2.2];exact hce) hR);generalize iU im inp T cells fuel=RV at*;have e6:=hid g2;have e5:=hid g1;rw[a0]at h5;clear g2 g1 hI hF ht hT hLT e1 h4 a0 hq;generalize bs.length=q at*;generalize L.length=nL at*;obtain⟨i0,g7,h6,h7,h8⟩:=info_parts xB;simp only[List.length_nil]at b4
 go_in
 go_wp2_with fail;refine b4.out.mono ?_;rintro en w1 ⟨vl,rfl,e0,a6⟩;obtain⟨al,cl,rfl⟩:=au e0;clear b4 e2 f0 f1 f2 f3 f4;generalize g4:bA m []=LL at*;clear g4;obtain⟨w2,b1⟩: ∃w2,w1.alloc (.cells #[.pointer (some ⟨bi,0,none⟩),.slice at' nL ct,.slice none 0 0,.slice none 0 0,.string inp,.int .i64 0,.int .i64 cells,.string ⟨#[]⟩,.int .i64 0,.int .i64 12] 72)=w2:=⟨_,rfl⟩;have a7:But (fun _=>False) w1 w2:=by rw[←b1];exact But.alloc _ _ _
 have a3:DmQ ⟨w1.heap.size,bi,.slice at' nL ct,inp,cells⟩ w w2 0 12 (.slice none 0 0) (.slice none 0 0) [] ⟨[],0,0,[]⟩ []:=vx (a6.trans a7) (by rw[←b1];exact heap_alloc_new _ _) a6.size;have e7:=hid b1;clear b1;have c3:=a3.mc.cs.2.2.2.1;have z3:=a3.mc.fz 3;have a8:=a3.lt;have e8:=ar e0 a7 (fun _ _ h=>h);have i5:=a6.size;have i4:=a7.size;have b5:=hid a3;have e4:=hid e8;clear a3 e0 e8 a6 a7;generalize g0:LL.length=nl at*;have g3:=hid g0;clear g0;generalize f8:w1.heap.size=mb at*;have e3:=b5.out.fr
 have b2:=hid (fun w6 fv'=>b5.out.call (w1:=w6) (fv':=fv') (q:=q) (vl:= .slice al nl cl) (l:=LL) (by rw[g3.out];exact ft e4.out (Nat.le_refl _)) (fun g hg a v l ha=>by
  obtain⟨a,k⟩:=a
  match a with
  |0=>simp[b8]at ha
  |1=>simp[b8]at ha
  |2=>simp[b8]at ha
  |_+3=>simp[b8]at ha))
 rw[←e7.out]at e3 b2 c3 z3 a8;clear b5 e4 e7;go_wp2_with (at_builtin;refine wpList_append_lies _ rfl _ _ _ rfl w.heap.size 121 i0 _ 4 64 (by kernel_rfl) g7 h6 h7 h8 rfl (by omega) _ 0 [] rfl (e3.alloc _) ⟨mb+1,0,none⟩ 1 1 [.int .i64 q,.int .i64 0,.slice none 0 0,.slice al nl cl] rfl rfl (World.news_of_block (cs:=#[.int .i64 q,.int .i64 0,.slice none 0 0,.slice al nl cl]) (t:=121) (fr:=(0,0)) (aw (by simp[f8]) _)) (by simp[Value.oneCell']) (by omega) (by unfold maxLen;omega) (by omega) (by simp;omega) (mb+1+1) (by simp[f8]) ?_);intro gg cap3 w6 a2 a1 g6 h2;have a4:=(But.alloc (fun k=>(Value.slice none 0 0).ownBlock=some k) _ _).trans (aQ a1)
 have y0:=(a4.cell (p:=⟨mb,3,none⟩) a8 (fun e=>by cases e)).trans c3;have y1:=(a4.frozen (p:=⟨mb,3,none⟩) a8 (fun e=>by cases e)).trans z3;have h3:mb<w6.heap.size:=Nat.lt_of_lt_of_le a8 a4.size;have hM:=b2.out w6 (.slice (some ⟨gg,0,none⟩) 1 cap3) a4 (by simpa[dn,fdC]using a2)
 have hJ:Ah ⟨mb,bi,.slice at' nL ct,inp,cells⟩ w im T RV fuel (w6.setCell ⟨mb,3,none⟩ (.slice (some ⟨gg,0,none⟩) 1 cap3)):=
  Or.inl ⟨_,_,_,_,[],_,hM,fun d' hd=>by simp at hd;subst hd;exact Int.le_refl 0,e6.out,e5.out⟩
 have HJ:=hid hJ;clear hJ hM b2 a2 a1 g6 a4 c3 z3 e3 e6 e5;go_wp2_with fail;generalize (w6.setCell ⟨mb,3,none⟩ (.slice (some ⟨gg,0,none⟩) 1 cap3))=w7 at*
 go_loopg [14] fuel (fun mm is wr=> ∃k:Nat,is= .int .i64 k∧k+mm≤fuel∧fuel≤k+mm∧Hid (Ah ⟨mb,bi,.slice at' nL ct,inp,cells⟩ w im T RV mm wr))
 case atStart=>exact⟨0,rfl,by omega,by omega,HJ⟩
 case round=>
  clear HJ y0 y1 h3;obtain⟨k,rfl,f5,f6,hJ⟩:=hrel;rcases hJ.out with⟨hv,fv,fo,s,ds,d,hM,b0,hm,hR⟩ | ⟨hv,fv,fo,s,ds,val,e,he,hM,hR⟩
  ·have c9:=hM.mc.cs.2.2.2.2.2.2.2.2.2;have z9:=hM.mc.fz 9;have a9:=hM.lt;have HM:=hid hM;have HP:=hid b0;have HR:=hid hR;have a5:=hid hm;simp only at c9 z9 a9;clear hJ hM b0 hR hm;rcases Nat.eq_zero_or_pos gk with h0|h0
   ·have f7: ¬(k:Int)<(fuel:Int):=by omega
    rw[h0]at HR;clear h0 f5 f6 a5 HP;go_wp2_with fail;go_ret;have g5:=HM.out.own (val':=0) (e':=5) (s':=s) (But.setB wr mb 9 (.int .i64 5)) rfl (HM.out.mc.set9 5);refine⟨mb,rfl,?_⟩;rw[←HR.out];exact g5.ranQ (e:=5)
   ·obtain⟨n,hn⟩: ∃n,gk=n+1:=⟨gk-1,by omega⟩;have b3:=hid hn;rw[hn]at HR a5;have f7:(k:Int)<(fuel:Int):=by omega
    have i3:=bH ((k:Int)+1) (by omega) (by omega);clear hn;have HC:=hid (HS.out ⟨mb,bi,.slice at' nL ct,inp,cells⟩ wr _ _ _ _ _ _ n RV HM.out HP.out a5.out HR.out ⟨rfl,rfl,rfl⟩);simp only at HC;clear HM HP a5 HR;go_wp2_with fail;refine HC.out.mono ?_;rintro en w8 ⟨rfl,hJ⟩;have HJ:=hid hJ;clear hJ HC c9 z9 a9;go_wp2_with fail
    go_roundg n
    case measure=>have:=b3.out;omega
    case rel=>exact⟨k+1,by simp,by have:=b3.out;omega,by have:=b3.out;omega,HJ⟩
  ·have c9:=hM.mc.cs.2.2.2.2.2.2.2.2.2;have a9:=hM.lt;have HM:=hid hM;have HR:=hid hR;have b9:=tf e 12 (by omega);simp only at c9 a9;clear hJ hM hR f5 f6
   by_cases f7:(k:Int)<(fuel:Int)
   all_goals
    go_wp2_with fail;go_ret;refine⟨mb,rfl,?_⟩;rw[HR.out];exact HM.out.ranQ
end
end
end Go.Proofs.YtpfkkmacakjmbaaGreatDoor
