import Derived.Test.YtpfkkmacakjmbaaGreatDoorP35
import Derived.Test.YtpfkkmacakjmbaaGreatDoorP22
import Derived.Test.YtpfkkmacakjmbaaGreatDoorP32
set_option maxRecDepth 100000
set_option maxHeartbeats 6400000
set_option linter.unusedSimpArgs false
set_option linter.unusedVariables false
namespace Go.Proofs.YtpfkkmacakjmbaaGreatDoor
section
open Go Go.RowKit Sp
attribute [local go_sem ↓] Go.wp_at_zero Go.wp_at_succ
def qd (o:Option Nat):Value:= .pointer (o.map fun b=>⟨b,0,none⟩)
def FbB (w:World) (fb:Nat) (ca:Option Nat) (d:Nat) (X:ba) (vl vi ts:Value) (pc bl:Nat) (sv:Value):Prop:=
 w.heap[fb]?=some (.cells #[qd ca,.int .i64 d,.int .u8 X.cls.toNat,.int .i64 X.meth,.int .u8 X.ans.toNat,vl,vi,ts,.int .i64 pc,.pointer (some ⟨bl,0,none⟩),sv] 215)
section
variable {w:World} {fb d pc bl:Nat} {ca:Option Nat} {X:ba} {vl vi ts sv:Value}
theorem FbB.lt (h:FbB w fb ca d X vl vi ts pc bl sv):fb<w.heap.size:=ae h
theorem FbB.c0 (h:FbB w fb ca d X vl vi ts pc bl sv):w.cell? ⟨fb,0,none⟩=some (qd ca):=ce0 h
theorem FbB.body (h:FbB w fb ca d X vl vi ts pc bl sv):w.cell? ⟨fb,2,none⟩=some (.int .u8 X.cls.toNat)∧w.cell? ⟨fb,3,none⟩=some (.int .i64 X.meth)∧w.cell? ⟨fb,4,none⟩=some (.int .u8 X.ans.toNat)∧w.cell? ⟨fb,5,none⟩=some vl∧w.cell? ⟨fb,6,none⟩=some vi:=
 ⟨by rw[cell_of_row w fb 2 _ _ (0,0) h];rfl,by rw[cell_of_row w fb 3 _ _ (0,0) h];rfl,by rw[cell_of_row w fb 4 _ _ (0,0) h];rfl,by rw[cell_of_row w fb 5 _ _ (0,0) h];rfl,by rw[cell_of_row w fb 6 _ _ (0,0) h];rfl⟩
theorem FbB.c8 (h:FbB w fb ca d X vl vi ts pc bl sv):w.cell? ⟨fb,8,none⟩=some (.int .i64 pc):=ce8 h
theorem FbB.c10 (h:FbB w fb ca d X vl vi ts pc bl sv):w.cell? ⟨fb,10,none⟩=some sv:=AR h
theorem FbB.fz (h:FbB w fb ca d X vl vi ts pc bl sv) (j:Nat):w.frozen? ⟨fb,j,none⟩=false:=frozen_of_row w fb j _ _ h
theorem FbB.but {F:Nat→Prop} {w':World} (h:FbB w fb ca d X vl vi ts pc bl sv) (hb:But F w w') (hf: ¬F fb):FbB w' fb ca d X vl vi ts pc bl sv:=(hb.block fb h.lt hf).trans h
theorem FbB.set8 (h:FbB w fb ca d X vl vi ts pc bl sv) (n:Nat):FbB (w.setCell ⟨fb,8,none⟩ (.int .i64 n)) fb ca d X vl vi ts n bl sv:=heap_setCell_same w fb 8 _ _ _ h
theorem FbB.set10 (h:FbB w fb ca d X vl vi ts pc bl sv) (v:Value):FbB (w.setCell ⟨fb,10,none⟩ v) fb ca d X vl vi ts pc bl v:=heap_setCell_same w fb 10 _ _ _ h
end
theorem tI {w:World} {base:Nat} {a:Option Addr} {cap:Nat} {stk:List V} (h:w.ownsRow base 168 2 (.slice a stk.length cap) stk.length (aE stk)) (hl:1≤stk.length):w.ownsRow base 168 2 (.slice a (stk.length-1) cap) (cO stk).length (aE (cO stk)):=by
 have e:(cO stk).length=stk.length-1:=by simp[cO]
 rw[e];obtain⟨h1,h2⟩:=h;rcases h2 with⟨h0,hx⟩ | ⟨g',cap',cur,hv,hg,hh,hn,a1,a2,a0⟩
 ·injection h0 with _ h0;omega
 ·injection hv with e1 e2 e3;subst e1 e3;refine⟨by rw[dv,e],.inr ⟨g',cap,cur,rfl,hg,hh,by omega,a1,a2,?_⟩⟩
  have e5:aE stk=aE (cO stk)++iy (er stk):=by
   have:=congrArg aE (vh hl);rw[←this];simp[aE]
  have e4:aE (cO stk)=(aE stk).take ((stk.length-1)*2):=by
   rw[e5,List.take_left' ((dv (cO stk)).trans (by rw[e]))]
  rw[e4,←a0,List.take_take,Nat.min_eq_left (Nat.mul_le_mul_right _ (by omega))]
theorem jh (w:World) (fb d pc bl base:Nat) (ca:Option Nat) (X:ba) (vl vi ts sv:Value) (stk:List V) (h:FbB w fb ca d X vl vi ts pc bl sv) (ho:w.ownsRow base 168 2 sv stk.length (aE stk)) (hl:1≤stk.length) (h4:stk.length≤4000):
  Calls Tryz.prog 192 #[.pointer (some ⟨fb,0,none⟩)] w fun en w'=>en= .returned (bn (er stk))∧But (· =fb) w w'∧ ∃sv',FbB w' fb ca d X vl vi ts pc bl sv'∧w'.ownsRow base 168 2 sv' (cO stk).length (aE (cO stk))∧sv'.ownBlock=sv.ownBlock:=by
 obtain⟨a,cap,rfl⟩:=aq ho;have a3:=tI ho hl;obtain⟨g,rfl,b1,b2,a0⟩:=aD ho (by omega)
 have ht:stk[stk.length-1]?=some (er stk):=by
  unfold er;rw[List.getD_eq_getElem?_getD,List.getElem?_eq_getElem (show stk.length-1<stk.length by omega),Option.getD_some]
 have q0:w.cell? ⟨g,(stk.length-1)*2,none⟩=some (.int .i32 (xN (er stk))):=a0 _ _ (dK (k:=0) ht (by omega));have q1:w.cell? ⟨g,(stk.length-1)*2+1,none⟩=some (.int .i64 (xO (er stk))):=a0 _ _ (dK (k:=1) ht (by omega))
 have a1:stk.length≤cap:=by
  rcases ho.2 with⟨h0,_⟩ | ⟨g',cap',cur,hv,_,_,hn,_⟩
  ·cases h0
  ·injection hv with _ _ e3;omega
 obtain⟨n,hn⟩: ∃n,stk.length=n+1:=⟨stk.length-1,by omega⟩;have a5: ¬fb=g:=fun e=>aN ho h (by decide) (by rw[e];rfl)
 have a2: ¬g=fb:=fun e=>a5 e.symm
 have c10:=h.c10;have d6:=h.fz 10;have b0:=h.lt;have HH:=hid h;have HO:=hid a3;rw[hn]at q0 q1 c10 a1;rw[hn]at HO;simp only[Nat.add_sub_cancel]at q0 q1 HO;have b4: ¬((n:Int)<0):=by omega
 have c7:=dj (n:Int) (by omega) (by omega);have b6:(n:Int)<(n:Int)+1:=by omega
 have b5:(n:Int)≤(cap:Int):=by omega
 have b3:g<w.heap.size+1:=by omega
 have a7:fb<w.heap.size+1:=by omega
 have a8:fb<w.heap.size+1+1:=by omega
 clear h a3 ho a0 ht hl h4;generalize a6:er stk=u at*;generalize a4:cO stk=ls at*;rw[hn];clear a6 a4 hn
 go_in
 go_wp2_with fail;have hS:But (· =fb) w (w.setCell ⟨fb,10,none⟩ (.slice (some ⟨g,0,none⟩) n cap)):=But.setB _ _ _ _;have hA:But (fun _=>False) (w.setCell ⟨fb,10,none⟩ (.slice (some ⟨g,0,none⟩) n cap)) (((w.setCell ⟨fb,10,none⟩ (.slice (some ⟨g,0,none⟩) n cap)).alloc (.cells #[.int .i32 (xN u),.int .i64 (xO u)] 168)).alloc (.cells #[.int .i32 (xN u),.int .i64 (xO u)] 168)):=(But.alloc _ _ _).trans (But.alloc _ _ _);exact Cx Tryz.results192 rfl rfl (((But.alloc (fun _=>False) _ _).block _ (by simp[br]) (fun h=>h)).trans (CB (by simp[br]) _)) ⟨rfl,hS.trans (hA.mono (fun _ _ h=>h.elim)),_,(HH.out.set10 _).but hA (fun h=>h),ah (ah HO.out hS (fun k hk e=>a2 (by simp only[Value.ownBlock,Option.some.injEq]at hk;rw[hk];exact e))) hA (fun _ _ h=>h),rfl⟩
theorem Bg {fn:Func} {Rr:Ending→World→Prop} {a:Act} {w:World} {c f r q:Nat} {K N K' N':Int} (hf:fn.results=#[.cell c 168,.cell f 168]) (hd:a.defers=[]) (hc:a.tmps.getD c undef= .pointer (some ⟨r,0,none⟩)) (he:a.tmps.getD f undef= .pointer (some ⟨q,0,none⟩))
  (h0:w.heap[r]?=some (.cells #[.int .i32 K,.int .i64 N] 168)) (h1:w.heap[q]?=some (.cells #[.int .i32 K',.int .i64 N'] 168)) (hR:Rr (.returned (.tuple #[.agg #[.int .i32 K,.int .i64 N],.agg #[.int .i32 K',.int .i64 N']])) w):bodyPost Tryz.prog fn Rr .ret a w:=by
 have r0:=ce0 h0;have r1:=ce1 h0;have r2:=ce0 h1;have r3:=ce1 h1;refine bodyPost_ret (v:= .tuple #[.agg #[.int .i32 K,.int .i64 N],.agg #[.int .i32 K',.int .i64 N']]) ?_ hd hR;have a0:a.tmps[c]?.getD undef= .pointer (some ⟨r,0,none⟩):=by simpa using hc
 have a1:a.tmps[f]?.getD undef= .pointer (some ⟨q,0,none⟩):=by simpa using he
 simp[results,hf,a0,a1,go_sem,r0,r1,r2,r3]
theorem wb (s:List V):(cO s).length=s.length-1:=by simp[cO]
theorem tJ {s:List V} (h:2≤s.length):er (cO s)=o9 s:=by
 unfold er o9 cO;rw[List.length_take,Nat.min_eq_left (by omega),List.getD_eq_getElem?_getD,List.getElem?_take,if_pos (by omega),List.getD_eq_getElem?_getD,show s.length-1-1=s.length-2 from by omega]
theorem sh (s:List V):cO (cO s)=jD s:=by
 unfold cO jD;rw[List.length_take,List.take_take]
 congr 1
 omega
structure TkW (w W:World):Prop where
 but:But (fun _=>False) w W
 b0:W.heap[w.heap.size]?=some (.cells #[.int .i32 0,.int .i64 0] 168)
 b1:W.heap[w.heap.size+1]?=some (.cells #[.int .i32 0,.int .i64 0] 168)
 b2:W.heap[w.heap.size+1+1]?=some (.cells #[.int .i32 0,.int .i64 0] 168)
 b3:W.heap[w.heap.size+1+1+1]?=some (.cells #[.int .i32 0,.int .i64 0] 168)
 sz:W.heap.size=w.heap.size+1+1+1+1
theorem tkW {w:World}:TkW w ((((w.alloc (.cells #[.int .i32 0,.int .i64 0] 168)).alloc (.cells #[.int .i32 0,.int .i64 0] 168)).alloc (.cells #[.int .i32 0,.int .i64 0] 168)).alloc (.cells #[.int .i32 0,.int .i64 0] 168)):=by
 refine⟨(((But.alloc _ _ _).trans (But.alloc _ _ _)).trans (But.alloc _ _ _)).trans (But.alloc _ _ _),?_,?_,?_,CB (by simp) _,by simp⟩
 ·exact((((But.alloc (fun _=>False) _ _).trans (But.alloc _ _ _)).trans (But.alloc _ _ _)).block _ (by simp) (fun h=>h)).trans (heap_alloc_new w _)
 ·exact(((But.alloc (fun _=>False) _ _).trans (But.alloc _ _ _)).block _ (by simp) (fun h=>h)).trans (CB (by simp) _)
 ·exact((But.alloc (fun _=>False) _ _).block _ (by simp) (fun h=>h)).trans (CB (by simp) _)
def cY (w:World) (r:Nat) (u:V):Prop:=w.heap[r]?=some (.cells #[.int .i32 (xN u),.int .i64 (xO u)] 168)
theorem cY.but {F:Nat→Prop} {w w':World} {r:Nat} {u:V} (h:cY w r u) (hb:But F w w') (hf: ¬F r):cY w' r u:=(hb.block r (ae h) hf).trans h
theorem cY.parts {w:World} {r:Nat} {u:V} (h:cY w r u):w.cell? ⟨r,0,none⟩=some (.int .i32 (xN u))∧w.cell? ⟨r,1,none⟩=some (.int .i64 (xO u))∧w.frozen? ⟨r,0,none⟩=false∧w.frozen? ⟨r,1,none⟩=false∧r<w.heap.size:=
 ⟨by rw[cell_of_row w r 0 _ _ (0,0) h];rfl,by rw[cell_of_row w r 1 _ _ (0,0) h];rfl,frozen_of_row w r 0 _ _ h,frozen_of_row w r 1 _ _ h,ae h⟩
theorem cY.put {w:World} {r:Nat} {u:V} (h:cY w r u) (v:V):cY ((w.setCell ⟨r,0,none⟩ (.int .i32 (xN v))).setCell ⟨r,1,none⟩ (.int .i64 (xO v))) r v:=heap_setCell_same _ r 1 _ _ _ (heap_setCell_same _ r 0 _ _ _ h)
theorem cY.aside {w:World} {r q:Nat} {u v:V} (h:cY w r u) (hne: ¬r=q):cY ((w.setCell ⟨q,0,none⟩ (.int .i32 (xN v))).setCell ⟨q,1,none⟩ (.int .i64 (xO v))) r u:=h.but ((But.setB w q 0 _).trans (But.setB _ q 1 _)) hne
section
variable (w:World) (fb d pc bl base:Nat) (ca:Option Nat) (X:ba) (vl vi ts sv:Value) (stk:List V)
theorem nk {a:Act} {W:World} {u v:V} {k:Nat} {Rr:Ending→World→Prop} {fn:Func} (hf:fn.results=#[.cell 4 168,.cell 5 168]) (h0:cY W k u) (h1:cY W (k+1) v) (hd:a.defers=[]) (h4:a.tmps.getD 4 undef= .pointer (some ⟨k,0,none⟩)) (h5:a.tmps.getD 5 undef= .pointer (some ⟨k+1,0,none⟩)) (hR:Rr (.returned (.tuple #[bn u,bn v])) W):bodyPost Tryz.prog fn Rr .ret a W:=
 Bg hf hd h4 h5 h0 h1 hR
theorem AH:Calls Tryz.prog 141 #[.pointer (some ⟨fb,0,none⟩),.int .i64 0] w fun en w'=>en= .returned (.tuple #[bn .z,bn .z])∧But (fun _=>False) w w':=by
 have HT:=hid (tkW (w:=w))
 go_in
 go_wp2_with fail;revert HT;generalize ((((w.alloc (.cells #[.int .i32 0,.int .i64 0] 168)).alloc (.cells #[.int .i32 0,.int .i64 0] 168)).alloc (.cells #[.int .i32 0,.int .i64 0] 168)).alloc (.cells #[.int .i32 0,.int .i64 0] 168))=W;intro HT;have hT:=HT.out;have v0:cY W w.heap.size .z:=hT.b0;have v1:cY W (w.heap.size+1) .z:=hT.b1;have v2:cY W (w.heap.size+1+1) .z:=hT.b2;have v3:cY W (w.heap.size+1+1+1) .z:=hT.b3;obtain⟨i0,i1,_,_,m2⟩:=v2.parts;obtain⟨j0,j1,_,_,m3⟩:=v3.parts;simp only[xN,xO]at i0 i1 j0 j1;have a3:=hT.sz;have a1:But (fun k=>k=w.heap.size∨k=w.heap.size+1) W W.drew:=But.drew _ _;have n2: ¬(w.heap.size+1+1=w.heap.size∨w.heap.size+1+1=w.heap.size+1):=by omega
 have n3: ¬(w.heap.size+1+1+1=w.heap.size∨w.heap.size+1+1+1=w.heap.size+1):=by omega
 refine aB (But (fun k=>k=w.heap.size∨k=w.heap.size+1) W) 4 (by kernel_rfl) ?_
 iterate 2 (refine aG (v:=?_) rfl (by kernel_rfl) (fun _ _ _ h=>h) rfl a1 ?_ ?_;rotate_left;(focus (intro wS h;have q0:=((h.cell (p:=⟨w.heap.size+1+1,0,none⟩) m2 n2).trans i0);have q1:=((h.cell (p:=⟨w.heap.size+1+1,1,none⟩) m2 n2).trans i1);have q2:=((h.cell (p:=⟨w.heap.size+1+1+1,0,none⟩) m3 n3).trans j0);have q3:=((h.cell (p:=⟨w.heap.size+1+1+1,1,none⟩) m3 n3).trans j1);clear h;go_simp;try rfl));dsimp only[Act.put];try simp only[aK])
 have u0:=v0.but (But.drew (fun _=>False) W) (fun h=>h);have u1:=v1.but (But.drew (fun _=>False) W) (fun h=>h);clear i0 i1 j0 j1 v0 v1 v2 v3;generalize W.drew=Y at*;obtain⟨y0,y1,y2,y3,m0⟩:=u0.parts;simp only[xN,xO]at y0 y1;refine ag rfl (by kernel_rfl) ?_;intro KS hKS;go_simp;have a0:But (fun k=>k=w.heap.size∨k=w.heap.size+1) W ((Y.setCell ⟨w.heap.size,0,none⟩ (.int .i32 0)).setCell ⟨w.heap.size,1,none⟩ (.int .i64 0)):=a1.trans (((But.setB Y w.heap.size 0 _).trans (But.setB _ w.heap.size 1 _)).mono (fun k _ e=>Or.inl e));have x0:cY ((Y.setCell ⟨w.heap.size,0,none⟩ (.int .i32 0)).setCell ⟨w.heap.size,1,none⟩ (.int .i64 0)) w.heap.size .z:=u0.put .z
 have x1:cY ((Y.setCell ⟨w.heap.size,0,none⟩ (.int .i32 0)).setCell ⟨w.heap.size,1,none⟩ (.int .i64 0)) (w.heap.size+1) .z:=u1.aside (v:= .z) (by omega);refine hKS.out _ _ (fun _=>a0) ?_;clear hKS KS u0 u1 y0 y1 y2 y3;revert a0 x0 x1;generalize ((Y.setCell ⟨w.heap.size,0,none⟩ (.int .i32 0)).setCell ⟨w.heap.size,1,none⟩ (.int .i64 0))=Z;intro a0 x0 x1;obtain⟨y0,y1,y2,y3,m1⟩:=x1.parts;simp only[xN,xO]at y0 y1;refine ag rfl (by kernel_rfl) ?_;intro KS hKS;go_simp;have a2:But (fun k=>k=w.heap.size∨k=w.heap.size+1) W ((Z.setCell ⟨w.heap.size+1,0,none⟩ (.int .i32 0)).setCell ⟨w.heap.size+1,1,none⟩ (.int .i64 0)):=a0.trans (((But.setB Z (w.heap.size+1) 0 _).trans (But.setB _ (w.heap.size+1) 1 _)).mono (fun k _ e=>Or.inr e))
 refine hKS.out _ _ (fun _=>a2) ?_;clear hKS KS;refine aF rfl (by kernel_rfl) ?_;go_wp2_with fail;exact nk Tryz.results141 (x0.aside (v:= .z) (by omega)) (x1.put .z) rfl rfl rfl ⟨rfl,hT.but.next a2 (fun k hk e=>by omega)⟩
theorem AI (h:FbB w fb ca d X vl vi ts pc bl sv) (ho:w.ownsRow base 168 2 sv stk.length (aE stk)) (hl:1≤stk.length) (h4:stk.length≤4000):
  Calls Tryz.prog 141 #[.pointer (some ⟨fb,0,none⟩),.int .i64 1] w fun en w'=>en= .returned (.tuple #[bn (er stk),bn .z])∧But (· =fb) w w'∧ ∃sv',FbB w' fb ca d X vl vi ts pc bl sv'∧w'.ownsRow base 168 2 sv' (cO stk).length (aE (cO stk))∧sv'.ownBlock=sv.ownBlock:=by
 have b5:=hid ho;have HT:=hid (tkW (w:=w));have HK:=hid (fun(Y:World) (hY:But (fun _=>False) w Y)=>jh Y fb d pc bl base ca X vl vi ts sv stk (h.but hY (fun h=>h)) (ah ho hY (fun _ _ h=>h)) (by omega) h4);have e1:=h.lt;clear h ho
 go_in
 go_wp2_with fail;revert HT;generalize ((((w.alloc (.cells #[.int .i32 0,.int .i64 0] 168)).alloc (.cells #[.int .i32 0,.int .i64 0] 168)).alloc (.cells #[.int .i32 0,.int .i64 0] 168)).alloc (.cells #[.int .i32 0,.int .i64 0] 168))=W0;intro HT;have hT:=HT.out;have e2:=hT.sz;refine(HK.out W0 hT.but).mono ?_;rintro en w1 ⟨rfl,a0,e0,a2,a3,a7⟩;clear HK;obtain⟨tv,a8⟩: ∃tv,er stk=tv:=⟨_,rfl⟩;rw[a8];have c7:=hid a8;clear a8;have v0:cY w1 w.heap.size .z:=cY.but hT.b0 a0 (by omega);have v1:cY w1 (w.heap.size+1) .z:=cY.but hT.b1 a0 (by omega);have b4:cY w1 (w.heap.size+1+1) .z:=cY.but hT.b2 a0 (by omega)
 have v3:cY w1 (w.heap.size+1+1+1) .z:=cY.but hT.b3 a0 (by omega);obtain⟨r0,r1,z0,z1,d6⟩:=b4.parts;simp only[xN,xO]at r0 r1;simp only[bn];go_wp2_with fail;have v2:=b4.put tv;have a1:But (fun k=>k=w.heap.size+1+1) w1 ((w1.setCell ⟨w.heap.size+1+1,0,none⟩ (.int .i32 (xN tv))).setCell ⟨w.heap.size+1+1,1,none⟩ (.int .i64 (xO tv))):=(But.setB w1 _ 0 _).trans (But.setB _ _ 1 _);have a6:But (· =fb) w ((w1.setCell ⟨w.heap.size+1+1,0,none⟩ (.int .i32 (xN tv))).setCell ⟨w.heap.size+1+1,1,none⟩ (.int .i64 (xO tv))):=((hT.but.mono (fun _ _ h=>h.elim)).trans a0).next a1 (fun k hk e=>by omega);replace v0:=v0.aside (v:=tv) (q:=w.heap.size+1+1) (by omega)
 replace v1:=v1.aside (v:=tv) (q:=w.heap.size+1+1) (by omega);replace v3:=v3.aside (v:=tv) (q:=w.heap.size+1+1) (by omega);replace a2:=a2.but a1 (by omega);replace a3:=ah a3 a1 (fun g hg e=>by have:=aS b5.out g (a7▸hg);omega);clear r0 r1 z0 z1 d6 b4 a0 hT HT;revert v2 a1 a6 v0 v1 v3 a2 a3;generalize ((w1.setCell ⟨w.heap.size+1+1,0,none⟩ (.int .i32 (xN tv))).setCell ⟨w.heap.size+1+1,1,none⟩ (.int .i64 (xO tv)))=W;intro v2 a1 a6 v0 v1 v3 a2 a3;obtain⟨i0,i1,_,_,m2⟩:=v2.parts;obtain⟨j0,j1,_,_,m3⟩:=v3.parts;simp only[xN,xO]at j0 j1;have b6:But (fun k=>k=w.heap.size∨k=w.heap.size+1) W W.drew:=But.drew _ _
 have n2: ¬(w.heap.size+1+1=w.heap.size∨w.heap.size+1+1=w.heap.size+1):=by omega
 have n3: ¬(w.heap.size+1+1+1=w.heap.size∨w.heap.size+1+1+1=w.heap.size+1):=by omega
 refine aB (But (fun k=>k=w.heap.size∨k=w.heap.size+1) W) 4 (by kernel_rfl) ?_
 iterate 2 (refine aG (v:=?_) rfl (by kernel_rfl) (fun _ _ _ h=>h) rfl b6 ?_ ?_;rotate_left;(focus (intro wS h;have q0:=((h.cell (p:=⟨w.heap.size+1+1,0,none⟩) m2 n2).trans i0);have q1:=((h.cell (p:=⟨w.heap.size+1+1,1,none⟩) m2 n2).trans i1);have q2:=((h.cell (p:=⟨w.heap.size+1+1+1,0,none⟩) m3 n3).trans j0);have q3:=((h.cell (p:=⟨w.heap.size+1+1+1,1,none⟩) m3 n3).trans j1);clear h;go_simp;try rfl));dsimp only[Act.put];try simp only[aK])
 have u0:=v0.but (But.drew (fun _=>False) W) (fun h=>h);have u1:=v1.but (But.drew (fun _=>False) W) (fun h=>h);clear i0 i1 j0 j1 v0 v1 v2 v3;generalize W.drew=Y at*;obtain⟨y0,y1,y2,y3,m0⟩:=u0.parts;simp only[xN,xO]at y0 y1;refine ag rfl (by kernel_rfl) ?_;intro KS hKS;go_simp;have a4:But (fun k=>k=w.heap.size∨k=w.heap.size+1) W ((Y.setCell ⟨w.heap.size,0,none⟩ (.int .i32 (xN tv))).setCell ⟨w.heap.size,1,none⟩ (.int .i64 (xO tv))):=b6.trans (((But.setB Y w.heap.size 0 _).trans (But.setB _ w.heap.size 1 _)).mono (fun k _ e=>Or.inl e));have x0:cY ((Y.setCell ⟨w.heap.size,0,none⟩ (.int .i32 (xN tv))).setCell ⟨w.heap.size,1,none⟩ (.int .i64 (xO tv))) w.heap.size tv:=u0.put tv
 have x1:cY ((Y.setCell ⟨w.heap.size,0,none⟩ (.int .i32 (xN tv))).setCell ⟨w.heap.size,1,none⟩ (.int .i64 (xO tv))) (w.heap.size+1) .z:=u1.aside (v:=tv) (by omega);refine hKS.out _ _ (fun _=>a4) ?_;clear hKS KS u0 u1 y0 y1 y2 y3;revert a4 x0 x1;generalize ((Y.setCell ⟨w.heap.size,0,none⟩ (.int .i32 (xN tv))).setCell ⟨w.heap.size,1,none⟩ (.int .i64 (xO tv)))=Z;intro a4 x0 x1;obtain⟨y0,y1,y2,y3,m1⟩:=x1.parts;simp only[xN,xO]at y0 y1;refine ag rfl (by kernel_rfl) ?_;intro KS hKS;go_simp;have a5:But (fun k=>k=w.heap.size∨k=w.heap.size+1) W ((Z.setCell ⟨w.heap.size+1,0,none⟩ (.int .i32 0)).setCell ⟨w.heap.size+1,1,none⟩ (.int .i64 0)):=a4.trans (((But.setB Z (w.heap.size+1) 0 _).trans (But.setB _ (w.heap.size+1) 1 _)).mono (fun k _ e=>Or.inr e))
 refine hKS.out _ _ (fun _=>a5) ?_;clear hKS KS;refine aF rfl (by kernel_rfl) ?_;go_wp2_with fail;exact nk Tryz.results141 (x0.aside (v:= .z) (by omega)) (x1.put .z) rfl rfl rfl ⟨by rw[c7.out],a6.next a5 (fun k hk e=>by omega),e0,a2.but a5 (by omega),ah a3 a5 (fun g hg e=>by have:=aS b5.out g (a7▸hg);omega),a7⟩
theorem AJ (h:FbB w fb ca d X vl vi ts pc bl sv) (ho:w.ownsRow base 168 2 sv stk.length (aE stk)) (hl:2≤stk.length) (h4:stk.length≤4000):
  Calls Tryz.prog 141 #[.pointer (some ⟨fb,0,none⟩),.int .i64 2] w fun en w'=>en= .returned (.tuple #[bn (o9 stk),bn (er stk)])∧But (· =fb) w w'∧ ∃sv',FbB w' fb ca d X vl vi ts pc bl sv'∧w'.ownsRow base 168 2 sv' (jD stk).length (aE (jD stk))∧sv'.ownBlock=sv.ownBlock:=by
 have c7:=hid ho;have HT:=hid (tkW (w:=w));have HK:=hid (fun(Y:World) (hY:But (fun _=>False) w Y)=>jh Y fb d pc bl base ca X vl vi ts sv stk (h.but hY (fun h=>h)) (ah ho hY (fun _ _ h=>h)) (by omega) h4);have f2:=h.lt;clear h ho
 go_in
 go_wp2_with fail;revert HT;generalize ((((w.alloc (.cells #[.int .i32 0,.int .i64 0] 168)).alloc (.cells #[.int .i32 0,.int .i64 0] 168)).alloc (.cells #[.int .i32 0,.int .i64 0] 168)).alloc (.cells #[.int .i32 0,.int .i64 0] 168))=W0;intro HT;have hT:=HT.out;have f4:=hT.sz;refine(HK.out W0 hT.but).mono ?_;rintro en w1 ⟨rfl,a2,f1,a3,a4,e7⟩;clear HK;obtain⟨tv,e4⟩: ∃tv,er stk=tv:=⟨_,rfl⟩;rw[e4];have e9:=hid e4;clear e4;have v0:cY w1 w.heap.size .z:=cY.but hT.b0 a2 (by omega);have v1:cY w1 (w.heap.size+1) .z:=cY.but hT.b1 a2 (by omega);have a0:cY w1 (w.heap.size+1+1) .z:=cY.but hT.b2 a2 (by omega)
 have e6:cY w1 (w.heap.size+1+1+1) .z:=cY.but hT.b3 a2 (by omega);obtain⟨r0,r1,z0,z1,e3⟩:=e6.parts;simp only[xN,xO]at r0 r1;simp only[bn];have v3:=e6.put tv;have a7:But (fun k=>k=w.heap.size+1+1+1) w1 ((w1.setCell ⟨w.heap.size+1+1+1,0,none⟩ (.int .i32 (xN tv))).setCell ⟨w.heap.size+1+1+1,1,none⟩ (.int .i64 (xO tv))):=(But.setB w1 _ 0 _).trans (But.setB _ _ 1 _);have a1:But (· =fb) w ((w1.setCell ⟨w.heap.size+1+1+1,0,none⟩ (.int .i32 (xN tv))).setCell ⟨w.heap.size+1+1+1,1,none⟩ (.int .i64 (xO tv))):=((hT.but.mono (fun _ _ h=>h.elim)).trans a2).next a7 (fun k hk e=>by omega);replace v0:=v0.aside (v:=tv) (q:=w.heap.size+1+1+1) (by omega)
 replace v1:=v1.aside (v:=tv) (q:=w.heap.size+1+1+1) (by omega);replace a0:=a0.aside (v:=tv) (q:=w.heap.size+1+1+1) (by omega);replace a3:=a3.but a7 (by omega);replace a4:=ah a4 a7 (fun g hg e=>by have:=aS c7.out g (e7▸hg);omega);go_wp2_with fail;clear r0 r1 z0 z1 e3 e6 a2 hT HT;revert v3 a7 a1 v0 v1 a0 a3 a4;generalize ((w1.setCell ⟨w.heap.size+1+1+1,0,none⟩ (.int .i32 (xN tv))).setCell ⟨w.heap.size+1+1+1,1,none⟩ (.int .i64 (xO tv)))=W1;intro v3 a7 a1 v0 v1 a0 a3 a4;have f3:=wb stk;refine(jh W1 fb d pc bl base ca X vl vi ts f1 (cO stk) a3 a4 (by omega) (by omega)).mono ?_;rintro en w2 ⟨rfl,a6,sv2,b4,a5,e2⟩
 rw[tJ (by omega)];rw[sh]at a5;have e1:=e2.trans e7;obtain⟨uv,e5⟩: ∃uv,o9 stk=uv:=⟨_,rfl⟩;rw[e5];have f0:=hid e5;clear e5 a3 a4;replace v0:=v0.but a6 (by omega);replace v1:=v1.but a6 (by omega);replace a0:=a0.but a6 (by omega);replace v3:=v3.but a6 (by omega);have e0:=a1.trans a6;obtain⟨r0,r1,z0,z1,e3⟩:=a0.parts;simp only[xN,xO]at r0 r1;simp only[bn];have v2:=a0.put uv;have a8:But (fun k=>k=w.heap.size+1+1) w2 ((w2.setCell ⟨w.heap.size+1+1,0,none⟩ (.int .i32 (xN uv))).setCell ⟨w.heap.size+1+1,1,none⟩ (.int .i64 (xO uv))):=(But.setB w2 _ 0 _).trans (But.setB _ _ 1 _);have d6:But (· =fb) w ((w2.setCell ⟨w.heap.size+1+1,0,none⟩ (.int .i32 (xN uv))).setCell ⟨w.heap.size+1+1,1,none⟩ (.int .i64 (xO uv))):=e0.next a8 (fun k hk e=>by omega)
 replace v0:=v0.aside (v:=uv) (q:=w.heap.size+1+1) (by omega);replace v1:=v1.aside (v:=uv) (q:=w.heap.size+1+1) (by omega);replace v3:=v3.aside (v:=uv) (q:=w.heap.size+1+1) (by omega);replace b4:=b4.but a8 (by omega);replace a5:=ah a5 a8 (fun g hg e=>by have:=aS c7.out g (e1▸hg);omega);go_wp2_with fail;clear r0 r1 z0 z1 e3 a0;revert v2 a8 d6 v0 v1 v3 b4 a5;generalize ((w2.setCell ⟨w.heap.size+1+1,0,none⟩ (.int .i32 (xN uv))).setCell ⟨w.heap.size+1+1,1,none⟩ (.int .i64 (xO uv)))=W;intro v2 a8 d6 v0 v1 v3 b4 a5;obtain⟨i0,i1,_,_,m2⟩:=v2.parts;obtain⟨j0,j1,_,_,m3⟩:=v3.parts;have e8:But (fun k=>k=w.heap.size∨k=w.heap.size+1) W W.drew:=But.drew _ _
 have n2: ¬(w.heap.size+1+1=w.heap.size∨w.heap.size+1+1=w.heap.size+1):=by omega
 have n3: ¬(w.heap.size+1+1+1=w.heap.size∨w.heap.size+1+1+1=w.heap.size+1):=by omega
 refine aB (But (fun k=>k=w.heap.size∨k=w.heap.size+1) W) 4 (by kernel_rfl) ?_
 iterate 2 (refine aG (v:=?_) rfl (by kernel_rfl) (fun _ _ _ h=>h) rfl e8 ?_ ?_;rotate_left;(focus (intro wS h;have q0:=((h.cell (p:=⟨w.heap.size+1+1,0,none⟩) m2 n2).trans i0);have q1:=((h.cell (p:=⟨w.heap.size+1+1,1,none⟩) m2 n2).trans i1);have q2:=((h.cell (p:=⟨w.heap.size+1+1+1,0,none⟩) m3 n3).trans j0);have q3:=((h.cell (p:=⟨w.heap.size+1+1+1,1,none⟩) m3 n3).trans j1);clear h;go_simp;try rfl));dsimp only[Act.put];try simp only[aK])
 have u0:=v0.but (But.drew (fun _=>False) W) (fun h=>h);have u1:=v1.but (But.drew (fun _=>False) W) (fun h=>h);clear i0 i1 j0 j1 v0 v1 v2 v3;generalize W.drew=Y at*;obtain⟨y0,y1,y2,y3,m0⟩:=u0.parts;simp only[xN,xO]at y0 y1;refine ag rfl (by kernel_rfl) ?_;intro KS hKS;go_simp;have b5:But (fun k=>k=w.heap.size∨k=w.heap.size+1) W ((Y.setCell ⟨w.heap.size,0,none⟩ (.int .i32 (xN uv))).setCell ⟨w.heap.size,1,none⟩ (.int .i64 (xO uv))):=e8.trans (((But.setB Y w.heap.size 0 _).trans (But.setB _ w.heap.size 1 _)).mono (fun k _ e=>Or.inl e));have x0:cY ((Y.setCell ⟨w.heap.size,0,none⟩ (.int .i32 (xN uv))).setCell ⟨w.heap.size,1,none⟩ (.int .i64 (xO uv))) w.heap.size uv:=u0.put uv
 have x1:cY ((Y.setCell ⟨w.heap.size,0,none⟩ (.int .i32 (xN uv))).setCell ⟨w.heap.size,1,none⟩ (.int .i64 (xO uv))) (w.heap.size+1) .z:=u1.aside (v:=uv) (by omega);refine hKS.out _ _ (fun _=>b5) ?_;clear hKS KS u0 u1 y0 y1 y2 y3;revert b5 x0 x1;generalize ((Y.setCell ⟨w.heap.size,0,none⟩ (.int .i32 (xN uv))).setCell ⟨w.heap.size,1,none⟩ (.int .i64 (xO uv)))=Z;intro b5 x0 x1;obtain⟨y0,y1,y2,y3,m1⟩:=x1.parts;simp only[xN,xO]at y0 y1;refine ag rfl (by kernel_rfl) ?_;intro KS hKS;go_simp;have b6:But (fun k=>k=w.heap.size∨k=w.heap.size+1) W ((Z.setCell ⟨w.heap.size+1,0,none⟩ (.int .i32 (xN tv))).setCell ⟨w.heap.size+1,1,none⟩ (.int .i64 (xO tv))):=b5.trans (((But.setB Z (w.heap.size+1) 0 _).trans (But.setB _ (w.heap.size+1) 1 _)).mono (fun k _ e=>Or.inr e))
 refine hKS.out _ _ (fun _=>b6) ?_;clear hKS KS;refine aF rfl (by kernel_rfl) ?_;go_wp2_with fail;exact nk Tryz.results141 (x0.aside (v:=tv) (by omega)) (x1.put tv) rfl rfl rfl ⟨by rw[e9.out,f0.out],d6.next b6 (fun k hk e=>by omega),sv2,b4.but b6 (by omega),ah a5 b6 (fun g hg e=>by have:=aS c7.out g (e1▸hg);omega),e1⟩
end
theorem nF: ¬False:=fun h=>h
section
variable (w:World) (fb d pc bl base:Nat) (ca:Option Nat) (X:ba) (vl vi ts sv:Value) (stk:List V)
theorem yv (h:FbB w fb ca d X vl vi ts pc bl sv) (hi:ItB w base vi X.items) (x:XIt) (hx:X.items[pc]?=some x) (h4:X.items.length≤100):
  Calls Tryz.prog 139 #[.pointer (some ⟨fb,0,none⟩)] w fun en w'=>en= .returned (cI x)∧But (fun _=>False) w w':=by
 obtain⟨a,cap,rfl⟩:=aq hi;have b2:pc<X.items.length:=(List.getElem?_eq_some_iff.1 hx).1;obtain⟨g,rfl,a3,b1,a0⟩:=aD hi (by omega);have q0:w.cell? ⟨g,pc*5,none⟩=some (.int .i64 x.place):=a0 _ _ (aL (k:=0) hx (by omega));have q1:w.cell? ⟨g,pc*5+1,none⟩=some (.int .u8 x.op.toNat):=a0 _ _ (aL (k:=1) hx (by omega));have q2:w.cell? ⟨g,pc*5+2,none⟩=some (.int .u8 x.cls.toNat):=a0 _ _ (aL (k:=2) hx (by omega));have q3:w.cell? ⟨g,pc*5+3,none⟩=some (.int .i64 x.num):=a0 _ _ (aL (k:=3) hx (by omega));have q4:w.cell? ⟨g,pc*5+4,none⟩=some (.slice x.pa x.pn x.pc):=a0 _ _ (aL (k:=4) hx (by omega));have b0:=h.body.2.2.2.2
 have c8:=h.c8;have a7:=h.lt;have n0: ¬((pc:Int)<0):=by omega
 have n1: ¬((X.items.length:Int)≤(pc:Int)):=by omega
 have n2:(0:Int)≤(pc:Int):=by omega
 have n3:(pc:Int)<(X.items.length:Int):=by omega
 clear h hi a0 hx;generalize X.items.length=L at*;have HA:=hid (heap_alloc_new w (.cells #[.int .i64 0,.int .u8 0,.int .u8 0,.int .i64 0,.slice none 0 0] 219));have HB:=hid (But.alloc (fun _=>False) w (.cells #[.int .i64 0,.int .u8 0,.int .u8 0,.int .i64 0,.slice none 0 0] 219))
 go_in
 go_wp2_with fail;revert HA HB;generalize (w.alloc (.cells #[.int .i64 0,.int .u8 0,.int .u8 0,.int .i64 0,.slice none 0 0] 219))=W;intro HA HB;have hA:=HA.out;have hB:=HB.out;have hz:=hB.size;have a5:fb<W.heap.size:=by omega
 have a4:g<W.heap.size:=by omega
 replace q0:=hB.kc q0 a3;replace q1:=hB.kc q1 a3;replace q2:=hB.kc q2 a3;replace q3:=hB.kc q3 a3;replace q4:=hB.kc q4 a3;replace b0:=hB.kc b0 a7;replace c8:=hB.kc c8 a7;have a2:But (fun _=>False) W W.drew:=But.drew _ _;refine aB (But (fun _=>False) W) 18 (by kernel_rfl) ?_
 iterate 18 (refine aG (v:=?_) rfl (by kernel_rfl) (fun _ _ _ h=>h) rfl a2 ?_ ?_;rotate_left;(focus (intro wS h;have q0:=((h.cell (p:=⟨fb,8,none⟩) a5 nF).trans c8);have q1:=((h.cell (p:=⟨fb,6,none⟩) a5 nF).trans b0);clear h;go_simp;try rfl));dsimp only[Act.put];try simp only[aK])
 refine aF rfl (by kernel_rfl) ?_;clear a2;have a6:But (fun _=>False) W W.drew:=But.drew _ _;have HD:=hid a6;clear a6;go_wp2_with fail;have a2:But (fun _=>False) W W.drew.drew:=HD.out.trans (But.drew _ _);clear HD;refine aB (But (fun _=>False) W) 11 (by kernel_rfl) ?_
 iterate 11 (refine aG (v:=?_) rfl (by kernel_rfl) (fun _ _ _ h=>h) rfl a2 ?_ ?_;rotate_left;(focus (intro wS h;have Q0:=((h.cell (p:=⟨fb,8,none⟩) a5 nF).trans c8);have Q1:=((h.cell (p:=⟨fb,6,none⟩) a5 nF).trans b0);have Q2:=((h.cell (p:=⟨g,pc*5,none⟩) a4 nF).trans q0);have Q3:=((h.cell (p:=⟨g,pc*5+1,none⟩) a4 nF).trans q1);have Q4:=((h.cell (p:=⟨g,pc*5+2,none⟩) a4 nF).trans q2);have Q5:=((h.cell (p:=⟨g,pc*5+3,none⟩) a4 nF).trans q3);have Q6:=((h.cell (p:=⟨g,pc*5+4,none⟩) a4 nF).trans q4);clear h;go_simp;try rfl));dsimp only[Act.put];try simp only[aK])
 have a1:=(a2.block w.heap.size (ae hA) nF).trans hA;clear q0 q1 q2 q3 q4 b0 c8;generalize W.drew.drew=Y at*;have a8:=ae a1;have y0:=ce0 a1;have y1:=ce1 a1;have y2:=ce2 a1;have y3:=ce3 a1;have y4:=ce4 a1;have z0:=frozen_of_row Y w.heap.size 0 _ _ a1;have z1:=frozen_of_row Y w.heap.size 1 _ _ a1;have z2:=frozen_of_row Y w.heap.size 2 _ _ a1;have z3:=frozen_of_row Y w.heap.size 3 _ _ a1;have z4:=frozen_of_row Y w.heap.size 4 _ _ a1;refine ag rfl (by kernel_rfl) ?_;intro KS hKS;go_simp;refine hKS.out _ _ nofun ?_;clear hKS KS;refine aF rfl (by kernel_rfl) ?_;clear y0 y1 y2 y3 y4 z0 z1 z2 z3 z4;go_wp2_with fail
 have hP:But (· =w.heap.size) Y (((((Y.setCell ⟨w.heap.size,0,none⟩ (.int .i64 x.place)).setCell ⟨w.heap.size,1,none⟩ (.int .u8 x.op.toNat)).setCell ⟨w.heap.size,2,none⟩ (.int .u8 x.cls.toNat)).setCell ⟨w.heap.size,3,none⟩ (.int .i64 x.num)).setCell ⟨w.heap.size,4,none⟩ (.slice x.pa x.pn x.pc)):=
  ((((But.setB _ _ _ _).trans (But.setB _ _ _ _)).trans (But.setB _ _ _ _)).trans (But.setB _ _ _ _)).trans (But.setB _ _ _ _)
 exact Bb Tryz.results139 rfl rfl (heap_setCell_same _ _ 4 _ _ _ (heap_setCell_same _ _ 3 _ _ _ (heap_setCell_same _ _ 2 _ _ _ (heap_setCell_same _ _ 1 _ _ _ (heap_setCell_same _ _ 0 _ _ _ a1))))) ⟨rfl,(hB.trans a2).next hP (fun k hk e=>by omega)⟩
theorem Bu (h:FbB w fb ca d X vl vi ts pc bl sv) (hp:pc≤1000) (n:Nat) (c o:Int) (hc:c≠0):
  Calls Tryz.prog 144 #[.pointer (some ⟨fb,0,none⟩),.int .i64 n,.agg #[.int .i32 c,.int .i64 o]] w fun en w'=>en= .returned (.tuple #[])∧But (· =fb) w w'∧FbB w' fb ca d X vl vi ts (pc+1) bl sv:=by
 have c8:=h.c8;have z8:=h.fz 8;have a1:=h.lt;have HH:=hid h;have a2:=dj ((pc:Int)+1) (by omega) (by omega);clear h;have a0:fb<w.heap.size+1:=by omega
 go_in
 go_wp2_with fail;go_end0;exact⟨rfl,((But.setB _ _ _ _).trans (But.alloc _ _ _)),(HH.out.set8 (pc+1)).but (But.alloc (fun _=>False) _ _) nF⟩
end
def MbB (w:World) (mb tx:Nat) (tv:Value) (bw cells:Nat) (cur:Option Nat) (ans:Int):Prop:=
 w.heap[mb]?=some (.cells #[.pointer (some ⟨tx,0,none⟩),tv,.pointer (some ⟨bw,0,none⟩),.int .i64 cells,qd cur,.int .i32 ans] 157)
section
variable {w:World} {mb tx bw cells:Nat} {tv:Value} {cur:Option Nat} {ans:Int}
theorem MbB.lt (h:MbB w mb tx tv bw cells cur ans):mb<w.heap.size:=ae h
theorem MbB.c0 (h:MbB w mb tx tv bw cells cur ans):w.cell? ⟨mb,0,none⟩=some (.pointer (some ⟨tx,0,none⟩)):=ce0 h
theorem MbB.c1 (h:MbB w mb tx tv bw cells cur ans):w.cell? ⟨mb,1,none⟩=some tv:=ce1 h
theorem MbB.c2 (h:MbB w mb tx tv bw cells cur ans):w.cell? ⟨mb,2,none⟩=some (.pointer (some ⟨bw,0,none⟩)):=ce2 h
theorem MbB.c4 (h:MbB w mb tx tv bw cells cur ans):w.cell? ⟨mb,4,none⟩=some (qd cur):=ce4 h
theorem MbB.c5 (h:MbB w mb tx tv bw cells cur ans):w.cell? ⟨mb,5,none⟩=some (.int .i32 ans):=ce5 h
theorem MbB.fz (h:MbB w mb tx tv bw cells cur ans) (j:Nat):w.frozen? ⟨mb,j,none⟩=false:=frozen_of_row w mb j _ _ h
theorem MbB.but {F:Nat→Prop} {w':World} (h:MbB w mb tx tv bw cells cur ans) (hb:But F w w') (hf: ¬F mb):MbB w' mb tx tv bw cells cur ans:=(hb.block mb h.lt hf).trans h
theorem MbB.set4 (h:MbB w mb tx tv bw cells cur ans) (o:Option Nat):MbB (w.setCell ⟨mb,4,none⟩ (qd o)) mb tx tv bw cells o ans:=heap_setCell_same w mb 4 _ _ _ h
theorem MbB.set5 (h:MbB w mb tx tv bw cells cur ans) (n:Int):MbB (w.setCell ⟨mb,5,none⟩ (.int .i32 n)) mb tx tv bw cells cur n:=heap_setCell_same w mb 5 _ _ _ h
end
section
variable (w:World) (mb tx bw cells fb d pc bl:Nat) (tv:Value) (ans:Int) (X:ba) (vl vi ts sv:Value)
/--The main body ends. -/
theorem yw (h:MbB w mb tx tv bw cells (some fb) ans) (hf:FbB w fb none d X vl vi ts pc bl sv) (n o:Int):
  Calls Tryz.prog 143 #[.pointer (some ⟨mb,0,none⟩),.agg #[.int .i32 n,.int .i64 o]] w fun en w'=>en= .returned (.tuple #[])∧But (· =mb) w w'∧MbB w' mb tx tv bw cells none n:=by
 have hA:=But.alloc (fun _=>False) w (.cells #[.int .i32 n,.int .i64 o] 168);have c4:w.cell? ⟨mb,4,none⟩=some (.pointer (some ⟨fb,0,none⟩)):=h.c4;have f0:w.cell? ⟨fb,0,none⟩=some (.pointer none):=hf.c0;have c5:=h.c5;have z4:=h.fz 4;have z5:=h.fz 5;have a3:=h.lt;have a1:=hf.lt;have HH:=hid h;have a2:mb<w.heap.size+1:=by omega
 have a0:fb<w.heap.size+1:=by omega
 have a4: ¬w.heap.size=mb:=by omega
 clear h hf hA
 go_in
 go_wp2_with fail;exact fV Tryz.results143 rfl ⟨rfl,((But.setB _ _ _ _).trans (But.setB _ _ _ _)).trans (But.alloc _ _ _),((HH.out.set4 none).set5 n).but (But.alloc (fun _=>False) _ _) nF⟩
theorem nm (l:List V) (u:V):aE (l++ [u])=aE l++ [.int .i32 (xN u),.int .i64 (xO u)]:=by simp[aE,iy]
variable (cb d2 p2 bl2 base:Nat) (c2:Option Nat) (X2:ba) (vl2 vi2 ts2 sv2:Value) (stk:List V)
end
structure Ab (w0 w w':World) (mb tx:Nat) (tv:Value) (bw cells:Nat) (cur:Option Nat) (ans:Int) (d:Nat) (gs:List Sig) (b:Bod) (p:Nat×List St) (fb bl:Nat) (lv vl vi:Value):Prop where
 but:But (· =mb) w w'
 mc:MbB w' mb tx tv bw cells (some fb) ans
 fr:FbB w' fb cur d (aW gs b) vl vi (.slice (some ⟨p.1,0,none⟩) p.2.length p.2.length) 0 bl (.slice none 0 0)
 lb:w'.heap[bl]?=some (.cells #[lv] 280)
 lo:w'.ownsRow w.heap.size 168 2 lv b.locals.length (aE (b.locals.map d8))
 gf:w.heap.size≤fb
 gl:w.heap.size≤bl
 bt:BtB w0 0 vl (aW gs b).locals
 it:ItB w0 0 vi (aW gs b).items
 tb:StB w0 p.1 p.2
section
variable (w0 w:World) (mb tx bw cells d base:Nat) (tv:Value) (ans:Int) (im:Img) (l:List (Nat×List St)) (q:Nat) (b:Bod) (p:Nat×List St)
theorem wg (cur:Option Nat) (hd:(cur=none∧d=0)∨ ∃a4,cur=some a4∧a4<w.heap.size∧w.cell? ⟨a4,1,none⟩=some (.int .i64 d)) (hdd:d≤100) (h:MbB w mb tx tv bw cells cur ans) (h0:But (fun _=>False) w0 w) (hT:dE w0 tx im) (hl:fi w0 base tv l) (hq:im.bodies[q]?=some b) (hp:l[q]?=some p) (hlo:b.locals.length≤5) (hnb:im.bodies.length≤100):
  Calls Tryz.prog 87 #[.pointer (some ⟨mb,0,none⟩),.int .i64 q] w fun en w'=>en= .returned (.tuple #[])∧ ∃fb bl lv vl vi,Ab w0 w w' mb tx tv bw cells cur ans (d+1) im.sigs b p fb bl lv vl vi:=by
 obtain⟨v2,t2,b1,lb,hO,hm,hf⟩:=hT.bod;have hX:(im.bodies.map (aW im.sigs))[q]?=some (aW im.sigs b):=by rw[List.getElem?_map,hq];rfl
 rw[←hm,List.getElem?_map]at hX;obtain⟨⟨X,vl,vi⟩,a1,a5⟩:=Option.map_eq_some_iff.1 hX;simp only at a5;have HX:Hid (X=aW im.sigs b):=a5;have b4:X.locals=b.locals:=by rw[a5];rfl
 clear a5;obtain⟨f1,f2⟩:=hf _ (List.mem_of_getElem? a1);simp only at f1 f2;have c7:=hid f1;have d6:=hid f2;obtain⟨al,capl,rfl⟩:=aq f1;obtain⟨ai,capi,rfl⟩:=aq f2;obtain⟨ao,capo,rfl⟩:=aq hO;have f0:q<lb.length:=(List.getElem?_eq_some_iff.1 a1).1;obtain⟨g,rfl,a2,f5,a0⟩:=aD hO (by omega);have q0:=a0 _ _ (aR (k:=0) a1 (by omega));have q1:=a0 _ _ (aR (k:=1) a1 (by omega));have q2:=a0 _ _ (aR (k:=2) a1 (by omega));have q3:=a0 _ _ (aR (k:=3) a1 (by omega));have q4:=a0 _ _ (aR (k:=4) a1 (by omega));simp only[Nat.add_zero,List.getElem?_cons_zero,List.getElem?_cons_succ]at q0 q1 q2 q3 q4;obtain⟨ax,capx,rfl⟩:=aq hl.1
 have f3:q<l.length:=(List.getElem?_eq_some_iff.1 hp).1;obtain⟨gx,rfl,b2,g3,b6⟩:=aD hl.1 (by omega);have q5:w0.cell? ⟨gx,q,none⟩=some (.slice (some ⟨p.1,0,none⟩) p.2.length p.2.length):=b6 _ _ (by simp[gZ,hp]);have e3:=hid (hl.2 p (List.mem_of_getElem? hp));replace q0:=(h0.cell a2 (fun h=>h)).trans q0;replace q1:=(h0.cell a2 (fun h=>h)).trans q1;replace q2:=(h0.cell a2 (fun h=>h)).trans q2;replace q3:=(h0.cell a2 (fun h=>h)).trans q3;replace q4:=(h0.cell a2 (fun h=>h)).trans q4;replace q5:=h0.kc q5 b2;replace t2:=(h0.cell b1 (fun h=>h)).trans t2;replace a2:=Nat.lt_of_lt_of_le a2 h0.size;replace b2:=Nat.lt_of_lt_of_le b2 h0.size
 replace b1:=Nat.lt_of_lt_of_le b1 h0.size;have e2:=hid (fun Y=>jK X.cls (X.meth:Int) X.ans b.locals al capl ai X.items.length capi Y (by omega));have e0:=h.c0;have e1:=h.c1;have z4:=h.fz 4;have a8:=h.lt;have HM:=hid h;have f8:(0:Int)≤(q:Int):=by omega
 have g0:(q:Int)<(lb.length:Int):=by omega
 have g1:(q:Int)<(l.length:Int):=by omega
 have a6:lb.length=im.bodies.length:=by have:=congrArg List.length hm;simpa using this
 rw[b4]at q3;clear a6;have e4:=h.c4;have HD:=hid hd;clear hd;clear hX a1 f1 f2 a0 b6 hf hO hm hq f0 hT h hl hp f3;generalize b5:b.locals.length=nL at*;generalize f7:X.items.length=nI at*;generalize lb.length=nb at*;generalize l.length=nx at*;have g2:=dj ((d:Int)+1) (by omega) (by omega);rcases HD.out with⟨rfl,rfl⟩ | ⟨a4,rfl,f6,c1⟩
 all_goals
  simp only[qd,Option.map_none,Option.map_some]at e4
  go_in
  go_wp2_with fail;refine(e2.out _).mono ?_;rintro en w1 ⟨bl,lv,rfl,b3,a1,a7,e5⟩;have hA:=(b3.block w.heap.size (by simp) nF).trans (heap_alloc_new w _);have a3:But (fun _=>False) w w1:=(But.alloc _ _ _).trans b3;have k9:=ce9 hA;have y9:=frozen_of_row w1 w.heap.size 9 _ _ hA;have m4:=(a3.cell (p:=⟨mb,4,none⟩) a8 nF).trans e4;have n4:=(a3.frozen (p:=⟨mb,4,none⟩) a8 nF).trans z4;have f4:=ae hA;have HA:=hid hA;have e8:mb<w1.heap.size:=Nat.lt_of_lt_of_le a8 a3.size;have e9: ¬w.heap.size=mb:=by omega
  have b0: ¬mb=w.heap.size:=by omega
  have e6:w.heap.size+1≤bl:=by simpa using e5
  clear hA e4 z4 q0 q1 q2 q3 q4 q5 e0 e1 t2;go_wp2_with fail;go_end0;have s9:But (· =w.heap.size) w1 (w1.setCell ⟨w.heap.size,9,none⟩ (.pointer (some ⟨bl,0,none⟩))):=But.setB _ _ _ _;have s4:But (· =mb) (w1.setCell ⟨w.heap.size,9,none⟩ (.pointer (some ⟨bl,0,none⟩))) ((w1.setCell ⟨w.heap.size,9,none⟩ (.pointer (some ⟨bl,0,none⟩))).setCell ⟨mb,4,none⟩ (.pointer (some ⟨w.heap.size,0,none⟩))):=But.setB _ _ _ _;have e7:=heap_setCell_same w1 w.heap.size 9 _ _ (.pointer (some ⟨bl,0,none⟩)) HA.out;refine⟨rfl,w.heap.size,bl,lv,.slice al nL capl,.slice ai nI capi,((a3.mono (fun _ _ h=>h.elim)).next s9 (fun k hk e=>by have e:k=w.heap.size:=e;omega)).trans s4,((HM.out.but a3 nF).but s9 b0).set4 (some w.heap.size),?_,?_,?_,Nat.le_refl _,by omega,?_,?_,e3.out⟩
  ·rw[←HX.out];exact FbB.but e7 s4 e9
  ·exact(s4.block bl (by rw[br];exact ae a1) (by show¬bl=mb;omega)).trans ((s9.block bl (ae a1) (by show¬bl=w.heap.size;omega)).trans a1)
  ·rw[b5];exact World.ownsRow.mono (ah (ah a7 s9 (fun k hk e=>by have:=aj a7 k hk;simp at this;have e:k=w.heap.size:=e;omega)) s4 (fun k hk e=>by have:=aj a7 k hk;simp at this;have e:k=mb:=e;omega)) (by simp)
  ·have:=c7.out;rw[show X.locals.length=nL from by rw[b4,b5]]at this;rw[←HX.out];exact this
  ·rw[←HX.out];exact d6.out
end
end
end Go.Proofs.YtpfkkmacakjmbaaGreatDoor
