import Derived.Test.YtpfkkmacakjmbaaGreatDoorP22
set_option maxRecDepth 100000
set_option maxHeartbeats 6400000
set_option linter.unusedSimpArgs false
set_option linter.unusedVariables false
namespace Go.Proofs.YtpfkkmacakjmbaaGreatDoor
section
open Go Go.RowKit Sp
attribute [local go_sem ↓] Go.wp_at_zero Go.wp_at_succ
def iG (o:Option Nat):Value:= .pointer (o.map fun b=>⟨b,0,none⟩)
def FbB (w:World) (fb:Nat) (ca:Option Nat) (d:Nat) (X:bz) (vl vi ts:Value) (pc bl:Nat) (sv:Value):Prop:=
 w.heap[fb]?=some (.cells #[iG ca,.int .i64 d,.int .u8 X.cls.toNat,.int .i64 X.meth,.int .u8 X.ans.toNat,vl,vi,ts,.int .i64 pc,.pointer (some ⟨bl,0,none⟩),sv] 215)
section
variable {w:World} {fb d pc bl:Nat} {ca:Option Nat} {X:bz} {vl vi ts sv:Value}
theorem FbB.lt (h:FbB w fb ca d X vl vi ts pc bl sv):fb<w.heap.size:=ae h
theorem FbB.c0 (h:FbB w fb ca d X vl vi ts pc bl sv):w.cell? ⟨fb,0,none⟩=some (iG ca):=ce0 h
theorem FbB.c1 (h:FbB w fb ca d X vl vi ts pc bl sv):w.cell? ⟨fb,1,none⟩=some (.int .i64 d):=ce1 h
theorem FbB.body (h:FbB w fb ca d X vl vi ts pc bl sv):w.cell? ⟨fb,2,none⟩=some (.int .u8 X.cls.toNat)∧w.cell? ⟨fb,3,none⟩=some (.int .i64 X.meth)∧w.cell? ⟨fb,4,none⟩=some (.int .u8 X.ans.toNat)∧w.cell? ⟨fb,5,none⟩=some vl∧w.cell? ⟨fb,6,none⟩=some vi:=
 ⟨by rw[cell_of_row w fb 2 _ _ (0,0) h];rfl,by rw[cell_of_row w fb 3 _ _ (0,0) h];rfl,by rw[cell_of_row w fb 4 _ _ (0,0) h];rfl,by rw[cell_of_row w fb 5 _ _ (0,0) h];rfl,by rw[cell_of_row w fb 6 _ _ (0,0) h];rfl⟩
theorem FbB.c7 (h:FbB w fb ca d X vl vi ts pc bl sv):w.cell? ⟨fb,7,none⟩=some ts:=ce7 h
theorem FbB.c8 (h:FbB w fb ca d X vl vi ts pc bl sv):w.cell? ⟨fb,8,none⟩=some (.int .i64 pc):=ce8 h
theorem FbB.c9 (h:FbB w fb ca d X vl vi ts pc bl sv):w.cell? ⟨fb,9,none⟩=some (.pointer (some ⟨bl,0,none⟩)):=ce9 h
theorem FbB.c10 (h:FbB w fb ca d X vl vi ts pc bl sv):w.cell? ⟨fb,10,none⟩=some sv:=Ci h
theorem FbB.fz (h:FbB w fb ca d X vl vi ts pc bl sv) (j:Nat):w.frozen? ⟨fb,j,none⟩=false:=frozen_of_row w fb j _ _ h
theorem FbB.but {F:Nat→Prop} {w':World} (h:FbB w fb ca d X vl vi ts pc bl sv) (hb:But F w w') (hf: ¬F fb):FbB w' fb ca d X vl vi ts pc bl sv:=(hb.block fb h.lt hf).trans h
theorem FbB.set8 (h:FbB w fb ca d X vl vi ts pc bl sv) (n:Nat):FbB (w.setCell ⟨fb,8,none⟩ (.int .i64 n)) fb ca d X vl vi ts n bl sv:=heap_setCell_same w fb 8 _ _ _ h
theorem FbB.set10 (h:FbB w fb ca d X vl vi ts pc bl sv) (v:Value):FbB (w.setCell ⟨fb,10,none⟩ v) fb ca d X vl vi ts pc bl v:=heap_setCell_same w fb 10 _ _ _ h
end
theorem uG {w:World} {base:Nat} {a:Option Addr} {cap:Nat} {stk:List V} (h:w.ownsRow base 168 2 (.slice a stk.length cap) stk.length (au stk)) (hl:1≤stk.length):w.ownsRow base 168 2 (.slice a (stk.length-1) cap) (cI stk).length (au (cI stk)):=by
 have e:(cI stk).length=stk.length-1:=by simp[cI]
 rw[e];obtain⟨h1,h2⟩:=h;rcases h2 with⟨h0,hx⟩ | ⟨g',cap',cur,hv,hg,hh,hn,a1,a2,a0⟩
 ·injection h0 with _ h0;omega
 ·injection hv with e1 e2 e3;subst e1 e3;refine⟨by rw[dn,e],.inr ⟨g',cap,cur,rfl,hg,hh,by omega,a1,a2,?_⟩⟩
  have e5:au stk=au (cI stk)++io (cM stk):=by
   have:=congrArg au (lY hl);rw[←this];simp[au]
  have e4:au (cI stk)=(au stk).take ((stk.length-1)*2):=by
   rw[e5,List.take_left' ((dn (cI stk)).trans (by rw[e]))]
  rw[e4,←a0,List.take_take,Nat.min_eq_left (Nat.mul_le_mul_right _ (by omega))]
theorem jS (w:World) (fb d pc bl base:Nat) (ca:Option Nat) (X:bz) (vl vi ts sv:Value) (stk:List V) (h:FbB w fb ca d X vl vi ts pc bl sv) (ho:w.ownsRow base 168 2 sv stk.length (au stk)) (hl:1≤stk.length) (h4:stk.length≤4000):
  Calls Tryz.prog 192 #[.pointer (some ⟨fb,0,none⟩)] w fun en w'=>en= .returned (aG (cM stk))∧But (· =fb) w w'∧ ∃sv',FbB w' fb ca d X vl vi ts pc bl sv'∧w'.ownsRow base 168 2 sv' (cI stk).length (au (cI stk))∧sv'.ownBlock=sv.ownBlock:=by
 obtain⟨a,cap,rfl⟩:=aw ho;have a3:=uG ho hl;obtain⟨g,rfl,b1,b2,a0⟩:=aI ho (by omega)
 have ht:stk[stk.length-1]?=some (cM stk):=by
  unfold cM;rw[List.getD_eq_getElem?_getD,List.getElem?_eq_getElem (show stk.length-1<stk.length by omega),Option.getD_some]
 have q0:w.cell? ⟨g,(stk.length-1)*2,none⟩=some (.int .i32 (xN (cM stk))):=a0 _ _ (bq (k:=0) ht (by omega));have q1:w.cell? ⟨g,(stk.length-1)*2+1,none⟩=some (.int .i64 (xO (cM stk))):=a0 _ _ (bq (k:=1) ht (by omega))
 have a1:stk.length≤cap:=by
  rcases ho.2 with⟨h0,_⟩ | ⟨g',cap',cur,hv,_,_,hn,_⟩
  ·cases h0
  ·injection hv with _ _ e3;omega
 obtain⟨n,hn⟩: ∃n,stk.length=n+1:=⟨stk.length-1,by omega⟩;have a5: ¬fb=g:=fun e=>aC ho h (by decide) (by rw[e];rfl)
 have a2: ¬g=fb:=fun e=>a5 e.symm
 have c10:=h.c10;have c6:=h.fz 10;have b0:=h.lt;have HH:=hid h;have HO:=hid a3;rw[hn]at q0 q1 c10 a1;rw[hn]at HO;simp only[Nat.add_sub_cancel]at q0 q1 HO;have b4: ¬((n:Int)<0):=by omega
 have b9:=dE (n:Int) (by omega) (by omega);have b6:(n:Int)<(n:Int)+1:=by omega
 have b5:(n:Int)≤(cap:Int):=by omega
 have b3:g<w.heap.size+1:=by omega
 have a7:fb<w.heap.size+1:=by omega
 have a8:fb<w.heap.size+1+1:=by omega
 clear h a3 ho a0 ht hl h4;generalize a6:cM stk=u at*;generalize a4:cI stk=ls at*;rw[hn];clear a6 a4 hn
 go_in
 go_wp2_with fail;have hS:But (· =fb) w (w.setCell ⟨fb,10,none⟩ (.slice (some ⟨g,0,none⟩) n cap)):=But.setB _ _ _ _;have hA:But (fun _=>False) (w.setCell ⟨fb,10,none⟩ (.slice (some ⟨g,0,none⟩) n cap)) (((w.setCell ⟨fb,10,none⟩ (.slice (some ⟨g,0,none⟩) n cap)).alloc (.cells #[.int .i32 (xN u),.int .i64 (xO u)] 168)).alloc (.cells #[.int .i32 (xN u),.int .i64 (xO u)] 168)):=(But.alloc _ _ _).trans (But.alloc _ _ _);exact pN Tryz.results192 rfl rfl (((But.alloc (fun _=>False) _ _).block _ (by simp[bV]) (fun h=>h)).trans (aq (by simp[bV]) _)) ⟨rfl,hS.trans (hA.mono (fun _ _ h=>h.elim)),_,(HH.out.set10 _).but hA (fun h=>h),ag (ag HO.out hS (fun k hk e=>a2 (by simp only[Value.ownBlock,Option.some.injEq]at hk;rw[hk];exact e))) hA (fun _ _ h=>h),rfl⟩
theorem CF {fn:Func} {Rr:Ending→World→Prop} {a:Act} {w:World} {c f r q:Nat} {K N K' N':Int} (hf:fn.results=#[.cell c 168,.cell f 168]) (hd:a.defers=[]) (hc:a.tmps.getD c undef= .pointer (some ⟨r,0,none⟩)) (he:a.tmps.getD f undef= .pointer (some ⟨q,0,none⟩))
  (h0:w.heap[r]?=some (.cells #[.int .i32 K,.int .i64 N] 168)) (h1:w.heap[q]?=some (.cells #[.int .i32 K',.int .i64 N'] 168)) (hR:Rr (.returned (.tuple #[.agg #[.int .i32 K,.int .i64 N],.agg #[.int .i32 K',.int .i64 N']])) w):bodyPost Tryz.prog fn Rr .ret a w:=by
 have r0:=ce0 h0;have r1:=ce1 h0;have r2:=ce0 h1;have r3:=ce1 h1;refine bodyPost_ret (v:= .tuple #[.agg #[.int .i32 K,.int .i64 N],.agg #[.int .i32 K',.int .i64 N']]) ?_ hd hR;have a0:a.tmps[c]?.getD undef= .pointer (some ⟨r,0,none⟩):=by simpa using hc
 have a1:a.tmps[f]?.getD undef= .pointer (some ⟨q,0,none⟩):=by simpa using he
 simp[results,hf,a0,a1,go_sem,r0,r1,r2,r3]
theorem xK (s:List V):(cI s).length=s.length-1:=by simp[cI]
theorem uH {s:List V} (h:2≤s.length):cM (cI s)=jw s:=by
 unfold cM jw cI;rw[List.length_take,Nat.min_eq_left (by omega),List.getD_eq_getElem?_getD,List.getElem?_take,if_pos (by omega),List.getD_eq_getElem?_getD,show s.length-1-1=s.length-2 from by omega]
theorem tg (s:List V):cI (cI s)=fY s:=by
 unfold cI fY;rw[List.length_take,List.take_take]
 congr 1
 omega
structure TkW (w W:World):Prop where
 but:But (fun _=>False) w W
 b0:W.heap[w.heap.size]?=some (.cells #[.int .i32 0,.int .i64 0] 168)
 b1:W.heap[w.heap.size+1]?=some (.cells #[.int .i32 0,.int .i64 0] 168)
 b2:W.heap[w.heap.size+1+1]?=some (.cells #[.int .i32 0,.int .i64 0] 168)
 b3:W.heap[w.heap.size+1+1+1]?=some (.cells #[.int .i32 0,.int .i64 0] 168)
 sz:W.heap.size=w.heap.size+1+1+1+1
theorem tkW {w:World}:TkW w ((((w.alloc (.cells #[.int .i32 0,.int .i64 0] 168)).alloc (.cells #[.int .i32 0,.int .i64 0] 168)).alloc (.cells #[.int .i32 0,.int .i64 0] 168)).alloc (.cells #[.int .i32 0,.int .i64 0] 168)):=by
 refine⟨(((But.alloc _ _ _).trans (But.alloc _ _ _)).trans (But.alloc _ _ _)).trans (But.alloc _ _ _),?_,?_,?_,aq (by simp) _,by simp⟩
 ·exact((((But.alloc (fun _=>False) _ _).trans (But.alloc _ _ _)).trans (But.alloc _ _ _)).block _ (by simp) (fun h=>h)).trans (heap_alloc_new w _)
 ·exact(((But.alloc (fun _=>False) _ _).trans (But.alloc _ _ _)).block _ (by simp) (fun h=>h)).trans (aq (by simp) _)
 ·exact((But.alloc (fun _=>False) _ _).block _ (by simp) (fun h=>h)).trans (aq (by simp) _)
def cK (w:World) (r:Nat) (u:V):Prop:=w.heap[r]?=some (.cells #[.int .i32 (xN u),.int .i64 (xO u)] 168)
theorem cK.but {F:Nat→Prop} {w w':World} {r:Nat} {u:V} (h:cK w r u) (hb:But F w w') (hf: ¬F r):cK w' r u:=(hb.block r (ae h) hf).trans h
theorem cK.parts {w:World} {r:Nat} {u:V} (h:cK w r u):w.cell? ⟨r,0,none⟩=some (.int .i32 (xN u))∧w.cell? ⟨r,1,none⟩=some (.int .i64 (xO u))∧w.frozen? ⟨r,0,none⟩=false∧w.frozen? ⟨r,1,none⟩=false∧r<w.heap.size:=
 ⟨by rw[cell_of_row w r 0 _ _ (0,0) h];rfl,by rw[cell_of_row w r 1 _ _ (0,0) h];rfl,frozen_of_row w r 0 _ _ h,frozen_of_row w r 1 _ _ h,ae h⟩
theorem cK.put {w:World} {r:Nat} {u:V} (h:cK w r u) (v:V):cK ((w.setCell ⟨r,0,none⟩ (.int .i32 (xN v))).setCell ⟨r,1,none⟩ (.int .i64 (xO v))) r v:=heap_setCell_same _ r 1 _ _ _ (heap_setCell_same _ r 0 _ _ _ h)
theorem cK.aside {w:World} {r q:Nat} {u v:V} (h:cK w r u) (hne: ¬r=q):cK ((w.setCell ⟨q,0,none⟩ (.int .i32 (xN v))).setCell ⟨q,1,none⟩ (.int .i64 (xO v))) r u:=h.but ((But.setB w q 0 _).trans (But.setB _ q 1 _)) hne
section
variable (w:World) (fb d pc bl base:Nat) (ca:Option Nat) (X:bz) (vl vi ts sv:Value) (stk:List V)
theorem oz {a:Act} {W:World} {u v:V} {k:Nat} {Rr:Ending→World→Prop} {fn:Func} (hf:fn.results=#[.cell 4 168,.cell 5 168]) (h0:cK W k u) (h1:cK W (k+1) v) (hd:a.defers=[]) (h4:a.tmps.getD 4 undef= .pointer (some ⟨k,0,none⟩)) (h5:a.tmps.getD 5 undef= .pointer (some ⟨k+1,0,none⟩)) (hR:Rr (.returned (.tuple #[aG u,aG v])) W):bodyPost Tryz.prog fn Rr .ret a W:=
 CF hf hd h4 h5 h0 h1 hR
theorem BG:Calls Tryz.prog 141 #[.pointer (some ⟨fb,0,none⟩),.int .i64 0] w fun en w'=>en= .returned (.tuple #[aG .z,aG .z])∧But (fun _=>False) w w':=by
 have HT:=hid (tkW (w:=w))
 go_in
 go_wp2_with fail;revert HT;generalize ((((w.alloc (.cells #[.int .i32 0,.int .i64 0] 168)).alloc (.cells #[.int .i32 0,.int .i64 0] 168)).alloc (.cells #[.int .i32 0,.int .i64 0] 168)).alloc (.cells #[.int .i32 0,.int .i64 0] 168))=W;intro HT;have hT:=HT.out;have v0:cK W w.heap.size .z:=hT.b0;have v1:cK W (w.heap.size+1) .z:=hT.b1;have v2:cK W (w.heap.size+1+1) .z:=hT.b2;have v3:cK W (w.heap.size+1+1+1) .z:=hT.b3;obtain⟨i0,i1,_,_,m2⟩:=v2.parts;obtain⟨j0,j1,_,_,m3⟩:=v3.parts;simp only[xN,xO]at i0 i1 j0 j1;have a3:=hT.sz;have a1:But (fun k=>k=w.heap.size∨k=w.heap.size+1) W W.drew:=But.drew _ _;have n2: ¬(w.heap.size+1+1=w.heap.size∨w.heap.size+1+1=w.heap.size+1):=by omega
 have n3: ¬(w.heap.size+1+1+1=w.heap.size∨w.heap.size+1+1+1=w.heap.size+1):=by omega
 refine aD (But (fun k=>k=w.heap.size∨k=w.heap.size+1) W) 4 (by kernel_rfl) ?_
 iterate 2 (refine aJ (v:=?_) rfl (by kernel_rfl) (fun _ _ _ h=>h) rfl a1 ?_ ?_;rotate_left;(focus (intro wS h;have q0:=((h.cell (p:=⟨w.heap.size+1+1,0,none⟩) m2 n2).trans i0);have q1:=((h.cell (p:=⟨w.heap.size+1+1,1,none⟩) m2 n2).trans i1);have q2:=((h.cell (p:=⟨w.heap.size+1+1+1,0,none⟩) m3 n3).trans j0);have q3:=((h.cell (p:=⟨w.heap.size+1+1+1,1,none⟩) m3 n3).trans j1);clear h;go_simp;try rfl));dsimp only[Act.put];try simp only[aL])
 have u0:=v0.but (But.drew (fun _=>False) W) (fun h=>h);have u1:=v1.but (But.drew (fun _=>False) W) (fun h=>h);clear i0 i1 j0 j1 v0 v1 v2 v3;generalize W.drew=Y at*;obtain⟨y0,y1,y2,y3,m0⟩:=u0.parts;simp only[xN,xO]at y0 y1;refine ah rfl (by kernel_rfl) ?_;intro KS hKS;go_simp;have a0:But (fun k=>k=w.heap.size∨k=w.heap.size+1) W ((Y.setCell ⟨w.heap.size,0,none⟩ (.int .i32 0)).setCell ⟨w.heap.size,1,none⟩ (.int .i64 0)):=a1.trans (((But.setB Y w.heap.size 0 _).trans (But.setB _ w.heap.size 1 _)).mono (fun k _ e=>Or.inl e));have x0:cK ((Y.setCell ⟨w.heap.size,0,none⟩ (.int .i32 0)).setCell ⟨w.heap.size,1,none⟩ (.int .i64 0)) w.heap.size .z:=u0.put .z
 have x1:cK ((Y.setCell ⟨w.heap.size,0,none⟩ (.int .i32 0)).setCell ⟨w.heap.size,1,none⟩ (.int .i64 0)) (w.heap.size+1) .z:=u1.aside (v:= .z) (by omega);refine hKS.out _ _ (fun _=>a0) ?_;clear hKS KS u0 u1 y0 y1 y2 y3;revert a0 x0 x1;generalize ((Y.setCell ⟨w.heap.size,0,none⟩ (.int .i32 0)).setCell ⟨w.heap.size,1,none⟩ (.int .i64 0))=Z;intro a0 x0 x1;obtain⟨y0,y1,y2,y3,m1⟩:=x1.parts;simp only[xN,xO]at y0 y1;refine ah rfl (by kernel_rfl) ?_;intro KS hKS;go_simp;have a2:But (fun k=>k=w.heap.size∨k=w.heap.size+1) W ((Z.setCell ⟨w.heap.size+1,0,none⟩ (.int .i32 0)).setCell ⟨w.heap.size+1,1,none⟩ (.int .i64 0)):=a0.trans (((But.setB Z (w.heap.size+1) 0 _).trans (But.setB _ (w.heap.size+1) 1 _)).mono (fun k _ e=>Or.inr e))
 refine hKS.out _ _ (fun _=>a2) ?_;clear hKS KS;refine aH rfl (by kernel_rfl) ?_;go_wp2_with fail;exact oz Tryz.results141 (x0.aside (v:= .z) (by omega)) (x1.put .z) rfl rfl rfl ⟨rfl,hT.but.next a2 (fun k hk e=>by omega)⟩
theorem BH (h:FbB w fb ca d X vl vi ts pc bl sv) (ho:w.ownsRow base 168 2 sv stk.length (au stk)) (hl:1≤stk.length) (h4:stk.length≤4000):
  Calls Tryz.prog 141 #[.pointer (some ⟨fb,0,none⟩),.int .i64 1] w fun en w'=>en= .returned (.tuple #[aG (cM stk),aG .z])∧But (· =fb) w w'∧ ∃sv',FbB w' fb ca d X vl vi ts pc bl sv'∧w'.ownsRow base 168 2 sv' (cI stk).length (au (cI stk))∧sv'.ownBlock=sv.ownBlock:=by
 have b5:=hid ho;have HT:=hid (tkW (w:=w));have HK:=hid (fun(Y:World) (hY:But (fun _=>False) w Y)=>jS Y fb d pc bl base ca X vl vi ts sv stk (h.but hY (fun h=>h)) (ag ho hY (fun _ _ h=>h)) (by omega) h4);have e0:=h.lt;clear h ho
 go_in
 go_wp2_with fail;revert HT;generalize ((((w.alloc (.cells #[.int .i32 0,.int .i64 0] 168)).alloc (.cells #[.int .i32 0,.int .i64 0] 168)).alloc (.cells #[.int .i32 0,.int .i64 0] 168)).alloc (.cells #[.int .i32 0,.int .i64 0] 168))=W0;intro HT;have hT:=HT.out;have e1:=hT.sz;refine(HK.out W0 hT.but).mono ?_;rintro en w1 ⟨rfl,a0,d6,a2,a3,a7⟩;clear HK;obtain⟨tv,a8⟩: ∃tv,cM stk=tv:=⟨_,rfl⟩;rw[a8];have b9:=hid a8;clear a8;have v0:cK w1 w.heap.size .z:=cK.but hT.b0 a0 (by omega);have v1:cK w1 (w.heap.size+1) .z:=cK.but hT.b1 a0 (by omega);have b4:cK w1 (w.heap.size+1+1) .z:=cK.but hT.b2 a0 (by omega)
 have v3:cK w1 (w.heap.size+1+1+1) .z:=cK.but hT.b3 a0 (by omega);obtain⟨r0,r1,z0,z1,c6⟩:=b4.parts;simp only[xN,xO]at r0 r1;simp only[aG];go_wp2_with fail;have v2:=b4.put tv;have a1:But (fun k=>k=w.heap.size+1+1) w1 ((w1.setCell ⟨w.heap.size+1+1,0,none⟩ (.int .i32 (xN tv))).setCell ⟨w.heap.size+1+1,1,none⟩ (.int .i64 (xO tv))):=(But.setB w1 _ 0 _).trans (But.setB _ _ 1 _);have a6:But (· =fb) w ((w1.setCell ⟨w.heap.size+1+1,0,none⟩ (.int .i32 (xN tv))).setCell ⟨w.heap.size+1+1,1,none⟩ (.int .i64 (xO tv))):=((hT.but.mono (fun _ _ h=>h.elim)).trans a0).next a1 (fun k hk e=>by omega);replace v0:=v0.aside (v:=tv) (q:=w.heap.size+1+1) (by omega)
 replace v1:=v1.aside (v:=tv) (q:=w.heap.size+1+1) (by omega);replace v3:=v3.aside (v:=tv) (q:=w.heap.size+1+1) (by omega);replace a2:=a2.but a1 (by omega);replace a3:=ag a3 a1 (fun g hg e=>by have:=aX b5.out g (a7▸hg);omega);clear r0 r1 z0 z1 c6 b4 a0 hT HT;revert v2 a1 a6 v0 v1 v3 a2 a3;generalize ((w1.setCell ⟨w.heap.size+1+1,0,none⟩ (.int .i32 (xN tv))).setCell ⟨w.heap.size+1+1,1,none⟩ (.int .i64 (xO tv)))=W;intro v2 a1 a6 v0 v1 v3 a2 a3;obtain⟨i0,i1,_,_,m2⟩:=v2.parts;obtain⟨j0,j1,_,_,m3⟩:=v3.parts;simp only[xN,xO]at j0 j1;have b6:But (fun k=>k=w.heap.size∨k=w.heap.size+1) W W.drew:=But.drew _ _
 have n2: ¬(w.heap.size+1+1=w.heap.size∨w.heap.size+1+1=w.heap.size+1):=by omega
 have n3: ¬(w.heap.size+1+1+1=w.heap.size∨w.heap.size+1+1+1=w.heap.size+1):=by omega
 refine aD (But (fun k=>k=w.heap.size∨k=w.heap.size+1) W) 4 (by kernel_rfl) ?_
 iterate 2 (refine aJ (v:=?_) rfl (by kernel_rfl) (fun _ _ _ h=>h) rfl b6 ?_ ?_;rotate_left;(focus (intro wS h;have q0:=((h.cell (p:=⟨w.heap.size+1+1,0,none⟩) m2 n2).trans i0);have q1:=((h.cell (p:=⟨w.heap.size+1+1,1,none⟩) m2 n2).trans i1);have q2:=((h.cell (p:=⟨w.heap.size+1+1+1,0,none⟩) m3 n3).trans j0);have q3:=((h.cell (p:=⟨w.heap.size+1+1+1,1,none⟩) m3 n3).trans j1);clear h;go_simp;try rfl));dsimp only[Act.put];try simp only[aL])
 have u0:=v0.but (But.drew (fun _=>False) W) (fun h=>h);have u1:=v1.but (But.drew (fun _=>False) W) (fun h=>h);clear i0 i1 j0 j1 v0 v1 v2 v3;generalize W.drew=Y at*;obtain⟨y0,y1,y2,y3,m0⟩:=u0.parts;simp only[xN,xO]at y0 y1;refine ah rfl (by kernel_rfl) ?_;intro KS hKS;go_simp;have a4:But (fun k=>k=w.heap.size∨k=w.heap.size+1) W ((Y.setCell ⟨w.heap.size,0,none⟩ (.int .i32 (xN tv))).setCell ⟨w.heap.size,1,none⟩ (.int .i64 (xO tv))):=b6.trans (((But.setB Y w.heap.size 0 _).trans (But.setB _ w.heap.size 1 _)).mono (fun k _ e=>Or.inl e));have x0:cK ((Y.setCell ⟨w.heap.size,0,none⟩ (.int .i32 (xN tv))).setCell ⟨w.heap.size,1,none⟩ (.int .i64 (xO tv))) w.heap.size tv:=u0.put tv
 have x1:cK ((Y.setCell ⟨w.heap.size,0,none⟩ (.int .i32 (xN tv))).setCell ⟨w.heap.size,1,none⟩ (.int .i64 (xO tv))) (w.heap.size+1) .z:=u1.aside (v:=tv) (by omega);refine hKS.out _ _ (fun _=>a4) ?_;clear hKS KS u0 u1 y0 y1 y2 y3;revert a4 x0 x1;generalize ((Y.setCell ⟨w.heap.size,0,none⟩ (.int .i32 (xN tv))).setCell ⟨w.heap.size,1,none⟩ (.int .i64 (xO tv)))=Z;intro a4 x0 x1;obtain⟨y0,y1,y2,y3,m1⟩:=x1.parts;simp only[xN,xO]at y0 y1;refine ah rfl (by kernel_rfl) ?_;intro KS hKS;go_simp;have a5:But (fun k=>k=w.heap.size∨k=w.heap.size+1) W ((Z.setCell ⟨w.heap.size+1,0,none⟩ (.int .i32 0)).setCell ⟨w.heap.size+1,1,none⟩ (.int .i64 0)):=a4.trans (((But.setB Z (w.heap.size+1) 0 _).trans (But.setB _ (w.heap.size+1) 1 _)).mono (fun k _ e=>Or.inr e))
 refine hKS.out _ _ (fun _=>a5) ?_;clear hKS KS;refine aH rfl (by kernel_rfl) ?_;go_wp2_with fail;exact oz Tryz.results141 (x0.aside (v:= .z) (by omega)) (x1.put .z) rfl rfl rfl ⟨by rw[b9.out],a6.next a5 (fun k hk e=>by omega),d6,a2.but a5 (by omega),ag a3 a5 (fun g hg e=>by have:=aX b5.out g (a7▸hg);omega),a7⟩
theorem BI (h:FbB w fb ca d X vl vi ts pc bl sv) (ho:w.ownsRow base 168 2 sv stk.length (au stk)) (hl:2≤stk.length) (h4:stk.length≤4000):
  Calls Tryz.prog 141 #[.pointer (some ⟨fb,0,none⟩),.int .i64 2] w fun en w'=>en= .returned (.tuple #[aG (jw stk),aG (cM stk)])∧But (· =fb) w w'∧ ∃sv',FbB w' fb ca d X vl vi ts pc bl sv'∧w'.ownsRow base 168 2 sv' (fY stk).length (au (fY stk))∧sv'.ownBlock=sv.ownBlock:=by
 have b9:=hid ho;have HT:=hid (tkW (w:=w));have HK:=hid (fun(Y:World) (hY:But (fun _=>False) w Y)=>jS Y fb d pc bl base ca X vl vi ts sv stk (h.but hY (fun h=>h)) (ag ho hY (fun _ _ h=>h)) (by omega) h4);have f1:=h.lt;clear h ho
 go_in
 go_wp2_with fail;revert HT;generalize ((((w.alloc (.cells #[.int .i32 0,.int .i64 0] 168)).alloc (.cells #[.int .i32 0,.int .i64 0] 168)).alloc (.cells #[.int .i32 0,.int .i64 0] 168)).alloc (.cells #[.int .i32 0,.int .i64 0] 168))=W0;intro HT;have hT:=HT.out;have f3:=hT.sz;refine(HK.out W0 hT.but).mono ?_;rintro en w1 ⟨rfl,a2,f0,a3,a4,e6⟩;clear HK;obtain⟨tv,e3⟩: ∃tv,cM stk=tv:=⟨_,rfl⟩;rw[e3];have e8:=hid e3;clear e3;have v0:cK w1 w.heap.size .z:=cK.but hT.b0 a2 (by omega);have v1:cK w1 (w.heap.size+1) .z:=cK.but hT.b1 a2 (by omega);have a0:cK w1 (w.heap.size+1+1) .z:=cK.but hT.b2 a2 (by omega)
 have e5:cK w1 (w.heap.size+1+1+1) .z:=cK.but hT.b3 a2 (by omega);obtain⟨r0,r1,z0,z1,e2⟩:=e5.parts;simp only[xN,xO]at r0 r1;simp only[aG];have v3:=e5.put tv;have a7:But (fun k=>k=w.heap.size+1+1+1) w1 ((w1.setCell ⟨w.heap.size+1+1+1,0,none⟩ (.int .i32 (xN tv))).setCell ⟨w.heap.size+1+1+1,1,none⟩ (.int .i64 (xO tv))):=(But.setB w1 _ 0 _).trans (But.setB _ _ 1 _);have a1:But (· =fb) w ((w1.setCell ⟨w.heap.size+1+1+1,0,none⟩ (.int .i32 (xN tv))).setCell ⟨w.heap.size+1+1+1,1,none⟩ (.int .i64 (xO tv))):=((hT.but.mono (fun _ _ h=>h.elim)).trans a2).next a7 (fun k hk e=>by omega);replace v0:=v0.aside (v:=tv) (q:=w.heap.size+1+1+1) (by omega)
 replace v1:=v1.aside (v:=tv) (q:=w.heap.size+1+1+1) (by omega);replace a0:=a0.aside (v:=tv) (q:=w.heap.size+1+1+1) (by omega);replace a3:=a3.but a7 (by omega);replace a4:=ag a4 a7 (fun g hg e=>by have:=aX b9.out g (e6▸hg);omega);go_wp2_with fail;clear r0 r1 z0 z1 e2 e5 a2 hT HT;revert v3 a7 a1 v0 v1 a0 a3 a4;generalize ((w1.setCell ⟨w.heap.size+1+1+1,0,none⟩ (.int .i32 (xN tv))).setCell ⟨w.heap.size+1+1+1,1,none⟩ (.int .i64 (xO tv)))=W1;intro v3 a7 a1 v0 v1 a0 a3 a4;have f2:=xK stk;refine(jS W1 fb d pc bl base ca X vl vi ts f0 (cI stk) a3 a4 (by omega) (by omega)).mono ?_;rintro en w2 ⟨rfl,a6,sv2,b4,a5,e1⟩
 rw[uH (by omega)];rw[tg]at a5;have e0:=e1.trans e6;obtain⟨uv,e4⟩: ∃uv,jw stk=uv:=⟨_,rfl⟩;rw[e4];have e9:=hid e4;clear e4 a3 a4;replace v0:=v0.but a6 (by omega);replace v1:=v1.but a6 (by omega);replace a0:=a0.but a6 (by omega);replace v3:=v3.but a6 (by omega);have d6:=a1.trans a6;obtain⟨r0,r1,z0,z1,e2⟩:=a0.parts;simp only[xN,xO]at r0 r1;simp only[aG];have v2:=a0.put uv;have a8:But (fun k=>k=w.heap.size+1+1) w2 ((w2.setCell ⟨w.heap.size+1+1,0,none⟩ (.int .i32 (xN uv))).setCell ⟨w.heap.size+1+1,1,none⟩ (.int .i64 (xO uv))):=(But.setB w2 _ 0 _).trans (But.setB _ _ 1 _);have c6:But (· =fb) w ((w2.setCell ⟨w.heap.size+1+1,0,none⟩ (.int .i32 (xN uv))).setCell ⟨w.heap.size+1+1,1,none⟩ (.int .i64 (xO uv))):=d6.next a8 (fun k hk e=>by omega)
 replace v0:=v0.aside (v:=uv) (q:=w.heap.size+1+1) (by omega);replace v1:=v1.aside (v:=uv) (q:=w.heap.size+1+1) (by omega);replace v3:=v3.aside (v:=uv) (q:=w.heap.size+1+1) (by omega);replace b4:=b4.but a8 (by omega);replace a5:=ag a5 a8 (fun g hg e=>by have:=aX b9.out g (e0▸hg);omega);go_wp2_with fail;clear r0 r1 z0 z1 e2 a0;revert v2 a8 c6 v0 v1 v3 b4 a5;generalize ((w2.setCell ⟨w.heap.size+1+1,0,none⟩ (.int .i32 (xN uv))).setCell ⟨w.heap.size+1+1,1,none⟩ (.int .i64 (xO uv)))=W;intro v2 a8 c6 v0 v1 v3 b4 a5;obtain⟨i0,i1,_,_,m2⟩:=v2.parts;obtain⟨j0,j1,_,_,m3⟩:=v3.parts;have e7:But (fun k=>k=w.heap.size∨k=w.heap.size+1) W W.drew:=But.drew _ _
 have n2: ¬(w.heap.size+1+1=w.heap.size∨w.heap.size+1+1=w.heap.size+1):=by omega
 have n3: ¬(w.heap.size+1+1+1=w.heap.size∨w.heap.size+1+1+1=w.heap.size+1):=by omega
 refine aD (But (fun k=>k=w.heap.size∨k=w.heap.size+1) W) 4 (by kernel_rfl) ?_
 iterate 2 (refine aJ (v:=?_) rfl (by kernel_rfl) (fun _ _ _ h=>h) rfl e7 ?_ ?_;rotate_left;(focus (intro wS h;have q0:=((h.cell (p:=⟨w.heap.size+1+1,0,none⟩) m2 n2).trans i0);have q1:=((h.cell (p:=⟨w.heap.size+1+1,1,none⟩) m2 n2).trans i1);have q2:=((h.cell (p:=⟨w.heap.size+1+1+1,0,none⟩) m3 n3).trans j0);have q3:=((h.cell (p:=⟨w.heap.size+1+1+1,1,none⟩) m3 n3).trans j1);clear h;go_simp;try rfl));dsimp only[Act.put];try simp only[aL])
 have u0:=v0.but (But.drew (fun _=>False) W) (fun h=>h);have u1:=v1.but (But.drew (fun _=>False) W) (fun h=>h);clear i0 i1 j0 j1 v0 v1 v2 v3;generalize W.drew=Y at*;obtain⟨y0,y1,y2,y3,m0⟩:=u0.parts;simp only[xN,xO]at y0 y1;refine ah rfl (by kernel_rfl) ?_;intro KS hKS;go_simp;have b5:But (fun k=>k=w.heap.size∨k=w.heap.size+1) W ((Y.setCell ⟨w.heap.size,0,none⟩ (.int .i32 (xN uv))).setCell ⟨w.heap.size,1,none⟩ (.int .i64 (xO uv))):=e7.trans (((But.setB Y w.heap.size 0 _).trans (But.setB _ w.heap.size 1 _)).mono (fun k _ e=>Or.inl e));have x0:cK ((Y.setCell ⟨w.heap.size,0,none⟩ (.int .i32 (xN uv))).setCell ⟨w.heap.size,1,none⟩ (.int .i64 (xO uv))) w.heap.size uv:=u0.put uv
 have x1:cK ((Y.setCell ⟨w.heap.size,0,none⟩ (.int .i32 (xN uv))).setCell ⟨w.heap.size,1,none⟩ (.int .i64 (xO uv))) (w.heap.size+1) .z:=u1.aside (v:=uv) (by omega);refine hKS.out _ _ (fun _=>b5) ?_;clear hKS KS u0 u1 y0 y1 y2 y3;revert b5 x0 x1;generalize ((Y.setCell ⟨w.heap.size,0,none⟩ (.int .i32 (xN uv))).setCell ⟨w.heap.size,1,none⟩ (.int .i64 (xO uv)))=Z;intro b5 x0 x1;obtain⟨y0,y1,y2,y3,m1⟩:=x1.parts;simp only[xN,xO]at y0 y1;refine ah rfl (by kernel_rfl) ?_;intro KS hKS;go_simp;have b6:But (fun k=>k=w.heap.size∨k=w.heap.size+1) W ((Z.setCell ⟨w.heap.size+1,0,none⟩ (.int .i32 (xN tv))).setCell ⟨w.heap.size+1,1,none⟩ (.int .i64 (xO tv))):=b5.trans (((But.setB Z (w.heap.size+1) 0 _).trans (But.setB _ (w.heap.size+1) 1 _)).mono (fun k _ e=>Or.inr e))
 refine hKS.out _ _ (fun _=>b6) ?_;clear hKS KS;refine aH rfl (by kernel_rfl) ?_;go_wp2_with fail;exact oz Tryz.results141 (x0.aside (v:=tv) (by omega)) (x1.put tv) rfl rfl rfl ⟨by rw[e8.out,e9.out],c6.next b6 (fun k hk e=>by omega),sv2,b4.but b6 (by omega),ag a5 b6 (fun g hg e=>by have:=aX b9.out g (e0▸hg);omega),e0⟩
end
theorem nF: ¬False:=fun h=>h
section
variable (w:World) (fb d pc bl base:Nat) (ca:Option Nat) (X:bz) (vl vi ts sv:Value) (stk:List V)
theorem zE (h:FbB w fb ca d X vl vi ts pc bl sv) (hi:ItB w base vi X.items) (x:XIt) (hx:X.items[pc]?=some x) (h4:X.items.length≤100):
  Calls Tryz.prog 139 #[.pointer (some ⟨fb,0,none⟩)] w fun en w'=>en= .returned (bU x)∧But (fun _=>False) w w':=by
 obtain⟨a,cap,rfl⟩:=aw hi;have b2:pc<X.items.length:=(List.getElem?_eq_some_iff.1 hx).1;obtain⟨g,rfl,a3,b1,a0⟩:=aI hi (by omega);have q0:w.cell? ⟨g,pc*5,none⟩=some (.int .i64 x.place):=a0 _ _ (aP (k:=0) hx (by omega));have q1:w.cell? ⟨g,pc*5+1,none⟩=some (.int .u8 x.op.toNat):=a0 _ _ (aP (k:=1) hx (by omega));have q2:w.cell? ⟨g,pc*5+2,none⟩=some (.int .u8 x.cls.toNat):=a0 _ _ (aP (k:=2) hx (by omega));have q3:w.cell? ⟨g,pc*5+3,none⟩=some (.int .i64 x.num):=a0 _ _ (aP (k:=3) hx (by omega));have q4:w.cell? ⟨g,pc*5+4,none⟩=some (.slice x.pa x.pn x.pc):=a0 _ _ (aP (k:=4) hx (by omega));have b0:=h.body.2.2.2.2
 have c8:=h.c8;have a7:=h.lt;have n0: ¬((pc:Int)<0):=by omega
 have n1: ¬((X.items.length:Int)≤(pc:Int)):=by omega
 have n2:(0:Int)≤(pc:Int):=by omega
 have n3:(pc:Int)<(X.items.length:Int):=by omega
 clear h hi a0 hx;generalize X.items.length=L at*;have HA:=hid (heap_alloc_new w (.cells #[.int .i64 0,.int .u8 0,.int .u8 0,.int .i64 0,.slice none 0 0] 219));have HB:=hid (But.alloc (fun _=>False) w (.cells #[.int .i64 0,.int .u8 0,.int .u8 0,.int .i64 0,.slice none 0 0] 219))
 go_in
 go_wp2_with fail;revert HA HB;generalize (w.alloc (.cells #[.int .i64 0,.int .u8 0,.int .u8 0,.int .i64 0,.slice none 0 0] 219))=W;intro HA HB;have hA:=HA.out;have hB:=HB.out;have hz:=hB.size;have a5:fb<W.heap.size:=by omega
 have a4:g<W.heap.size:=by omega
 replace q0:=hB.kc q0 a3;replace q1:=hB.kc q1 a3;replace q2:=hB.kc q2 a3;replace q3:=hB.kc q3 a3;replace q4:=hB.kc q4 a3;replace b0:=hB.kc b0 a7;replace c8:=hB.kc c8 a7;have a2:But (fun _=>False) W W.drew:=But.drew _ _;refine aD (But (fun _=>False) W) 18 (by kernel_rfl) ?_
 iterate 18 (refine aJ (v:=?_) rfl (by kernel_rfl) (fun _ _ _ h=>h) rfl a2 ?_ ?_;rotate_left;(focus (intro wS h;have q0:=((h.cell (p:=⟨fb,8,none⟩) a5 nF).trans c8);have q1:=((h.cell (p:=⟨fb,6,none⟩) a5 nF).trans b0);clear h;go_simp;try rfl));dsimp only[Act.put];try simp only[aL])
 refine aH rfl (by kernel_rfl) ?_;clear a2;have a6:But (fun _=>False) W W.drew:=But.drew _ _;have HD:=hid a6;clear a6;go_wp2_with fail;have a2:But (fun _=>False) W W.drew.drew:=HD.out.trans (But.drew _ _);clear HD;refine aD (But (fun _=>False) W) 11 (by kernel_rfl) ?_
 iterate 11 (refine aJ (v:=?_) rfl (by kernel_rfl) (fun _ _ _ h=>h) rfl a2 ?_ ?_;rotate_left;(focus (intro wS h;have Q0:=((h.cell (p:=⟨fb,8,none⟩) a5 nF).trans c8);have Q1:=((h.cell (p:=⟨fb,6,none⟩) a5 nF).trans b0);have Q2:=((h.cell (p:=⟨g,pc*5,none⟩) a4 nF).trans q0);have Q3:=((h.cell (p:=⟨g,pc*5+1,none⟩) a4 nF).trans q1);have Q4:=((h.cell (p:=⟨g,pc*5+2,none⟩) a4 nF).trans q2);have Q5:=((h.cell (p:=⟨g,pc*5+3,none⟩) a4 nF).trans q3);have Q6:=((h.cell (p:=⟨g,pc*5+4,none⟩) a4 nF).trans q4);clear h;go_simp;try rfl));dsimp only[Act.put];try simp only[aL])
 have a1:=(a2.block w.heap.size (ae hA) nF).trans hA;clear q0 q1 q2 q3 q4 b0 c8;generalize W.drew.drew=Y at*;have a8:=ae a1;have y0:=ce0 a1;have y1:=ce1 a1;have y2:=ce2 a1;have y3:=ce3 a1;have y4:=ce4 a1;have z0:=frozen_of_row Y w.heap.size 0 _ _ a1;have z1:=frozen_of_row Y w.heap.size 1 _ _ a1;have z2:=frozen_of_row Y w.heap.size 2 _ _ a1;have z3:=frozen_of_row Y w.heap.size 3 _ _ a1;have z4:=frozen_of_row Y w.heap.size 4 _ _ a1;refine ah rfl (by kernel_rfl) ?_;intro KS hKS;go_simp;refine hKS.out _ _ nofun ?_;clear hKS KS;refine aH rfl (by kernel_rfl) ?_;clear y0 y1 y2 y3 y4 z0 z1 z2 z3 z4;go_wp2_with fail
 have hP:But (· =w.heap.size) Y (((((Y.setCell ⟨w.heap.size,0,none⟩ (.int .i64 x.place)).setCell ⟨w.heap.size,1,none⟩ (.int .u8 x.op.toNat)).setCell ⟨w.heap.size,2,none⟩ (.int .u8 x.cls.toNat)).setCell ⟨w.heap.size,3,none⟩ (.int .i64 x.num)).setCell ⟨w.heap.size,4,none⟩ (.slice x.pa x.pn x.pc)):=
  ((((But.setB _ _ _ _).trans (But.setB _ _ _ _)).trans (But.setB _ _ _ _)).trans (But.setB _ _ _ _)).trans (But.setB _ _ _ _)
 exact Cy Tryz.results139 rfl rfl (heap_setCell_same _ _ 4 _ _ _ (heap_setCell_same _ _ 3 _ _ _ (heap_setCell_same _ _ 2 _ _ _ (heap_setCell_same _ _ 1 _ _ _ (heap_setCell_same _ _ 0 _ _ _ a1))))) ⟨rfl,(hB.trans a2).next hP (fun k hk e=>by omega)⟩
theorem BJ (h:FbB w fb ca d X vl vi ts pc bl sv) (n:Nat) (o:Int):
  Calls Tryz.prog 144 #[.pointer (some ⟨fb,0,none⟩),.int .i64 n,.agg #[.int .i32 0,.int .i64 o]] w fun en w'=>en= .returned (.tuple #[])∧But (· =fb) w w'∧FbB w' fb ca d X vl vi ts n bl sv:=by
 have c8:=h.c8;have z8:=h.fz 8;have a1:=h.lt;have HH:=hid h;clear h;have a0:fb<w.heap.size+1:=by omega
 go_in
 go_wp2_with fail;go_end0;exact⟨rfl,((But.setB _ _ _ _).trans (But.alloc _ _ _)),(HH.out.set8 n).but (But.alloc (fun _=>False) _ _) nF⟩
theorem BK (h:FbB w fb ca d X vl vi ts pc bl sv) (hp:pc≤1000) (n:Nat) (c o:Int) (hc:c≠0):
  Calls Tryz.prog 144 #[.pointer (some ⟨fb,0,none⟩),.int .i64 n,.agg #[.int .i32 c,.int .i64 o]] w fun en w'=>en= .returned (.tuple #[])∧But (· =fb) w w'∧FbB w' fb ca d X vl vi ts (pc+1) bl sv:=by
 have c8:=h.c8;have z8:=h.fz 8;have a1:=h.lt;have HH:=hid h;have a2:=dE ((pc:Int)+1) (by omega) (by omega);clear h;have a0:fb<w.heap.size+1:=by omega
 go_in
 go_wp2_with fail;go_end0;exact⟨rfl,((But.setB _ _ _ _).trans (But.alloc _ _ _)),(HH.out.set8 (pc+1)).but (But.alloc (fun _=>False) _ _) nF⟩
end
def MbB (w:World) (mb tx:Nat) (tv:Value) (bw cells:Nat) (cur:Option Nat) (ans:Int):Prop:=
 w.heap[mb]?=some (.cells #[.pointer (some ⟨tx,0,none⟩),tv,.pointer (some ⟨bw,0,none⟩),.int .i64 cells,iG cur,.int .i32 ans] 157)
section
variable {w:World} {mb tx bw cells:Nat} {tv:Value} {cur:Option Nat} {ans:Int}
theorem MbB.lt (h:MbB w mb tx tv bw cells cur ans):mb<w.heap.size:=ae h
theorem MbB.c0 (h:MbB w mb tx tv bw cells cur ans):w.cell? ⟨mb,0,none⟩=some (.pointer (some ⟨tx,0,none⟩)):=ce0 h
theorem MbB.c1 (h:MbB w mb tx tv bw cells cur ans):w.cell? ⟨mb,1,none⟩=some tv:=ce1 h
theorem MbB.c2 (h:MbB w mb tx tv bw cells cur ans):w.cell? ⟨mb,2,none⟩=some (.pointer (some ⟨bw,0,none⟩)):=ce2 h
theorem MbB.c3 (h:MbB w mb tx tv bw cells cur ans):w.cell? ⟨mb,3,none⟩=some (.int .i64 cells):=ce3 h
theorem MbB.c4 (h:MbB w mb tx tv bw cells cur ans):w.cell? ⟨mb,4,none⟩=some (iG cur):=ce4 h
theorem MbB.c5 (h:MbB w mb tx tv bw cells cur ans):w.cell? ⟨mb,5,none⟩=some (.int .i32 ans):=ce5 h
theorem MbB.fz (h:MbB w mb tx tv bw cells cur ans) (j:Nat):w.frozen? ⟨mb,j,none⟩=false:=frozen_of_row w mb j _ _ h
theorem MbB.but {F:Nat→Prop} {w':World} (h:MbB w mb tx tv bw cells cur ans) (hb:But F w w') (hf: ¬F mb):MbB w' mb tx tv bw cells cur ans:=(hb.block mb h.lt hf).trans h
theorem MbB.set4 (h:MbB w mb tx tv bw cells cur ans) (o:Option Nat):MbB (w.setCell ⟨mb,4,none⟩ (iG o)) mb tx tv bw cells o ans:=heap_setCell_same w mb 4 _ _ _ h
theorem MbB.set5 (h:MbB w mb tx tv bw cells cur ans) (n:Int):MbB (w.setCell ⟨mb,5,none⟩ (.int .i32 n)) mb tx tv bw cells cur n:=heap_setCell_same w mb 5 _ _ _ h
theorem MbB.off {fb d pc bl:Nat} {ca:Option Nat} {X:bz} {vl vi ts sv:Value} (h:MbB w mb tx tv bw cells cur ans) (hf:FbB w fb ca d X vl vi ts pc bl sv):mb≠fb:=bv h hf (by decide)
end
section
variable (w:World) (mb tx bw cells fb d pc bl:Nat) (tv:Value) (ans:Int) (X:bz) (vl vi ts sv:Value)
/--The main body ends. -/
theorem zF (h:MbB w mb tx tv bw cells (some fb) ans) (hf:FbB w fb none d X vl vi ts pc bl sv) (n o:Int):
  Calls Tryz.prog 143 #[.pointer (some ⟨mb,0,none⟩),.agg #[.int .i32 n,.int .i64 o]] w fun en w'=>en= .returned (.tuple #[])∧But (· =mb) w w'∧MbB w' mb tx tv bw cells none n:=by
 have hA:=But.alloc (fun _=>False) w (.cells #[.int .i32 n,.int .i64 o] 168);have c4:w.cell? ⟨mb,4,none⟩=some (.pointer (some ⟨fb,0,none⟩)):=h.c4;have f0:w.cell? ⟨fb,0,none⟩=some (.pointer none):=hf.c0;have c5:=h.c5;have z4:=h.fz 4;have z5:=h.fz 5;have a3:=h.lt;have a1:=hf.lt;have HH:=hid h;have a2:mb<w.heap.size+1:=by omega
 have a0:fb<w.heap.size+1:=by omega
 have a4: ¬w.heap.size=mb:=by omega
 clear h hf hA
 go_in
 go_wp2_with fail;exact tI Tryz.results143 rfl ⟨rfl,((But.setB _ _ _ _).trans (But.setB _ _ _ _)).trans (But.alloc _ _ _),((HH.out.set4 none).set5 n).but (But.alloc (fun _=>False) _ _) nF⟩
theorem dU (l:List V) (u:V):au (l++ [u])=au l++ [.int .i32 (xN u),.int .i64 (xO u)]:=by simp[au,io]
variable (cb d2 p2 bl2 base:Nat) (c2:Option Nat) (X2:bz) (vl2 vi2 ts2 sv2:Value) (stk:List V)
/--Another body than the main one ends. -/
theorem BL (h:MbB w mb tx tv bw cells (some fb) ans) (hf:FbB w fb (some cb) d X vl vi ts pc bl sv) (hc:FbB w cb c2 d2 X2 vl2 vi2 ts2 p2 bl2 sv2) (ho:w.ownsRow base 168 2 sv2 stk.length (au stk)) (h4:stk.length≤4000) (hp:p2≤1000) (hbase:base≤w.heap.size) (u:V):
  Calls Tryz.prog 143 #[.pointer (some ⟨mb,0,none⟩),aG u] w fun en w'=>en= .returned (.tuple #[])∧But (fun k=>k=mb∨k=cb∨sv2.ownBlock=some k) w w'∧MbB w' mb tx tv bw cells (some cb) ans∧
   ∃sv',FbB w' cb c2 d2 X2 vl2 vi2 ts2 (p2+1) bl2 sv'∧w'.ownsRow base 168 2 sv' (stk++ [u]).length (au (stk++ [u]))∧(sv'.ownBlock=sv2.ownBlock∨ ∃k,sv'.ownBlock=some k∧w.heap.size≤k):=by
 obtain⟨i0,f1,f3,f4,f5⟩:=info_parts gE;obtain⟨a2,a0,rfl⟩:=aw ho;have e4:w.cell? ⟨mb,4,none⟩=some (.pointer (some ⟨fb,0,none⟩)):=h.c4;have f0:w.cell? ⟨fb,0,none⟩=some (.pointer (some ⟨cb,0,none⟩)):=hf.c0;have z4:=h.fz 4;have g0:=h.lt;have f8:=hf.lt;have f9:mb<w.heap.size+1:=by omega
 have f7:fb<w.heap.size+1:=by omega
 have HM:=hid (h.set4 (some cb));have HC:=hid (hc.but (But.setB w mb 4 (iG (some cb))) (h.off hc).symm);have HO:=hid (ag ho (But.setB w mb 4 (iG (some cb))) (fun g hg e=>aC ho h (by decide) (e▸hg)));have HF:=hid ho;have e1: ∀k,(Value.slice a2 stk.length a0).ownBlock=some k→k≠mb∧k≠cb:=fun k hk=>⟨fun e=>aC ho h (by decide) (e▸hk),fun e=>aC ho hc (by decide) (e▸hk)⟩
 have e5:=h.off hc;have hcl:=hc.lt;clear h hf hc ho;simp only[aG]
 go_in
 go_wp2_with fail;have b3:=HM.out.but (But.alloc (fun _=>False) _ (.cells #[.int .i32 (xN u),.int .i64 (xO u)] 168)) nF;have a6:=HC.out.but (But.alloc (fun _=>False) _ (.cells #[.int .i32 (xN u),.int .i64 (xO u)] 168)) nF;have b5:=ag HO.out (But.alloc (fun _=>False) _ (.cells #[.int .i32 (xN u),.int .i64 (xO u)] 168)) (fun _ _=>nF);have b1:But (fun k=>k=mb) w ((w.setCell ⟨mb,4,none⟩ (iG (some cb))).alloc (.cells #[.int .i32 (xN u),.int .i64 (xO u)] 168)):=(But.setB _ _ _ _).trans (But.alloc _ _ _);have b6:cK ((w.setCell ⟨mb,4,none⟩ (iG (some cb))).alloc (.cells #[.int .i32 (xN u),.int .i64 (xO u)] 168)) w.heap.size u:=aq (by simp[bV]) _
 clear HM HC HO e4 f0 z4;revert b3 a6 b5 b1 b6;simp only[iG,Option.map_some];generalize ((w.setCell ⟨mb,4,none⟩ (.pointer (some ⟨cb,0,none⟩))).alloc (.cells #[.int .i32 (xN u),.int .i64 (xO u)] 168))=W;intro b3 a6 b5 b1 b6;have b9:=a6.c10;have e3:=a6.fz 10;have b0:=a6.lt;obtain⟨v0,v1,_,_,e6⟩:=b6.parts;have ac:(Value.slice a2 stk.length a0).ownBlock≠some cb:=fun h=>(e1 _ h).2 rfl
 have av:(Value.slice a2 stk.length a0).ownBlock≠some w.heap.size:=fun h=>by have:=aX HF.out _ h;omega
 have am:(Value.slice a2 stk.length a0).ownBlock≠some mb:=fun h=>(e1 _ h).1 rfl
 have e7:But (fun k=>(Value.slice a2 stk.length a0).ownBlock=some k) W W.drew:=But.drew _ _;have f6:base≤W.heap.size:=by have:=b1.size;omega
 refine aD (But (fun k=>(Value.slice a2 stk.length a0).ownBlock=some k) W) 8 (by kernel_rfl) ?_
 iterate 6 (refine aJ (v:=?_) rfl (by kernel_rfl) (fun _ _ _ h=>h) rfl e7 ?_ ?_;rotate_left;(focus (intro wS h;have q0:=((h.cell (p:=⟨cb,10,none⟩) b0 ac).trans b9);have q1:=((h.cell (p:=⟨w.heap.size,0,none⟩) e6 av).trans v0);have q2:=((h.cell (p:=⟨w.heap.size,1,none⟩) e6 av).trans v1);clear h;go_simp;try rfl));dsimp only[Act.put];try simp only[aL])
 refine ah rfl (by kernel_rfl) ?_;intro KS hKS;go_simp;refine hKS.out _ _ (fun _=>(But.alloc _ _ _).trans (But.drew _ _)) ?_;clear hKS KS;refine ah rfl (by kernel_rfl) ?_;intro KS hKS
 refine step_append_lies _ (by rfl) _ _ _ (by rfl) base 168 i0 _ 2 16 (by kernel_rfl) f1 f3 f4 f5 rfl (by omega) _ stk.length (au stk) (by rfl) ((b5.alloc _).drew)
    ⟨W.heap.size,0,none⟩ 1 1 [.int .i32 (xN u),.int .i64 (xO u)] (by rfl) (by rfl) (World.news_of_block (cs:=#[.int .i32 (xN u),.int .i64 (xO u)]) (t:=168) (fr:=(0,0)) (heap_alloc_new W _)) (by simp[Value.oneCell'])
    (by omega) (by unfold maxLen;omega) (by omega) (by simp;omega) (W.heap.size+1) (by simp) ?_
 intro gg a1 w4 a3 a4 e8 f2;have a8:But (fun k=>(Value.slice a2 stk.length a0).ownBlock=some k) W w4:=((But.alloc _ _ _).trans (But.drew _ _)).trans (bc a4);refine hKS.out _ _ (fun _=>a8) ?_;clear hKS KS;have y0:=(a8.cell (p:=⟨cb,10,none⟩) b0 ac).trans b9;have y1:=(a8.frozen (p:=⟨cb,10,none⟩) b0 ac).trans e3;refine ah rfl (by kernel_rfl) ?_;intro KS hKS;go_simp;refine hKS.out _ _ nofun ?_;clear hKS KS;refine ah rfl (by kernel_rfl) ?_;intro KS hKS;go_simp;refine hKS.out _ _ nofun ?_;clear hKS KS;refine ah rfl (by kernel_rfl) ?_;intro KS hKS;go_simp;refine hKS.out _ _ nofun ?_;clear hKS KS;refine aH rfl (by kernel_rfl) ?_
 have a7:=a6.but a8 ac;have b2:=b3.but a8 am;have a5:=a7.set10 (.slice (some ⟨gg,0,none⟩) (stk.length+1) a1);have d6:=b2.but (But.setB w4 cb 10 (.slice (some ⟨gg,0,none⟩) (stk.length+1) a1)) e5;have b4:=ag a3 (But.setB w4 cb 10 (.slice (some ⟨gg,0,none⟩) (stk.length+1) a1)) (fun g hg e=>aC a3 a7 (by decide) (e▸hg));have c6:But (fun k=>k=mb∨k=cb∨(Value.slice a2 stk.length a0).ownBlock=some k) w (w4.setCell ⟨cb,10,none⟩ (.slice (some ⟨gg,0,none⟩) (stk.length+1) a1)):=((b1.mono (fun _ _ h=>Or.inl h)).trans (a8.mono (fun _ _ h=>Or.inr (Or.inr h)))).trans ((But.setB _ _ _ _).mono (fun _ _ h=>Or.inr (Or.inl h)))
 clear y0 y1 a3 a4 a8 a7 b2 b3 a6 b5 b9 e3 v0 v1 b6;have g2:=b1.size;revert a5 d6 b4 c6;generalize (w4.setCell ⟨cb,10,none⟩ (.slice (some ⟨gg,0,none⟩) (stk.length+1) a1))=W3;intro a5 d6 b4 c6;have c8:=a5.c8;have z8:=a5.fz 8;have e0:=hid a5;have e2:=hid b4;have g1:=dE ((p2:Int)+1) (by omega) (by omega);have e9:=a5.lt;clear a5 b4;go_wp2_with fail;go_end0;refine⟨rfl,c6.trans ((But.setB _ _ _ _).mono (fun _ _ h=>Or.inr (Or.inl h))),d6.but (But.setB _ _ _ _) e5,.slice (some ⟨gg,0,none⟩) (stk.length+1) a1,e0.out.set8 (p2+1),?_,?_⟩
 ·rw[dU,List.length_append];exact ag e2.out (But.setB _ _ _ _) (fun g hg e=>aC e2.out e0.out (by decide) (e▸hg))
 ·rcases e8 with h|h
  ·exact Or.inl h.symm
  ·exact Or.inr ⟨gg,rfl,by omega⟩
end
end
end Go.Proofs.YtpfkkmacakjmbaaGreatDoor
