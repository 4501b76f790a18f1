import Derived.Test.YtpfkkmacakjmbaaGreatDoorP27
import Derived.Test.YtpfkkmacakjmbaaGreatDoorP16
import Derived.Test.YtpfkkmacakjmbaaGreatDoorP25
set_option maxRecDepth 100000
set_option maxHeartbeats 6400000
set_option linter.all false
namespace Go.Proofs.YtpfkkmacakjmbaaGreatDoor
open Proofs.Tryz
section
open Go Go.RowKit Sp
attribute [local go_sem ↓] dG dH
def sO (o:Option Nat):Value:= .pointer (o.map λb=>⟨b,0,none⟩)
def FbB (w:World) (fb:Nat) (ca:Option Nat) (d:Nat) (X:bM) (vl vi ts:Value) (pc bl:Nat) (sv:Value):Prop:=
 w.heap[fb]?=some (.cells #[sO ca,.int .i64 d,.int .u8 X.cls.toNat,.int .i64 X.meth,.int .u8 X.ans.toNat,vl,vi,ts,.int .i64 pc,.pointer (some ⟨bl,0,none⟩),sv] 215)
section
variable {w:World} {fb d pc bl:Nat} {ca:Option Nat} {X:bM} {vl vi ts sv:Value}
theorem FbB.lt (h:FbB w fb ca d X vl vi ts pc bl sv):fb<w.heap.size:=ae h
theorem FbB.c0 (h:FbB w fb ca d X vl vi ts pc bl sv):w.cell? ⟨fb,0,none⟩=some (sO ca):=ce0 h
theorem FbB.body (h:FbB w fb ca d X vl vi ts pc bl sv):w.cell? ⟨fb,2,none⟩=some (.int .u8 X.cls.toNat)/\w.cell? ⟨fb,3,none⟩=some (.int .i64 X.meth)/\w.cell? ⟨fb,4,none⟩=some (.int .u8 X.ans.toNat)/\w.cell? ⟨fb,5,none⟩=some vl/\w.cell? ⟨fb,6,none⟩=some vi:=
 ⟨by rw[aX w fb 2 _ _ (0,0) h];rfl,by rw[aX w fb 3 _ _ (0,0) h];rfl,by rw[aX w fb 4 _ _ (0,0) h];rfl,by rw[aX w fb 5 _ _ (0,0) h];rfl,by rw[aX w fb 6 _ _ (0,0) h];rfl⟩
theorem FbB.c8 (h:FbB w fb ca d X vl vi ts pc bl sv):w.cell? ⟨fb,8,none⟩=some (.int .i64 pc):=ce8 h
theorem FbB.c10 (h:FbB w fb ca d X vl vi ts pc bl sv):w.cell? ⟨fb,10,none⟩=some sv:=D3 h
theorem FbB.fz (h:FbB w fb ca d X vl vi ts pc bl sv) (j:Nat):w.frozen? ⟨fb,j,none⟩=false:=b7 w fb j _ _ h
theorem FbB.but {F:Nat->Prop} {w':World} (h:FbB w fb ca d X vl vi ts pc bl sv) (hb:But F w w') (hf: ¬F fb):FbB w' fb ca d X vl vi ts pc bl sv:=(hb.block fb h.lt hf).trans h
theorem FbB.set8 (h:FbB w fb ca d X vl vi ts pc bl sv) (n:Nat):FbB (w.setCell ⟨fb,8,none⟩ (.int .i64 n)) fb ca d X vl vi ts n bl sv:=bG w fb 8 _ _ _ h
theorem FbB.set10 (h:FbB w fb ca d X vl vi ts pc bl sv) (v:Value):FbB (w.setCell ⟨fb,10,none⟩ v) fb ca d X vl vi ts pc bl v:=bG w fb 10 _ _ _ h
end
theorem wJ {w:World} {base:Nat} {a:Option Addr} {cap:Nat} {zx:List V} (h:w.ownsRow base 168 2 (.slice a zx.length cap) zx.length (aJ zx)) (hl:1<=zx.length):w.ownsRow base 168 2 (.slice a (zx.length-1) cap) (bB zx).length (aJ (bB zx)):=by
 have e:(bB zx).length=zx.length-1:=by simp[bB]
 rw[e];obtain⟨h1,h2⟩:=h;obtain⟨h0,hx⟩ | ⟨g',cap',cur,hv,hg,hh,hn,a1,a2,a0⟩:=h2
 .injection h0 with _ h0;omega
 .injection hv with e1 e2 e3;subst e1 e3;refine⟨by rw[eD,e],.inr ⟨g',cap,cur,rfl,hg,hh,by omega,a1,a2,?_⟩⟩
  have e5:aJ zx=aJ (bB zx)++ku (bE zx):=by
   have:=congrArg aJ (rf hl);rw[<-this];simp[aJ]
  have e4:aJ (bB zx)=(aJ zx).take ((zx.length-1)*2):=by
   rw[e5,List.take_left' ((eD (bB zx)).trans (by rw[e]))]
  rw[e4,<-a0,List.take_take,Nat.min_eq_left (Nat.mul_le_mul_right _ (by omega))]
theorem lq (w:World) (fb d pc bl base:Nat) (ca:Option Nat) (X:bM) (vl vi ts sv:Value) (zx:List V) (h:FbB w fb ca d X vl vi ts pc bl sv) (ho:w.ownsRow base 168 2 sv zx.length (aJ zx)) (hl:1<=zx.length) (h4:zx.length<=4000):
  Calls prog 192 #[.pointer (some ⟨fb,0,none⟩)] w λen w'=>en= .returned (bW (bE zx))/\But (· =fb) w w'/\ ∃sv',FbB w' fb ca d X vl vi ts pc bl sv'/\w'.ownsRow base 168 2 sv' (bB zx).length (aJ (bB zx))/\sv'.ownBlock=sv.ownBlock:=by
 obtain⟨a,cap,rfl⟩:=aw ho;have a3:=wJ ho hl;obtain⟨g,rfl,b1,b2,a0⟩:=aF ho (by omega)
 have ht:zx[zx.length-1]?=some (bE zx):=by
  unfold bE;rw[co,aH (show zx.length-1<zx.length by omega),Option.getD_some]
 have q0:w.cell? ⟨g,(zx.length-1)*2,none⟩=some (.int .i32 (xN (bE zx))):=a0 _ _ (fa (k:=0) ht (by omega));have q1:w.cell? ⟨g,(zx.length-1)*2+1,none⟩=some (.int .i64 (xO (bE zx))):=a0 _ _ (fa (k:=1) ht (by omega))
 have a1:zx.length<=cap:=by
  obtain⟨h0,_⟩ | ⟨g',cap',cur,hv,_,_,hn,_⟩:=ho.2
  .cases h0
  .injection hv with _ _ e3;omega
 obtain⟨n,hn⟩: ∃n,zx.length=n+1:=⟨zx.length-1,by omega⟩;have a5: ¬fb=g:=λe=>aL ho h (by decide) (by rw[e];rfl)
 have a2: ¬g=fb:=λe=>a5 e.symm
 have c10:=h.c10;have c7:=h.fz 10;have b0:=h.lt;have HH:=hid h;have HO:=hid a3;rw[hn]at q0 q1 c10 a1;rw[hn]at HO;simp only[Nat.add_sub_cancel]at q0 q1 HO;have b4: ¬((n:Int)<0):=by omega
 have b9:=er (n:Int) (by omega) (by omega);have b6:(n:Int)<(n:Int)+1:=by omega
 have b5:(n:Int)<=(cap:Int):=by omega
 have b3:g<w.heap.size+1:=by omega
 have a7:fb<w.heap.size+1:=by omega
 have a8:fb<w.heap.size+1+1:=by omega
 clear h a3 ho a0 ht hl h4;generalize a6:bE zx=u at*;generalize a4:bB zx=ls at*;rw[hn];clear a6 a4 hn
 go_in
 go_wp2_with fail;have hS:But (· =fb) w (w.setCell ⟨fb,10,none⟩ (.slice (some ⟨g,0,none⟩) n cap)):=au _ _ _ _;have hA:B_ (w.setCell ⟨fb,10,none⟩ (.slice (some ⟨g,0,none⟩) n cap)) (((w.setCell ⟨fb,10,none⟩ (.slice (some ⟨g,0,none⟩) n cap)).alloc (.cells #[.int .i32 (xN u),.int .i64 (xO u)] 168)).alloc (.cells #[.int .i32 (xN u),.int .i64 (xO u)] 168)):=(ag _ _ _).trans (ag _ _ _);exact C0 results192 rfl rfl (((ag (λ_=>False) _ _).block _ (by simp[bI]) (λh=>h)).trans (aB (by simp[bI]) _)) ⟨rfl,hS.trans (hA.mono (λ_ _ h=>h.elim)),_,(HH.out.set10 _).but hA (λh=>h),aj (aj HO.out hS (λk hk e=>a2 (by simp only[Value.ownBlock,Option.some.injEq]at hk;rw[hk];exact e))) hA (λ_ _ h=>h),rfl⟩
theorem Er {fn:Func} {Rr:Ending->World->Prop} {a:Act} {w:World} {c f r q:Nat} {K N K' N':Int} (hf:fn.results=#[.cell c 168,.cell f 168]) (hd:a.defers=[]) (hc:a.tmps.getD c undef= .pointer (some ⟨r,0,none⟩)) (he:a.tmps.getD f undef= .pointer (some ⟨q,0,none⟩))
  (h0:w.heap[r]?=some (.cells #[.int .i32 K,.int .i64 N] 168)) (h1:w.heap[q]?=some (.cells #[.int .i32 K',.int .i64 N'] 168)) (hR:Rr (.returned (.tuple #[.agg #[.int .i32 K,.int .i64 N],.agg #[.int .i32 K',.int .i64 N']])) w):bodyPost prog fn Rr .ret a w:=by
 have r0:=ce0 h0;have r1:=ce1 h0;have r2:=ce0 h1;have r3:=ce1 h1;refine cW (v:= .tuple #[.agg #[.int .i32 K,.int .i64 N],.agg #[.int .i32 K',.int .i64 N']]) ?_ hd hR;have a0:a.tmps[c]?.getD undef= .pointer (some ⟨r,0,none⟩):=by simpa using hc
 have a1:a.tmps[f]?.getD undef= .pointer (some ⟨q,0,none⟩):=by simpa using he
 simp[results,hf,a0,a1,go_sem,r0,r1,r2,r3]
theorem zv (s:List V):(bB s).length=s.length-1:=by simp[bB]
theorem wK {s:List V} (h:2<=s.length):bE (bB s)=fk s:=by
 unfold bE fk bB;rw[List.length_take,Nat.min_eq_left (by omega),co,List.getElem?_take,if_pos (by omega),co,show s.length-1-1=s.length-2 from by omega]
theorem uZ (s:List V):bB (bB s)=dC s:=by
 unfold bB dC;rw[List.length_take,List.take_take]
 congr 1
 omega
structure TkW (w W:World):Prop where
 but:B_ w W
 b0:W.heap[w.heap.size]?=some (.cells #[.int .i32 0,.int .i64 0] 168)
 b1:W.heap[w.heap.size+1]?=some (.cells #[.int .i32 0,.int .i64 0] 168)
 b2:W.heap[w.heap.size+1+1]?=some (.cells #[.int .i32 0,.int .i64 0] 168)
 b3:W.heap[w.heap.size+1+1+1]?=some (.cells #[.int .i32 0,.int .i64 0] 168)
 sz:W.heap.size=w.heap.size+1+1+1+1
theorem tkW {w:World}:TkW w ((((w.alloc (.cells #[.int .i32 0,.int .i64 0] 168)).alloc (.cells #[.int .i32 0,.int .i64 0] 168)).alloc (.cells #[.int .i32 0,.int .i64 0] 168)).alloc (.cells #[.int .i32 0,.int .i64 0] 168)):=by
 refine⟨(((ag _ _ _).trans (ag _ _ _)).trans (ag _ _ _)).trans (ag _ _ _),?_,?_,?_,aB (by simp) _,by simp⟩
 .exact((((ag (λ_=>False) _ _).trans (ag _ _ _)).trans (ag _ _ _)).block _ (by simp) (λh=>h)).trans (aO w _)
 .exact(((ag (λ_=>False) _ _).trans (ag _ _ _)).block _ (by simp) (λh=>h)).trans (aB (by simp) _)
 .exact((ag (λ_=>False) _ _).block _ (by simp) (λh=>h)).trans (aB (by simp) _)
def d8 (w:World) (r:Nat) (u:V):Prop:=w.heap[r]?=some (.cells #[.int .i32 (xN u),.int .i64 (xO u)] 168)
theorem d8.but {F:Nat->Prop} {w w':World} {r:Nat} {u:V} (h:d8 w r u) (hb:But F w w') (hf: ¬F r):d8 w' r u:=(hb.block r (ae h) hf).trans h
theorem d8.parts {w:World} {r:Nat} {u:V} (h:d8 w r u):w.cell? ⟨r,0,none⟩=some (.int .i32 (xN u))/\w.cell? ⟨r,1,none⟩=some (.int .i64 (xO u))/\w.frozen? ⟨r,0,none⟩=false/\w.frozen? ⟨r,1,none⟩=false/\r<w.heap.size:=
 ⟨by rw[aX w r 0 _ _ (0,0) h];rfl,by rw[aX w r 1 _ _ (0,0) h];rfl,b7 w r 0 _ _ h,b7 w r 1 _ _ h,ae h⟩
theorem d8.put {w:World} {r:Nat} {u:V} (h:d8 w r u) (v:V):d8 ((w.setCell ⟨r,0,none⟩ (.int .i32 (xN v))).setCell ⟨r,1,none⟩ (.int .i64 (xO v))) r v:=bG _ r 1 _ _ _ (bG _ r 0 _ _ _ h)
theorem d8.aside {w:World} {r q:Nat} {u v:V} (h:d8 w r u) (hne: ¬r=q):d8 ((w.setCell ⟨q,0,none⟩ (.int .i32 (xN v))).setCell ⟨q,1,none⟩ (.int .i64 (xO v))) r u:=h.but ((au w q 0 _).trans (au _ q 1 _)) hne
section
variable (w:World) (fb d pc bl base:Nat) (ca:Option Nat) (X:bM) (vl vi ts sv:Value) (zx:List V)
theorem qf {a:Act} {W:World} {u v:V} {k:Nat} {Rr:Ending->World->Prop} {fn:Func} (hf:fn.results=#[.cell 4 168,.cell 5 168]) (h0:d8 W k u) (h1:d8 W (k+1) v) (hd:a.defers=[]) (h4:a.tmps.getD 4 undef= .pointer (some ⟨k,0,none⟩)) (h5:a.tmps.getD 5 undef= .pointer (some ⟨k+1,0,none⟩)) (hR:Rr (.returned (.tuple #[bW u,bW v])) W):bodyPost prog fn Rr .ret a W:=
 Er hf hd h4 h5 h0 h1 hR
theorem DG:Calls prog 141 #[.pointer (some ⟨fb,0,none⟩),.int .i64 0] w λen w'=>en= .returned (.tuple #[bW .z,bW .z])/\B_ w w':=by
 have HT:=hid (tkW (w:=w))
 go_in
 go_wp2_with fail;revert HT;generalize ((((w.alloc (.cells #[.int .i32 0,.int .i64 0] 168)).alloc (.cells #[.int .i32 0,.int .i64 0] 168)).alloc (.cells #[.int .i32 0,.int .i64 0] 168)).alloc (.cells #[.int .i32 0,.int .i64 0] 168))=W;intro HT;have hT:=HT.out;have v0:d8 W w.heap.size .z:=hT.b0;have v1:d8 W (w.heap.size+1) .z:=hT.b1;have v2:d8 W (w.heap.size+1+1) .z:=hT.b2;have v3:d8 W (w.heap.size+1+1+1) .z:=hT.b3;obtain⟨i0,i1,_,_,m2⟩:=v2.parts;obtain⟨j0,j1,_,_,m3⟩:=v3.parts;simp only[xN,xO]at i0 i1 j0 j1;have a3:=hT.sz;have a1:But (λk=>k=w.heap.size\/k=w.heap.size+1) W W.drew:=aD _ _;have n2: ¬(w.heap.size+1+1=w.heap.size\/w.heap.size+1+1=w.heap.size+1):=by omega
 have n3: ¬(w.heap.size+1+1+1=w.heap.size\/w.heap.size+1+1+1=w.heap.size+1):=by omega
 refine aI (But (λk=>k=w.heap.size\/k=w.heap.size+1) W) 4 ?_
 iterate 2 (refine aQ (v:=?_) rfl a1 ?_ ?_;rotate_left;(focus (intro wS h;have q0:=((h.cell (p:=⟨w.heap.size+1+1,0,none⟩) m2 n2).trans i0);have q1:=((h.cell (p:=⟨w.heap.size+1+1,1,none⟩) m2 n2).trans i1);have q2:=((h.cell (p:=⟨w.heap.size+1+1+1,0,none⟩) m3 n3).trans j0);have q3:=((h.cell (p:=⟨w.heap.size+1+1+1,1,none⟩) m3 n3).trans j1);clear h;go_simp;try rfl));dsimp only[Act.put];try simp only[cH])
 have u0:=v0.but (aD (λ_=>False) W) (λh=>h);have u1:=v1.but (aD (λ_=>False) W) (λh=>h);clear i0 i1 j0 j1 v0 v1 v2 v3;generalize W.drew=Y at*;obtain⟨y0,y1,y2,y3,m0⟩:=u0.parts;simp only[xN,xO]at y0 y1;refine az rfl ?_;intro KS hKS;go_simp;have a0:But (λk=>k=w.heap.size\/k=w.heap.size+1) W ((Y.setCell ⟨w.heap.size,0,none⟩ (.int .i32 0)).setCell ⟨w.heap.size,1,none⟩ (.int .i64 0)):=a1.trans (((au Y w.heap.size 0 _).trans (au _ w.heap.size 1 _)).mono (λk _ e=>Or.inl e));have x0:d8 ((Y.setCell ⟨w.heap.size,0,none⟩ (.int .i32 0)).setCell ⟨w.heap.size,1,none⟩ (.int .i64 0)) w.heap.size .z:=u0.put .z
 have x1:d8 ((Y.setCell ⟨w.heap.size,0,none⟩ (.int .i32 0)).setCell ⟨w.heap.size,1,none⟩ (.int .i64 0)) (w.heap.size+1) .z:=u1.aside (v:= .z) (by omega);refine hKS.out _ _ (λ_=>a0) ?_;clear hKS KS u0 u1 y0 y1 y2 y3;revert a0 x0 x1;generalize ((Y.setCell ⟨w.heap.size,0,none⟩ (.int .i32 0)).setCell ⟨w.heap.size,1,none⟩ (.int .i64 0))=Z;intro a0 x0 x1;obtain⟨y0,y1,y2,y3,m1⟩:=x1.parts;simp only[xN,xO]at y0 y1;refine az rfl ?_;intro KS hKS;go_simp;have a2:But (λk=>k=w.heap.size\/k=w.heap.size+1) W ((Z.setCell ⟨w.heap.size+1,0,none⟩ (.int .i32 0)).setCell ⟨w.heap.size+1,1,none⟩ (.int .i64 0)):=a0.trans (((au Z (w.heap.size+1) 0 _).trans (au _ (w.heap.size+1) 1 _)).mono (λk _ e=>Or.inr e))
 refine hKS.out _ _ (λ_=>a2) ?_;clear hKS KS;refine aR rfl ?_;go_wp2_with fail;exact qf results141 (x0.aside (v:= .z) (by omega)) (x1.put .z) rfl rfl rfl ⟨rfl,hT.but.next a2 (λk hk e=>by omega)⟩
theorem DH (h:FbB w fb ca d X vl vi ts pc bl sv) (ho:w.ownsRow base 168 2 sv zx.length (aJ zx)) (hl:1<=zx.length) (h4:zx.length<=4000):
  Calls prog 141 #[.pointer (some ⟨fb,0,none⟩),.int .i64 1] w λen w'=>en= .returned (.tuple #[bW (bE zx),bW .z])/\But (· =fb) w w'/\ ∃sv',FbB w' fb ca d X vl vi ts pc bl sv'/\w'.ownsRow base 168 2 sv' (bB zx).length (aJ (bB zx))/\sv'.ownBlock=sv.ownBlock:=by
 have b5:=hid ho;have HT:=hid (tkW (w:=w));have HK:=hid (λ(Y:World) (hY:B_ w Y)=>lq Y fb d pc bl base ca X vl vi ts sv zx (h.but hY (λh=>h)) (aj ho hY (λ_ _ h=>h)) (by omega) h4);have d6:=h.lt;clear h ho
 go_in
 go_wp2_with fail;revert HT;generalize ((((w.alloc (.cells #[.int .i32 0,.int .i64 0] 168)).alloc (.cells #[.int .i32 0,.int .i64 0] 168)).alloc (.cells #[.int .i32 0,.int .i64 0] 168)).alloc (.cells #[.int .i32 0,.int .i64 0] 168))=W0;intro HT;have hT:=HT.out;have e0:=hT.sz;refine(HK.out W0 hT.but).mono ?_;rintro en w1 ⟨rfl,a0,c9,a2,a3,a7⟩;clear HK;obtain⟨tv,a8⟩: ∃tv,bE zx=tv:=⟨_,rfl⟩;rw[a8];have b9:=hid a8;clear a8;have v0:d8 w1 w.heap.size .z:=d8.but hT.b0 a0 (by omega);have v1:d8 w1 (w.heap.size+1) .z:=d8.but hT.b1 a0 (by omega);have b4:d8 w1 (w.heap.size+1+1) .z:=d8.but hT.b2 a0 (by omega)
 have v3:d8 w1 (w.heap.size+1+1+1) .z:=d8.but hT.b3 a0 (by omega);obtain⟨r0,r1,z0,z1,c7⟩:=b4.parts;simp only[xN,xO]at r0 r1;simp only[bW];go_wp2_with fail;have v2:=b4.put tv;have a1:But (λk=>k=w.heap.size+1+1) w1 ((w1.setCell ⟨w.heap.size+1+1,0,none⟩ (.int .i32 (xN tv))).setCell ⟨w.heap.size+1+1,1,none⟩ (.int .i64 (xO tv))):=(au w1 _ 0 _).trans (au _ _ 1 _);have a6:But (· =fb) w ((w1.setCell ⟨w.heap.size+1+1,0,none⟩ (.int .i32 (xN tv))).setCell ⟨w.heap.size+1+1,1,none⟩ (.int .i64 (xO tv))):=((hT.but.mono (λ_ _ h=>h.elim)).trans a0).next a1 (λk hk e=>by omega);replace v0:=v0.aside (v:=tv) (q:=w.heap.size+1+1) (by omega)
 replace v1:=v1.aside (v:=tv) (q:=w.heap.size+1+1) (by omega);replace v3:=v3.aside (v:=tv) (q:=w.heap.size+1+1) (by omega);replace a2:=a2.but a1 (by omega);replace a3:=aj a3 a1 (λg hg e=>by have:=aW b5.out g (a7▸hg);omega);clear r0 r1 z0 z1 c7 b4 a0 hT HT;revert v2 a1 a6 v0 v1 v3 a2 a3;generalize ((w1.setCell ⟨w.heap.size+1+1,0,none⟩ (.int .i32 (xN tv))).setCell ⟨w.heap.size+1+1,1,none⟩ (.int .i64 (xO tv)))=W;intro v2 a1 a6 v0 v1 v3 a2 a3;obtain⟨i0,i1,_,_,m2⟩:=v2.parts;obtain⟨j0,j1,_,_,m3⟩:=v3.parts;simp only[xN,xO]at j0 j1;have b6:But (λk=>k=w.heap.size\/k=w.heap.size+1) W W.drew:=aD _ _
 have n2: ¬(w.heap.size+1+1=w.heap.size\/w.heap.size+1+1=w.heap.size+1):=by omega
 have n3: ¬(w.heap.size+1+1+1=w.heap.size\/w.heap.size+1+1+1=w.heap.size+1):=by omega
 refine aI (But (λk=>k=w.heap.size\/k=w.heap.size+1) W) 4 ?_
 iterate 2 (refine aQ (v:=?_) rfl b6 ?_ ?_;rotate_left;(focus (intro wS h;have q0:=((h.cell (p:=⟨w.heap.size+1+1,0,none⟩) m2 n2).trans i0);have q1:=((h.cell (p:=⟨w.heap.size+1+1,1,none⟩) m2 n2).trans i1);have q2:=((h.cell (p:=⟨w.heap.size+1+1+1,0,none⟩) m3 n3).trans j0);have q3:=((h.cell (p:=⟨w.heap.size+1+1+1,1,none⟩) m3 n3).trans j1);clear h;go_simp;try rfl));dsimp only[Act.put];try simp only[cH])
 have u0:=v0.but (aD (λ_=>False) W) (λh=>h);have u1:=v1.but (aD (λ_=>False) W) (λh=>h);clear i0 i1 j0 j1 v0 v1 v2 v3;generalize W.drew=Y at*;obtain⟨y0,y1,y2,y3,m0⟩:=u0.parts;simp only[xN,xO]at y0 y1;refine az rfl ?_;intro KS hKS;go_simp;have a4:But (λk=>k=w.heap.size\/k=w.heap.size+1) W ((Y.setCell ⟨w.heap.size,0,none⟩ (.int .i32 (xN tv))).setCell ⟨w.heap.size,1,none⟩ (.int .i64 (xO tv))):=b6.trans (((au Y w.heap.size 0 _).trans (au _ w.heap.size 1 _)).mono (λk _ e=>Or.inl e));have x0:d8 ((Y.setCell ⟨w.heap.size,0,none⟩ (.int .i32 (xN tv))).setCell ⟨w.heap.size,1,none⟩ (.int .i64 (xO tv))) w.heap.size tv:=u0.put tv
 have x1:d8 ((Y.setCell ⟨w.heap.size,0,none⟩ (.int .i32 (xN tv))).setCell ⟨w.heap.size,1,none⟩ (.int .i64 (xO tv))) (w.heap.size+1) .z:=u1.aside (v:=tv) (by omega);refine hKS.out _ _ (λ_=>a4) ?_;clear hKS KS u0 u1 y0 y1 y2 y3;revert a4 x0 x1;generalize ((Y.setCell ⟨w.heap.size,0,none⟩ (.int .i32 (xN tv))).setCell ⟨w.heap.size,1,none⟩ (.int .i64 (xO tv)))=Z;intro a4 x0 x1;obtain⟨y0,y1,y2,y3,m1⟩:=x1.parts;simp only[xN,xO]at y0 y1;refine az rfl ?_;intro KS hKS;go_simp;have a5:But (λk=>k=w.heap.size\/k=w.heap.size+1) W ((Z.setCell ⟨w.heap.size+1,0,none⟩ (.int .i32 0)).setCell ⟨w.heap.size+1,1,none⟩ (.int .i64 0)):=a4.trans (((au Z (w.heap.size+1) 0 _).trans (au _ (w.heap.size+1) 1 _)).mono (λk _ e=>Or.inr e))
 refine hKS.out _ _ (λ_=>a5) ?_;clear hKS KS;refine aR rfl ?_;go_wp2_with fail;exact qf results141 (x0.aside (v:= .z) (by omega)) (x1.put .z) rfl rfl rfl ⟨by rw[b9.out],a6.next a5 (λk hk e=>by omega),c9,a2.but a5 (by omega),aj a3 a5 (λg hg e=>by have:=aW b5.out g (a7▸hg);omega),a7⟩
theorem DI (h:FbB w fb ca d X vl vi ts pc bl sv) (ho:w.ownsRow base 168 2 sv zx.length (aJ zx)) (hl:2<=zx.length) (h4:zx.length<=4000):
  Calls prog 141 #[.pointer (some ⟨fb,0,none⟩),.int .i64 2] w λen w'=>en= .returned (.tuple #[bW (fk zx),bW (bE zx)])/\But (· =fb) w w'/\ ∃sv',FbB w' fb ca d X vl vi ts pc bl sv'/\w'.ownsRow base 168 2 sv' (dC zx).length (aJ (dC zx))/\sv'.ownBlock=sv.ownBlock:=by
 have b9:=hid ho;have HT:=hid (tkW (w:=w));have HK:=hid (λ(Y:World) (hY:B_ w Y)=>lq Y fb d pc bl base ca X vl vi ts sv zx (h.but hY (λh=>h)) (aj ho hY (λ_ _ h=>h)) (by omega) h4);have f0:=h.lt;clear h ho
 go_in
 go_wp2_with fail;revert HT;generalize ((((w.alloc (.cells #[.int .i32 0,.int .i64 0] 168)).alloc (.cells #[.int .i32 0,.int .i64 0] 168)).alloc (.cells #[.int .i32 0,.int .i64 0] 168)).alloc (.cells #[.int .i32 0,.int .i64 0] 168))=W0;intro HT;have hT:=HT.out;have f2:=hT.sz;refine(HK.out W0 hT.but).mono ?_;rintro en w1 ⟨rfl,a2,e9,a3,a4,e5⟩;clear HK;obtain⟨tv,e2⟩: ∃tv,bE zx=tv:=⟨_,rfl⟩;rw[e2];have e7:=hid e2;clear e2;have v0:d8 w1 w.heap.size .z:=d8.but hT.b0 a2 (by omega);have v1:d8 w1 (w.heap.size+1) .z:=d8.but hT.b1 a2 (by omega);have a0:d8 w1 (w.heap.size+1+1) .z:=d8.but hT.b2 a2 (by omega)
 have e4:d8 w1 (w.heap.size+1+1+1) .z:=d8.but hT.b3 a2 (by omega);obtain⟨r0,r1,z0,z1,e1⟩:=e4.parts;simp only[xN,xO]at r0 r1;simp only[bW];have v3:=e4.put tv;have a7:But (λk=>k=w.heap.size+1+1+1) w1 ((w1.setCell ⟨w.heap.size+1+1+1,0,none⟩ (.int .i32 (xN tv))).setCell ⟨w.heap.size+1+1+1,1,none⟩ (.int .i64 (xO tv))):=(au w1 _ 0 _).trans (au _ _ 1 _);have a1:But (· =fb) w ((w1.setCell ⟨w.heap.size+1+1+1,0,none⟩ (.int .i32 (xN tv))).setCell ⟨w.heap.size+1+1+1,1,none⟩ (.int .i64 (xO tv))):=((hT.but.mono (λ_ _ h=>h.elim)).trans a2).next a7 (λk hk e=>by omega);replace v0:=v0.aside (v:=tv) (q:=w.heap.size+1+1+1) (by omega)
 replace v1:=v1.aside (v:=tv) (q:=w.heap.size+1+1+1) (by omega);replace a0:=a0.aside (v:=tv) (q:=w.heap.size+1+1+1) (by omega);replace a3:=a3.but a7 (by omega);replace a4:=aj a4 a7 (λg hg e=>by have:=aW b9.out g (e5▸hg);omega);go_wp2_with fail;clear r0 r1 z0 z1 e1 e4 a2 hT HT;revert v3 a7 a1 v0 v1 a0 a3 a4;generalize ((w1.setCell ⟨w.heap.size+1+1+1,0,none⟩ (.int .i32 (xN tv))).setCell ⟨w.heap.size+1+1+1,1,none⟩ (.int .i64 (xO tv)))=W1;intro v3 a7 a1 v0 v1 a0 a3 a4;have f1:=zv zx;refine(lq W1 fb d pc bl base ca X vl vi ts e9 (bB zx) a3 a4 (by omega) (by omega)).mono ?_;rintro en w2 ⟨rfl,a6,sv2,b4,a5,e0⟩
 rw[wK (by omega)];rw[uZ]at a5;have d6:=e0.trans e5;obtain⟨uv,e3⟩: ∃uv,fk zx=uv:=⟨_,rfl⟩;rw[e3];have e8:=hid e3;clear e3 a3 a4;replace v0:=v0.but a6 (by omega);replace v1:=v1.but a6 (by omega);replace a0:=a0.but a6 (by omega);replace v3:=v3.but a6 (by omega);have c9:=a1.trans a6;obtain⟨r0,r1,z0,z1,e1⟩:=a0.parts;simp only[xN,xO]at r0 r1;simp only[bW];have v2:=a0.put uv;have a8:But (λk=>k=w.heap.size+1+1) w2 ((w2.setCell ⟨w.heap.size+1+1,0,none⟩ (.int .i32 (xN uv))).setCell ⟨w.heap.size+1+1,1,none⟩ (.int .i64 (xO uv))):=(au w2 _ 0 _).trans (au _ _ 1 _);have c7:But (· =fb) w ((w2.setCell ⟨w.heap.size+1+1,0,none⟩ (.int .i32 (xN uv))).setCell ⟨w.heap.size+1+1,1,none⟩ (.int .i64 (xO uv))):=c9.next a8 (λk hk e=>by omega)
 replace v0:=v0.aside (v:=uv) (q:=w.heap.size+1+1) (by omega);replace v1:=v1.aside (v:=uv) (q:=w.heap.size+1+1) (by omega);replace v3:=v3.aside (v:=uv) (q:=w.heap.size+1+1) (by omega);replace b4:=b4.but a8 (by omega);replace a5:=aj a5 a8 (λg hg e=>by have:=aW b9.out g (d6▸hg);omega);go_wp2_with fail;clear r0 r1 z0 z1 e1 a0;revert v2 a8 c7 v0 v1 v3 b4 a5;generalize ((w2.setCell ⟨w.heap.size+1+1,0,none⟩ (.int .i32 (xN uv))).setCell ⟨w.heap.size+1+1,1,none⟩ (.int .i64 (xO uv)))=W;intro v2 a8 c7 v0 v1 v3 b4 a5;obtain⟨i0,i1,_,_,m2⟩:=v2.parts;obtain⟨j0,j1,_,_,m3⟩:=v3.parts;have e6:But (λk=>k=w.heap.size\/k=w.heap.size+1) W W.drew:=aD _ _
 have n2: ¬(w.heap.size+1+1=w.heap.size\/w.heap.size+1+1=w.heap.size+1):=by omega
 have n3: ¬(w.heap.size+1+1+1=w.heap.size\/w.heap.size+1+1+1=w.heap.size+1):=by omega
 refine aI (But (λk=>k=w.heap.size\/k=w.heap.size+1) W) 4 ?_
 iterate 2 (refine aQ (v:=?_) rfl e6 ?_ ?_;rotate_left;(focus (intro wS h;have q0:=((h.cell (p:=⟨w.heap.size+1+1,0,none⟩) m2 n2).trans i0);have q1:=((h.cell (p:=⟨w.heap.size+1+1,1,none⟩) m2 n2).trans i1);have q2:=((h.cell (p:=⟨w.heap.size+1+1+1,0,none⟩) m3 n3).trans j0);have q3:=((h.cell (p:=⟨w.heap.size+1+1+1,1,none⟩) m3 n3).trans j1);clear h;go_simp;try rfl));dsimp only[Act.put];try simp only[cH])
 have u0:=v0.but (aD (λ_=>False) W) (λh=>h);have u1:=v1.but (aD (λ_=>False) W) (λh=>h);clear i0 i1 j0 j1 v0 v1 v2 v3;generalize W.drew=Y at*;obtain⟨y0,y1,y2,y3,m0⟩:=u0.parts;simp only[xN,xO]at y0 y1;refine az rfl ?_;intro KS hKS;go_simp;have b5:But (λk=>k=w.heap.size\/k=w.heap.size+1) W ((Y.setCell ⟨w.heap.size,0,none⟩ (.int .i32 (xN uv))).setCell ⟨w.heap.size,1,none⟩ (.int .i64 (xO uv))):=e6.trans (((au Y w.heap.size 0 _).trans (au _ w.heap.size 1 _)).mono (λk _ e=>Or.inl e));have x0:d8 ((Y.setCell ⟨w.heap.size,0,none⟩ (.int .i32 (xN uv))).setCell ⟨w.heap.size,1,none⟩ (.int .i64 (xO uv))) w.heap.size uv:=u0.put uv
 have x1:d8 ((Y.setCell ⟨w.heap.size,0,none⟩ (.int .i32 (xN uv))).setCell ⟨w.heap.size,1,none⟩ (.int .i64 (xO uv))) (w.heap.size+1) .z:=u1.aside (v:=uv) (by omega);refine hKS.out _ _ (λ_=>b5) ?_;clear hKS KS u0 u1 y0 y1 y2 y3;revert b5 x0 x1;generalize ((Y.setCell ⟨w.heap.size,0,none⟩ (.int .i32 (xN uv))).setCell ⟨w.heap.size,1,none⟩ (.int .i64 (xO uv)))=Z;intro b5 x0 x1;obtain⟨y0,y1,y2,y3,m1⟩:=x1.parts;simp only[xN,xO]at y0 y1;refine az rfl ?_;intro KS hKS;go_simp;have b6:But (λk=>k=w.heap.size\/k=w.heap.size+1) W ((Z.setCell ⟨w.heap.size+1,0,none⟩ (.int .i32 (xN tv))).setCell ⟨w.heap.size+1,1,none⟩ (.int .i64 (xO tv))):=b5.trans (((au Z (w.heap.size+1) 0 _).trans (au _ (w.heap.size+1) 1 _)).mono (λk _ e=>Or.inr e))
 refine hKS.out _ _ (λ_=>b6) ?_;clear hKS KS;refine aR rfl ?_;go_wp2_with fail;exact qf results141 (x0.aside (v:=tv) (by omega)) (x1.put tv) rfl rfl rfl ⟨by rw[e7.out,e8.out],c7.next b6 (λk hk e=>by omega),sv2,b4.but b6 (by omega),aj a5 b6 (λg hg e=>by have:=aW b9.out g (d6▸hg);omega),d6⟩
end
theorem nF: ¬False:=λh=>h
section
variable (w:World) (fb d pc bl base:Nat) (ca:Option Nat) (X:bM) (vl vi ts sv:Value) (zx:List V)
theorem Bo (h:FbB w fb ca d X vl vi ts pc bl sv) (hi:ItB w base vi X.items) (x:XIt) (hx:X.items[pc]?=some x) (h4:X.items.length<=100):
  Calls prog 139 #[.pointer (some ⟨fb,0,none⟩)] w λen w'=>en= .returned (dF x)/\B_ w w':=by
 obtain⟨a,cap,rfl⟩:=aw hi;have b2:pc<X.items.length:=(bC hx).1;obtain⟨g,rfl,a3,b1,a0⟩:=aF hi (by omega);have q0:w.cell? ⟨g,pc*5,none⟩=some (.int .i64 x.place):=a0 _ _ (aS (k:=0) hx (by omega));have q1:w.cell? ⟨g,pc*5+1,none⟩=some (.int .u8 x.op.toNat):=a0 _ _ (aS (k:=1) hx (by omega));have q2:w.cell? ⟨g,pc*5+2,none⟩=some (.int .u8 x.cls.toNat):=a0 _ _ (aS (k:=2) hx (by omega));have q3:w.cell? ⟨g,pc*5+3,none⟩=some (.int .i64 x.num):=a0 _ _ (aS (k:=3) hx (by omega));have q4:w.cell? ⟨g,pc*5+4,none⟩=some (.slice x.pa x.pn x.pc):=a0 _ _ (aS (k:=4) hx (by omega));have b0:=h.body.2.2.2.2;have c8:=h.c8
 have a7:=h.lt;have n0: ¬((pc:Int)<0):=by omega
 have n1: ¬((X.items.length:Int)<=(pc:Int)):=by omega
 have n2:(0:Int)<=(pc:Int):=by omega
 have n3:(pc:Int)<(X.items.length:Int):=by omega
 clear h hi a0 hx;generalize X.items.length=L at*;have HA:=hid (aO w (.cells #[.int .i64 0,.int .u8 0,.int .u8 0,.int .i64 0,S_] 219));have HB:=hid (ag (λ_=>False) w (.cells #[.int .i64 0,.int .u8 0,.int .u8 0,.int .i64 0,S_] 219))
 go_in
 go_wp2_with fail;revert HA HB;generalize (w.alloc (.cells #[.int .i64 0,.int .u8 0,.int .u8 0,.int .i64 0,S_] 219))=W;intro HA HB;have hA:=HA.out;have hB:=HB.out;have hz:=hB.size;have a5:fb<W.heap.size:=by omega
 have a4:g<W.heap.size:=by omega
 replace q0:=hB.kc q0 a3;replace q1:=hB.kc q1 a3;replace q2:=hB.kc q2 a3;replace q3:=hB.kc q3 a3;replace q4:=hB.kc q4 a3;replace b0:=hB.kc b0 a7;replace c8:=hB.kc c8 a7;have a2:B_ W W.drew:=aD _ _;refine aI (B_ W) 18 ?_
 iterate 18 (refine aQ (v:=?_) rfl a2 ?_ ?_;rotate_left;(focus (intro wS h;have q0:=((h.cell (p:=⟨fb,8,none⟩) a5 nF).trans c8);have q1:=((h.cell (p:=⟨fb,6,none⟩) a5 nF).trans b0);clear h;go_simp;try rfl));dsimp only[Act.put];try simp only[cH])
 refine aR rfl ?_;clear a2;have a6:B_ W W.drew:=aD _ _;have HD:=hid a6;clear a6;go_wp2_with fail;have a2:B_ W W.drew.drew:=HD.out.trans (aD _ _);clear HD;refine aI (B_ W) 11 ?_
 iterate 11 (refine aQ (v:=?_) rfl a2 ?_ ?_;rotate_left;(focus (intro wS h;have Q0:=((h.cell (p:=⟨fb,8,none⟩) a5 nF).trans c8);have Q1:=((h.cell (p:=⟨fb,6,none⟩) a5 nF).trans b0);have Q2:=((h.cell (p:=⟨g,pc*5,none⟩) a4 nF).trans q0);have Q3:=((h.cell (p:=⟨g,pc*5+1,none⟩) a4 nF).trans q1);have Q4:=((h.cell (p:=⟨g,pc*5+2,none⟩) a4 nF).trans q2);have Q5:=((h.cell (p:=⟨g,pc*5+3,none⟩) a4 nF).trans q3);have Q6:=((h.cell (p:=⟨g,pc*5+4,none⟩) a4 nF).trans q4);clear h;go_simp;try rfl));dsimp only[Act.put];try simp only[cH])
 have a1:=(a2.block w.heap.size (ae hA) nF).trans hA;clear q0 q1 q2 q3 q4 b0 c8;generalize W.drew.drew=Y at*;have a8:=ae a1;have y0:=ce0 a1;have y1:=ce1 a1;have y2:=ce2 a1;have y3:=ce3 a1;have y4:=ce4 a1;have z0:=b7 Y w.heap.size 0 _ _ a1;have z1:=b7 Y w.heap.size 1 _ _ a1;have z2:=b7 Y w.heap.size 2 _ _ a1;have z3:=b7 Y w.heap.size 3 _ _ a1;have z4:=b7 Y w.heap.size 4 _ _ a1;refine az rfl ?_;intro KS hKS;go_simp;refine hKS.out _ _ nofun ?_;clear hKS KS;refine aR rfl ?_;clear y0 y1 y2 y3 y4 z0 z1 z2 z3 z4;go_wp2_with fail
 have hP:But (· =w.heap.size) Y (((((Y.setCell ⟨w.heap.size,0,none⟩ (.int .i64 x.place)).setCell ⟨w.heap.size,1,none⟩ (.int .u8 x.op.toNat)).setCell ⟨w.heap.size,2,none⟩ (.int .u8 x.cls.toNat)).setCell ⟨w.heap.size,3,none⟩ (.int .i64 x.num)).setCell ⟨w.heap.size,4,none⟩ (.slice x.pa x.pn x.pc)):=
  ((((au _ _ _ _).trans (au _ _ _ _)).trans (au _ _ _ _)).trans (au _ _ _ _)).trans (au _ _ _ _)
 exact Em results139 rfl rfl (bG _ _ 4 _ _ _ (bG _ _ 3 _ _ _ (bG _ _ 2 _ _ _ (bG _ _ 1 _ _ _ (bG _ _ 0 _ _ _ a1))))) ⟨rfl,(hB.trans a2).next hP (λk hk e=>by omega)⟩
theorem Fc (h:FbB w fb ca d X vl vi ts pc bl sv) (hp:pc<=1000) (n:Nat) (c o:Int) (hc:c≠0):
  Calls prog 144 #[.pointer (some ⟨fb,0,none⟩),.int .i64 n,.agg #[.int .i32 c,.int .i64 o]] w λen w'=>en= .returned (.tuple #[])/\But (· =fb) w w'/\FbB w' fb ca d X vl vi ts (pc+1) bl sv:=by
 have c8:=h.c8;have z8:=h.fz 8;have a1:=h.lt;have HH:=hid h;have a2:=er ((pc:Int)+1) (by omega) (by omega);clear h;have a0:fb<w.heap.size+1:=by omega
 go_in
 go_wp2_with fail;go_end0;exact⟨rfl,((au _ _ _ _).trans (ag _ _ _)),(HH.out.set8 (pc+1)).but (ag (λ_=>False) _ _) nF⟩
end
def MbB (w:World) (mb tx:Nat) (tv:Value) (bw cells:Nat) (cur:Option Nat) (ans:Int):Prop:=
 w.heap[mb]?=some (.cells #[.pointer (some ⟨tx,0,none⟩),tv,.pointer (some ⟨bw,0,none⟩),.int .i64 cells,sO cur,.int .i32 ans] 157)
section
variable {w:World} {mb tx bw cells:Nat} {tv:Value} {cur:Option Nat} {ans:Int}
theorem MbB.lt (h:MbB w mb tx tv bw cells cur ans):mb<w.heap.size:=ae h
theorem MbB.c0 (h:MbB w mb tx tv bw cells cur ans):w.cell? ⟨mb,0,none⟩=some (.pointer (some ⟨tx,0,none⟩)):=ce0 h
theorem MbB.c1 (h:MbB w mb tx tv bw cells cur ans):w.cell? ⟨mb,1,none⟩=some tv:=ce1 h
theorem MbB.c2 (h:MbB w mb tx tv bw cells cur ans):w.cell? ⟨mb,2,none⟩=some (.pointer (some ⟨bw,0,none⟩)):=ce2 h
theorem MbB.c4 (h:MbB w mb tx tv bw cells cur ans):w.cell? ⟨mb,4,none⟩=some (sO cur):=ce4 h
theorem MbB.c5 (h:MbB w mb tx tv bw cells cur ans):w.cell? ⟨mb,5,none⟩=some (.int .i32 ans):=ce5 h
theorem MbB.fz (h:MbB w mb tx tv bw cells cur ans) (j:Nat):w.frozen? ⟨mb,j,none⟩=false:=b7 w mb j _ _ h
theorem MbB.but {F:Nat->Prop} {w':World} (h:MbB w mb tx tv bw cells cur ans) (hb:But F w w') (hf: ¬F mb):MbB w' mb tx tv bw cells cur ans:=(hb.block mb h.lt hf).trans h
theorem MbB.set4 (h:MbB w mb tx tv bw cells cur ans) (o:Option Nat):MbB (w.setCell ⟨mb,4,none⟩ (sO o)) mb tx tv bw cells o ans:=bG w mb 4 _ _ _ h
theorem MbB.set5 (h:MbB w mb tx tv bw cells cur ans) (n:Int):MbB (w.setCell ⟨mb,5,none⟩ (.int .i32 n)) mb tx tv bw cells cur n:=bG w mb 5 _ _ _ h
end
section
variable (w:World) (mb tx bw cells fb d pc bl:Nat) (tv:Value) (ans:Int) (X:bM) (vl vi ts sv:Value)
/--The main body ends. -/
theorem Bp (h:MbB w mb tx tv bw cells (some fb) ans) (hf:FbB w fb none d X vl vi ts pc bl sv) (n o:Int):
  Calls prog 143 #[.pointer (some ⟨mb,0,none⟩),.agg #[.int .i32 n,.int .i64 o]] w λen w'=>en= .returned (.tuple #[])/\But (· =mb) w w'/\MbB w' mb tx tv bw cells none n:=by
 have hA:=ag (λ_=>False) w (.cells #[.int .i32 n,.int .i64 o] 168);have c4:w.cell? ⟨mb,4,none⟩=some (.pointer (some ⟨fb,0,none⟩)):=h.c4;have f0:w.cell? ⟨fb,0,none⟩=some (.pointer none):=hf.c0;have c5:=h.c5;have z4:=h.fz 4;have z5:=h.fz 5;have a3:=h.lt;have a1:=hf.lt;have HH:=hid h;have a2:mb<w.heap.size+1:=by omega
 have a0:fb<w.heap.size+1:=by omega
 have a4: ¬w.heap.size=mb:=by omega
 clear h hf hA
 go_in
 go_wp2_with fail;exact gK results143 rfl ⟨rfl,((au _ _ _ _).trans (au _ _ _ _)).trans (ag _ _ _),((HH.out.set4 none).set5 n).but (ag (λ_=>False) _ _) nF⟩
theorem qg (l:List V) (u:V):aJ (l++ [u])=aJ l++ [.int .i32 (xN u),.int .i64 (xO u)]:=by simp[aJ,ku]
variable (cb d2 p2 bl2 base:Nat) (c2:Option Nat) (X2:bM) (vl2 vi2 ts2 sv2:Value) (zx:List V)
end
def qh (p:V×UInt8):Bool:=decide (p.2.toNat≠45)
theorem u3 {zs:List (V×UInt8)} {k:Nat} {u:V} {y:UInt8} {t:List V} (h:zs[k]?=some (u,y)) (ht:((zs.take k).filter qh).map (·.1)=t):((zs.take (k+1)).filter qh).map (·.1)=if y.toNat=45 then t else t++ [u]:=by
 obtain⟨hk,he⟩:=bC h;rw[iM hk,List.filter_append,List.map_append,ht,he]
 by_cases e:y.toNat=45
 .rw[if_pos e];simp[qh,e]
 .rw[if_neg e];simp[qh,e]
structure C4 (w0 w w':World) (mb tx:Nat) (tv:Value) (bw cells:Nat) (cur:Option Nat) (ans:Int) (d:Nat) (gs:List Sig) (b:Bod) (p:Nat×List St) (fb bl:Nat) (lv vl vi:Value):Prop where
 but:But (· =mb) w w'
 mc:MbB w' mb tx tv bw cells (some fb) ans
 fr:FbB w' fb cur d (bu gs b) vl vi (.slice (some ⟨p.1,0,none⟩) p.2.length p.2.length) 0 bl S_
 lb:w'.heap[bl]?=some (.cells #[lv] 280)
 lo:w'.ownsRow w.heap.size 168 2 lv b.locals.length (aJ (b.locals.map dc))
 gf:w.heap.size<=fb
 gl:w.heap.size<=bl
 bt:BtB w0 0 vl (bu gs b).locals
 it:ItB w0 0 vi (bu gs b).items
 tb:StB w0 p.1 p.2
section
variable (w0 w:World) (mb tx bw cells d base:Nat) (tv:Value) (ans:Int) (im:Img) (l:List (Nat×List St)) (q:Nat) (b:Bod) (p:Nat×List St)
theorem zw (cur:Option Nat) (hd:(cur=none/\d=0)\/ ∃a4,cur=some a4/\a4<w.heap.size/\w.cell? ⟨a4,1,none⟩=some (.int .i64 d)) (hdd:d<=100) (h:MbB w mb tx tv bw cells cur ans) (h0:B_ w0 w) (hT:eS w0 tx im) (hl:iu w0 base tv l) (hq:im.zq[q]?=some b) (hp:l[q]?=some p) (hlo:b.locals.length<=5) (hnb:im.zq.length<=100):
  Calls prog 87 #[.pointer (some ⟨mb,0,none⟩),.int .i64 q] w λen w'=>en= .returned (.tuple #[])/\ ∃fb bl lv vl vi,C4 w0 w w' mb tx tv bw cells cur ans (d+1) im.zj b p fb bl lv vl vi:=by
 obtain⟨v2,t2,b1,lb,hO,hm,hf⟩:=hT.bod;have hX:(im.zq.map (bu im.zj))[q]?=some (bu im.zj b):=by rw[cg,hq];rfl
 rw[<-hm,cg]at hX;obtain⟨⟨X,vl,vi⟩,a1,a5⟩:=Option.map_eq_some_iff.1 hX;simp only at a5;have HX:Hid (X=bu im.zj b):=a5;have b4:X.locals=b.locals:=by rw[a5];rfl
 clear a5;obtain⟨f1,f2⟩:=hf _ (bp a1);simp only at f1 f2;have b9:=hid f1;have c7:=hid f2;obtain⟨al,capl,rfl⟩:=aw f1;obtain⟨ai,capi,rfl⟩:=aw f2;obtain⟨ao,capo,rfl⟩:=aw hO;have e8:q<lb.length:=(bC a1).1;obtain⟨g,rfl,a2,f3,a0⟩:=aF hO (by omega);have q0:=a0 _ _ (ba (k:=0) a1 (by omega));have q1:=a0 _ _ (ba (k:=1) a1 (by omega));have q2:=a0 _ _ (ba (k:=2) a1 (by omega));have q3:=a0 _ _ (ba (k:=3) a1 (by omega));have q4:=a0 _ _ (ba (k:=4) a1 (by omega));simp only[Nat.add_zero,List.getElem?_cons_zero,List.getElem?_cons_succ]at q0 q1 q2 q3 q4;obtain⟨ax,capx,rfl⟩:=aw hl.1;have e9:q<l.length:=(bC hp).1;obtain⟨gx,rfl,b2,g1,b6⟩:=aF hl.1 (by omega)
 have q5:w0.cell? ⟨gx,q,none⟩=some (.slice (some ⟨p.1,0,none⟩) p.2.length p.2.length):=b6 _ _ (by simp[jS,hp]);have d6:=hid (hl.2 p (bp hp));replace q0:=(h0.cell a2 (λh=>h)).trans q0;replace q1:=(h0.cell a2 (λh=>h)).trans q1;replace q2:=(h0.cell a2 (λh=>h)).trans q2;replace q3:=(h0.cell a2 (λh=>h)).trans q3;replace q4:=(h0.cell a2 (λh=>h)).trans q4;replace q5:=h0.kc q5 b2;replace t2:=(h0.cell b1 (λh=>h)).trans t2;replace a2:=bq a2 h0.size;replace b2:=bq b2 h0.size;replace b1:=bq b1 h0.size;have c9:=hid (λY=>lY X.cls (X.meth:Int) X.ans b.locals al capl ai X.items.length capi Y (by omega))
 have e0:=h.c0;have e1:=h.c1;have z4:=h.fz 4;have a8:=h.lt;have HM:=hid h;have f6:(0:Int)<=(q:Int):=by omega
 have f7:(q:Int)<(lb.length:Int):=by omega
 have f8:(q:Int)<(l.length:Int):=by omega
 have a6:lb.length=im.zq.length:=by have:=congrArg List.length hm;simpa using this
 rw[b4]at q3;clear a6;have e4:=h.c4;have HD:=hid hd;clear hd;clear hX a1 f1 f2 a0 b6 hf hO hm hq e8 hT h hl hp e9;generalize b5:b.locals.length=nL at*;generalize f5:X.items.length=nI at*;generalize lb.length=nb at*;generalize l.length=nx at*;have g0:=er ((d:Int)+1) (by omega) (by omega);obtain⟨rfl,rfl⟩ | ⟨a4,rfl,f4,c1⟩:=HD.out
 all_goals
  simp only[sO,Option.map_none,Option.map_some]at e4
  go_in
  go_wp2_with fail;refine(c9.out _).mono ?_;rintro en w1 ⟨bl,lv,rfl,b3,a1,a7,e2⟩;have hA:=(b3.block w.heap.size (by simp) nF).trans (aO w _);have a3:B_ w w1:=(ag _ _ _).trans b3;have k9:=ce9 hA;have y9:=b7 w1 w.heap.size 9 _ _ hA;have m4:=(a3.cell (p:=⟨mb,4,none⟩) a8 nF).trans e4;have n4:=(a3.frozen (p:=⟨mb,4,none⟩) a8 nF).trans z4;have f0:=ae hA;have HA:=hid hA;have e6:mb<w1.heap.size:=bq a8 a3.size;have e7: ¬w.heap.size=mb:=by omega
  have b0: ¬mb=w.heap.size:=by omega
  have e3:w.heap.size+1<=bl:=by simpa using e2
  clear hA e4 z4 q0 q1 q2 q3 q4 q5 e0 e1 t2;go_wp2_with fail;go_end0;have s9:But (· =w.heap.size) w1 (w1.setCell ⟨w.heap.size,9,none⟩ (.pointer (some ⟨bl,0,none⟩))):=au _ _ _ _;have s4:But (· =mb) (w1.setCell ⟨w.heap.size,9,none⟩ (.pointer (some ⟨bl,0,none⟩))) ((w1.setCell ⟨w.heap.size,9,none⟩ (.pointer (some ⟨bl,0,none⟩))).setCell ⟨mb,4,none⟩ (.pointer (some ⟨w.heap.size,0,none⟩))):=au _ _ _ _;have e5:=bG w1 w.heap.size 9 _ _ (.pointer (some ⟨bl,0,none⟩)) HA.out;refine⟨rfl,w.heap.size,bl,lv,.slice al nL capl,.slice ai nI capi,((a3.mono (λ_ _ h=>h.elim)).next s9 (λk hk e=>by have e:k=w.heap.size:=e;omega)).trans s4,((HM.out.but a3 nF).but s9 b0).set4 (some w.heap.size),?_,?_,?_,b8 _,by omega,?_,?_,d6.out⟩
  .rw[<-HX.out];exact FbB.but e5 s4 e7
  .exact(s4.block bl (by rw[bI];exact ae a1) (by show¬bl=mb;omega)).trans ((s9.block bl (ae a1) (by show¬bl=w.heap.size;omega)).trans a1)
  .rw[b5];exact dn (aj (aj a7 s9 (λk hk e=>by have:=ay a7 k hk;simp at this;have e:k=w.heap.size:=e;omega)) s4 (λk hk e=>by have:=ay a7 k hk;simp at this;have e:k=mb:=e;omega)) (by simp)
  .have:=b9.out;rw[show X.locals.length=nL from by rw[b4,b5]]at this;rw[<-HX.out];exact this
  .rw[<-HX.out];exact c7.out
end
end
end Go.Proofs.YtpfkkmacakjmbaaGreatDoor
