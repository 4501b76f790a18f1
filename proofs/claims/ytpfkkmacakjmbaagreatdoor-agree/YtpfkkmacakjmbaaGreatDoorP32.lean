import Derived.Test.YtpfkkmacakjmbaaGreatDoorP28
import Derived.Test.YtpfkkmacakjmbaaGreatDoorP13
set_option maxRecDepth 100000
set_option maxHeartbeats 6400000
set_option linter.all false
namespace Go.Proofs.YtpfkkmacakjmbaaGreatDoor
open Proofs.Tryz
section
open Go Go.RowKit Sp
attribute [local go_sem ↓] eF eG
def kA (o:Option Nat):Value:= .pointer (o.map λb=>⟨b,0,none⟩)
def FbB (w:World) (fb:Nat) (ca:Option Nat) (d:Nat) (X:bK) (vl vi ts:Value) (pc bl:Nat) (sv:Value):Prop:=
 w.heap[fb]?=some (.cells #[kA ca,.int .i64 d,.int .u8 X.cls.toNat,.int .i64 X.meth,.int .u8 X.ans.toNat,vl,vi,ts,.int .i64 pc,.pointer (some ⟨bl,0,none⟩),sv] 215)
section
variable {w:World} {fb d pc bl:Nat} {ca:Option Nat} {X:bK} {vl vi ts sv:Value}
theorem FbB.lt (h:FbB w fb ca d X vl vi ts pc bl sv):fb<w.heap.size:=ae h
theorem FbB.c0 (h:FbB w fb ca d X vl vi ts pc bl sv):w.cell? ⟨fb,0,none⟩=some (kA ca):=ce0 h
theorem FbB.c1 (h:FbB w fb ca d X vl vi ts pc bl sv):w.cell? ⟨fb,1,none⟩=some (.int .i64 d):=ce1 h
theorem FbB.body (h:FbB w fb ca d X vl vi ts pc bl sv):w.cell? ⟨fb,2,none⟩=some (.int .u8 X.cls.toNat)/\w.cell? ⟨fb,3,none⟩=some (.int .i64 X.meth)/\w.cell? ⟨fb,4,none⟩=some (.int .u8 X.ans.toNat)/\w.cell? ⟨fb,5,none⟩=some vl/\w.cell? ⟨fb,6,none⟩=some vi:=
 ⟨by rw[bU w fb 2 _ _ (0,0) h];rfl,by rw[bU w fb 3 _ _ (0,0) h];rfl,by rw[bU w fb 4 _ _ (0,0) h];rfl,by rw[bU w fb 5 _ _ (0,0) h];rfl,by rw[bU w fb 6 _ _ (0,0) h];rfl⟩
theorem FbB.c7 (h:FbB w fb ca d X vl vi ts pc bl sv):w.cell? ⟨fb,7,none⟩=some ts:=ce7 h
theorem FbB.c8 (h:FbB w fb ca d X vl vi ts pc bl sv):w.cell? ⟨fb,8,none⟩=some (.int .i64 pc):=ce8 h
theorem FbB.c9 (h:FbB w fb ca d X vl vi ts pc bl sv):w.cell? ⟨fb,9,none⟩=some (.pointer (some ⟨bl,0,none⟩)):=ce9 h
theorem FbB.c10 (h:FbB w fb ca d X vl vi ts pc bl sv):w.cell? ⟨fb,10,none⟩=some sv:=Fy h
theorem FbB.fz (h:FbB w fb ca d X vl vi ts pc bl sv) (j:Nat):w.frozen? ⟨fb,j,none⟩=false:=cw w fb j _ _ h
theorem FbB.but {F:Nat->Prop} {w':World} (h:FbB w fb ca d X vl vi ts pc bl sv) (hb:But F w w') (hf: ¬F fb):FbB w' fb ca d X vl vi ts pc bl sv:=(hb.block fb h.lt hf).trans h
theorem FbB.set8 (h:FbB w fb ca d X vl vi ts pc bl sv) (n:Nat):FbB (w.setCell ⟨fb,8,none⟩ (.int .i64 n)) fb ca d X vl vi ts n bl sv:=bS w fb 8 _ _ _ h
theorem FbB.set10 (h:FbB w fb ca d X vl vi ts pc bl sv) (v:Value):FbB (w.setCell ⟨fb,10,none⟩ v) fb ca d X vl vi ts pc bl v:=bS w fb 10 _ _ _ h
end
theorem xW {w:World} {base:Nat} {a:Option Addr} {cap:Nat} {zv:List V} (h:w.ownsRow base 168 2 (.slice a zv.length cap) zv.length (az zv)) (hl:1<=zv.length):w.ownsRow base 168 2 (.slice a (zv.length-1) cap) (dp zv).length (az (dp zv)):=by
 have e:(dp zv).length=zv.length-1:=by simp[dp]
 rw[e];obtain⟨n,j⟩:=h;obtain⟨f,hx⟩ | ⟨g',cap',cur,m,k,l,hn,c,d,b⟩:=j
 .injection f with _ f;omega
 .injection m with e1 e2 e3;subst e1 e3;refine⟨by rw[ey,e],.inr ⟨g',cap,cur,rfl,k,l,by omega,c,d,?_⟩⟩
  have i:az zv=az (dp zv)++ka (dv zv):=by
   have:=congrArg az (oR hl);rw[<-this];simp[az]
  have g:az (dp zv)=(az zv).take ((zv.length-1)*2):=by
   rw[i,List.take_left' ((ey (dp zv)).trans (by rw[e]))]
  rw[g,<-b,List.take_take,Nat.min_eq_left (Nat.mul_le_mul_right _ (by omega))]
theorem l8 (w:World) (fb d pc bl base:Nat) (ca:Option Nat) (X:bK) (vl vi ts sv:Value) (zv:List V) (h:FbB w fb ca d X vl vi ts pc bl sv) (ho:w.ownsRow base 168 2 sv zv.length (az zv)) (hl:1<=zv.length) (h4:zv.length<=4000):
  Calls prog 192 #[.pointer (some ⟨fb,0,none⟩)] w λen w'=>en= .returned (aI (dv zv))/\But (· =fb) w w'/\ ∃sv',FbB w' fb ca d X vl vi ts pc bl sv'/\w'.ownsRow base 168 2 sv' (dp zv).length (az (dp zv))/\sv'.ownBlock=sv.ownBlock:=by
 obtain⟨a,cap,rfl⟩:=aA ho;have i:=xW ho hl;obtain⟨g,rfl,B,C,b⟩:=aL ho (by omega)
 have ht:zv[zv.length-1]?=some (dv zv):=by
  unfold dv;rw[bM,aM (show zv.length-1<zv.length by omega),Option.getD_some]
 have s:w.cell? ⟨g,(zv.length-1)*2,none⟩=some (.int .i32 (xN (dv zv))):=b _ _ (bJ (k:=0) ht (by omega));have t:w.cell? ⟨g,(zv.length-1)*2+1,none⟩=some (.int .i64 (xO (dv zv))):=b _ _ (bJ (k:=1) ht (by omega))
 have c:zv.length<=cap:=by
  obtain⟨x,_⟩ | ⟨g',cap',cur,H,_,_,hn,_⟩:=ho.2
  .cases x
  .injection H with _ _ e3;omega
 obtain⟨n,hn⟩: ∃n,zv.length=n+1:=⟨zv.length-1,by omega⟩;have p: ¬fb=g:=λe=>aE ho h (by decide) (by rw[e];rfl)
 have f: ¬g=fb:=λe=>p e.symm
 have c10:=h.c10;have J:=h.fz 10;have A:=h.lt;have v:=hid h;have j:=hid i;rw[hn]at s t c10 c;rw[hn]at j;simp only[Nat.add_sub_cancel]at s t j;have E: ¬((n:Int)<0):=by omega
 have I:=dV (n:Int) (by omega) (by omega);have G:(n:Int)<(n:Int)+1:=by omega
 have F:(n:Int)<=(cap:Int):=by omega
 have D:g<w.heap.size+1:=by omega
 have y:fb<w.heap.size+1:=by omega
 have z:fb<w.heap.size+1+1:=by omega
 clear h i ho b ht hl h4;generalize q:dv zv=u at*;generalize m:dp zv=ls at*;rw[hn];clear q m hn
 go_in
 go_wp2_with fail;have r:But (· =fb) w (w.setCell ⟨fb,10,none⟩ (.slice (some ⟨g,0,none⟩) n cap)):=aq _ _ _ _;have l:B_ (w.setCell ⟨fb,10,none⟩ (.slice (some ⟨g,0,none⟩) n cap)) (((w.setCell ⟨fb,10,none⟩ (.slice (some ⟨g,0,none⟩) n cap)).alloc (.cells #[.int .i32 (xN u),.int .i64 (xO u)] 168)).alloc (.cells #[.int .i32 (xN u),.int .i64 (xO u)] 168)):=(ag _ _ _).trans (ag _ _ _);exact sA results192 rfl rfl (((ag (λ_=>False) _ _).block _ (by simp[cJ]) (λh=>h)).trans (aw (by simp[cJ]) _)) ⟨rfl,r.trans (l.mono (λ_ _ h=>h.elim)),_,(v.out.set10 _).but l (λh=>h),ah (ah j.out r (λk hk e=>f (by simp only[Value.ownBlock,Option.some.injEq]at hk;rw[hk];exact e))) l (λ_ _ h=>h),rfl⟩
theorem FZ {fn:Func} {Rr:Ending->World->Prop} {a:Act} {w:World} {c f r q:Nat} {K N K' N':Int} (hf:fn.results=#[.cell c 168,.cell f 168]) (hd:a.defers=[]) (hc:a.tmps.getD c undef= .pointer (some ⟨r,0,none⟩)) (he:a.tmps.getD f undef= .pointer (some ⟨q,0,none⟩))
  (h0:w.heap[r]?=some (.cells #[.int .i32 K,.int .i64 N] 168)) (h1:w.heap[q]?=some (.cells #[.int .i32 K',.int .i64 N'] 168)) (hR:Rr (.returned (.tuple #[.agg #[.int .i32 K,.int .i64 N],.agg #[.int .i32 K',.int .i64 N']])) w):bodyPost prog fn Rr .ret a w:=by
 have r0:=ce0 h0;have e:=ce1 h0;have g:=ce0 h1;have h:=ce1 h1;refine cU (v:= .tuple #[.agg #[.int .i32 K,.int .i64 N],.agg #[.int .i32 K',.int .i64 N']]) ?_ hd hR;have b:a.tmps[c]?.getD undef= .pointer (some ⟨r,0,none⟩):=by simpa using hc
 have d:a.tmps[f]?.getD undef= .pointer (some ⟨q,0,none⟩):=by simpa using he
 simp[results,hf,b,d,go_sem,r0,e,g,h]
theorem AS (s:List V):(dp s).length=s.length-1:=by simp[dp]
theorem xX {s:List V} (h:2<=s.length):dv (dp s)=kK s:=by
 unfold dv kK dp;rw[List.length_take,Nat.min_eq_left (by omega),bM,List.getElem?_take,if_pos (by omega),bM,show s.length-1-1=s.length-2 from by omega]
theorem wb (s:List V):dp (dp s)=iA s:=by
 unfold dp iA;rw[List.length_take,List.take_take]
 congr 1
 omega
structure TkW (w W:World):Prop where
 but:B_ w W
 b0:W.heap[w.heap.size]?=some (.cells #[.int .i32 0,.int .i64 0] 168)
 b1:W.heap[w.heap.size+1]?=some (.cells #[.int .i32 0,.int .i64 0] 168)
 b2:W.heap[w.heap.size+1+1]?=some (.cells #[.int .i32 0,.int .i64 0] 168)
 b3:W.heap[w.heap.size+1+1+1]?=some (.cells #[.int .i32 0,.int .i64 0] 168)
 sz:W.heap.size=w.heap.size+1+1+1+1
theorem tkW {w:World}:TkW w ((((w.alloc (.cells #[.int .i32 0,.int .i64 0] 168)).alloc (.cells #[.int .i32 0,.int .i64 0] 168)).alloc (.cells #[.int .i32 0,.int .i64 0] 168)).alloc (.cells #[.int .i32 0,.int .i64 0] 168)):=by
 refine⟨(((ag _ _ _).trans (ag _ _ _)).trans (ag _ _ _)).trans (ag _ _ _),?_,?_,?_,aw (by simp) _,by simp⟩
 .exact((((ag (λ_=>False) _ _).trans (ag _ _ _)).trans (ag _ _ _)).block _ (by simp) (λh=>h)).trans (bj w _)
 .exact(((ag (λ_=>False) _ _).trans (ag _ _ _)).block _ (by simp) (λh=>h)).trans (aw (by simp) _)
 .exact((ag (λ_=>False) _ _).block _ (by simp) (λh=>h)).trans (aw (by simp) _)
def dB (w:World) (r:Nat) (u:V):Prop:=w.heap[r]?=some (.cells #[.int .i32 (xN u),.int .i64 (xO u)] 168)
theorem dB.but {F:Nat->Prop} {w w':World} {r:Nat} {u:V} (h:dB w r u) (hb:But F w w') (hf: ¬F r):dB w' r u:=(hb.block r (ae h) hf).trans h
theorem dB.parts {w:World} {r:Nat} {u:V} (h:dB w r u):w.cell? ⟨r,0,none⟩=some (.int .i32 (xN u))/\w.cell? ⟨r,1,none⟩=some (.int .i64 (xO u))/\w.frozen? ⟨r,0,none⟩=false/\w.frozen? ⟨r,1,none⟩=false/\r<w.heap.size:=
 ⟨by rw[bU w r 0 _ _ (0,0) h];rfl,by rw[bU w r 1 _ _ (0,0) h];rfl,cw w r 0 _ _ h,cw w r 1 _ _ h,ae h⟩
theorem dB.put {w:World} {r:Nat} {u:V} (h:dB w r u) (v:V):dB ((w.setCell ⟨r,0,none⟩ (.int .i32 (xN v))).setCell ⟨r,1,none⟩ (.int .i64 (xO v))) r v:=bS _ r 1 _ _ _ (bS _ r 0 _ _ _ h)
theorem dB.aside {w:World} {r q:Nat} {u v:V} (h:dB w r u) (hne: ¬r=q):dB ((w.setCell ⟨q,0,none⟩ (.int .i32 (xN v))).setCell ⟨q,1,none⟩ (.int .i64 (xO v))) r u:=h.but ((aq w q 0 _).trans (aq _ q 1 _)) hne
section
variable (w:World) (fb d pc bl base:Nat) (ca:Option Nat) (X:bK) (vl vi ts sv:Value) (zv:List V)
theorem qV {a:Act} {W:World} {u v:V} {k:Nat} {Rr:Ending->World->Prop} {fn:Func} (hf:fn.results=#[.cell 4 168,.cell 5 168]) (h0:dB W k u) (h1:dB W (k+1) v) (hd:a.defers=[]) (h4:a.tmps.getD 4 undef= .pointer (some ⟨k,0,none⟩)) (h5:a.tmps.getD 5 undef= .pointer (some ⟨k+1,0,none⟩)) (hR:Rr (.returned (.tuple #[aI u,aI v])) W):bodyPost prog fn Rr .ret a W:=
 FZ hf hd h4 h5 h0 h1 hR
theorem EV:Calls prog 141 #[.pointer (some ⟨fb,0,none⟩),.int .i64 0] w λen w'=>en= .returned (.tuple #[aI .z,aI .z])/\B_ w w':=by
 have HT:=hid (tkW (w:=w))
 go_in
 go_wp2_with fail;revert HT;generalize ((((w.alloc (.cells #[.int .i32 0,.int .i64 0] 168)).alloc (.cells #[.int .i32 0,.int .i64 0] 168)).alloc (.cells #[.int .i32 0,.int .i64 0] 168)).alloc (.cells #[.int .i32 0,.int .i64 0] 168))=W;intro HT;have b:=HT.out;have v0:dB W w.heap.size .z:=b.b0;have v1:dB W (w.heap.size+1) .z:=b.b1;have v2:dB W (w.heap.size+1+1) .z:=b.b2;have y:dB W (w.heap.size+1+1+1) .z:=b.b3;obtain⟨i,j,_,_,q⟩:=v2.parts;obtain⟨l,m,_,_,r⟩:=y.parts;simp only[xN,xO]at i j l m;have C:=b.sz;have c:But (λk=>k=w.heap.size\/k=w.heap.size+1) W W.drew:=aD _ _;have s: ¬(w.heap.size+1+1=w.heap.size\/w.heap.size+1+1=w.heap.size+1):=by omega
 have t: ¬(w.heap.size+1+1+1=w.heap.size\/w.heap.size+1+1+1=w.heap.size+1):=by omega
 refine aF (But (λk=>k=w.heap.size\/k=w.heap.size+1) W) 4 ?_
 iterate 2 (refine aN (v:=?_) rfl c ?_ ?_;rotate_left;(focus (intro wS h;have E:=((h.cell (p:=⟨w.heap.size+1+1,0,none⟩) q s).trans i);have F:=((h.cell (p:=⟨w.heap.size+1+1,1,none⟩) q s).trans j);have G:=((h.cell (p:=⟨w.heap.size+1+1+1,0,none⟩) r t).trans l);have H:=((h.cell (p:=⟨w.heap.size+1+1+1,1,none⟩) r t).trans m);clear h;go_simp;try rfl));dsimp only[Act.put];try simp only[bW])
 have n:=v0.but (aD (λ_=>False) W) (λh=>h);have x:=v1.but (aD (λ_=>False) W) (λh=>h);clear i j l m v0 v1 v2 y;generalize W.drew=Y at*;obtain⟨f,g,A,B,m0⟩:=n.parts;simp only[xN,xO]at f g;refine au rfl ?_;intro KS hKS;go_simp;have a:But (λk=>k=w.heap.size\/k=w.heap.size+1) W ((Y.setCell ⟨w.heap.size,0,none⟩ (.int .i32 0)).setCell ⟨w.heap.size,1,none⟩ (.int .i64 0)):=c.trans (((aq Y w.heap.size 0 _).trans (aq _ w.heap.size 1 _)).mono (λk _ e=>Or.inl e));have x0:dB ((Y.setCell ⟨w.heap.size,0,none⟩ (.int .i32 0)).setCell ⟨w.heap.size,1,none⟩ (.int .i64 0)) w.heap.size .z:=n.put .z;have x1:dB ((Y.setCell ⟨w.heap.size,0,none⟩ (.int .i32 0)).setCell ⟨w.heap.size,1,none⟩ (.int .i64 0)) (w.heap.size+1) .z:=x.aside (v:= .z) (by omega)
 refine hKS.out _ _ (λ_=>a) ?_;clear hKS KS n x f g A B;revert a x0 x1;generalize ((Y.setCell ⟨w.heap.size,0,none⟩ (.int .i32 0)).setCell ⟨w.heap.size,1,none⟩ (.int .i64 0))=Z;intro a x0 x1;obtain⟨f,g,A,B,D⟩:=x1.parts;simp only[xN,xO]at f g;refine au rfl ?_;intro KS hKS;go_simp;have d:But (λk=>k=w.heap.size\/k=w.heap.size+1) W ((Z.setCell ⟨w.heap.size+1,0,none⟩ (.int .i32 0)).setCell ⟨w.heap.size+1,1,none⟩ (.int .i64 0)):=a.trans (((aq Z (w.heap.size+1) 0 _).trans (aq _ (w.heap.size+1) 1 _)).mono (λk _ e=>Or.inr e));refine hKS.out _ _ (λ_=>d) ?_;clear hKS KS;refine aK rfl ?_;go_wp2_with fail
 exact qV results141 (x0.aside (v:= .z) (by omega)) (x1.put .z) rfl rfl rfl ⟨rfl,b.but.next d (λk hk e=>by omega)⟩
theorem EW (h:FbB w fb ca d X vl vi ts pc bl sv) (ho:w.ownsRow base 168 2 sv zv.length (az zv)) (hl:1<=zv.length) (h4:zv.length<=4000):
  Calls prog 141 #[.pointer (some ⟨fb,0,none⟩),.int .i64 1] w λen w'=>en= .returned (.tuple #[aI (dv zv),aI .z])/\But (· =fb) w w'/\ ∃sv',FbB w' fb ca d X vl vi ts pc bl sv'/\w'.ownsRow base 168 2 sv' (dp zv).length (az (dp zv))/\sv'.ownBlock=sv.ownBlock:=by
 have x:=hid ho;have HT:=hid (tkW (w:=w));have I:=hid (λ(Y:World) (hY:B_ w Y)=>l8 Y fb d pc bl base ca X vl vi ts sv zv (h.but hY (λh=>h)) (ah ho hY (λ_ _ h=>h)) (by omega) h4);have a0:=h.lt;clear h ho
 go_in
 go_wp2_with fail;revert HT;generalize ((((w.alloc (.cells #[.int .i32 0,.int .i64 0] 168)).alloc (.cells #[.int .i32 0,.int .i64 0] 168)).alloc (.cells #[.int .i32 0,.int .i64 0] 168)).alloc (.cells #[.int .i32 0,.int .i64 0] 168))=W0;intro HT;have l:=HT.out;have a1:=l.sz;refine(I.out W0 l.but).mono ?_;rintro en w1 ⟨rfl,a,G,c,f,n⟩;clear I;obtain⟨tv,r⟩: ∃tv,dv zv=tv:=⟨_,rfl⟩;rw[r];have C:=hid r;clear r;have v0:dB w1 w.heap.size .z:=dB.but l.b0 a (by omega);have v1:dB w1 (w.heap.size+1) .z:=dB.but l.b1 a (by omega);have s:dB w1 (w.heap.size+1+1) .z:=dB.but l.b2 a (by omega);have t:dB w1 (w.heap.size+1+1+1) .z:=dB.but l.b3 a (by omega)
 obtain⟨r0,S,z0,z1,D⟩:=s.parts;simp only[xN,xO]at r0 S;simp only[aI];go_wp2_with fail;have v2:=s.put tv;have b:But (λk=>k=w.heap.size+1+1) w1 ((w1.setCell ⟨w.heap.size+1+1,0,none⟩ (.int .i32 (xN tv))).setCell ⟨w.heap.size+1+1,1,none⟩ (.int .i64 (xO tv))):=(aq w1 _ 0 _).trans (aq _ _ 1 _);have m:But (· =fb) w ((w1.setCell ⟨w.heap.size+1+1,0,none⟩ (.int .i32 (xN tv))).setCell ⟨w.heap.size+1+1,1,none⟩ (.int .i64 (xO tv))):=((l.but.mono (λ_ _ h=>h.elim)).trans a).next b (λk hk e=>by omega);replace v0:=v0.aside (v:=tv) (q:=w.heap.size+1+1) (by omega);replace v1:=v1.aside (v:=tv) (q:=w.heap.size+1+1) (by omega)
 replace t:=t.aside (v:=tv) (q:=w.heap.size+1+1) (by omega);replace c:=c.but b (by omega);replace f:=ah f b (λg hg e=>by have:=bB x.out g (n▸hg);omega);clear r0 S z0 z1 D s a l HT;revert v2 b m v0 v1 t c f;generalize ((w1.setCell ⟨w.heap.size+1+1,0,none⟩ (.int .i32 (xN tv))).setCell ⟨w.heap.size+1+1,1,none⟩ (.int .i64 (xO tv)))=W;intro v2 b m v0 v1 t c f;obtain⟨J,L,_,_,M⟩:=v2.parts;obtain⟨E,F,_,_,O⟩:=t.parts;simp only[xN,xO]at E F;have y:But (λk=>k=w.heap.size\/k=w.heap.size+1) W W.drew:=aD _ _;have P: ¬(w.heap.size+1+1=w.heap.size\/w.heap.size+1+1=w.heap.size+1):=by omega
 have Q: ¬(w.heap.size+1+1+1=w.heap.size\/w.heap.size+1+1+1=w.heap.size+1):=by omega
 refine aF (But (λk=>k=w.heap.size\/k=w.heap.size+1) W) 4 ?_
 iterate 2 (refine aN (v:=?_) rfl y ?_ ?_;rotate_left;(focus (intro wS h;have q0:=((h.cell (p:=⟨w.heap.size+1+1,0,none⟩) M P).trans J);have q1:=((h.cell (p:=⟨w.heap.size+1+1,1,none⟩) M P).trans L);have q2:=((h.cell (p:=⟨w.heap.size+1+1+1,0,none⟩) O Q).trans E);have q3:=((h.cell (p:=⟨w.heap.size+1+1+1,1,none⟩) O Q).trans F);clear h;go_simp;try rfl));dsimp only[Act.put];try simp only[bW])
 have H:=v0.but (aD (λ_=>False) W) (λh=>h);have T:=v1.but (aD (λ_=>False) W) (λh=>h);clear J L E F v0 v1 v2 t;generalize W.drew=Y at*;obtain⟨A,B,y2,y3,m0⟩:=H.parts;simp only[xN,xO]at A B;refine au rfl ?_;intro KS hKS;go_simp;have i:But (λk=>k=w.heap.size\/k=w.heap.size+1) W ((Y.setCell ⟨w.heap.size,0,none⟩ (.int .i32 (xN tv))).setCell ⟨w.heap.size,1,none⟩ (.int .i64 (xO tv))):=y.trans (((aq Y w.heap.size 0 _).trans (aq _ w.heap.size 1 _)).mono (λk _ e=>Or.inl e));have x0:dB ((Y.setCell ⟨w.heap.size,0,none⟩ (.int .i32 (xN tv))).setCell ⟨w.heap.size,1,none⟩ (.int .i64 (xO tv))) w.heap.size tv:=H.put tv
 have x1:dB ((Y.setCell ⟨w.heap.size,0,none⟩ (.int .i32 (xN tv))).setCell ⟨w.heap.size,1,none⟩ (.int .i64 (xO tv))) (w.heap.size+1) .z:=T.aside (v:=tv) (by omega);refine hKS.out _ _ (λ_=>i) ?_;clear hKS KS H T A B y2 y3;revert i x0 x1;generalize ((Y.setCell ⟨w.heap.size,0,none⟩ (.int .i32 (xN tv))).setCell ⟨w.heap.size,1,none⟩ (.int .i64 (xO tv)))=Z;intro i x0 x1;obtain⟨A,B,y2,y3,m1⟩:=x1.parts;simp only[xN,xO]at A B;refine au rfl ?_;intro KS hKS;go_simp;have j:But (λk=>k=w.heap.size\/k=w.heap.size+1) W ((Z.setCell ⟨w.heap.size+1,0,none⟩ (.int .i32 0)).setCell ⟨w.heap.size+1,1,none⟩ (.int .i64 0)):=i.trans (((aq Z (w.heap.size+1) 0 _).trans (aq _ (w.heap.size+1) 1 _)).mono (λk _ e=>Or.inr e))
 refine hKS.out _ _ (λ_=>j) ?_;clear hKS KS;refine aK rfl ?_;go_wp2_with fail;exact qV results141 (x0.aside (v:= .z) (by omega)) (x1.put .z) rfl rfl rfl ⟨by rw[C.out],m.next j (λk hk e=>by omega),G,c.but j (by omega),ah f j (λg hg e=>by have:=bB x.out g (n▸hg);omega),n⟩
theorem EX (h:FbB w fb ca d X vl vi ts pc bl sv) (ho:w.ownsRow base 168 2 sv zv.length (az zv)) (hl:2<=zv.length) (h4:zv.length<=4000):
  Calls prog 141 #[.pointer (some ⟨fb,0,none⟩),.int .i64 2] w λen w'=>en= .returned (.tuple #[aI (kK zv),aI (dv zv)])/\But (· =fb) w w'/\ ∃sv',FbB w' fb ca d X vl vi ts pc bl sv'/\w'.ownsRow base 168 2 sv' (iA zv).length (az (iA zv))/\sv'.ownBlock=sv.ownBlock:=by
 have A:=hid ho;have HT:=hid (tkW (w:=w));have HK:=hid (λ(Y:World) (hY:B_ w Y)=>l8 Y fb d pc bl base ca X vl vi ts sv zv (h.but hY (λh=>h)) (ah ho hY (λ_ _ h=>h)) (by omega) h4);have a0:=h.lt;clear h ho
 go_in
 go_wp2_with fail;revert HT;generalize ((((w.alloc (.cells #[.int .i32 0,.int .i64 0] 168)).alloc (.cells #[.int .i32 0,.int .i64 0] 168)).alloc (.cells #[.int .i32 0,.int .i64 0] 168)).alloc (.cells #[.int .i32 0,.int .i64 0] 168))=W0;intro HT;have y:=HT.out;have a2:=y.sz;refine(HK.out W0 y.but).mono ?_;rintro en w1 ⟨rfl,b,T,c,f,I⟩;clear HK;obtain⟨tv,E⟩: ∃tv,dv zv=tv:=⟨_,rfl⟩;rw[E];have Q:=hid E;clear E;have v0:dB w1 w.heap.size .z:=dB.but y.b0 b (by omega);have v1:dB w1 (w.heap.size+1) .z:=dB.but y.b1 b (by omega);have a:dB w1 (w.heap.size+1+1) .z:=dB.but y.b2 b (by omega);have G:dB w1 (w.heap.size+1+1+1) .z:=dB.but y.b3 b (by omega)
 obtain⟨r0,M,z0,z1,D⟩:=G.parts;simp only[xN,xO]at r0 M;simp only[aI];have s:=G.put tv;have m:But (λk=>k=w.heap.size+1+1+1) w1 ((w1.setCell ⟨w.heap.size+1+1+1,0,none⟩ (.int .i32 (xN tv))).setCell ⟨w.heap.size+1+1+1,1,none⟩ (.int .i64 (xO tv))):=(aq w1 _ 0 _).trans (aq _ _ 1 _);have l:But (· =fb) w ((w1.setCell ⟨w.heap.size+1+1+1,0,none⟩ (.int .i32 (xN tv))).setCell ⟨w.heap.size+1+1+1,1,none⟩ (.int .i64 (xO tv))):=((y.but.mono (λ_ _ h=>h.elim)).trans b).next m (λk hk e=>by omega);replace v0:=v0.aside (v:=tv) (q:=w.heap.size+1+1+1) (by omega);replace v1:=v1.aside (v:=tv) (q:=w.heap.size+1+1+1) (by omega)
 replace a:=a.aside (v:=tv) (q:=w.heap.size+1+1+1) (by omega);replace c:=c.but m (by omega);replace f:=ah f m (λg hg e=>by have:=bB A.out g (I▸hg);omega);go_wp2_with fail;clear r0 M z0 z1 D G b y HT;revert s m l v0 v1 a c f;generalize ((w1.setCell ⟨w.heap.size+1+1+1,0,none⟩ (.int .i32 (xN tv))).setCell ⟨w.heap.size+1+1+1,1,none⟩ (.int .i64 (xO tv)))=W1;intro s m l v0 v1 a c f;have a1:=AS zv;refine(l8 W1 fb d pc bl base ca X vl vi ts T (dp zv) c f (by omega) (by omega)).mono ?_;rintro en w2 ⟨rfl,j,sv2,r,i,J⟩;rw[xX (by omega)];rw[wb]at i;have C:=J.trans I;obtain⟨uv,F⟩: ∃uv,kK zv=uv:=⟨_,rfl⟩;rw[F]
 have S:=hid F;clear F c f;replace v0:=v0.but j (by omega);replace v1:=v1.but j (by omega);replace a:=a.but j (by omega);replace s:=s.but j (by omega);have H:=l.trans j;obtain⟨r0,M,z0,z1,D⟩:=a.parts;simp only[xN,xO]at r0 M;simp only[aI];have v2:=a.put uv;have n:But (λk=>k=w.heap.size+1+1) w2 ((w2.setCell ⟨w.heap.size+1+1,0,none⟩ (.int .i32 (xN uv))).setCell ⟨w.heap.size+1+1,1,none⟩ (.int .i64 (xO uv))):=(aq w2 _ 0 _).trans (aq _ _ 1 _);have B:But (· =fb) w ((w2.setCell ⟨w.heap.size+1+1,0,none⟩ (.int .i32 (xN uv))).setCell ⟨w.heap.size+1+1,1,none⟩ (.int .i64 (xO uv))):=H.next n (λk hk e=>by omega)
 replace v0:=v0.aside (v:=uv) (q:=w.heap.size+1+1) (by omega);replace v1:=v1.aside (v:=uv) (q:=w.heap.size+1+1) (by omega);replace s:=s.aside (v:=uv) (q:=w.heap.size+1+1) (by omega);replace r:=r.but n (by omega);replace i:=ah i n (λg hg e=>by have:=bB A.out g (C▸hg);omega);go_wp2_with fail;clear r0 M z0 z1 D a;revert v2 n B v0 v1 s r i;generalize ((w2.setCell ⟨w.heap.size+1+1,0,none⟩ (.int .i32 (xN uv))).setCell ⟨w.heap.size+1+1,1,none⟩ (.int .i64 (xO uv)))=W;intro v2 n B v0 v1 s r i;obtain⟨i0,i1,_,_,m2⟩:=v2.parts;obtain⟨j0,j1,_,_,m3⟩:=s.parts;have L:But (λk=>k=w.heap.size\/k=w.heap.size+1) W W.drew:=aD _ _
 have n2: ¬(w.heap.size+1+1=w.heap.size\/w.heap.size+1+1=w.heap.size+1):=by omega
 have n3: ¬(w.heap.size+1+1+1=w.heap.size\/w.heap.size+1+1+1=w.heap.size+1):=by omega
 refine aF (But (λk=>k=w.heap.size\/k=w.heap.size+1) W) 4 ?_
 iterate 2 (refine aN (v:=?_) rfl L ?_ ?_;rotate_left;(focus (intro wS h;have q0:=((h.cell (p:=⟨w.heap.size+1+1,0,none⟩) m2 n2).trans i0);have q1:=((h.cell (p:=⟨w.heap.size+1+1,1,none⟩) m2 n2).trans i1);have q2:=((h.cell (p:=⟨w.heap.size+1+1+1,0,none⟩) m3 n3).trans j0);have q3:=((h.cell (p:=⟨w.heap.size+1+1+1,1,none⟩) m3 n3).trans j1);clear h;go_simp;try rfl));dsimp only[Act.put];try simp only[bW])
 have u0:=v0.but (aD (λ_=>False) W) (λh=>h);have u1:=v1.but (aD (λ_=>False) W) (λh=>h);clear i0 i1 j0 j1 v0 v1 v2 s;generalize W.drew=Y at*;obtain⟨O,P,y2,y3,m0⟩:=u0.parts;simp only[xN,xO]at O P;refine au rfl ?_;intro KS hKS;go_simp;have t:But (λk=>k=w.heap.size\/k=w.heap.size+1) W ((Y.setCell ⟨w.heap.size,0,none⟩ (.int .i32 (xN uv))).setCell ⟨w.heap.size,1,none⟩ (.int .i64 (xO uv))):=L.trans (((aq Y w.heap.size 0 _).trans (aq _ w.heap.size 1 _)).mono (λk _ e=>Or.inl e));have x0:dB ((Y.setCell ⟨w.heap.size,0,none⟩ (.int .i32 (xN uv))).setCell ⟨w.heap.size,1,none⟩ (.int .i64 (xO uv))) w.heap.size uv:=u0.put uv
 have x1:dB ((Y.setCell ⟨w.heap.size,0,none⟩ (.int .i32 (xN uv))).setCell ⟨w.heap.size,1,none⟩ (.int .i64 (xO uv))) (w.heap.size+1) .z:=u1.aside (v:=uv) (by omega);refine hKS.out _ _ (λ_=>t) ?_;clear hKS KS u0 u1 O P y2 y3;revert t x0 x1;generalize ((Y.setCell ⟨w.heap.size,0,none⟩ (.int .i32 (xN uv))).setCell ⟨w.heap.size,1,none⟩ (.int .i64 (xO uv)))=Z;intro t x0 x1;obtain⟨O,P,y2,y3,m1⟩:=x1.parts;simp only[xN,xO]at O P;refine au rfl ?_;intro KS hKS;go_simp;have x:But (λk=>k=w.heap.size\/k=w.heap.size+1) W ((Z.setCell ⟨w.heap.size+1,0,none⟩ (.int .i32 (xN tv))).setCell ⟨w.heap.size+1,1,none⟩ (.int .i64 (xO tv))):=t.trans (((aq Z (w.heap.size+1) 0 _).trans (aq _ (w.heap.size+1) 1 _)).mono (λk _ e=>Or.inr e))
 refine hKS.out _ _ (λ_=>x) ?_;clear hKS KS;refine aK rfl ?_;go_wp2_with fail;exact qV results141 (x0.aside (v:=tv) (by omega)) (x1.put tv) rfl rfl rfl ⟨by rw[Q.out,S.out],B.next x (λk hk e=>by omega),sv2,r.but x (by omega),ah i x (λg hg e=>by have:=bB A.out g (C▸hg);omega),C⟩
end
theorem nF: ¬False:=λh=>h
section
variable (w:World) (fb d pc bl base:Nat) (ca:Option Nat) (X:bK) (vl vi ts sv:Value) (zv:List V)
theorem CC (h:FbB w fb ca d X vl vi ts pc bl sv) (hi:ItB w base vi X.items) (x:XIt) (hx:X.items[pc]?=some x) (h4:X.items.length<=100):
  Calls prog 139 #[.pointer (some ⟨fb,0,none⟩)] w λen w'=>en= .returned (cR x)/\B_ w w':=by
 obtain⟨a,cap,rfl⟩:=aA hi;have H:pc<X.items.length:=(bn hx).1;obtain⟨g,rfl,i,G,b⟩:=aL hi (by omega);have r:w.cell? ⟨g,pc*5,none⟩=some (.int .i64 x.place):=b _ _ (aW (k:=0) hx (by omega));have s:w.cell? ⟨g,pc*5+1,none⟩=some (.int .u8 x.op.toNat):=b _ _ (aW (k:=1) hx (by omega));have t:w.cell? ⟨g,pc*5+2,none⟩=some (.int .u8 x.cls.toNat):=b _ _ (aW (k:=2) hx (by omega));have y:w.cell? ⟨g,pc*5+3,none⟩=some (.int .i64 x.num):=b _ _ (aW (k:=3) hx (by omega));have z:w.cell? ⟨g,pc*5+4,none⟩=some (.slice x.pa x.pn x.pc):=b _ _ (aW (k:=4) hx (by omega));have b0:=h.body.2.2.2.2;have c8:=h.c8;have q:=h.lt
 have n0: ¬((pc:Int)<0):=by omega
 have n1: ¬((X.items.length:Int)<=(pc:Int)):=by omega
 have n2:(0:Int)<=(pc:Int):=by omega
 have n3:(pc:Int)<(X.items.length:Int):=by omega
 clear h hi b hx;generalize X.items.length=L at*;have A:=hid (bj w (.cells #[.int .i64 0,.int .u8 0,.int .u8 0,.int .i64 0,S_] 219));have B:=hid (ag (λ_=>False) w (.cells #[.int .i64 0,.int .u8 0,.int .u8 0,.int .i64 0,S_] 219))
 go_in
 go_wp2_with fail;revert A B;generalize (w.alloc (.cells #[.int .i64 0,.int .u8 0,.int .u8 0,.int .i64 0,S_] 219))=W;intro A B;have D:=A.out;have l:=B.out;have hz:=l.size;have m:fb<W.heap.size:=by omega
 have j:g<W.heap.size:=by omega
 replace r:=l.kc r i;replace s:=l.kc s i;replace t:=l.kc t i;replace y:=l.kc y i;replace z:=l.kc z i;replace b0:=l.kc b0 q;replace c8:=l.kc c8 q;have f:B_ W W.drew:=aD _ _;refine aF (B_ W) 18 ?_
 iterate 18 (refine aN (v:=?_) rfl f ?_ ?_;rotate_left;(focus (intro wS h;have r:=((h.cell (p:=⟨fb,8,none⟩) m nF).trans c8);have s:=((h.cell (p:=⟨fb,6,none⟩) m nF).trans b0);clear h;go_simp;try rfl));dsimp only[Act.put];try simp only[bW])
 refine aK rfl ?_;clear f;have n:B_ W W.drew:=aD _ _;have C:=hid n;clear n;go_wp2_with fail;have f:B_ W W.drew.drew:=C.out.trans (aD _ _);clear C;refine aF (B_ W) 11 ?_
 iterate 11 (refine aN (v:=?_) rfl f ?_ ?_;rotate_left;(focus (intro wS h;have Q0:=((h.cell (p:=⟨fb,8,none⟩) m nF).trans c8);have Q1:=((h.cell (p:=⟨fb,6,none⟩) m nF).trans b0);have Q2:=((h.cell (p:=⟨g,pc*5,none⟩) j nF).trans r);have Q3:=((h.cell (p:=⟨g,pc*5+1,none⟩) j nF).trans s);have Q4:=((h.cell (p:=⟨g,pc*5+2,none⟩) j nF).trans t);have Q5:=((h.cell (p:=⟨g,pc*5+3,none⟩) j nF).trans y);have Q6:=((h.cell (p:=⟨g,pc*5+4,none⟩) j nF).trans z);clear h;go_simp;try rfl));dsimp only[Act.put];try simp only[bW])
 have c:=(f.block w.heap.size (ae D) nF).trans D;clear r s t y z b0 c8;generalize W.drew.drew=Y at*;have F:=ae c;have I:=ce0 c;have J:=ce1 c;have M:=ce2 c;have O:=ce3 c;have P:=ce4 c;have Q:=cw Y w.heap.size 0 _ _ c;have S:=cw Y w.heap.size 1 _ _ c;have T:=cw Y w.heap.size 2 _ _ c;have Z:=cw Y w.heap.size 3 _ _ c;have z4:=cw Y w.heap.size 4 _ _ c;refine au rfl ?_;intro KS hKS;go_simp;refine hKS.out _ _ nofun ?_;clear hKS KS;refine aK rfl ?_;clear I J M O P Q S T Z z4;go_wp2_with fail
 have E:But (· =w.heap.size) Y (((((Y.setCell ⟨w.heap.size,0,none⟩ (.int .i64 x.place)).setCell ⟨w.heap.size,1,none⟩ (.int .u8 x.op.toNat)).setCell ⟨w.heap.size,2,none⟩ (.int .u8 x.cls.toNat)).setCell ⟨w.heap.size,3,none⟩ (.int .i64 x.num)).setCell ⟨w.heap.size,4,none⟩ (.slice x.pa x.pn x.pc)):=
  ((((aq _ _ _ _).trans (aq _ _ _ _)).trans (aq _ _ _ _)).trans (aq _ _ _ _)).trans (aq _ _ _ _)
 exact FR results139 rfl rfl (bS _ _ 4 _ _ _ (bS _ _ 3 _ _ _ (bS _ _ 2 _ _ _ (bS _ _ 1 _ _ _ (bS _ _ 0 _ _ _ c))))) ⟨rfl,(l.trans f).next E (λk hk e=>by omega)⟩
theorem EY (h:FbB w fb ca d X vl vi ts pc bl sv) (n:Nat) (o:Int):
  Calls prog 144 #[.pointer (some ⟨fb,0,none⟩),.int .i64 n,.agg #[.int .i32 0,.int .i64 o]] w λen w'=>en= .returned (.tuple #[])/\But (· =fb) w w'/\FbB w' fb ca d X vl vi ts n bl sv:=by
 have c8:=h.c8;have e:=h.fz 8;have c:=h.lt;have a:=hid h;clear h;have b:fb<w.heap.size+1:=by omega
 go_in
 go_wp2_with fail;go_end0;exact⟨rfl,((aq _ _ _ _).trans (ag _ _ _)),(a.out.set8 n).but (ag (λ_=>False) _ _) nF⟩
theorem EZ (h:FbB w fb ca d X vl vi ts pc bl sv) (hp:pc<=1000) (n:Nat) (c o:Int) (hc:c≠0):
  Calls prog 144 #[.pointer (some ⟨fb,0,none⟩),.int .i64 n,.agg #[.int .i32 c,.int .i64 o]] w λen w'=>en= .returned (.tuple #[])/\But (· =fb) w w'/\FbB w' fb ca d X vl vi ts (pc+1) bl sv:=by
 have c8:=h.c8;have g:=h.fz 8;have e:=h.lt;have a:=hid h;have f:=dV ((pc:Int)+1) (by omega) (by omega);clear h;have b:fb<w.heap.size+1:=by omega
 go_in
 go_wp2_with fail;go_end0;exact⟨rfl,((aq _ _ _ _).trans (ag _ _ _)),(a.out.set8 (pc+1)).but (ag (λ_=>False) _ _) nF⟩
end
def MbB (w:World) (mb tx:Nat) (tv:Value) (bw cells:Nat) (cur:Option Nat) (ans:Int):Prop:=
 w.heap[mb]?=some (.cells #[.pointer (some ⟨tx,0,none⟩),tv,.pointer (some ⟨bw,0,none⟩),.int .i64 cells,kA cur,.int .i32 ans] 157)
section
variable {w:World} {mb tx bw cells:Nat} {tv:Value} {cur:Option Nat} {ans:Int}
theorem MbB.lt (h:MbB w mb tx tv bw cells cur ans):mb<w.heap.size:=ae h
theorem MbB.c0 (h:MbB w mb tx tv bw cells cur ans):w.cell? ⟨mb,0,none⟩=some (.pointer (some ⟨tx,0,none⟩)):=ce0 h
theorem MbB.c1 (h:MbB w mb tx tv bw cells cur ans):w.cell? ⟨mb,1,none⟩=some tv:=ce1 h
theorem MbB.c2 (h:MbB w mb tx tv bw cells cur ans):w.cell? ⟨mb,2,none⟩=some (.pointer (some ⟨bw,0,none⟩)):=ce2 h
theorem MbB.c3 (h:MbB w mb tx tv bw cells cur ans):w.cell? ⟨mb,3,none⟩=some (.int .i64 cells):=ce3 h
theorem MbB.c4 (h:MbB w mb tx tv bw cells cur ans):w.cell? ⟨mb,4,none⟩=some (kA cur):=ce4 h
theorem MbB.c5 (h:MbB w mb tx tv bw cells cur ans):w.cell? ⟨mb,5,none⟩=some (.int .i32 ans):=ce5 h
theorem MbB.fz (h:MbB w mb tx tv bw cells cur ans) (j:Nat):w.frozen? ⟨mb,j,none⟩=false:=cw w mb j _ _ h
theorem MbB.but {F:Nat->Prop} {w':World} (h:MbB w mb tx tv bw cells cur ans) (hb:But F w w') (hf: ¬F mb):MbB w' mb tx tv bw cells cur ans:=(hb.block mb h.lt hf).trans h
theorem MbB.set4 (h:MbB w mb tx tv bw cells cur ans) (o:Option Nat):MbB (w.setCell ⟨mb,4,none⟩ (kA o)) mb tx tv bw cells o ans:=bS w mb 4 _ _ _ h
theorem MbB.set5 (h:MbB w mb tx tv bw cells cur ans) (n:Int):MbB (w.setCell ⟨mb,5,none⟩ (.int .i32 n)) mb tx tv bw cells cur n:=bS w mb 5 _ _ _ h
theorem MbB.off {fb d pc bl:Nat} {ca:Option Nat} {X:bK} {vl vi ts sv:Value} (h:MbB w mb tx tv bw cells cur ans) (hf:FbB w fb ca d X vl vi ts pc bl sv):mb≠fb:=bL h hf (by decide)
end
section
variable (w:World) (mb tx bw cells fb d pc bl:Nat) (tv:Value) (ans:Int) (X:bK) (vl vi ts sv:Value)
/--The main body ends. -/
theorem CD (h:MbB w mb tx tv bw cells (some fb) ans) (hf:FbB w fb none d X vl vi ts pc bl sv) (n o:Int):
  Calls prog 143 #[.pointer (some ⟨mb,0,none⟩),.agg #[.int .i32 n,.int .i64 o]] w λen w'=>en= .returned (.tuple #[])/\But (· =mb) w w'/\MbB w' mb tx tv bw cells none n:=by
 have b:=ag (λ_=>False) w (.cells #[.int .i32 n,.int .i64 o] 168);have c4:w.cell? ⟨mb,4,none⟩=some (.pointer (some ⟨fb,0,none⟩)):=h.c4;have j:w.cell? ⟨fb,0,none⟩=some (.pointer none):=hf.c0;have c5:=h.c5;have k:=h.fz 4;have l:=h.fz 5;have g:=h.lt;have e:=hf.lt;have a:=hid h;have f:mb<w.heap.size+1:=by omega
 have c:fb<w.heap.size+1:=by omega
 have i: ¬w.heap.size=mb:=by omega
 clear h hf b
 go_in
 go_wp2_with fail;exact wL results143 rfl ⟨rfl,((aq _ _ _ _).trans (aq _ _ _ _)).trans (ag _ _ _),((a.out.set4 none).set5 n).but (ag (λ_=>False) _ _) nF⟩
theorem fq (l:List V) (u:V):az (l++ [u])=az l++ [.int .i32 (xN u),.int .i64 (xO u)]:=by simp[az,ka]
variable (cb d2 p2 bl2 base:Nat) (c2:Option Nat) (X2:bK) (vl2 vi2 ts2 sv2:Value) (zv:List V)
/--Another body than the main one ends. -/
theorem E0 (h:MbB w mb tx tv bw cells (some fb) ans) (hf:FbB w fb (some cb) d X vl vi ts pc bl sv) (hc:FbB w cb c2 d2 X2 vl2 vi2 ts2 p2 bl2 sv2) (ho:w.ownsRow base 168 2 sv2 zv.length (az zv)) (h4:zv.length<=4000) (hp:p2<=1000) (hbase:base<=w.heap.size) (u:V):
  Calls prog 143 #[.pointer (some ⟨mb,0,none⟩),aI u] w λen w'=>en= .returned (.tuple #[])/\But (λk=>k=mb\/k=cb\/sv2.ownBlock=some k) w w'/\MbB w' mb tx tv bw cells (some cb) ans/\
   ∃sv',FbB w' cb c2 d2 X2 vl2 vi2 ts2 (p2+1) bl2 sv'/\w'.ownsRow base 168 2 sv' (zv++ [u]).length (az (zv++ [u]))/\(sv'.ownBlock=sv2.ownBlock\/ ∃k,sv'.ownBlock=some k/\w.heap.size<=k):=by
 obtain⟨i0,P,Q,S,T⟩:=info_parts jr;obtain⟨z,a,rfl⟩:=aA ho;have e4:w.cell? ⟨mb,4,none⟩=some (.pointer (some ⟨fb,0,none⟩)):=h.c4;have f0:w.cell? ⟨fb,0,none⟩=some (.pointer (some ⟨cb,0,none⟩)):=hf.c0;have z4:=h.fz 4;have a7:=h.lt;have a5:=hf.lt;have a6:mb<w.heap.size+1:=by omega
 have a4:fb<w.heap.size+1:=by omega
 have Z:=hid (h.set4 (some cb));have Y:=hid (hc.but (aq w mb 4 (kA (some cb))) (h.off hc).symm);have HO:=hid (ah ho (aq w mb 4 (kA (some cb))) (λg hg e=>aE ho h (by decide) (e▸hg)));have HF:=hid ho;have F: ∀k,(Value.slice z zv.length a).ownBlock=some k->k≠mb/\k≠cb:=λk hk=>⟨λe=>aE ho h (by decide) (e▸hk),λe=>aE ho hc (by decide) (e▸hk)⟩
 have I:=h.off hc;have hcl:=hc.lt;clear h hf hc ho;simp only[aI]
 go_in
 go_wp2_with fail;have r:=Z.out.but (ag (λ_=>False) _ (.cells #[.int .i32 (xN u),.int .i64 (xO u)] 168)) nF;have f:=Y.out.but (ag (λ_=>False) _ (.cells #[.int .i32 (xN u),.int .i64 (xO u)] 168)) nF;have x:=ah HO.out (ag (λ_=>False) _ (.cells #[.int .i32 (xN u),.int .i64 (xO u)] 168)) (λ_ _=>nF);have l:But (λk=>k=mb) w ((w.setCell ⟨mb,4,none⟩ (kA (some cb))).alloc (.cells #[.int .i32 (xN u),.int .i64 (xO u)] 168)):=(aq _ _ _ _).trans (ag _ _ _);have y:dB ((w.setCell ⟨mb,4,none⟩ (kA (some cb))).alloc (.cells #[.int .i32 (xN u),.int .i64 (xO u)] 168)) w.heap.size u:=aw (by simp[cJ]) _
 clear Z Y HO e4 f0 z4;revert r f x l y;simp only[kA,Option.map_some];generalize ((w.setCell ⟨mb,4,none⟩ (.pointer (some ⟨cb,0,none⟩))).alloc (.cells #[.int .i32 (xN u),.int .i64 (xO u)] 168))=W;intro r f x l y;have B:=f.c10;have H:=f.fz 10;have n:=f.lt;obtain⟨v0,v1,_,_,J⟩:=y.parts;have ac:(Value.slice z zv.length a).ownBlock≠some cb:=λh=>(F _ h).2 rfl
 have av:(Value.slice z zv.length a).ownBlock≠some w.heap.size:=λh=>by have:=bB HF.out _ h;omega
 have am:(Value.slice z zv.length a).ownBlock≠some mb:=λh=>(F _ h).1 rfl
 have M:But (λk=>(Value.slice z zv.length a).ownBlock=some k) W W.drew:=aD _ _;have a3:base<=W.heap.size:=by have:=l.size;omega
 refine aF (But (λk=>(Value.slice z zv.length a).ownBlock=some k) W) 8 ?_
 iterate 6 (refine aN (v:=?_) rfl M ?_ ?_;rotate_left;(focus (intro wS h;have q0:=((h.cell (p:=⟨cb,10,none⟩) n ac).trans B);have q1:=((h.cell (p:=⟨w.heap.size,0,none⟩) J av).trans v0);have q2:=((h.cell (p:=⟨w.heap.size,1,none⟩) J av).trans v1);clear h;go_simp;try rfl));dsimp only[Act.put];try simp only[bW])
 refine au rfl ?_;intro KS hKS;go_simp;refine hKS.out _ _ (λ_=>(ag _ _ _).trans (aD _ _)) ?_;clear hKS KS;refine au rfl ?_;intro KS hKS
 refine step_append_lies _ (by rfl) _ _ _ (by rfl) base 168 i0 _ 2 16 (by kernel_rfl) P Q S T rfl (by omega) _ zv.length (az zv) (by rfl) ((x.alloc _).drew)
    ⟨W.heap.size,0,none⟩ 1 1 [.int .i32 (xN u),.int .i64 (xO u)] (by rfl) (by rfl) (iO (cs:=#[.int .i32 (xN u),.int .i64 (xO u)]) (t:=168) (fr:=(0,0)) (bj W _)) (by simp[Value.oneCell'])
    (by omega) (by unfold maxLen;omega) (by omega) (by simp;omega) (W.heap.size+1) (by simp) ?_
 intro gg b L j q O a1;have i:But (λk=>(Value.slice z zv.length a).ownBlock=some k) W L:=((ag _ _ _).trans (aD _ _)).trans (bD q);refine hKS.out _ _ (λ_=>i) ?_;clear hKS KS;have y0:=(i.cell (p:=⟨cb,10,none⟩) n ac).trans B;have y1:=(i.frozen (p:=⟨cb,10,none⟩) n ac).trans H;refine au rfl ?_;intro KS hKS;go_simp;refine hKS.out _ _ nofun ?_;clear hKS KS;refine au rfl ?_;intro KS hKS;go_simp;refine hKS.out _ _ nofun ?_;clear hKS KS;refine au rfl ?_;intro KS hKS;go_simp;refine hKS.out _ _ nofun ?_;clear hKS KS;refine aK rfl ?_;have m:=f.but i ac;have A:=r.but i am;have c:=m.set10 (.slice (some ⟨gg,0,none⟩) (zv.length+1) b)
 have D:=A.but (aq L cb 10 (.slice (some ⟨gg,0,none⟩) (zv.length+1) b)) I;have s:=ah j (aq L cb 10 (.slice (some ⟨gg,0,none⟩) (zv.length+1) b)) (λg hg e=>aE j m (by decide) (e▸hg));have C:But (λk=>k=mb\/k=cb\/(Value.slice z zv.length a).ownBlock=some k) w (L.setCell ⟨cb,10,none⟩ (.slice (some ⟨gg,0,none⟩) (zv.length+1) b)):=((l.mono (λ_ _ h=>Or.inl h)).trans (i.mono (λ_ _ h=>Or.inr (Or.inr h)))).trans ((aq _ _ _ _).mono (λ_ _ h=>Or.inr (Or.inl h)));clear y0 y1 j q i m A r f x B H v0 v1 y;have b0:=l.size;revert c D s C;generalize (L.setCell ⟨cb,10,none⟩ (.slice (some ⟨gg,0,none⟩) (zv.length+1) b))=W3
 intro c D s C;have c8:=c.c8;have z8:=c.fz 8;have E:=hid c;have G:=hid s;have a8:=dV ((p2:Int)+1) (by omega) (by omega);have a0:=c.lt;clear c s;go_wp2_with fail;go_end0;refine⟨rfl,C.trans ((aq _ _ _ _).mono (λ_ _ h=>Or.inr (Or.inl h))),D.but (aq _ _ _ _) I,.slice (some ⟨gg,0,none⟩) (zv.length+1) b,E.out.set8 (p2+1),?_,?_⟩
 .rw[fq,aV];exact ah G.out (aq _ _ _ _) (λg hg e=>aE G.out E.out (by decide) (e▸hg))
 .obtain h|h:=O
  .exact Or.inl h.symm
  .exact Or.inr ⟨gg,rfl,by omega⟩
end
end
end Go.Proofs.YtpfkkmacakjmbaaGreatDoor
