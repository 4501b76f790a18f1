import Derived.Test.YtpfkkmacakjmbaaGreatDoorP09
set_option maxRecDepth 100000
set_option maxHeartbeats 6400000
set_option linter.all false
namespace Go.Proofs.YtpfkkmacakjmbaaGreatDoor
open Proofs.Tryz
section
open Go Go.RowKit Sp
attribute [local go_sem ↓] eY eZ
theorem vr (l:L_) (k:Nat) (h:k<l.length):(⟨l.toArray⟩:ByteArray).extract k (k+1)=⟨[l.getD k 0].toArray⟩:=by
 apply ByteArray.ext
 rw[ByteArray.data_extract]
 apply Array.ext'
 simp[List.getD,h];rw[List.drop_eq_getElem_cons h]
 rfl
theorem dZ.cls {w:World} {bi:Nat} {im:Img} (h:dZ w bi im):iy w bi im.zq:=by
 obtain⟨v0,v1,v2,l,b,a,_⟩:=h;exact⟨v0,v1,v2,b,a⟩
theorem dZ.sig {w:World} {bi:Nat} {im:Img} (h:dZ w bi im):ym w bi im.zx:=by
 obtain⟨v0,v1,v2,l,b,_,a,_⟩:=h;exact⟨v0,v1,v2,b,a⟩
theorem Bs (bi:Nat) (im:Img) (bd:Bod) (ak:Option Addr) (n capk:Nat) (x:Ins) (e:Nat) (w:World) (hI:dZ w bi im) (hW:dN im) (hbd:ey im.zq im.zx bd) (hx:WfN im.zq im.zx.length bd.zy.length x) (hv:x.op.toNat=43):
  Calls prog 118 #[.pointer (some ⟨bi,0,none⟩),.agg #[.int .i64 bd.cls,.int .i64 bd.meth,.string ⟨bd.zy.toArray⟩,S_,.slice ak n capk],.agg #[.int .u8 x.op.toNat,.int .i64 x.a,.int .i64 x.b,.int .i64 x.pos,.int .i64 e]] w λen w'=>en= .returned (.string ⟨(a9 im.zq im.zx bd.zy x).toArray⟩)/\B_ w w':=by
 rw[show a9 im.zq im.zx bd.zy x=[105,105]from by simp[a9,hv,arith]];have c:((x.op.toNat:Int)==43)=true:=by rw[aX];omega
 clear hv
 go_in
 go_wp2_with fail;go_ret;exact⟨rfl,(aa _ _ _).trans (aa _ _ _)⟩
theorem Bu (bi:Nat) (im:Img) (bd:Bod) (ak:Option Addr) (n capk:Nat) (x:Ins) (e:Nat) (w:World) (hI:dZ w bi im) (hW:dN im) (hbd:ey im.zq im.zx bd) (hx:WfN im.zq im.zx.length bd.zy.length x) (hv:x.op.toNat=45):
  Calls prog 118 #[.pointer (some ⟨bi,0,none⟩),.agg #[.int .i64 bd.cls,.int .i64 bd.meth,.string ⟨bd.zy.toArray⟩,S_,.slice ak n capk],.agg #[.int .u8 x.op.toNat,.int .i64 x.a,.int .i64 x.b,.int .i64 x.pos,.int .i64 e]] w λen w'=>en= .returned (.string ⟨(a9 im.zq im.zx bd.zy x).toArray⟩)/\B_ w w':=by
 rw[show a9 im.zq im.zx bd.zy x=[105,105]from by simp[a9,hv,arith]];have c:=tf x.op.toNat 43 (by omega);have d:((x.op.toNat:Int)==45)=true:=by rw[aX];omega
 clear hv
 go_in
 go_wp2_with fail;go_ret;exact⟨rfl,(aa _ _ _).trans (aa _ _ _)⟩
theorem Bv (bi:Nat) (im:Img) (bd:Bod) (ak:Option Addr) (n capk:Nat) (x:Ins) (e:Nat) (w:World) (hI:dZ w bi im) (hW:dN im) (hbd:ey im.zq im.zx bd) (hx:WfN im.zq im.zx.length bd.zy.length x) (hv:x.op.toNat=42):
  Calls prog 118 #[.pointer (some ⟨bi,0,none⟩),.agg #[.int .i64 bd.cls,.int .i64 bd.meth,.string ⟨bd.zy.toArray⟩,S_,.slice ak n capk],.agg #[.int .u8 x.op.toNat,.int .i64 x.a,.int .i64 x.b,.int .i64 x.pos,.int .i64 e]] w λen w'=>en= .returned (.string ⟨(a9 im.zq im.zx bd.zy x).toArray⟩)/\B_ w w':=by
 rw[show a9 im.zq im.zx bd.zy x=[105,105]from by simp[a9,hv,arith]];have d:=tf x.op.toNat 43 (by omega);have f:=tf x.op.toNat 45 (by omega);have c:((x.op.toNat:Int)==42)=true:=by rw[aX];omega
 clear hv
 go_in
 go_wp2_with fail;go_ret;exact⟨rfl,(aa _ _ _).trans (aa _ _ _)⟩
theorem Bw (bi:Nat) (im:Img) (bd:Bod) (ak:Option Addr) (n capk:Nat) (x:Ins) (e:Nat) (w:World) (hI:dZ w bi im) (hW:dN im) (hbd:ey im.zq im.zx bd) (hx:WfN im.zq im.zx.length bd.zy.length x) (hv:x.op.toNat=47):
  Calls prog 118 #[.pointer (some ⟨bi,0,none⟩),.agg #[.int .i64 bd.cls,.int .i64 bd.meth,.string ⟨bd.zy.toArray⟩,S_,.slice ak n capk],.agg #[.int .u8 x.op.toNat,.int .i64 x.a,.int .i64 x.b,.int .i64 x.pos,.int .i64 e]] w λen w'=>en= .returned (.string ⟨(a9 im.zq im.zx bd.zy x).toArray⟩)/\B_ w w':=by
 rw[show a9 im.zq im.zx bd.zy x=[105,105]from by simp[a9,hv,arith]];have d:=tf x.op.toNat 43 (by omega);have f:=tf x.op.toNat 45 (by omega);have c:=tf x.op.toNat 42 (by omega);have g:((x.op.toNat:Int)==47)=true:=by rw[aX];omega
 clear hv
 go_in
 go_wp2_with fail;go_ret;exact⟨rfl,(aa _ _ _).trans (aa _ _ _)⟩
theorem Bx (bi:Nat) (im:Img) (bd:Bod) (ak:Option Addr) (n capk:Nat) (x:Ins) (e:Nat) (w:World) (hI:dZ w bi im) (hW:dN im) (hbd:ey im.zq im.zx bd) (hx:WfN im.zq im.zx.length bd.zy.length x) (hv:x.op.toNat=60):
  Calls prog 118 #[.pointer (some ⟨bi,0,none⟩),.agg #[.int .i64 bd.cls,.int .i64 bd.meth,.string ⟨bd.zy.toArray⟩,S_,.slice ak n capk],.agg #[.int .u8 x.op.toNat,.int .i64 x.a,.int .i64 x.b,.int .i64 x.pos,.int .i64 e]] w λen w'=>en= .returned (.string ⟨(a9 im.zq im.zx bd.zy x).toArray⟩)/\B_ w w':=by
 rw[show a9 im.zq im.zx bd.zy x=[105,105]from by simp[a9,hv,arith]];have d:=tf x.op.toNat 43 (by omega);have f:=tf x.op.toNat 45 (by omega);have c:=tf x.op.toNat 42 (by omega);have g:=tf x.op.toNat 47 (by omega);have h:((x.op.toNat:Int)==60)=true:=by rw[aX];omega
 clear hv
 go_in
 go_wp2_with fail;go_ret;exact⟨rfl,(aa _ _ _).trans (aa _ _ _)⟩
theorem By (bi:Nat) (im:Img) (bd:Bod) (ak:Option Addr) (n capk:Nat) (x:Ins) (e:Nat) (w:World) (hI:dZ w bi im) (hW:dN im) (hbd:ey im.zq im.zx bd) (hx:WfN im.zq im.zx.length bd.zy.length x) (hv:x.op.toNat=61):
  Calls prog 118 #[.pointer (some ⟨bi,0,none⟩),.agg #[.int .i64 bd.cls,.int .i64 bd.meth,.string ⟨bd.zy.toArray⟩,S_,.slice ak n capk],.agg #[.int .u8 x.op.toNat,.int .i64 x.a,.int .i64 x.b,.int .i64 x.pos,.int .i64 e]] w λen w'=>en= .returned (.string ⟨(a9 im.zq im.zx bd.zy x).toArray⟩)/\B_ w w':=by
 rw[show a9 im.zq im.zx bd.zy x=[105,105]from by simp[a9,hv,arith]];have d:=tf x.op.toNat 43 (by omega);have f:=tf x.op.toNat 45 (by omega);have c:=tf x.op.toNat 42 (by omega);have g:=tf x.op.toNat 47 (by omega);have h:=tf x.op.toNat 60 (by omega);have i:((x.op.toNat:Int)==61)=true:=by rw[aX];omega
 clear hv
 go_in
 go_wp2_with fail;go_ret;exact⟨rfl,(aa _ _ _).trans (aa _ _ _)⟩
theorem zi (bi:Nat) (im:Img) (bd:Bod) (ak:Option Addr) (n capk:Nat) (x:Ins) (e:Nat) (w:World) (hI:dZ w bi im) (hW:dN im) (hbd:ey im.zq im.zx bd) (hx:WfN im.zq im.zx.length bd.zy.length x) (hv:x.op.toNat=119):
  Calls prog 118 #[.pointer (some ⟨bi,0,none⟩),.agg #[.int .i64 bd.cls,.int .i64 bd.meth,.string ⟨bd.zy.toArray⟩,S_,.slice ak n capk],.agg #[.int .u8 x.op.toNat,.int .i64 x.a,.int .i64 x.b,.int .i64 x.pos,.int .i64 e]] w λen w'=>en= .returned (.string ⟨(a9 im.zq im.zx bd.zy x).toArray⟩)/\B_ w w':=by
 rw[show a9 im.zq im.zx bd.zy x=[105]from by simp[a9,hv,arith]];have f:=tf x.op.toNat 43 (by omega);have g:=tf x.op.toNat 45 (by omega);have d:=tf x.op.toNat 42 (by omega);have h:=tf x.op.toNat 47 (by omega);have i:=tf x.op.toNat 60 (by omega);have j:=tf x.op.toNat 61 (by omega);have c:((x.op.toNat:Int)==119)=true:=by rw[aX];omega
 clear hv
 go_in
 go_wp2_with fail;go_ret;exact⟨rfl,(aa _ _ _).trans (aa _ _ _)⟩
theorem zk (bi:Nat) (im:Img) (bd:Bod) (ak:Option Addr) (n capk:Nat) (x:Ins) (e:Nat) (w:World) (hI:dZ w bi im) (hW:dN im) (hbd:ey im.zq im.zx bd) (hx:WfN im.zq im.zx.length bd.zy.length x) (hv:x.op.toNat=115):
  Calls prog 118 #[.pointer (some ⟨bi,0,none⟩),.agg #[.int .i64 bd.cls,.int .i64 bd.meth,.string ⟨bd.zy.toArray⟩,S_,.slice ak n capk],.agg #[.int .u8 x.op.toNat,.int .i64 x.a,.int .i64 x.b,.int .i64 x.pos,.int .i64 e]] w λen w'=>en= .returned (.string ⟨(a9 im.zq im.zx bd.zy x).toArray⟩)/\B_ w w':=by
 rw[show a9 im.zq im.zx bd.zy x=[bd.zy.getD x.b 0]from by simp[a9,hv,arith]];have l:=tf x.op.toNat 43 (by omega);have m:=tf x.op.toNat 45 (by omega);have k:=tf x.op.toNat 42 (by omega);have p:=tf x.op.toNat 47 (by omega);have q:=tf x.op.toNat 60 (by omega);have r:=tf x.op.toNat 61 (by omega);have g:=tf x.op.toNat 119 (by omega);have f:((x.op.toNat:Int)==115)=true:=by rw[aX];omega
 have h:=hx.loc (by omega);have j:(x.b:Int)+1<=(bd.zy.length:Int):=by omega
 have i:=hbd.loc.1;clear hv;have c:=vr bd.zy x.b h;obtain⟨D,d⟩: ∃D,bd.zy.getD x.b 0=D:=⟨_,rfl⟩;rw[d]at c⊢;clear d
 go_in
 go_wp2_with fail;exact cA (v:= .string ⟨[D].toArray⟩) (by simp[results,results118,go_sem,c]) rfl ⟨rfl,(aa _ _ _).trans (aa _ _ _)⟩
theorem zl (bi:Nat) (im:Img) (bd:Bod) (ak:Option Addr) (n capk:Nat) (x:Ins) (e:Nat) (w:World) (hI:dZ w bi im) (hW:dN im) (hbd:ey im.zq im.zx bd) (hx:WfN im.zq im.zx.length bd.zy.length x) (hv:x.op.toNat=103):
  Calls prog 118 #[.pointer (some ⟨bi,0,none⟩),.agg #[.int .i64 bd.cls,.int .i64 bd.meth,.string ⟨bd.zy.toArray⟩,S_,.slice ak n capk],.agg #[.int .u8 x.op.toNat,.int .i64 x.a,.int .i64 x.b,.int .i64 x.pos,.int .i64 e]] w λen w'=>en= .returned (.string ⟨(a9 im.zq im.zx bd.zy x).toArray⟩)/\B_ w w':=by
 have c:a9 im.zq im.zx bd.zy x=[bQ x.a]:=by simp[a9,hv,arith]
 rw[c];clear c;have f:x.a<4:=by have:=hx.cls (by omega);have:=hW.nc;omega
 have j:(x.a:Int)<4:=by omega
 have l:=tf x.op.toNat 43 (by omega);have m:=tf x.op.toNat 45 (by omega);have k:=tf x.op.toNat 42 (by omega);have p:=tf x.op.toNat 47 (by omega);have q:=tf x.op.toNat 60 (by omega);have r:=tf x.op.toNat 61 (by omega);have i:=tf x.op.toNat 119 (by omega);have h:=tf x.op.toNat 115 (by omega);have g:((x.op.toNat:Int)==103)=true:=by rw[aX];omega
 clear hv;have d:=tC (65+(x.a:Int)) (bQ x.a) (jL f) ((w.alloc (.cells #[.int .i64 bd.cls,.int .i64 bd.meth,.string ⟨bd.zy.toArray⟩,S_,.slice ak n capk] 52)).alloc (.cells #[.int .u8 x.op.toNat,.int .i64 x.a,.int .i64 x.b,.int .i64 x.pos,.int .i64 e] 147));rw[show((w.alloc (.cells #[.int .i64 bd.cls,.int .i64 bd.meth,.string ⟨bd.zy.toArray⟩,S_,.slice ak n capk] 52)).alloc (.cells #[.int .u8 x.op.toNat,.int .i64 x.a,.int .i64 x.b,.int .i64 x.pos,.int .i64 e] 147)).heap.size=w.heap.size+2 from by simp]at d;generalize bQ x.a=C at*
 go_in
 go_wp2_with fail;go_ret;exact⟨rfl,((aa _ _ _).trans (aa _ _ _)).trans (aa _ _ _)⟩
theorem zm (bi:Nat) (im:Img) (bd:Bod) (ak:Option Addr) (n capk:Nat) (x:Ins) (e:Nat) (w:World) (hI:dZ w bi im) (hW:dN im) (hbd:ey im.zq im.zx bd) (hx:WfN im.zq im.zx.length bd.zy.length x) (hv:x.op.toNat=112):
  Calls prog 118 #[.pointer (some ⟨bi,0,none⟩),.agg #[.int .i64 bd.cls,.int .i64 bd.meth,.string ⟨bd.zy.toArray⟩,S_,.slice ak n capk],.agg #[.int .u8 x.op.toNat,.int .i64 x.a,.int .i64 x.b,.int .i64 x.pos,.int .i64 e]] w λen w'=>en= .returned (.string ⟨(a9 im.zq im.zx bd.zy x).toArray⟩)/\B_ w w':=by
 have c:a9 im.zq im.zx bd.zy x=[bQ x.a,cj im.zq x.a x.b]:=by simp[a9,hv,arith]
 rw[c];clear c;generalize j:bQ x.a=C;generalize k:cj im.zq x.a x.b=E;have t:Hid (bQ x.a=C):=j;have z:Hid (cj im.zq x.a x.b=E):=k;clear j k;have G:x.a<im.zq.length:=hx.cls (by omega);have H:=hx.fld (by omega);have Q:=hW.nc;have S:(x.a:Int)<4:=by omega
 have Z:=tf x.op.toNat 43 (by omega);have a0:=tf x.op.toNat 45 (by omega);have Y:=tf x.op.toNat 42 (by omega);have a1:=tf x.op.toNat 47 (by omega);have a2:=tf x.op.toNat 60 (by omega);have a3:=tf x.op.toNat 61 (by omega);have O:=tf x.op.toNat 119 (by omega);have M:=tf x.op.toNat 115 (by omega);have J:=tf x.op.toNat 103 (by omega);have L:((x.op.toNat:Int)==112)=true:=by rw[aX];omega
 clear hv
 go_in
 go_wp2_with fail;have i:B_ w ((w.alloc (.cells #[.int .i64 bd.cls,.int .i64 bd.meth,.string ⟨bd.zy.toArray⟩,S_,.slice ak n capk] 52)).alloc (.cells #[.int .u8 x.op.toNat,.int .i64 x.a,.int .i64 x.b,.int .i64 x.pos,.int .i64 e] 147)):=(aa _ _ _).trans (aa _ _ _);have f:((w.alloc (.cells #[.int .i64 bd.cls,.int .i64 bd.meth,.string ⟨bd.zy.toArray⟩,S_,.slice ak n capk] 52)).alloc (.cells #[.int .u8 x.op.toNat,.int .i64 x.a,.int .i64 x.b,.int .i64 x.pos,.int .i64 e] 147)).heap[w.heap.size+1]?=some (.cells #[.int .u8 x.op.toNat,.int .i64 x.a,.int .i64 x.b,.int .i64 x.pos,.int .i64 e] 147):=aB (by simp) _
 have d:((w.alloc (.cells #[.int .i64 bd.cls,.int .i64 bd.meth,.string ⟨bd.zy.toArray⟩,S_,.slice ak n capk] 52)).alloc (.cells #[.int .u8 x.op.toNat,.int .i64 x.a,.int .i64 x.b,.int .i64 x.pos,.int .i64 e] 147)).heap[w.heap.size]?=some (.cells #[.int .i64 bd.cls,.int .i64 bd.meth,.string ⟨bd.zy.toArray⟩,S_,.slice ak n capk] 52):=((aa (λ_=>False) (w.alloc (.cells #[.int .i64 bd.cls,.int .i64 bd.meth,.string ⟨bd.zy.toArray⟩,S_,.slice ak n capk] 52)) _).block w.heap.size (by simp) (λh=>h)).trans (aO w _);generalize ((w.alloc (.cells #[.int .i64 bd.cls,.int .i64 bd.meth,.string ⟨bd.zy.toArray⟩,S_,.slice ak n capk] 52)).alloc (.cells #[.int .u8 x.op.toNat,.int .i64 x.a,.int .i64 x.b,.int .i64 x.pos,.int .i64 e] 147))=W at*
 have T:=ce1 f;have X:=ce2 f;have b0:=ce0 d;have b1:=ce1 d;have lI:=ae f;have lB:=ae d;have B:=hI.but i;obtain⟨g,m,cap,fl,d0,hm,hc,r,p,lbi,lg⟩:=B.cls.flds G H;have I:(x.b:Int)<(fl.length:Int):=by omega
 have l:=jL (a:=x.a) (by omega);have F:=dc (65+(x.a:Int)) (by omega) (by omega);have s:=IntWalk.u8_in (65+(x.a:Int)) (by omega);have A:Hid (fl.getD x.b 0=cj im.zq x.a x.b):=p;have y:Hid ((65+(x.a:Int))=(C.toNat:Int)):=by show _=_;rw[<-t.out];exact l
 clear p l;have D:B_ W W.drew:=aA _ _;refine aD (B_ W) 18 ?_
 iterate 16 (refine aF (v:=?_) rfl D ?_ ?_;rotate_left;(focus (intro wS h;have q0:=(h.kc T lI);have q1:=(h.kc X lI);have q2:=(h.kc d0 lbi);have q3:=(h.kc hc lg);clear h;go_simp;try rfl));dsimp only[Act.put];try simp only[bW])
 clear F s;refine au rfl ?_;intro KS hKS;go_simp;have q: ∀h,(⟨fl.toArray⟩:ByteArray)[x.b]'h=E:=λh=>by rw[<-z.out,<-A.out,bF fl _ r];exact ii fl _ r _
 simp only[q];refine hKS.out _ _ (λ_=>(aa _ _ _).trans (aA _ _)) ?_;clear hKS KS q;have P:=tD (65+(x.a:Int)) (E.toNat:Int) C E y.out rfl;refine au rfl ?_;intro KS hKS;go_simp;refine hKS.out _ _ (λ_=>(aa _ _ _).trans (aA _ _)) ?_;clear hKS KS;refine dU rfl ?_;go_wp2_with fail;go_ret;exact⟨rfl,i.trans ((aa _ _ _).trans (aA _ _))⟩
theorem Bz (bi:Nat) (im:Img) (bd:Bod) (ak:Option Addr) (n capk:Nat) (x:Ins) (e:Nat) (w:World) (hI:dZ w bi im) (hW:dN im) (hbd:ey im.zq im.zx bd) (hx:WfN im.zq im.zx.length bd.zy.length x) (hv:x.op.toNat=99):
  Calls prog 118 #[.pointer (some ⟨bi,0,none⟩),.agg #[.int .i64 bd.cls,.int .i64 bd.meth,.string ⟨bd.zy.toArray⟩,S_,.slice ak n capk],.agg #[.int .u8 x.op.toNat,.int .i64 x.a,.int .i64 x.b,.int .i64 x.pos,.int .i64 e]] w λen w'=>en= .returned (.string ⟨(a9 im.zq im.zx bd.zy x).toArray⟩)/\B_ w w':=by
 have c:a9 im.zq im.zx bd.zy x=[bQ x.a,fU im.zx x.b]:=by simp[a9,hv,arith]
 rw[c];clear c;generalize j:bQ x.a=C;generalize k:fU im.zx x.b=E;have p:Hid (bQ x.a=C):=j;have r:Hid (fU im.zx x.b=E):=k;clear j k;have J:x.a<im.zq.length:=hx.cls (by omega);have z:=hx.sig (by omega);have I:=hW.nc;have L:(x.a:Int)<4:=by omega
 have Q:=tf x.op.toNat 43 (by omega);have S:=tf x.op.toNat 45 (by omega);have P:=tf x.op.toNat 42 (by omega);have T:=tf x.op.toNat 47 (by omega);have X:=tf x.op.toNat 60 (by omega);have Y:=tf x.op.toNat 61 (by omega);have F:=tf x.op.toNat 119 (by omega);have D:=tf x.op.toNat 115 (by omega);have A:=tf x.op.toNat 103 (by omega);have B:=tf x.op.toNat 112 (by omega);have Z:((x.op.toNat:Int)==99)=true:=by rw[aX];omega
 clear hv
 go_in
 go_wp2_with fail;have i:B_ w ((w.alloc (.cells #[.int .i64 bd.cls,.int .i64 bd.meth,.string ⟨bd.zy.toArray⟩,S_,.slice ak n capk] 52)).alloc (.cells #[.int .u8 x.op.toNat,.int .i64 x.a,.int .i64 x.b,.int .i64 x.pos,.int .i64 e] 147)):=(aa _ _ _).trans (aa _ _ _);have f:((w.alloc (.cells #[.int .i64 bd.cls,.int .i64 bd.meth,.string ⟨bd.zy.toArray⟩,S_,.slice ak n capk] 52)).alloc (.cells #[.int .u8 x.op.toNat,.int .i64 x.a,.int .i64 x.b,.int .i64 x.pos,.int .i64 e] 147)).heap[w.heap.size+1]?=some (.cells #[.int .u8 x.op.toNat,.int .i64 x.a,.int .i64 x.b,.int .i64 x.pos,.int .i64 e] 147):=aB (by simp) _
 have d:((w.alloc (.cells #[.int .i64 bd.cls,.int .i64 bd.meth,.string ⟨bd.zy.toArray⟩,S_,.slice ak n capk] 52)).alloc (.cells #[.int .u8 x.op.toNat,.int .i64 x.a,.int .i64 x.b,.int .i64 x.pos,.int .i64 e] 147)).heap[w.heap.size]?=some (.cells #[.int .i64 bd.cls,.int .i64 bd.meth,.string ⟨bd.zy.toArray⟩,S_,.slice ak n capk] 52):=((aa (λ_=>False) (w.alloc (.cells #[.int .i64 bd.cls,.int .i64 bd.meth,.string ⟨bd.zy.toArray⟩,S_,.slice ak n capk] 52)) _).block w.heap.size (by simp) (λh=>h)).trans (aO w _);generalize ((w.alloc (.cells #[.int .i64 bd.cls,.int .i64 bd.meth,.string ⟨bd.zy.toArray⟩,S_,.slice ak n capk] 52)).alloc (.cells #[.int .u8 x.op.toNat,.int .i64 x.a,.int .i64 x.b,.int .i64 x.pos,.int .i64 e] 147))=W at*
 have M:=ce1 f;have O:=ce2 f;have b0:=ce0 d;have b1:=ce1 d;have lI:=ae f;have lB:=ae d;have s:=hI.but i;obtain⟨g,m,cap,d1,hm,hc,G,lbi,lg⟩:=s.sig.at z;have q:Hid ((65+(x.a:Int))=(C.toNat:Int)):=by show _=_;rw[<-p.out];exact jL (by omega)
 rw[r.out]at hc;have y:=dc (65+(x.a:Int)) (by omega) (by omega);have l:=IntWalk.u8_in (65+(x.a:Int)) (by omega);have t:B_ W W.drew:=aA _ _;refine aD (B_ W) 15 ?_
 iterate 13 (refine aF (v:=?_) rfl t ?_ ?_;rotate_left;(focus (intro wS h;have q0:=(h.kc M lI);have q1:=(h.kc O lI);have q2:=(h.kc d1 lbi);have q3:=(h.kc hc lg);clear h;go_simp;try rfl));dsimp only[Act.put];try simp only[bW])
 clear y l;refine au rfl ?_;intro KS hKS;go_simp;refine hKS.out _ _ (λ_=>(aa _ _ _).trans (aA _ _)) ?_;clear hKS KS;have H:=tD (65+(x.a:Int)) (E.toNat:Int) C E q.out rfl;refine au rfl ?_;intro KS hKS;go_simp;refine hKS.out _ _ (λ_=>(aa _ _ _).trans (aA _ _)) ?_;clear hKS KS;refine dU rfl ?_;go_wp2_with fail;go_ret;exact⟨rfl,i.trans ((aa _ _ _).trans (aA _ _))⟩
theorem BA (bi:Nat) (im:Img) (bd:Bod) (ak:Option Addr) (n capk:Nat) (x:Ins) (e:Nat) (w:World) (hI:dZ w bi im) (hW:dN im) (hbd:ey im.zq im.zx bd) (hx:WfN im.zq im.zx.length bd.zy.length x) (hv:x.op.toNat≠43/\x.op.toNat≠45/\x.op.toNat≠42/\x.op.toNat≠47/\x.op.toNat≠60/\x.op.toNat≠61/\x.op.toNat≠119/\x.op.toNat≠115/\x.op.toNat≠103/\x.op.toNat≠112/\x.op.toNat≠99):
  Calls prog 118 #[.pointer (some ⟨bi,0,none⟩),.agg #[.int .i64 bd.cls,.int .i64 bd.meth,.string ⟨bd.zy.toArray⟩,S_,.slice ak n capk],.agg #[.int .u8 x.op.toNat,.int .i64 x.a,.int .i64 x.b,.int .i64 x.pos,.int .i64 e]] w λen w'=>en= .returned (.string ⟨(a9 im.zq im.zx bd.zy x).toArray⟩)/\B_ w w':=by
 rw[show a9 im.zq im.zx bd.zy x=[]from by simp[a9,hv,arith]];have i:=tf x.op.toNat 43 (by omega);have j:=tf x.op.toNat 45 (by omega);have h:=tf x.op.toNat 42 (by omega);have k:=tf x.op.toNat 47 (by omega);have l:=tf x.op.toNat 60 (by omega);have m:=tf x.op.toNat 61 (by omega);have g:=tf x.op.toNat 119 (by omega);have f:=tf x.op.toNat 115 (by omega);have c:=tf x.op.toNat 103 (by omega);have d:=tf x.op.toNat 112 (by omega);have p:=tf x.op.toNat 99 (by omega);clear hv
 go_in
 go_wp2_with fail;go_ret;exact⟨rfl,(aa _ _ _).trans (aa _ _ _)⟩
theorem zn (bi:Nat) (im:Img) (bd:Bod) (ak:Option Addr) (n capk:Nat) (x:Ins) (e:Nat) (w:World) (hI:dZ w bi im) (hW:dN im) (hbd:ey im.zq im.zx bd) (hx:WfN im.zq im.zx.length bd.zy.length x):
  Calls prog 118 #[.pointer (some ⟨bi,0,none⟩),.agg #[.int .i64 bd.cls,.int .i64 bd.meth,.string ⟨bd.zy.toArray⟩,S_,.slice ak n capk],.agg #[.int .u8 x.op.toNat,.int .i64 x.a,.int .i64 x.b,.int .i64 x.pos,.int .i64 e]] w λen w'=>en= .returned (.string ⟨(a9 im.zq im.zx bd.zy x).toArray⟩)/\B_ w w':=by
 by_cases h43:x.op.toNat=43
 .exact Bs bi im bd ak n capk x e w hI hW hbd hx h43
 by_cases h45:x.op.toNat=45
 .exact Bu bi im bd ak n capk x e w hI hW hbd hx h45
 by_cases h42:x.op.toNat=42
 .exact Bv bi im bd ak n capk x e w hI hW hbd hx h42
 by_cases h47:x.op.toNat=47
 .exact Bw bi im bd ak n capk x e w hI hW hbd hx h47
 by_cases h60:x.op.toNat=60
 .exact Bx bi im bd ak n capk x e w hI hW hbd hx h60
 by_cases h61:x.op.toNat=61
 .exact By bi im bd ak n capk x e w hI hW hbd hx h61
 by_cases h119:x.op.toNat=119
 .exact zi bi im bd ak n capk x e w hI hW hbd hx h119
 by_cases h115:x.op.toNat=115
 .exact zk bi im bd ak n capk x e w hI hW hbd hx h115
 by_cases h103:x.op.toNat=103
 .exact zl bi im bd ak n capk x e w hI hW hbd hx h103
 by_cases h112:x.op.toNat=112
 .exact zm bi im bd ak n capk x e w hI hW hbd hx h112
 by_cases h99:x.op.toNat=99
 .exact Bz bi im bd ak n capk x e w hI hW hbd hx h99
 exact BA bi im bd ak n capk x e w hI hW hbd hx (by omega)
theorem zo (bi:Nat) (im:Img) (bd:Bod) (ak:Option Addr) (n capk:Nat) (x:Ins) (e:Nat) (w:World) (hI:dZ w bi im) (hW:dN im) (hbd:ey im.zq im.zx bd) (hx:WfN im.zq im.zx.length bd.zy.length x) (hv:x.op.toNat=122):
  Calls prog 121 #[.pointer (some ⟨bi,0,none⟩),.agg #[.int .i64 bd.cls,.int .i64 bd.meth,.string ⟨bd.zy.toArray⟩,S_,.slice ak n capk],.agg #[.int .u8 x.op.toNat,.int .i64 x.a,.int .i64 x.b,.int .i64 x.pos,.int .i64 e]] w λen w'=>en= .returned (.int .u8 (aT im.zq im.zx bd.zy x).toNat)/\B_ w w':=by
 rw[show aT im.zq im.zx bd.zy x=122 from by simp[aT,hv]];have c:((x.op.toNat:Int)==122)=true:=by rw[aX];omega
 clear hv
 go_in
 go_wp2_with fail;go_ret;exact⟨rfl,(aa _ _ _).trans (aa _ _ _)⟩
theorem zp (bi:Nat) (im:Img) (bd:Bod) (ak:Option Addr) (n capk:Nat) (x:Ins) (e:Nat) (w:World) (hI:dZ w bi im) (hW:dN im) (hbd:ey im.zq im.zx bd) (hx:WfN im.zq im.zx.length bd.zy.length x) (hv:x.op.toNat=110):
  Calls prog 121 #[.pointer (some ⟨bi,0,none⟩),.agg #[.int .i64 bd.cls,.int .i64 bd.meth,.string ⟨bd.zy.toArray⟩,S_,.slice ak n capk],.agg #[.int .u8 x.op.toNat,.int .i64 x.a,.int .i64 x.b,.int .i64 x.pos,.int .i64 e]] w λen w'=>en= .returned (.int .u8 (aT im.zq im.zx bd.zy x).toNat)/\B_ w w':=by
 rw[show aT im.zq im.zx bd.zy x=bQ x.a from by simp[aT,hv]];have h:=tf x.op.toNat 122 (by omega);have f:=tf x.op.toNat 108 (by omega);have g:((x.op.toNat:Int)==110)=true:=by rw[aX];omega
 have c:x.a<4:=by have:=hx.cls (by omega);have:=hW.nc;omega
 have i:=jL c;have k:(x.a:Int)<4:=by omega
 have j:=dc (65+(x.a:Int)) (by omega) (by omega);have d:=IntWalk.u8_in (65+(x.a:Int)) (by omega);clear hv
 go_in
 go_wp2_with fail;go_ret;exact⟨rfl,(aa _ _ _).trans (aa _ _ _)⟩
theorem zt (bi:Nat) (im:Img) (bd:Bod) (ak:Option Addr) (n capk:Nat) (x:Ins) (e:Nat) (w:World) (hI:dZ w bi im) (hW:dN im) (hbd:ey im.zq im.zx bd) (hx:WfN im.zq im.zx.length bd.zy.length x) (hv:x.op.toNat=108):
  Calls prog 121 #[.pointer (some ⟨bi,0,none⟩),.agg #[.int .i64 bd.cls,.int .i64 bd.meth,.string ⟨bd.zy.toArray⟩,S_,.slice ak n capk],.agg #[.int .u8 x.op.toNat,.int .i64 x.a,.int .i64 x.b,.int .i64 x.pos,.int .i64 e]] w λen w'=>en= .returned (.int .u8 (aT im.zq im.zx bd.zy x).toNat)/\B_ w w':=by
 rw[show aT im.zq im.zx bd.zy x=bd.zy.getD x.b 0 from by simp[aT,hv]];have i:=tf x.op.toNat 122 (by omega);have g:((x.op.toNat:Int)==108)=true:=by rw[aX];omega
 have f:=hx.loc (by omega);have l:(x.b:Int)<(bd.zy.length:Int):=by omega
 have k:=hbd.loc.1;have m:=hW.nc;clear hv;have j:=hI.but (show B_ w ((w.alloc (.cells #[.int .i64 bd.cls,.int .i64 bd.meth,.string ⟨bd.zy.toArray⟩,S_,.slice ak n capk] 52)).alloc (.cells #[.int .u8 x.op.toNat,.int .i64 x.a,.int .i64 x.b,.int .i64 x.pos,.int .i64 e] 147))from(aa _ _ _).trans (aa _ _ _));have c: ∀h,(⟨bd.zy.toArray⟩:ByteArray)[x.b]'h=bd.zy.getD x.b 0:=λh=>by rw[bF bd.zy _ f];exact ii bd.zy _ f _
 obtain⟨D,d⟩: ∃D,bd.zy.getD x.b 0=D:=⟨_,rfl⟩;rw[d]at c⊢;clear d
 go_in
 go_wp2_with fail;go_ret;exact⟨rfl,(aa _ _ _).trans (aa _ _ _)⟩
theorem zu (bi:Nat) (im:Img) (bd:Bod) (ak:Option Addr) (n capk:Nat) (x:Ins) (e:Nat) (w:World) (hI:dZ w bi im) (hW:dN im) (hbd:ey im.zq im.zx bd) (hx:WfN im.zq im.zx.length bd.zy.length x) (hv:x.op.toNat=103):
  Calls prog 121 #[.pointer (some ⟨bi,0,none⟩),.agg #[.int .i64 bd.cls,.int .i64 bd.meth,.string ⟨bd.zy.toArray⟩,S_,.slice ak n capk],.agg #[.int .u8 x.op.toNat,.int .i64 x.a,.int .i64 x.b,.int .i64 x.pos,.int .i64 e]] w λen w'=>en= .returned (.int .u8 (aT im.zq im.zx bd.zy x).toNat)/\B_ w w':=by
 rw[show aT im.zq im.zx bd.zy x=cj im.zq x.a x.b from by simp[aT,hv]];have r:=tf x.op.toNat 122 (by omega);have p:=tf x.op.toNat 108 (by omega);have q:=tf x.op.toNat 110 (by omega);have l:((x.op.toNat:Int)==103)=true:=by rw[aX];omega
 have t:=hW.nc;have i:x.a<im.zq.length:=hx.cls (by omega);have j:=hx.fld (by omega);clear hv;have d:=hI.but (show B_ w ((w.alloc (.cells #[.int .i64 bd.cls,.int .i64 bd.meth,.string ⟨bd.zy.toArray⟩,S_,.slice ak n capk] 52)).alloc (.cells #[.int .u8 x.op.toNat,.int .i64 x.a,.int .i64 x.b,.int .i64 x.pos,.int .i64 e] 147))from(aa _ _ _).trans (aa _ _ _));obtain⟨g,m,cap,fl,d0,hm,hc,c,f,lbi,lg⟩:=d.cls.flds i j;have k:(x.b:Int)<(fl.length:Int):=by omega
 have s: ∀h,(⟨fl.toArray⟩:ByteArray)[x.b]'h=cj im.zq x.a x.b:=λh=>by rw[<-f,bF fl _ c];exact ii fl _ c _
 go_in
 go_wp2_with fail
 go_quiet (fail)
 go_wp2
 go_ret;exact⟨rfl,((aa _ _ _).trans (aa _ _ _)).trans (aH _ _ _)⟩
theorem BB (bi:Nat) (im:Img) (bd:Bod) (ak:Option Addr) (n capk:Nat) (x:Ins) (e:Nat) (w:World) (hI:dZ w bi im) (hW:dN im) (hbd:ey im.zq im.zx bd) (hx:WfN im.zq im.zx.length bd.zy.length x) (hv:x.op.toNat=99):
  Calls prog 121 #[.pointer (some ⟨bi,0,none⟩),.agg #[.int .i64 bd.cls,.int .i64 bd.meth,.string ⟨bd.zy.toArray⟩,S_,.slice ak n capk],.agg #[.int .u8 x.op.toNat,.int .i64 x.a,.int .i64 x.b,.int .i64 x.pos,.int .i64 e]] w λen w'=>en= .returned (.int .u8 (aT im.zq im.zx bd.zy x).toNat)/\B_ w w':=by
 rw[show aT im.zq im.zx bd.zy x=fq im.zx x.b from by simp[aT,hv]];have j:=tf x.op.toNat 122 (by omega);have h:=tf x.op.toNat 108 (by omega);have i:=tf x.op.toNat 110 (by omega);have f:=tf x.op.toNat 103 (by omega);have p:((x.op.toNat:Int)==99)=true:=by rw[aX];omega
 have l:=hW.nc;have d:=hx.sig hv;clear hv;have c:=hI.but (show B_ w ((w.alloc (.cells #[.int .i64 bd.cls,.int .i64 bd.meth,.string ⟨bd.zy.toArray⟩,S_,.slice ak n capk] 52)).alloc (.cells #[.int .u8 x.op.toNat,.int .i64 x.a,.int .i64 x.b,.int .i64 x.pos,.int .i64 e] 147))from(aa _ _ _).trans (aa _ _ _));obtain⟨g,m,cap,d1,hm,hc,k,lbi,lg⟩:=c.sig.at d
 go_in
 go_wp2_with fail
 go_quiet (fail)
 go_wp2
 go_ret;exact⟨rfl,((aa _ _ _).trans (aa _ _ _)).trans (aH _ _ _)⟩
theorem BC (bi:Nat) (im:Img) (bd:Bod) (ak:Option Addr) (n capk:Nat) (x:Ins) (e:Nat) (w:World) (hI:dZ w bi im) (hW:dN im) (hbd:ey im.zq im.zx bd) (hx:WfN im.zq im.zx.length bd.zy.length x) (hv:x.op.toNat≠122/\x.op.toNat≠108/\x.op.toNat≠110/\x.op.toNat≠103/\x.op.toNat≠99):
  Calls prog 121 #[.pointer (some ⟨bi,0,none⟩),.agg #[.int .i64 bd.cls,.int .i64 bd.meth,.string ⟨bd.zy.toArray⟩,S_,.slice ak n capk],.agg #[.int .u8 x.op.toNat,.int .i64 x.a,.int .i64 x.b,.int .i64 x.pos,.int .i64 e]] w λen w'=>en= .returned (.int .u8 (aT im.zq im.zx bd.zy x).toNat)/\B_ w w':=by
 rw[show aT im.zq im.zx bd.zy x=105 from by simp[aT,hv]];have g:=tf x.op.toNat 122 (by omega);have d:=tf x.op.toNat 108 (by omega);have f:=tf x.op.toNat 110 (by omega);have c:=tf x.op.toNat 103 (by omega);have h:=tf x.op.toNat 99 (by omega);clear hv
 go_in
 go_wp2_with fail;go_ret;exact⟨rfl,(aa _ _ _).trans (aa _ _ _)⟩
theorem sF (bi:Nat) (im:Img) (bd:Bod) (ak:Option Addr) (n capk:Nat) (x:Ins) (e:Nat) (w:World) (hI:dZ w bi im) (hW:dN im) (hbd:ey im.zq im.zx bd) (hx:WfN im.zq im.zx.length bd.zy.length x):
  Calls prog 121 #[.pointer (some ⟨bi,0,none⟩),.agg #[.int .i64 bd.cls,.int .i64 bd.meth,.string ⟨bd.zy.toArray⟩,S_,.slice ak n capk],.agg #[.int .u8 x.op.toNat,.int .i64 x.a,.int .i64 x.b,.int .i64 x.pos,.int .i64 e]] w λen w'=>en= .returned (.int .u8 (aT im.zq im.zx bd.zy x).toNat)/\B_ w w':=by
 by_cases h122:x.op.toNat=122
 .exact zo bi im bd ak n capk x e w hI hW hbd hx h122
 by_cases h108:x.op.toNat=108
 .exact zt bi im bd ak n capk x e w hI hW hbd hx h108
 by_cases h110:x.op.toNat=110
 .exact zp bi im bd ak n capk x e w hI hW hbd hx h110
 by_cases h103:x.op.toNat=103
 .exact zu bi im bd ak n capk x e w hI hW hbd hx h103
 by_cases h99:x.op.toNat=99
 .exact BB bi im bd ak n capk x e w hI hW hbd hx h99
 exact BC bi im bd ak n capk x e w hI hW hbd hx (by omega)
theorem sG {u:List Ins} {m:Nat} (h:full (1+m) u):full m (u.drop (sk 1 u)):=by
 obtain⟨p,q,a,b,c⟩:=qv h;subst a;rw[mf b,List.drop_left];exact c
theorem nK {u:List Ins} {m:Nat} (h:full (m+1) u):0<u.length:=by
 cases u with
 |nil=>cases h
 |cons x u=>simp
theorem qx: ∀{t:List Ins} {o k:Nat} {x:Ins},t[k]?=some x->(du o t)[k]?=some (x,o+aR t k):=by
 intro t
 induction t with
 |nil=>intro o k x h;simp at h
 |cons y t ih=>
  intro o k x h
  cases k with
  |zero=>
   simp at h;subst h;simp[du,aR,sk];omega
  |succ k=>
   have:=ih (o:=o+1) (k:=k) (x:=x) (by simpa using h);simp only[du,List.getElem?_cons_succ,this,aR,List.drop_succ_cons]
   congr 2
   omega
theorem lN {n:Nat} {c:UInt8} (h:cw n c=true):okT n c=true:=by simp[okT,h]
theorem vu {n:Nat}:okT n 105=true:=by simp[okT,cw]
theorem tI {n a:Nat} (h:a<n) (hn:n<=4):okT n (bQ a)=true:=lN (by unfold bQ;exact qe h hn)
theorem vv {im:Img} (hW:dN im) {bd:Bod} (hbd:ey im.zq im.zx bd) {x:Ins} (hx:WfN im.zq im.zx.length bd.zy.length x):okT im.zq.length (aT im.zq im.zx bd.zy x)=true:=by
 unfold aT
 split
 .simp[okT]
 split
 .rename_i h
  have a:=hx.loc (Or.inl h)
  apply lN
  rw[bH,aG a];exact hbd.loc.2 _ (bD a)
 split
 .rename_i h
  exact tI (hx.cls (by omega)) hW.nc
 split
 .rename_i h
  have ha:=hx.cls (by omega);have a:=hx.fld (by omega)
  apply lN
  have b:=aG ha;unfold bB at a;unfold cj;rw[b]at a⊢;simp at a⊢;rw[aG a];exact iB (by omega) ((hW.cls _ _ b).2.2.2 _ (bD a))
 split
 .rename_i h
  have a:=hx.sig h
  apply lN
  unfold fq;rw[aG a];exact(hW.sig _ (bD a)).2
 .exact vu
theorem BD {im:Img} (hW:dN im) {bd:Bod} (hbd:ey im.zq im.zx bd) {x:Ins} (hx:WfN im.zq im.zx.length bd.zy.length x) {ts:L_} (hl:ts.length=az x.op) (hts: ∀c∈ts,okT im.zq.length c=true) {c:UInt8} (h:aV im.zq im.zx bd.zy x ts=some c):okT im.zq.length c=true:=by
 have a: ∀k,k<ts.length->okT im.zq.length (ts.getD k 0)=true:=λk hk=>by
  rw[bH,aG hk];exact hts _ (bD hk)
 unfold aV at h
 split at h
 .cases h
 split at h
 .split at h
  .cases h;exact vu
  .cases h
 split at h
 .rename_i h120
  split at h
  .cases h;exact tI (hx.cls (by omega)) hW.nc
  .cases h
 split at h
 .rename_i h44
  cases h
  exact a 1 (by rw[hl];unfold az;rw[if_neg (by omega),h44];decide)
 split at h
 .rename_i h105
  split at h
  .cases h
   have b:ts.length=3:=by rw[hl];unfold az;rw[if_pos h105]
   exact uN hW.nc hW.cls (a 1 (by omega)) (a 2 (by omega))
  .cases h
 split at h
 .split at h
  .cases h;exact vu
  .cases h
 .cases h
  exact vv hW hbd hx
theorem xk {t:List Ins} {g:Nat->Option UInt8}: ∀{n k:Nat} {ts:L_},bp t g n k=some ts->ts.length=n:=by
 intro n
 induction n with
 |zero=>intro k ts h;cases h;rfl
 |succ n ih=>
  intro k ts h;unfold bp at h
  split at h
  .cases h
  .rename_i c hc
   cases hp:bp t g n (aR t k)with
   |none=>rw[hp]at h;cases h
   |some us=>rw[hp]at h;simp at h;subst h;simp[ih hp]
theorem pZ {im:Img} (hW:dN im) {bd:Bod} (hbd:ey im.zq im.zx bd): ∀{f i:Nat} {c:UInt8},bX im.zq im.zx bd.zy bd.code f i=some c->okT im.zq.length c=true:=by
 intro f
 induction f with
 |zero=>intro i c h;cases h
 |succ f ih=>
  have hp: ∀{n k:Nat} {ts:L_},bp bd.code (bX im.zq im.zx bd.zy bd.code f) n k=some ts-> ∀c∈ts,okT im.zq.length c=true:=by
   intro n
   induction n with
   |zero=>intro k ts h;cases h;simp
   |succ n ihn=>
    intro k ts h;unfold bp at h
    split at h
    .cases h
    .rename_i c hc
     cases hp:bp bd.code (bX im.zq im.zx bd.zy bd.code f) n (aR bd.code k)with
     |none=>rw[hp]at h;cases h
     |some us=>
      rw[hp]at h;simp at h;subst h;intro d a;obtain rfl|a:=List.mem_cons.1 a
      .exact ih hc
      .exact ihn hp d a
  intro i c h;unfold bX at h
  split at h
  .cases h
  .rename_i x hx
   split at h
   .cases h
   .rename_i ts hts
    exact BD hW hbd (hbd.code x (bn hx)) (xk hts) (hp hts) h
def FV (R:Option UInt8) (en:Ending):Prop:=match R with
 |some c=>en= .returned (.tuple #[.int .u8 c.toNat,.bool true])
 |none=> ∃v:Int,en= .returned (.tuple #[.int .u8 v,.bool false])
theorem BE {cs:List Cls} {gs:List Sig} {lo:L_} {x:Ins}:(a9 cs gs lo x).length<=2:=by
 unfold a9
 repeat' split
 all_goals simp
structure qy (im:Img) (bd:Bod) (F i m n ar:Nat) (us:L_) (k j:Nat):Prop where
 len:us.length+j=ar
 ok: ∀c∈us,okT im.zq.length c=true
 full:full (m+j) (bd.code.drop k)
 gt:i<k
 eq:bp bd.code (bX im.zq im.zx bd.zy bd.code F) ar (i+1)=(bp bd.code (bX im.zq im.zx bd.zy bd.code F) j k).map (us++ ·)
theorem qy.go {im:Img} {bd:Bod} {F i m n ar:Nat} {us:L_} {k j:Nat} (h:qy im bd F i m n ar us k j) (hn:bd.code.length=n) (hj:0<j):k<n/\Sp.full (m+(j-1)+1) (bd.code.drop k):=by
 have a:=h.full;rw[show m+j=m+(j-1)+1 from by omega]at a;have b:=nK a;rw[List.length_drop]at b;exact⟨by omega,a⟩
theorem qy.no {im:Img} {bd:Bod} {F i m n ar:Nat} {us:L_} {k j:Nat} (h:qy im bd F i m n ar us k j) (hj:0<j) (hg:bX im.zq im.zx bd.zy bd.code F k=none) {X:Ins} (hX:bd.code[i]?=some X) (har:az X.op=ar):bX im.zq im.zx bd.zy bd.code (F+1) i=none:=by
 have a:=h.eq;obtain⟨j,rfl⟩: ∃q,j=q+1:=⟨j-1,by omega⟩;have b:bp bd.code (bX im.zq im.zx bd.zy bd.code F) (j+1) k=none:=by simp[bp,hg]
 rw[b]at a;simp only[bX,hX,har,a,Option.map_none]
theorem qy.yes {im:Img} {bd:Bod} {F i m n ar:Nat} {us:L_} {k j:Nat} (hW:dN im) (hbd:ey im.zq im.zx bd) (h:qy im bd F i m n ar us k j) (hn:bd.code.length=n) (hj:0<j) {c:UInt8} (hg:bX im.zq im.zx bd.zy bd.code F k=some c):qy im bd F i m n ar (us++ [c]) (aR bd.code k) (j-1):=by
 have b:=h.eq;obtain⟨j,rfl⟩: ∃q,j=q+1:=⟨j-1,by omega⟩;refine⟨by have:=h.len;simp;omega,λd hd=> ?_,?_,?_,?_⟩
 .obtain hd|hd:=gz hd
  .exact h.ok d hd
  .simp at hd;subst hd;exact pZ hW hbd hg
 .have a:=sG (u:=bd.code.drop k) (m:=m+j) (by have:=h.full;rw[show m+(j+1)=1+(m+j)from by omega]at this;exact this);rw[List.drop_drop]at a;exact a
 .have:=h.gt;unfold aR;omega
 .rw[b];simp only[bp,hg,Nat.add_sub_cancel]
  cases bp bd.code (bX im.zq im.zx bd.zy bd.code F) j (aR bd.code k)<;>simp
theorem qy.fin {im:Img} {bd:Bod} {F i m n ar:Nat} {us:L_} {k:Nat} (h:qy im bd F i m n ar us k 0) {X:Ins} (hX:bd.code[i]?=some X) (har:az X.op=ar):bX im.zq im.zx bd.zy bd.code (F+1) i=aV im.zq im.zx bd.zy X us:=by
 have a:=h.eq;simp only[bp,Option.map_some,List.append_nil]at a;simp only[bX,hX,har,a]
theorem C6 (bi:Nat) (im:Img) (bd:Bod) (ak:Option Addr) (n capk:Nat) (hn:bd.code.length=n) (hW:dN im) (hbd:ey im.zq im.zx bd): ∀(F i m:Nat) (w:World),i<n->n-i<=F->full (m+1) (bd.code.drop i)->dZ w bi im->w.ownsRow 0 147 5 (.slice ak n capk) n (cu (du 0 bd.code))->
  Calls prog 72 #[.pointer (some ⟨bi,0,none⟩),.agg #[.int .i64 bd.cls,.int .i64 bd.meth,.string ⟨bd.zy.toArray⟩,S_,.slice ak n capk],.int .i64 i] w λen w'=>FV (bX im.zq im.zx bd.zy bd.code F i) en/\B_ w w':=by
 intro F
 induction F with
 |zero=>intro i m w h1 h2;omega
 |succ F ih=>
  intro i m w j3 m1 a1 hI hO;have IH:=hid ih;clear ih;have f1:=hbd.len;rw[hn]at f1;have HN:Hid (bd.code.length=n):=hn;have g6:=hid a1;clear hn a1;obtain⟨R,e6⟩: ∃R,bX im.zq im.zx bd.zy bd.code (F+1) i=R:=⟨_,rfl⟩;rw[e6];have e4:=hid e6;clear e6;have a4:i<bd.code.length:=by rw[HN.out];exact j3
  obtain⟨X,hX⟩: ∃X,bd.code[i]=X:=⟨_,rfl⟩;have hx?:bd.code[i]?=some X:=by rw[aG a4,hX]
  have hx:=qx (o:=0) hx?;have HX:=hid hx?;obtain⟨g,rfl,l6,m0,f⟩:=aE hO (by omega);obtain⟨e,he⟩: ∃e,0+aR bd.code i=e:=⟨_,rfl⟩;rw[he]at hx;have q0:w.cell? ⟨g,i*5,none⟩=some (.int .u8 X.op.toNat):=f _ _ (cL (k:=0) hx (by omega));have q1:w.cell? ⟨g,i*5+1,none⟩=some (.int .i64 X.a):=f _ _ (cL (k:=1) hx (by omega));have q2:w.cell? ⟨g,i*5+2,none⟩=some (.int .i64 X.b):=f _ _ (cL (k:=2) hx (by omega));have q3:w.cell? ⟨g,i*5+3,none⟩=some (.int .i64 X.pos):=f _ _ (cL (k:=3) hx (by omega));have q4:w.cell? ⟨g,i*5+4,none⟩=some (.int .i64 e):=f _ _ (cL (k:=4) hx (by omega));have l:WfN im.zq im.zx.length bd.zy.length X:=by rw[<-hX];exact hbd.code _ (bD a4)
  clear f hx hx? hX he a4;have j4:(i:Int)<(n:Int):=by omega
  go_in
  go_wp2_with fail;have h5:B_ w ((w.alloc (.cells #[.int .i64 bd.cls,.int .i64 bd.meth,.string ⟨bd.zy.toArray⟩,S_,.slice (some ⟨g,0,none⟩) n capk] 52)).alloc (.cells #[.int .u8 X.op.toNat,.int .i64 X.a,.int .i64 X.b,.int .i64 X.pos,.int .i64 e] 147)):=(aa _ _ _).trans (aa _ _ _);have h9:((w.alloc (.cells #[.int .i64 bd.cls,.int .i64 bd.meth,.string ⟨bd.zy.toArray⟩,S_,.slice (some ⟨g,0,none⟩) n capk] 52)).alloc (.cells #[.int .u8 X.op.toNat,.int .i64 X.a,.int .i64 X.b,.int .i64 X.pos,.int .i64 e] 147)).heap[w.heap.size]?=some (.cells #[.int .i64 bd.cls,.int .i64 bd.meth,.string ⟨bd.zy.toArray⟩,S_,.slice (some ⟨g,0,none⟩) n capk] 52):=((aa (λ_=>False) (w.alloc (.cells #[.int .i64 bd.cls,.int .i64 bd.meth,.string ⟨bd.zy.toArray⟩,S_,.slice (some ⟨g,0,none⟩) n capk] 52)) _).block _ (by simp) (λh=>h)).trans (aO w _)
  have j7:((w.alloc (.cells #[.int .i64 bd.cls,.int .i64 bd.meth,.string ⟨bd.zy.toArray⟩,S_,.slice (some ⟨g,0,none⟩) n capk] 52)).alloc (.cells #[.int .u8 X.op.toNat,.int .i64 X.a,.int .i64 X.b,.int .i64 X.pos,.int .i64 e] 147)).heap[w.heap.size+1]?=some (.cells #[.int .u8 X.op.toNat,.int .i64 X.a,.int .i64 X.b,.int .i64 X.pos,.int .i64 e] 147):=aB (by simp) _;generalize ((w.alloc (.cells #[.int .i64 bd.cls,.int .i64 bd.meth,.string ⟨bd.zy.toArray⟩,S_,.slice (some ⟨g,0,none⟩) n capk] 52)).alloc (.cells #[.int .u8 X.op.toNat,.int .i64 X.a,.int .i64 X.b,.int .i64 X.pos,.int .i64 e] 147))=w0 at*
  clear q0 q1 q2 q3 q4;refine(oR X.op w0).mono ?_;rintro en wx ⟨rfl,b8⟩;rw[b8];clear b8 wx;obtain⟨ar,p⟩: ∃ar,az X.op=ar:=⟨_,rfl⟩;have h7:ar<=3:=by rw[<-p];unfold az;split;omega;split;omega;split<;>omega
  rw[p];have z:=hid p
  have h0:Hid (qy im bd F i m n ar [] (i+1) ar):=by
   refine⟨by simp,λc h=>by simp at h,?_,by omega,by simp⟩;have h1:=g6.out;have h2:=HX.out;obtain⟨hl,hg⟩:=bc h2;rw[List.drop_eq_getElem_cons hl,hg]at h1;have h3:full (m+az X.op) (bd.code.drop (i+1)):=h1;rw[p]at h3;exact h3
  clear p;go_wp2_with fail
  go_loopg [9,10,11] ar (λmm ts ks js wr=> ∃(us:L_) (k j:Nat),ts= .string ⟨us.toArray⟩/\ks= .int .i64 k/\js= .int .i64 j/\us.length<=3/\k<=n/\j<=mm/\mm<=j/\j<=ar/\B_ w0 wr/\Hid (qy im bd F i m n ar us k j))
  case atStart=>exact⟨[],i+1,ar,rfl,by simp,rfl,by simp,by omega,by omega,by omega,by omega,bf _ _,h0⟩
  case round=>
   obtain⟨us,k,j,rfl,rfl,rfl,n7,n5,m3,m4,m5,e1,HI⟩:=hrel;have a2:=e1.kp h9;have a5:=e1.kp j7;have g0:=ce0 a2;have g1:=ce1 a2;have g2:=ce2 a2;have g3:=ce3 a2;have g4:=ce4 a2;have b1:B_ w wr:=h5.trans e1;have f6:=ae a2;have k3:=ae a5
   by_cases hlt:0<j
   .have m6:(0:Int)<(j:Int):=by omega
    obtain⟨hk,e7⟩:=HI.out.go HN.out hlt;have m2:=HI.out.4;have HC:=hid (IH.out k (m+(j-1)) wr hk (by omega) e7 (hI.but b1) (ag hO b1 (λ_ _ h=>h)));have l0:=hid e7;clear e7;go_wp2_with fail;refine HC.out.mono ?_;rintro en w7 ⟨b2,c9⟩
    cases hg7:bX im.zq im.zx bd.zy bd.code F k with
    |none=>
     rw[hg7]at b2;obtain⟨v,rfl⟩:=b2;have f3:R=none:=by rw[<-e4.out];exact HI.out.no hlt hg7 HX.out z.out
     subst f3;clear HC g0 g1 g2 g3 g4 hg7;go_wp2_with fail
     go_ret2
     exact⟨⟨0,rfl⟩,b1.trans c9⟩
    |some c=>
     rw[hg7]at b2;have b2:en= .returned (.tuple #[.int .u8 c.toNat,.bool true]):=b2;subst b2;have e3:=hid (HI.out.yes hW hbd HN.out hlt hg7);obtain⟨Y,hY⟩: ∃Y,bd.code[k]?=some Y:=⟨_,aG (by rw[HN.out];exact hk)⟩;have hy:=qx (o:=0) hY;rw[Nat.zero_add]at hy;have h6:=ag hO (b1.trans c9) (λ_ _ h=>h);obtain⟨g',f5,i3,i4,f⟩:=aE h6 (by omega);have e8:g=g':=by injection f5 with h;injection h
     subst e8;have q4:w7.cell? ⟨g,k*5+4,none⟩=some (.int .i64 (aR bd.code k)):=f _ _ (cL (k:=4) hy (by omega));have b5:=(c9.block _ f6 (λh=>h)).trans a2;have g7:=ce4 b5;have i5:=ae b5;have m7:(k:Int)<(n:Int):=by omega
     have b6:aR bd.code k<=n:=by rw[<-HN.out];unfold aR;have:=D3 (m:=1) (t:=bd.code.drop k);rw[List.length_drop]at this;have:=HN.out;omega
     clear HC g0 g1 g2 g3 g4 hg7 f hy hY f5;obtain⟨k7,g5⟩: ∃k7,aR bd.code k=k7:=⟨_,rfl⟩;rw[g5]at q4 e3 b6;clear g5;have l5:=qf c;have n6:(⟨us.toArray⟩:ByteArray).size+(⟨#[c]⟩:ByteArray).size<=200000:=by show us.toArray.size+1<=200000;simp;omega
     have a6:=e3.out.len;rw[aN,dK]at a6;go_wp2_with fail
     go_roundg (j-1)
     case measure=>omega
     case rel=>exact⟨us++ [c],k7,j-1,congrArg Value.string (fp _ _),rfl,by simp;omega,by simp;omega,b6,by omega,by omega,by omega,(e1.trans c9).trans (aa _ _ _),e3⟩
   .have j5:j=0:=by omega
    subst j5;have n0:=ce0 a5;have n1:=ce1 a5;have n2:=ce2 a5;have n3:=ce3 a5;have n4:=ce4 a5;have f4:=hid (e4.out.symm.trans (HI.out.fin HX.out z.out));have a6:=HI.out.len;have T:=hid HI.out.ok;clear HI e4;go_wp2_with fail;refine(zn bi im bd _ n capk X e wr (hI.but b1) hW hbd l).mono ?_;rintro en w8 ⟨rfl,e5⟩;have B:=b1.trans e5;have E:=(e5.block _ f6 (λh=>h)).trans a2;have y:=(e5.block _ k3 (λh=>h)).trans a5;have h4:(a9 im.zq im.zx bd.zy X).length<=2:=BE;have d:=f4.out;unfold aV at d;obtain⟨A,hA⟩: ∃A,a9 im.zq im.zx bd.zy X=A:=⟨_,rfl⟩
    have f2:A≠ []->X.op.toNat≠101/\X.op.toNat≠120/\X.op.toNat≠44/\X.op.toNat≠105/\X.op.toNat≠111:=λh=>by
     refine⟨λh'=>h ?_,λh'=>h ?_,λh'=>h ?_,λh'=>h ?_,λh'=>h ?_⟩
     all_goals (rw[<-hA];simp[a9,h',arith])
    rw[hA]at d h4⊢;clear hA f4 n0 n1 n2 n3 n4 g0 g1 g2 g3 g4;have f0:=ae E;have b7:=ae y
    by_cases hAe:A=[]
    .rw[if_neg (λh=>h.1 hAe)]at d;subst hAe;clear f2;have n0:=ce0 y;have n1:=ce1 y
     by_cases q:X.op.toNat=101
     .rw[if_pos q]at d;have L:((X.op.toNat:Int)==101)=true:=by rw[aX];omega
      have p:ar=2:=by rw[<-z.out];unfold az;simp[q]
      have Z:0<us.length:=by omega
      obtain⟨P,O⟩: ∃P,us.getD 0 0=P:=⟨_,rfl⟩;have k0: ∀h,(⟨us.toArray⟩:ByteArray)[0]'h=P:=λh=>by rw[<-O,bF us _ Z];exact ii us _ Z _
      have j0:(0:Int)<(us.length:Int):=by omega
      have o0:okT im.zq.length P=true:=by rw[<-O,bF us _ Z];exact T.out _ (bD Z)
      have i1:1<us.length:=by omega
      obtain⟨Q,hQ⟩: ∃Q,us.getD 1 0=Q:=⟨_,rfl⟩;have k1: ∀h,(⟨us.toArray⟩:ByteArray)[1]'h=Q:=λh=>by rw[<-hQ,bF us _ i1];exact ii us _ i1 _
      have j1:(1:Int)<(us.length:Int):=by omega
      have o1:okT im.zq.length Q=true:=by rw[<-hQ,bF us _ i1];exact T.out _ (bD i1)
      rw[O,hQ]at d;clear O hQ;clear q a6 p z
      cases hp:isR P with
      |false=>
       rw[if_neg (by rw[hp];simp)]at d;subst d;go_wp2_with fail;refine(iE P _).mono ?_;rintro en wx ⟨rfl,l⟩;rw[l,hp];clear l wx hp;go_wp2_with fail
       go_ret2
       exact⟨⟨105,rfl⟩,B⟩
      |true=>
       have HF:=hid d;clear d;go_wp2_with fail;refine(iE P _).mono ?_;rintro en wx ⟨rfl,l⟩;rw[l,hp];clear l wx;go_wp2_with fail;refine(iE Q _).mono ?_;rintro en wx ⟨rfl,l⟩;rw[l];clear l wx;have b3:=HF.out;rw[hp]at b3;clear HF
       cases hq:isR Q with
       |false=>
        rw[if_neg (by rw[hq];simp)]at b3;subst b3;clear hp hq;go_wp2_with fail
        go_ret2
        exact⟨⟨105,rfl⟩,B⟩
       |true=>
        rw[if_pos ⟨rfl,hq⟩]at b3;subst b3;clear hp hq;go_wp2_with fail
        go_ret2
        exact⟨rfl,B⟩
     rw[if_neg q]at d
     by_cases x:X.op.toNat=120
     .rw[if_pos x]at d;have L:=tf X.op.toNat 101 (by omega);have a0:((X.op.toNat:Int)==120)=true:=by rw[aX];omega
      have p:ar=1:=by rw[<-z.out];unfold az;simp[x]
      have k5:X.a<im.zq.length:=l.cls (by omega);have Z:0<us.length:=by omega
      obtain⟨P,O⟩: ∃P,us.getD 0 0=P:=⟨_,rfl⟩;have k0: ∀h,(⟨us.toArray⟩:ByteArray)[0]'h=P:=λh=>by rw[<-O,bF us _ Z];exact ii us _ Z _
      have j0:(0:Int)<(us.length:Int):=by omega
      have o0:okT im.zq.length P=true:=by rw[<-O,bF us _ Z];exact T.out _ (bD Z)
      rw[O]at d;clear O;clear x a6 p z;have b9:X.a<4:=by have:=hW.nc;omega
      have h8:=jL b9;obtain⟨C,hC⟩: ∃C,bQ X.a=C:=⟨_,rfl⟩;rw[hC]at h8 d;clear hC b9 k5;have l4:=C.toNat_lt;have n8:=dc (C.toNat:Int) (by omega) (by omega);have n9:IntKind.wrap .u8 (C.toNat:Int)=(C.toNat:Int):=by rw[show IntKind.wrap .u8 (C.toNat:Int)=(C.toNat:Int) % 256 from rfl];omega
      go_wp2_with fail;refine aD (B_ w8) 8 ?_;have D:B_ w8 w8.drew:=aA _ _
      iterate 6 (refine aF (v:=?_) rfl D ?_ ?_;rotate_left;(focus (intro wS h;have q0:=(h.kc n1 b7);clear h;go_simp;try rfl));dsimp only[Act.put];try simp only[bW])
      refine au rfl ?_;intro KS hKS;go_simp;refine(iE P _).mono ?_;rintro en wx ⟨rfl,l⟩;rw[l];clear l wx;refine hKS.out _ _ (λ_=>D) ?_;clear hKS KS;refine au rfl ?_;intro KS hKS;go_simp;refine hKS.out _ _ (λ_=>D) ?_;clear hKS KS;refine au rfl ?_;intro KS hKS;go_simp;refine hKS.out _ _ nofun ?_;clear hKS KS;refine aI rfl ?_;have G:=B.trans D;generalize w8.drew=wd at*
      cases hp:isR P with
      |false=>
       rw[if_neg (by rw[hp];simp)]at d;subst d;clear hp;go_wp2_with fail
       go_ret2
       exact⟨⟨_,rfl⟩,G⟩
      |true=>
       rw[if_pos hp]at d;subst d;clear hp;go_wp2_with fail
       go_ret2
       exact⟨rfl,G⟩
     rw[if_neg x]at d
     by_cases M:X.op.toNat=44
     .rw[if_pos M]at d;have L:=tf X.op.toNat 101 (by omega);have a0:=tf X.op.toNat 120 (by omega);have e2:((X.op.toNat:Int)==44)=true:=by rw[aX];omega
      have p:ar=2:=by rw[<-z.out];unfold az;simp[M]
      have i1:1<us.length:=by omega
      obtain⟨Q,hQ⟩: ∃Q,us.getD 1 0=Q:=⟨_,rfl⟩;have k1: ∀h,(⟨us.toArray⟩:ByteArray)[1]'h=Q:=λh=>by rw[<-hQ,bF us _ i1];exact ii us _ i1 _
      have j1:(1:Int)<(us.length:Int):=by omega
      have o1:okT im.zq.length Q=true:=by rw[<-hQ,bF us _ i1];exact T.out _ (bD i1)
      rw[hQ]at d;clear hQ;clear M a6 p z;subst d;go_wp2_with fail
      go_ret2
      exact⟨rfl,B⟩
     rw[if_neg M]at d
     by_cases r:X.op.toNat=105
     .rw[if_pos r]at d;have L:=tf X.op.toNat 101 (by omega);have a0:=tf X.op.toNat 120 (by omega);have e2:=tf X.op.toNat 44 (by omega);have b0:((X.op.toNat:Int)==105)=true:=by rw[aX];omega
      have p:ar=3:=by rw[<-z.out];unfold az;simp[r]
      have Z:0<us.length:=by omega
      obtain⟨P,O⟩: ∃P,us.getD 0 0=P:=⟨_,rfl⟩;have k0: ∀h,(⟨us.toArray⟩:ByteArray)[0]'h=P:=λh=>by rw[<-O,bF us _ Z];exact ii us _ Z _
      have j0:(0:Int)<(us.length:Int):=by omega
      have o0:okT im.zq.length P=true:=by rw[<-O,bF us _ Z];exact T.out _ (bD Z)
      have i1:1<us.length:=by omega
      obtain⟨Q,hQ⟩: ∃Q,us.getD 1 0=Q:=⟨_,rfl⟩;have k1: ∀h,(⟨us.toArray⟩:ByteArray)[1]'h=Q:=λh=>by rw[<-hQ,bF us _ i1];exact ii us _ i1 _
      have j1:(1:Int)<(us.length:Int):=by omega
      have o1:okT im.zq.length Q=true:=by rw[<-hQ,bF us _ i1];exact T.out _ (bD i1)
      have i2:2<us.length:=by omega
      obtain⟨S,hS⟩: ∃S,us.getD 2 0=S:=⟨_,rfl⟩;have k2: ∀h,(⟨us.toArray⟩:ByteArray)[2]'h=S:=λh=>by rw[<-hS,bF us _ i2];exact ii us _ i2 _
      have j2:(2:Int)<(us.length:Int):=by omega
      have o2:okT im.zq.length S=true:=by rw[<-hS,bF us _ i2];exact T.out _ (bD i2)
      rw[O,hQ,hS]at d;clear O hQ hS;clear r a6 p z;go_wp2_with fail;refine aD (B_ w8) 6 ?_;have D:B_ w8 w8.drew:=aA _ _
      iterate 5 (refine aF (v:=?_) rfl D ?_ ?_;rotate_left;(focus (intro wS h;clear h;go_simp;try rfl));dsimp only[Act.put];try simp only[bW])
      refine au rfl ?_;intro KS hKS;go_simp;have G:=B.trans D;refine(vd bi im.zq Q S _ (hI.but G).cls hW.cls hW.nc o1 o2).mono ?_;rintro en wx ⟨rfl,l⟩;rw[l];clear l wx;refine hKS.out _ _ (λ_=>D) ?_;clear hKS KS;refine au rfl ?_;intro KS hKS;go_simp;refine hKS.out _ _ nofun ?_;clear hKS KS;refine aI rfl ?_;generalize eG im.zq Q S=J at*;generalize w8.drew=wd at*
      by_cases hp:P.toNat=105
      .have u1:((P.toNat:Int)==105)=true:=by rw[aX];omega
       by_cases hj:J.toNat=45
       .have u2:((J.toNat:Int)!=45)=false:=by rw[bne_eq_false_iff_eq];omega
        rw[if_neg (λh=>h.2 hj)]at d;subst d;clear hp hj;go_wp2_with fail
        go_ret2
        exact⟨⟨_,rfl⟩,G⟩
       .have u2:((J.toNat:Int)!=45)=true:=by rw[bne_iff_ne];omega
        rw[if_pos ⟨hp,hj⟩]at d;subst d;clear hp hj;go_wp2_with fail
        go_ret2
        exact⟨rfl,G⟩
      .have u1:=tf P.toNat 105 (by omega);rw[if_neg (λh=>hp h.1)]at d;subst d;clear hp;go_wp2_with fail
       go_ret2
       exact⟨⟨_,rfl⟩,G⟩
     rw[if_neg r]at d
     by_cases s:X.op.toNat=111
     .rw[if_pos s]at d;have L:=tf X.op.toNat 101 (by omega);have a0:=tf X.op.toNat 120 (by omega);have e2:=tf X.op.toNat 44 (by omega);have b0:=tf X.op.toNat 105 (by omega);have c8:((X.op.toNat:Int)==111)=true:=by rw[aX];omega
      have p:ar=2:=by rw[<-z.out];unfold az;simp[s]
      have Z:0<us.length:=by omega
      obtain⟨P,O⟩: ∃P,us.getD 0 0=P:=⟨_,rfl⟩;have k0: ∀h,(⟨us.toArray⟩:ByteArray)[0]'h=P:=λh=>by rw[<-O,bF us _ Z];exact ii us _ Z _
      have j0:(0:Int)<(us.length:Int):=by omega
      have o0:okT im.zq.length P=true:=by rw[<-O,bF us _ Z];exact T.out _ (bD Z)
      rw[O]at d;clear O;clear s a6 p z;go_wp2_with fail;refine aD (B_ w8) 4 ?_;have D:B_ w8 w8.drew:=aA _ _;have G:=B.trans D
      iterate 3 (refine aF (v:=?_) rfl D ?_ ?_;rotate_left;(focus (intro wS h;clear h;go_simp;try rfl));dsimp only[Act.put];try simp only[bW])
      refine au rfl ?_;intro KS hKS;go_simp;refine hKS.out _ _ (λ_=>D) ?_;clear hKS KS;refine au rfl ?_;intro KS hKS;go_simp;refine hKS.out _ _ nofun ?_;clear hKS KS;refine aI rfl ?_;generalize w8.drew=wd at*
      by_cases hp:P.toNat=105
      .have u1:((P.toNat:Int)==105)=true:=by rw[aX];omega
       rw[if_pos hp]at d;subst d;clear hp;rw[u1];go_wp2_with fail
       go_ret2
       exact⟨rfl,G⟩
      .have u1:=tf P.toNat 105 (by omega);rw[if_neg hp]at d;subst d;clear hp;rw[u1];go_wp2_with fail
       go_ret2
       exact⟨⟨105,rfl⟩,G⟩
     rw[if_neg s]at d;subst d;clear n0 n1;have g0:=ce0 E;have g1:=ce1 E;have g2:=ce2 E;have g3:=ce3 E;have g4:=ce4 E;have n0:=ce0 y;have n1:=ce1 y;have n2:=ce2 y;have n3:=ce3 y;have n4:=ce4 y;have L:=tf X.op.toNat 101 (by omega);have a0:=tf X.op.toNat 120 (by omega);have e2:=tf X.op.toNat 44 (by omega);have b0:=tf X.op.toNat 105 (by omega);have c8:=tf X.op.toNat 111 (by omega);clear q x M r s;go_wp2_with fail;refine(sF bi im bd _ n capk X e w8 (hI.but B) hW hbd l).mono ?_;rintro en w9 ⟨rfl,a3⟩;clear g0 g1 g2 g3 g4 n0 n1 n2 n3 n4;go_wp2_with fail
     go_ret2
     exact⟨rfl,B.trans a3⟩
    .obtain⟨q,x,M,r,s⟩:=f2 hAe;have l3:(0:Int)<(A.length:Int):=by cases A with|nil=>exact absurd rfl hAe|cons _ _=>simp
     clear f2;go_wp2_with fail;refine(ve bi im.zq us A w8 (hI.but B).cls hW.cls hW.nc T.out (by omega) (by omega)).mono ?_;rintro en k6 ⟨rfl,e0⟩
     cases hf:cF im.zq us A with
     |false=>
      rw[if_pos ⟨hAe,hf⟩]at d;subst d;clear hf hAe q x M r s;go_wp2_with fail
      go_ret2
      exact⟨⟨0,rfl⟩,B.trans e0⟩
     |true=>
      rw[if_neg (λh=>by rw[hf]at h;cases h.2),if_neg q,if_neg x,if_neg M,if_neg r,if_neg s]at d;subst d;clear hf hAe;have b4:=B.trans e0;have H:=(e0.block _ f0 (λh=>h)).trans E;have I:=(e0.block _ b7 (λh=>h)).trans y;have i6:=ae H;have k4:=ae I;have g0:=ce0 H;have g1:=ce1 H;have g2:=ce2 H;have g3:=ce3 H;have g4:=ce4 H;have n0:=ce0 I;have n1:=ce1 I;have n2:=ce2 I;have n3:=ce3 I;have n4:=ce4 I;have L:=tf X.op.toNat 101 (by omega);have a0:=tf X.op.toNat 120 (by omega);have e2:=tf X.op.toNat 44 (by omega);have b0:=tf X.op.toNat 105 (by omega);have c8:=tf X.op.toNat 111 (by omega);clear q x M r s
      go_wp2_with fail;refine(sF bi im bd _ n capk X e k6 (hI.but b4) hW hbd l).mono ?_;rintro en w9 ⟨rfl,a3⟩;clear g0 g1 g2 g3 g4 n0 n1 n2 n3 n4;go_wp2_with fail
      go_ret2
      exact⟨rfl,b4.trans a3⟩
theorem kP {s:ByteArray} {e p:Nat} (h:cO s= .error (e,p)):0<e/\e<=3:=by
 unfold cO at h
 split at h
 .cases h;omega
 .split at h
  .cases h;omega
  .split at h
   .cases h;omega
   .cases h
theorem sH {s:ByteArray} {e p:Nat} (h:cO s= .error (e,p)):dA s=(e,p):=by simp[dA,h]
theorem BF {s:ByteArray} {im:Img} (h:cO s= .ok im) {k:Nat} (hk:k<im.zj.length) (hb:dt im im.zj[k]=false) (ha: ∀j (hj:j<im.zj.length),j<k->dt im im.zj[j]=true):dA s=(4,k):=by
 have:im.zj.findIdx? (λb=> !dt im b)=some k:=by
  rw[List.findIdx?_eq_some_iff_getElem];exact⟨hk,by simp[hb],λj hj=>by simp[ha j (by omega) hj]⟩
 simp[dA,h,this]
theorem zw {s:ByteArray} {im:Img} (h:cO s= .ok im) (ha: ∀j (a:j<im.zj.length),dt im im.zj[j]=true):dA s=(0,0):=by
 have:im.zj.findIdx? (λb=> !dt im b)=none:=by
  rw[List.findIdx?_eq_none_iff];intro x c;obtain⟨j,a,rfl⟩:=List.getElem_of_mem c;simp[ha j a]
 simp[dA,h,this]
theorem oU (s:ByteArray) (w:World) (hmax:s.size<=maxLen):
  Calls prog 49 #[.string s] w λen w'=>en= .returned (.tuple #[.int .i64 (dA s).1,.int .i64 (dA s).2])/\B_ w w':=by
 obtain⟨R,I⟩: ∃R,dA s=R:=⟨_,rfl⟩;rw[I];have F:=hid I;clear I
 go_in
 go_wp2_with fail;refine(pB s w hmax).mono ?_;rintro en w1 ⟨rfl,r,hp⟩
 cases hl:cO s with
 |error q=>
  obtain⟨e,p⟩:=q;have a:R=(e,p):=by rw[<-F.out];exact sH hl
  subst a;obtain⟨he,b5⟩:=kP hl;have b6:((e:Int)!=0)=true:=by rw[bne_iff_ne];omega
  simp only[nG];clear hp hl;go_wp2_with fail
  go_ret2
  exact⟨rfl,r⟩
 |ok im=>
  rw[hl]at hp;obtain⟨O,E⟩:=hp;have S:=hid hl;clear hl;simp only[nG];obtain⟨v0,v1,v2,l,H,hC,hS,hB,hl,a4⟩:=O;have O:dZ w1 w.heap.size im:=⟨v0,v1,v2,l,H,hC,hS,hB,hl,a4⟩;obtain⟨a2,a6,rfl⟩:=ay hB;have e0:l.length<=7:=by have:=E.nb;rw[<-hl]at this;simpa using this
  have HL:Hid (l.map (·.1)=im.zj):=hl;clear hl;obtain⟨a1,cap1,rfl⟩:=ay hS;go_wp2_with fail
  go_loopg [7] l.length (λmm ks wr=> ∃(k:Nat),ks= .int .i64 k/\k<=l.length/\k+mm<=l.length/\l.length<=k+mm/\B_ w1 wr/\Hid (∀j (hj:j<im.zj.length),j<k->dt im im.zj[j]=true))
  case atStart=>exact⟨0,rfl,by omega,by omega,by omega,bf _ _,λj hj h=>absurd h (by omega)⟩
  case round=>
   obtain⟨k,rfl,b8,b9,c8,t,HA⟩:=hrel;have d1:=(H.but t (λh=>h)).c1;have d2:=(H.but t (λh=>h)).c2;have T:Hid (l.length=im.zj.length):=by show _=_;rw[<-HL.out];simp
   by_cases hlt:k<l.length
   .have Q:=aG hlt;obtain⟨g,rfl,b7,C,b⟩:=aE (ag hB t (λ_ _ h=>h)) (by omega);have q0:=b _ _ (eP Q);have q1:=b _ _ (eQ Q);have q2:=b _ _ (fO Q);have q3:=b _ _ (fP Q);have q4:=b _ _ (fQ Q);have z:l[k]∈l:=bD hlt;obtain⟨D,M⟩:=a4 _ z;have i:ey im.zq im.zx l[k].1:=E.bod _ (by rw[<-HL.out];exact List.mem_map_of_mem z);have y:k<im.zj.length:=by rw[<-T.out];exact hlt
    have J:im.zj[k]=l[k].1:=by
     have h1:(l.map (·.1))[k]?=im.zj[k]?:=by rw[HL.out]
     rw[cV,aG hlt,aG y]at h1;exact(Option.some.inj h1).symm
    have n:Hid (dt im l[k].1=false->R=(4,k)):=λh=>by
     rw[<-F.out];exact BF S.out y (by rw[J];exact h) HA.out
    have B:Hid (dt im l[k].1=true-> ∀j (hj:j<im.zj.length),j<k+1->dt im im.zj[j]=true):=λh j hj hjk=>by
     obtain h'|h':=gC j k
     .exact HA.out j hj h'
     .have:j=k:=by omega
      subst this;rw[J];exact h
    clear J y;obtain⟨X,hX⟩: ∃X,l[k]=X:=⟨_,rfl⟩;rw[hX]at q0 q1 q2 q3 q4 D M i n B;rw[M]at q3;obtain⟨Xb,Xk,Xt⟩:=X;simp only at q0 q1 q2 q3 q4 D i n B;obtain⟨ak,capk,rfl⟩:=ay D;clear b Q hX z M;have c9:(k:Int)<(l.length:Int):=by omega
    have b0:0<Xb.code.length:=nK (m:=0) i.full;have b1:B_ wr (wr.alloc (.cells #[.int .i64 Xb.cls,.int .i64 Xb.meth,.string ⟨Xb.zy.toArray⟩,S_,.slice ak Xb.code.length capk] 52)):=aa _ _ _;have b3:(wr.alloc (.cells #[.int .i64 Xb.cls,.int .i64 Xb.meth,.string ⟨Xb.zy.toArray⟩,S_,.slice ak Xb.code.length capk] 52)).heap[wr.heap.size]?=some (.cells #[.int .i64 Xb.cls,.int .i64 Xb.meth,.string ⟨Xb.zy.toArray⟩,S_,.slice ak Xb.code.length capk] 52):=aO _ _;go_wp2_with fail;generalize (wr.alloc (.cells #[.int .i64 Xb.cls,.int .i64 Xb.meth,.string ⟨Xb.zy.toArray⟩,S_,.slice ak Xb.code.length capk] 52))=wa at*
    clear q0 q1 q2 q3 q4 d1 d2;have x:=t.trans b1;refine(C6 w.heap.size im Xb ak Xb.code.length capk rfl E i Xb.code.length 0 0 wa b0 (by omega) (by simpa using i.full) (O.but x) (ag D x (λ_ _ h=>h))).mono ?_;rintro en w2 ⟨P,Y⟩;have d:=x.trans Y;have C:=Y.kp b3;have b4:=ae C
    cases hty:bX im.zq im.zx Xb.zy Xb.code Xb.code.length 0 with
    |none=>
     rw[hty]at P;obtain⟨v,rfl⟩:=P;have a:R=(4,k):=n.out (by simp[dt,hty]);subst a;clear hty;go_wp2_with fail
     go_ret2
     exact⟨rfl,r.trans d⟩
    |some c=>
     rw[hty]at P;have P:en= .returned (.tuple #[.int .u8 c.toNat,.bool true]):=P;subst P;have a5:=pZ E i hty;have g0:=ce0 C
     by_cases hcl:Xb.cls<0
     .have a0: ¬(0:Int)<=Xb.cls:=by omega
      have f:Hid (dt im Xb=bj im.zq c 105):=by show _=_;simp[dt,hty,hcl]
      clear hty hcl;go_wp2_with fail;refine(mp w.heap.size im.zq c 105 _ (O.but d).cls E.cls E.nc a5).mono ?_;rintro en wx ⟨rfl,A⟩;rw[A];clear A wx
      cases hsub:bj im.zq c 105 with
      |false=>
       have a:R=(4,k):=n.out (f.out.trans hsub);subst a;clear hsub;go_wp2_with fail
       go_ret2
       exact⟨rfl,r.trans d⟩
      |true=>
       have HH:=hid (B.out (f.out.trans hsub));clear hsub;go_wp2_with fail
       go_roundg (l.length-(k+1))
       case measure=>omega
       case rel=>exact⟨k+1,by simp,by omega,by omega,by omega,d,HH⟩
     .have a0:(0:Int)<=Xb.cls:=by omega
      have f:Hid (dt im Xb=bj im.zq c (fq im.zx Xb.meth.toNat)):=by show _=_;simp[dt,hty,hcl]
      obtain⟨mq,L,a3⟩: ∃mq:Nat,Xb.meth=mq/\mq<im.zx.length:=by
       obtain h|h:=i.cls
       .omega
       .exact⟨Xb.meth.toNat,by omega,by omega⟩
      have g1:w2.cell? ⟨wr.heap.size,1,none⟩=some (.int .i64 mq):=by rw[cz w2 _ 1 _ _ (0,0) C,<-L];rfl
      rw[L]at f;simp only[jZ]at f;clear hty hcl L;obtain⟨gS,mS,capS,e1,e2,b2,Z,lbi,lgS⟩:=(O.but d).sig.at a3;go_wp2_with fail
      go_quiet (fail)
      go_wp2_with fail;have G: ∀nd,B_ w1 (w2.drewN nd):=λnd=>d.trans (aH _ _ _)
      refine(mp w.heap.size im.zq c (fq im.zx mq) _ (O.but (G _)).cls E.cls E.nc a5).mono ?_;rintro en wx ⟨rfl,A⟩;rw[A];clear A wx g0 g1 e1 b2 Z
      cases hsub:bj im.zq c (fq im.zx mq)with
      |false=>
       have a:R=(4,k):=n.out (f.out.trans hsub);subst a;clear hsub;go_wp2_with fail
       go_ret2
       exact⟨rfl,r.trans (G _)⟩
      |true=>
       have HH:=hid (B.out (f.out.trans hsub));clear hsub;go_wp2_with fail
       go_roundg (l.length-(k+1))
       case measure=>omega
       case rel=>exact⟨k+1,by simp,by omega,by omega,by omega,G _,HH⟩
   .have a:R=(0,0):=by
     rw[<-F.out];exact zw S.out (λj hj=>HA.out j hj (by rw[<-T.out]at hj;omega))
    subst a;go_wp2_with fail
    go_ret2
    exact⟨rfl,r.trans t⟩
end
end Go.Proofs.YtpfkkmacakjmbaaGreatDoor
