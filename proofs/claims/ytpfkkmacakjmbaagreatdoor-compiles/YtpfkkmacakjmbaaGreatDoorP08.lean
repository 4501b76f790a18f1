import Derived.Test.YtpfkkmacakjmbaaGreatDoorP07
import Derived.Laws.StructEq
import Derived.Laws.MakeOwn
set_option maxRecDepth 100000
set_option maxHeartbeats 6400000
set_option linter.all false
namespace Go.Proofs.YtpfkkmacakjmbaaGreatDoor
open Proofs.Tryz
section
open Go Go.RowKit Sp
attribute [local go_sem ↓] eY eZ
theorem vh (l:L_) (k:Nat) (h:k<l.length):(⟨l.toArray⟩:ByteArray).extract k (k+1)=⟨#[l[k]]⟩:=by
 apply ByteArray.ext
 simp[ByteArray.data_extract];rw[List.take_one,List.head?_drop];simp[h]
theorem qt (bi:Nat) (im:Img) (nl:Nat) (x:Ins) (w:World) (hI:cH w bi im) (hW:WfI im) (hx:WfX im.zq im.zx.length nl x) (hdummy:True):
  Calls prog 136 #[.pointer (some ⟨bi,0,none⟩),.agg #[.int .u8 x.op.toNat,.int .i64 x.a,.int .i64 x.b,.int .i64 x.pos]] w λen w'=>en= .returned (.string ⟨(bz im.zq im.zx x).toArray⟩)/\B_ w w':=by
 have d:=hx.op;simp[cE]at d;have I:=hW.nc;obtain⟨W,f⟩: ∃W,w.alloc (.cells #[.int .u8 x.op.toNat,.int .i64 x.a,.int .i64 x.b,.int .i64 x.pos] 144)=W:=⟨_,rfl⟩;have e:B_ w W:=by rw[<-f];exact aa _ _ _
 have n:W.heap[w.heap.size]?=some (.cells #[.int .u8 x.op.toNat,.int .i64 x.a,.int .i64 x.b,.int .i64 x.pos] 144):=by rw[<-f];exact aO _ _
 have i:W.heap.size=w.heap.size+1:=by rw[<-f];simp
 have y:=cz W _ 1 _ _ (0,0) n;have t:=cz W _ 2 _ _ (0,0) n;simp at y t;have lI:=ae n;have j:=hI.but e;have c:=hid f;have k:B_ W W.drew:=aA _ _;clear f n
 by_cases h103:x.op.toNat=103
 .obtain⟨g,m,cap,fl,d0,hm,hc,r,q,lbi,lg⟩:=j.cls.flds (hx.cls (by omega)) (hx.fld (by omega));rw[show bz im.zq im.zx x=[cj im.zq x.a x.b]from by simp[bz,h103,arith],h103];rw[h103,show((103:Nat):Int)=103 from rfl]at c;have F:(x.b:Int)<(fl.length:Int):=by omega
  have G:(x.b:Int)+1<=(fl.length:Int):=by omega
  have H:=hx.num;have D:=dc ((x.b:Int)+1) (by omega) (by omega);have B:(x.b:Int)<=(x.b:Int)+1:=by omega
  have s:(0:Int)<=(x.b:Int)+1:=by omega
  have z:Hid ((⟨fl.toArray⟩:ByteArray).extract x.b (x.b+1)=⟨#[cj im.zq x.a x.b]⟩):=by show _=_;rw[vh fl x.b r,<-bF fl _ r,q]
  generalize cj im.zq x.a x.b=E at*;clear d h103 q i
  go_in
  go_wp2_with fail;rw[c.out];refine aD (B_ W) 15 ?_
  iterate 15 (refine aF (v:=?_) rfl k ?_ ?_;rotate_left;(focus (intro wS h;have M:=(h.kc y lI);have O:=(h.kc t lI);have P:=(h.kc d0 lbi);have Q:=(h.kc hc lg);clear h;go_simp;try rfl));dsimp only[Act.put];try simp only[bW])
  clear D B s;refine au rfl ?_;intro KS hKS;go_simp;refine hKS.out _ _ nofun ?_;clear hKS KS;refine aI rfl ?_;rw[z.out];go_wp2_with fail;go_ret;exact⟨rfl,e.trans (aA _ _)⟩
 by_cases h99:x.op.toNat=99
 .obtain⟨g,m,cap,d1,hm,hc,A,lbi,lg⟩:=j.sig.at (hx.sig h99);rw[show bz im.zq im.zx x=[fq im.zx x.b]from by simp[bz,h99,arith],h99];rw[h99,show((99:Nat):Int)=99 from rfl]at c;have l:=Bh ((fq im.zx x.b).toNat:Int) (fq im.zx x.b) rfl;generalize fq im.zx x.b=E at*;clear d h103 h99 i
  go_in
  go_wp2_with fail;rw[c.out];refine aD (B_ W) 11 ?_
  iterate 9 (refine aF (v:=?_) rfl k ?_ ?_;rotate_left;(focus (intro wS h;have M:=(h.kc t lI);have O:=(h.kc d1 lbi);have P:=(h.kc A lg);clear h;go_simp;try rfl));dsimp only[Act.put];try simp only[bW])
  refine au rfl ?_;intro KS hKS;go_simp;refine hKS.out _ _ (λ_=>(aa _ _ _).trans (aA _ _)) ?_;clear hKS KS;refine au rfl ?_;intro KS hKS;go_simp;refine hKS.out _ _ (λ_=>(aa _ _ _).trans (aA _ _)) ?_;clear hKS KS;refine dU rfl ?_;go_wp2_with fail;go_ret;exact⟨rfl,e.trans ((aa _ _ _).trans (aA _ _))⟩
 by_cases hnx:x.op.toNat=110\/x.op.toNat=120
 .have J:=hx.cls (by omega);have l:=tC (65+(x.a:Int)) (bQ x.a) (jL (by omega)) W;rw[i,<-c.out]at l;have L:(x.a:Int)<4:=by omega
  have p:bz im.zq im.zx x=[bQ x.a]:=by rcases hnx with hv|hv<;>simp[bz,hv,arith]
  rw[p];generalize bQ x.a=C at*;clear d p i c j hI hx e y t lI k;obtain h|h:=hnx
  all_goals
   first|rw[h,show((110:Nat):Int)=110 from rfl]at l|rw[h,show((120:Nat):Int)=120 from rfl]at l
   rw[h];clear h103 h99 h
   go_in
   go_wp2_with fail;go_ret;exact⟨rfl,(aa _ _ _).trans (aa _ _ _)⟩
 simp only[not_or]at hnx;simp only[h103,h99,hnx.1,hnx.2,or_false,false_or]at d;clear i c j hI e y t lI k;obtain h'|h'|h'|h'|h'|h'|h'|h'|h'|h'|h'|h'|h'|h'|h'|h'|h'|h':=d
 all_goals
  rw[show bz im.zq im.zx x=_ from by simp only[bz,arith,h'];rfl,h'];clear h103 h99 hnx h' hx
  go_in
  go_wp2_with fail;go_ret;exact⟨rfl,aa _ _ _⟩
def xf (R:Option (L_×L_)) (st lo:L_):Value:=match R with
 |some (s,l)=> .tuple #[.agg #[.bool true,.string ⟨s.toArray⟩,.string ⟨l.toArray⟩],.bool true]
 |none=> .tuple #[.agg #[.bool true,.string ⟨st.toArray⟩,.string ⟨lo.toArray⟩],.bool false]
theorem jr (l:L_) (k:Nat):(⟨l.toArray⟩:ByteArray).extract 0 k=⟨(l.take k).toArray⟩:=by
 apply ByteArray.ext
 simp[ByteArray.data_extract]
theorem nH (l:L_) (k:Nat):(⟨l.toArray⟩:ByteArray).extract k l.length=⟨(l.drop k).toArray⟩:=by
 apply ByteArray.ext
 simp[ByteArray.data_extract];rw[fd (by simp)]
theorem yX (cs:List Cls) (gs:List Sig) (b:Bod) (x:Ins):(bE cs gs b x).length<=2:=by
 unfold bE
 repeat' split
 all_goals simp
theorem yY {cs:List Cls} {st wa:L_} (h:cF cs st wa=true):wa.length<=st.length:=by
 unfold cF at h;simp at h;exact h.1
theorem C4 (bd:Bod) (ak:Option Addr) (n capk:Nat) (x:Ins) (st lo:L_) (w:World): ∃W,(((w.alloc (.cells #[.int .i64 bd.cls,.int .i64 bd.meth,.string ⟨bd.zy.toArray⟩,.slice ak n capk,S_] 52)).alloc (.cells #[.int .u8 x.op.toNat,.int .i64 x.a,.int .i64 x.b,.int .i64 x.pos] 144)).alloc (.cells #[.bool true,.string ⟨st.toArray⟩,.string ⟨lo.toArray⟩] 91)).alloc (.cells #[.bool false,.string ⟨#[]⟩,.string ⟨#[]⟩] 91)=W/\B_ w W/\W.heap[w.heap.size+3]?=some (.cells #[.bool false,.string ⟨#[]⟩,.string ⟨#[]⟩] 91)/\W.heap[w.heap.size+2]?=some (.cells #[.bool true,.string ⟨st.toArray⟩,.string ⟨lo.toArray⟩] 91)/\W.heap[w.heap.size+1]?=some (.cells #[.int .u8 x.op.toNat,.int .i64 x.a,.int .i64 x.b,.int .i64 x.pos] 144)/\W.heap[w.heap.size]?=some (.cells #[.int .i64 bd.cls,.int .i64 bd.meth,.string ⟨bd.zy.toArray⟩,.slice ak n capk,S_] 52):=by
 have a1: ∀(W:World) o,B_ W (W.alloc o):=λ_ _=>aa _ _ _
 exact⟨_,rfl,(((a1 _ _).trans (a1 _ _)).trans (a1 _ _)).trans (a1 _ _),aB (by simp) _,(a1 _ _).kp (aB (by simp) _),(a1 _ _).kp ((a1 _ _).kp (aB (by simp) _)),(a1 _ _).kp ((a1 _ _).kp ((a1 _ _).kp (aO _ _)))⟩
theorem yZ (bi:Nat) (im:Img) (bd:Bod) (ak:Option Addr) (n capk:Nat) (x:Ins) (st lo:L_) (w:World) (hI:cH w bi im) (hW:WfI im) (hbd:WfB im.zq im.zx bd) (hx:WfX im.zq im.zx.length bd.zy.length x) (hst: ∀c∈st,okT im.zq.length c=true) (hsl:st.length<=200000000) (hll:lo.length=bd.zy.length) (hv:x.op.toNat≠115/\x.op.toNat≠100/\x.op.toNat≠101/\x.op.toNat≠120/\x.op.toNat≠108):
  Calls prog 84 #[.pointer (some ⟨bi,0,none⟩),.agg #[.int .i64 bd.cls,.int .i64 bd.meth,.string ⟨bd.zy.toArray⟩,.slice ak n capk,S_],.agg #[.int .u8 x.op.toNat,.int .i64 x.a,.int .i64 x.b,.int .i64 x.pos],.agg #[.bool true,.string ⟨st.toArray⟩,.string ⟨lo.toArray⟩]] w λen w'=>en= .returned (xf (cC im.zq im.zx bd x st lo) st lo)/\B_ w w':=by
 obtain⟨R,J⟩: ∃R,cC im.zq im.zx bd x st lo=R:=⟨_,rfl⟩;rw[J];have O:Hid (cC im.zq im.zx bd x st lo=R):=J;clear J;have b4:lo.length<=5:=by have:=hbd.loc.1;omega
 have c8:=tf x.op.toNat 115 (by omega);have b7:=tf x.op.toNat 100 (by omega);have b8:=tf x.op.toNat 101 (by omega);have c9:=tf x.op.toNat 120 (by omega);have b9:=tf x.op.toNat 108 (by omega);have y:R=if cF im.zq st (bE im.zq im.zx bd x)=true then some (st.take (st.length-(bE im.zq im.zx bd x).length)++bz im.zq im.zx x,lo)else none:=by rw[<-O.out,cC,if_neg (by omega),if_neg (by omega)]
 have e0:=yX im.zq im.zx bd x;have e2:=md im.zq im.zx x;have G:=λw (h:cH w bi im)=>Bi bi im bd ak n capk x w h hW hbd hx trivial
 have s:=λw (h:cH w bi im)=>qt bi im bd.zy.length x w h hW hx trivial
 generalize bE im.zq im.zx bd x=P at*;generalize bz im.zq im.zx x=U at*;have a3:Hid (R=if cF im.zq st P=true then some (st.take (st.length-P.length)++U,lo)else none):=y;have M:=hid G;have H:=hid s;clear y hv O hll G s
 go_in
 go_wp2_with fail;obtain⟨W,a2,X,d,e,f,j⟩:=C4 bd ak n capk x st lo w;rw[a2];clear a2;refine(M.out _ (hI.but X)).mono ?_;rintro en w1 ⟨rfl,l⟩;replace d:=l.kp d;replace e:=l.kp e;replace f:=l.kp f;replace j:=l.kp j;have E:=X.trans l;have C:=ce0 e;have g:=ce1 e;have i:=ce2 e;go_wp2_with fail;refine(ve bi im.zq st P _ (hI.but E).cls hW.cls hW.nc hst (by omega) (by omega)).mono ?_;rintro en L ⟨rfl,m⟩;clear C g i;replace d:=m.kp d;replace e:=m.kp e;replace f:=m.kp f;replace j:=m.kp j;have r:=E.trans m;have a4:=ce0 f;have a5:=ce1 f;have a6:=ce2 f;have b0:=ce3 f;have C:=ce0 e;have g:=ce1 e;have i:=ce2 e
 have z:=ce0 d;have Q:L.frozen? ⟨w.heap.size+3,0,none⟩=false:=bG L _ 0 _ _ d;have A:=ce1 d;have S:L.frozen? ⟨w.heap.size+3,1,none⟩=false:=bG L _ 1 _ _ d;have B:=ce2 d;have T:L.frozen? ⟨w.heap.size+3,2,none⟩=false:=bG L _ 2 _ _ d;have Z:Hid (∀q,cF im.zq st P=q->R=if q=true then some (st.take (st.length-P.length)++U,lo)else none):=λq hq=>by rw[a3.out,hq]
 have I:cF im.zq st P=true->P.length<=st.length:=yY
 cases hq:cF im.zq st P with
 |false=>
  have t:R=none:=by have:=Z.out _ hq;simpa using this
  subst t;clear hq I;go_wp2_with fail;refine cA (v:= .tuple #[.agg #[.bool true,.string ⟨st.toArray⟩,.string ⟨lo.toArray⟩],.bool false]) (by simp[results,results84,go_sem,z,A,B]) rfl ⟨rfl,?_⟩;exact((r.next (aj _ _ _ _) (λk hk h=>by omega)).next (aj _ _ _ _) (λk hk h=>by omega)).next (aj _ _ _ _) (λk hk h=>by omega)
 |true=>
  have t:R=some (st.take (st.length-P.length)++U,lo):=by have:=Z.out _ hq;simpa using this
  have e1:=I hq;subst t;clear hq I;go_wp2_with fail;refine(H.out _ (hI.but r)).mono ?_;rintro en D ⟨rfl,p⟩;clear a4 a5 a6 b0 C g i z A B Q S T;replace d:=p.kp d;replace e:=p.kp e;replace f:=p.kp f;replace j:=p.kp j;have Y:=r.trans p;have C:=ce0 e;have g:=ce1 e;have i:=ce2 e;have z:=ce0 d;have Q:D.frozen? ⟨w.heap.size+3,0,none⟩=false:=bG D _ 0 _ _ d;have A:=ce1 d;have S:D.frozen? ⟨w.heap.size+3,1,none⟩=false:=bG D _ 1 _ _ d;have B:=ce2 d;have T:D.frozen? ⟨w.heap.size+3,2,none⟩=false:=bG D _ 2 _ _ d;have b1:(P.length:Int)<=(st.length:Int):=by omega
  have b2:(0:Int)<=(st.length:Int)-(P.length:Int):=by omega
  have b3:(st.length:Int)-(P.length:Int)<=(st.length:Int):=by omega
  have b6:=dc ((st.length:Int)-(P.length:Int)) (by omega) (by omega);have lS:=ae e;go_wp2_with fail;have a1:B_ D D.drew:=aA _ _;refine aD (B_ D) 12 ?_
  iterate 7 (refine aF (v:=?_) rfl a1 ?_ ?_;rotate_left;(focus (intro wS h;have q0:=(h.kc g lS);have q1:=(h.kc i lS);clear h;go_simp;try rfl));dsimp only[Act.put];try simp only[bW])
  have F:(⟨st.toArray⟩:ByteArray).extract 0 (st.length-P.length)=⟨(st.take (st.length-P.length)).toArray⟩:=jr _ _;have b5:(⟨(st.take (st.length-P.length)).toArray⟩:ByteArray).size+(⟨U.toArray⟩:ByteArray).size<=300000000:=by show(st.take (st.length-P.length)).toArray.size+U.toArray.size<=300000000;simp;omega
  rw[F];have a0: ¬9223372036854775807<st.length-P.length+U.length:=by omega
  iterate 5 (refine aF (v:=?_) rfl a1 ?_ ?_;rotate_left;(focus (intro wS h;have q0:=(h.kc g lS);have q1:=(h.kc i lS);clear h;go_simp;try rfl));dsimp only[Act.put];try simp only[bW])
  clear a0 b5 F b6 b2 b3 b1;refine dU rfl ?_;go_wp2_with fail;refine cA (v:= .tuple #[.agg #[.bool true,.string ⟨(st.take (st.length-P.length)++U).toArray⟩,.string ⟨lo.toArray⟩],.bool true]) ?_ rfl ⟨rfl,?_⟩
  .rw[<-db];simp[results,results84,go_sem,z,A,B]
  .exact(((Y.next (aj _ _ _ _) (λk hk h=>by omega)).next (aj _ _ _ _) (λk hk h=>by omega)).next (aj _ _ _ _) (λk hk h=>by omega)).trans (aA _ _)
theorem EZ (bi:Nat) (im:Img) (bd:Bod) (ak:Option Addr) (n capk:Nat) (x:Ins) (st lo:L_) (w:World) (hI:cH w bi im) (hW:WfI im) (hbd:WfB im.zq im.zx bd) (hx:WfX im.zq im.zx.length bd.zy.length x) (hst: ∀c∈st,okT im.zq.length c=true) (hsl:st.length<=200000000) (hll:lo.length=bd.zy.length) (hv:x.op.toNat=108):
  Calls prog 84 #[.pointer (some ⟨bi,0,none⟩),.agg #[.int .i64 bd.cls,.int .i64 bd.meth,.string ⟨bd.zy.toArray⟩,.slice ak n capk,S_],.agg #[.int .u8 x.op.toNat,.int .i64 x.a,.int .i64 x.b,.int .i64 x.pos],.agg #[.bool true,.string ⟨st.toArray⟩,.string ⟨lo.toArray⟩]] w λen w'=>en= .returned (xf (cC im.zq im.zx bd x st lo) st lo)/\B_ w w':=by
 obtain⟨R,l⟩: ∃R,cC im.zq im.zx bd x st lo=R:=⟨_,rfl⟩;rw[l];have p:Hid (cC im.zq im.zx bd x st lo=R):=l;clear l;have P:lo.length<=5:=by have:=hbd.loc.1;omega
 have Y:=tf x.op.toNat 115 (by omega);have S:=tf x.op.toNat 100 (by omega);have T:=tf x.op.toNat 101 (by omega);have Z:=tf x.op.toNat 120 (by omega);have X:((x.op.toNat:Int)==108)=true:=by rw[aX];omega
 have J:x.b<lo.length:=by rw[hll];exact hx.loc (by omega)
 have b0:(x.b:Int)<(lo.length:Int):=by omega
 have g:R=if(lo.getD x.b 0).toNat=45 then none else some (st++ [lo.getD x.b 0],lo):=by rw[<-p.out,cC,if_neg (by omega),if_pos hv]
 have m:=bF lo _ J;have b2: ∀h,(⟨lo.toArray⟩:ByteArray)[x.b]'h=lo.getD x.b 0:=λh=>by rw[m];exact ii lo _ J _
 have j:(⟨lo.toArray⟩:ByteArray).extract x.b (x.b+1)=⟨#[lo.getD x.b 0]⟩:=by rw[vh lo x.b J,m]
 clear m;generalize lo.getD x.b 0=C at*;have q:Hid (R=if C.toNat=45 then none else some (st++ [C],lo)):=g;have D:Hid ((⟨lo.toArray⟩:ByteArray).extract x.b (x.b+1)=⟨#[C]⟩):=j;clear g hv p hll j
 by_cases h45:C.toNat=45
 .have f:R=none:=by rw[q.out,if_pos h45]
  subst f;have tc:((C.toNat:Int)==45)=true:=by rw[aX];omega
  clear h45
  go_in
  go_wp2_with fail;refine cA (v:= .tuple #[.agg #[.bool true,.string ⟨st.toArray⟩,.string ⟨lo.toArray⟩],.bool false]) (by simp[results,results84,go_sem]) rfl ⟨rfl,?_⟩;exact(((aa _ _ _).trans (aa _ _ _)).trans (aa _ _ _)).trans (aa _ _ _)
 .have f:R=some (st++ [C],lo):=by rw[q.out,if_neg h45]
  subst f;have tc:=tf C.toNat 45 (by omega);clear h45
  go_in
  go_wp2_with fail;obtain⟨W,y,I,d,i,e,b1⟩:=C4 bd ak n capk x st lo w;rw[y];clear y;have a0:=ce0 e;have a1:=ce1 e;have E:=ce2 e;have a2:=ce3 e;have a3:=ce0 i;have r:=ce1 i;have s:=ce2 i;have F:=ce0 d;have a4:W.frozen? ⟨w.heap.size+3,0,none⟩=false:=bG W _ 0 _ _ d;have G:=ce1 d;have a5:W.frozen? ⟨w.heap.size+3,1,none⟩=false:=bG W _ 1 _ _ d;have H:=ce2 d;have a6:W.frozen? ⟨w.heap.size+3,2,none⟩=false:=bG W _ 2 _ _ d;have lS:=ae i;have lI:=ae e;have Q:=hx.num;have O:=dc ((x.b:Int)+1) (by omega) (by omega);have M:(x.b:Int)<=(x.b:Int)+1:=by omega
  have A:(0:Int)<=(x.b:Int)+1:=by omega
  have B:(x.b:Int)+1<=(lo.length:Int):=by omega
  have t:B_ W W.drew:=aA _ _;refine aD (B_ W) 14 ?_
  iterate 10 (refine aF (v:=?_) rfl t ?_ ?_;rotate_left;(focus (intro wS h;have q0:=(h.kc r lS);have q1:=(h.kc s lS);have q2:=(h.kc E lI);clear h;go_simp;try rfl));dsimp only[Act.put];try simp only[bW])
  rw[D.out];clear O M A B;have z: ¬9223372036854775807<st.length+1:=by omega
  have L:(⟨#[C]⟩:ByteArray).size=1:=rfl
  iterate 4 (refine aF (v:=?_) rfl t ?_ ?_;rotate_left;(focus (intro wS h;have q0:=(h.kc r lS);have q1:=(h.kc s lS);clear h;go_simp;try rfl));dsimp only[Act.put];try simp only[bW])
  clear z L;refine dU rfl ?_;go_wp2_with fail;refine cA (v:= .tuple #[.agg #[.bool true,.string ⟨(st++ [C]).toArray⟩,.string ⟨lo.toArray⟩],.bool true]) ?_ rfl ⟨rfl,?_⟩
  .rw[<-fp];simp[results,results84,go_sem,F,G,H]
  .exact(((I.next (aj _ _ _ _) (λk hk h=>by omega)).next (aj _ _ _ _) (λk hk h=>by omega)).next (aj _ _ _ _) (λk hk h=>by omega)).trans (aA _ _)
theorem y7 (lo st:L_) (b:Nat) (hb:b<lo.length) (hs:0<st.length):
  ((⟨lo.toArray⟩:ByteArray).extract 0 b++(⟨st.toArray⟩:ByteArray).extract (st.length-1) st.length)++(⟨lo.toArray⟩:ByteArray).extract (b+1) lo.length=⟨(lo.set b (st.getD (st.length-1) 0)).toArray⟩:=by
 rw[jr,nH,nH,db,db]
 congr 2
 have a:st.drop (st.length-1)=[st.getD (st.length-1) 0]:=by
  rw[bF st _ (by omega)];rw[List.drop_eq_getElem_cons (by omega)];rw[List.drop_eq_nil_of_le (by omega)]
 rw[a,List.set_eq_take_append_cons_drop,if_pos hb];simp
theorem sB {c:Nat} {st:L_} {k:Nat} (h:cY c st=some k):k<=st.length/\1<=k:=by
 unfold cY at h
 split at h
 .split at h
  .cases h
  .rename_i h1;cases h;omega
 .split at h
  .cases h
  .rename_i h1;cases h;omega
theorem C5 (bi:Nat) (im:Img) (bd:Bod) (ak:Option Addr) (n capk:Nat) (x:Ins) (st lo:L_) (w:World) (hI:cH w bi im) (hW:WfI im) (hbd:WfB im.zq im.zx bd) (hx:WfX im.zq im.zx.length bd.zy.length x) (hst: ∀c∈st,okT im.zq.length c=true) (hsl:st.length<=200000000) (hll:lo.length=bd.zy.length) (hv:x.op.toNat=115):
  Calls prog 84 #[.pointer (some ⟨bi,0,none⟩),.agg #[.int .i64 bd.cls,.int .i64 bd.meth,.string ⟨bd.zy.toArray⟩,.slice ak n capk,S_],.agg #[.int .u8 x.op.toNat,.int .i64 x.a,.int .i64 x.b,.int .i64 x.pos],.agg #[.bool true,.string ⟨st.toArray⟩,.string ⟨lo.toArray⟩]] w λen w'=>en= .returned (xf (cC im.zq im.zx bd x st lo) st lo)/\B_ w w':=by
 obtain⟨R,T⟩: ∃R,cC im.zq im.zx bd x st lo=R:=⟨_,rfl⟩;rw[T];have b0:Hid (cC im.zq im.zx bd x st lo=R):=T;clear T;have e4:lo.length<=5:=by have:=hbd.loc.1;omega
 have f1:((x.op.toNat:Int)==115)=true:=by rw[aX];omega
 have hb:x.b<lo.length:=by rw[hll];exact hx.loc (by omega)
 have f4:(x.b:Int)<(lo.length:Int):=by omega
 have r:R=match cY x.op.toNat st with|none=>none|some k=>some (st.take (st.length-k)++bz im.zq im.zx x,lo.set x.b (st.getD (st.length-1) 0)):=by rw[<-b0.out,cC,if_pos (by omega)];cases cY x.op.toNat st<;>simp[hv]
 have f3:=md im.zq im.zx x;have E:=λw (h:cH w bi im)=>qt bi im bd.zy.length x w h hW hx trivial
 generalize bz im.zq im.zx x=U at*;obtain⟨g,D⟩: ∃g,lo.set x.b (st.getD (st.length-1) 0)=g:=⟨_,rfl⟩;rw[D]at r;have b5:Hid (lo.set x.b (st.getD (st.length-1) 0)=g):=D;clear D;have Q:Hid (R=match cY x.op.toNat st with|none=>none|some k=>some (st.take (st.length-k)++U,g)):=r;have P:=hid E;clear r hv b0 hll E
 go_in
 go_wp2_with fail;obtain⟨W,b4,b6,e,f,d,i⟩:=C4 bd ak n capk x st lo w;rw[b4];clear b4;refine(sA x st _ (by omega)).mono ?_;rintro en w1 ⟨rfl,z⟩;replace e:=z.kp e;replace f:=z.kp f;replace d:=z.kp d;replace i:=z.kp i;have J:=b6.trans z;have m:=ce0 d;have p:=ce1 d;have l:=ce2 d;have q:=ce3 d;have S:=ce0 f;have t:=ce1 f;have y:=ce2 f;have G:=ce0 e;have b1:w1.frozen? ⟨w.heap.size+3,0,none⟩=false:=bG w1 _ 0 _ _ e;have H:=ce1 e;have b2:w1.frozen? ⟨w.heap.size+3,1,none⟩=false:=bG w1 _ 1 _ _ e;have I:=ce2 e;have b3:w1.frozen? ⟨w.heap.size+3,2,none⟩=false:=bG w1 _ 2 _ _ e;have lS:=ae f;have lI:=ae d;have lR:=ae e
 have X:= @sB x.op.toNat st
 cases hq:cY x.op.toNat st with
 |none=>
  have F:R=none:=by rw[Q.out,hq]
  subst F;simp only[qr];clear hq X;go_wp2_with fail;refine cA (v:= .tuple #[.agg #[.bool true,.string ⟨st.toArray⟩,.string ⟨lo.toArray⟩],.bool false]) (by simp[results,results84,go_sem,G,H,I]) rfl ⟨rfl,?_⟩;exact((J.next (aj _ _ _ _) (λk hk h=>by omega)).next (aj _ _ _ _) (λk hk h=>by omega)).next (aj _ _ _ _) (λk hk h=>by omega)
 |some k=>
  have F:R=some (st.take (st.length-k)++U,g):=by rw[Q.out,hq]
  subst F;obtain⟨g0,f6⟩:=X hq;simp only[qr];clear hq X Q;have f5:(0:Int)<=(k:Int):=by omega
  go_wp2_with fail;have e0:(0:Int)<=(st.length:Int)-(k:Int):=by omega
  have e1:(st.length:Int)-(k:Int)<=(st.length:Int):=by omega
  have e2:(k:Int)<=(st.length:Int):=by omega
  have Z:=dc ((st.length:Int)-(k:Int)) (by omega) (by omega);have b7:B_ w1 w1.drew:=aA _ _;refine aD (B_ w1) 10 ?_
  iterate 9 (refine aF (v:=?_) rfl b7 ?_ ?_;rotate_left;(focus (intro wS h;have q0:=(h.kc t lS);have q1:=(h.kc y lS);clear h;go_simp;try rfl));dsimp only[Act.put];try simp only[bW])
  have L:(⟨st.toArray⟩:ByteArray).extract 0 (st.length-k)=⟨(st.take (st.length-k)).toArray⟩:=jr _ _;rw[L];clear L Z e0 e1 e2;refine au rfl ?_;intro KS hKS;go_simp;refine hKS.out _ _ (λ_=>(aa _ _ _).trans (aA _ _)) ?_;clear hKS KS;refine au rfl ?_;intro KS hKS;go_simp;refine hKS.out _ _ nofun ?_;clear hKS KS;refine aI rfl ?_;clear m p l q S t y G H I b1 b2 b3;have A:B_ w1 (w1.alloc (.cells #[.bool true,.string ⟨(st.take (st.length-k)).toArray⟩,.string ⟨lo.toArray⟩] 91)).drew:=(aa _ _ _).trans (aA _ _);have j:(w1.alloc (.cells #[.bool true,.string ⟨(st.take (st.length-k)).toArray⟩,.string ⟨lo.toArray⟩] 91)).drew.heap[w1.heap.size]?=some (.cells #[.bool true,.string ⟨(st.take (st.length-k)).toArray⟩,.string ⟨lo.toArray⟩] 91):=aO w1 _
  replace e:=A.kp e;replace f:=A.kp f;replace d:=A.kp d;replace i:=A.kp i;have a0:=J.trans A;generalize (w1.alloc (.cells #[.bool true,.string ⟨(st.take (st.length-k)).toArray⟩,.string ⟨lo.toArray⟩] 91)).drew=w2 at*;obtain⟨gT,M⟩: ∃gT,w1.heap.size=gT:=⟨_,rfl⟩;rw[M]at j⊢;have f2:w.heap.size+3<gT:=by omega
  clear M;have m:=ce0 d;have p:=ce1 d;have l:=ce2 d;have q:=ce3 d;have g1:(1:Int)<=(st.length:Int):=by omega
  go_wp2_with fail;clear m p l q;have m:=ce0 d;have p:=ce1 d;have l:=ce2 d;have q:=ce3 d;have S:=ce0 f;have t:=ce1 f;have y:=ce2 f;replace lS:=ae f;replace lI:=ae d;have f0:=hx.num;have Z:=dc ((x.b:Int)+1) (by omega) (by omega);have a6:=dc ((st.length:Int)-1) (by omega) (by omega);have e5:(0:Int)<=(st.length:Int)-1:=by omega
  have e6:(st.length:Int)-1<=(st.length:Int):=by omega
  have e3:(x.b:Int)<=(lo.length:Int):=by omega
  have a4:(0:Int)<=(x.b:Int)+1:=by omega
  have a5:(x.b:Int)+1<=(lo.length:Int):=by omega
  have b9: ¬9223372036854775807<min x.b lo.length+(st.length-(st.length-1)):=by omega
  have c8: ¬9223372036854775807<min x.b lo.length+(st.length-(st.length-1))+(lo.length-(x.b+1)):=by omega
  have c9: ¬9223372036854775807<x.b+1:=by omega
  have b8:B_ w2 w2.drew:=aA _ _;refine aD (B_ w2) 19 ?_
  iterate 19 (refine aF (v:=?_) rfl b8 ?_ ?_;rotate_left;(focus (intro wS h;have q0:=(h.kc t lS);have q1:=(h.kc y lS);have q2:=(h.kc l lI);clear h;go_simp;try rfl));dsimp only[Act.put];try simp only[bW])
  have Y:=y7 lo st x.b hb (by omega);rw[b5.out]at Y;rw[Y];clear Y Z a6 e5 e6 e3 a4 a5 b9 c8 c9;have T2:=ce2 j;have F2:w2.frozen? ⟨gT,2,none⟩=false:=bG w2 _ 2 _ _ j;refine au rfl ?_;intro KS hKS;go_simp;refine hKS.out _ _ nofun ?_;clear hKS KS T2 F2;refine aI rfl ?_;clear m p l q S t y;have B:But (· =gT) w2 (w2.setCell ⟨gT,2,none⟩ (.string ⟨g.toArray⟩)).drew:=(aj _ _ _ _).next (aA (λ_=>False) _) (λ_ _ h=>h.elim);have a3:(w2.setCell ⟨gT,2,none⟩ (.string ⟨g.toArray⟩)).drew.heap[gT]?=some (.cells #[.bool true,.string ⟨(st.take (st.length-k)).toArray⟩,.string ⟨g.toArray⟩] 91):=cQ w2 _ 2 _ _ _ j
  replace e:=(B.block _ (ae e) (by omega)).trans e;replace f:=(B.block _ (ae f) (by omega)).trans f;replace d:=(B.block _ (ae d) (by omega)).trans d;replace i:=(B.block _ (ae i) (by omega)).trans i;have C:=a0.next B (λk hk h=>by omega);generalize (w2.setCell ⟨gT,2,none⟩ (.string ⟨g.toArray⟩)).drew=w2c at*;have m:=ce0 d;have p:=ce1 d;have l:=ce2 d;have q:=ce3 d;go_wp2_with fail;refine(P.out _ (hI.but C)).mono ?_;rintro en O ⟨rfl,s⟩;clear m p l q;replace j:=s.kp a3;replace e:=s.kp e;replace f:=s.kp f;replace d:=s.kp d;replace i:=s.kp i;have a1:=C.trans s;have G:=ce0 e;have b1:O.frozen? ⟨w.heap.size+3,0,none⟩=false:=bG O _ 0 _ _ e
  have H:=ce1 e;have b2:O.frozen? ⟨w.heap.size+3,1,none⟩=false:=bG O _ 1 _ _ e;have I:=ce2 e;have b3:O.frozen? ⟨w.heap.size+3,2,none⟩=false:=bG O _ 2 _ _ e;have T0:=ce0 j;have T1:=ce1 j;have T2:=ce2 j;have F1:O.frozen? ⟨gT,1,none⟩=false:=bG O _ 1 _ _ j;have a2: ¬9223372036854775807<st.length-k+U.length:=by omega
  have e7:gT≠w.heap.size+3:=by omega
  have e8:w.heap.size+3≠gT:=by omega
  go_wp2_with fail;clear a2;refine cA (v:= .tuple #[.agg #[.bool true,.string ⟨(st.take (st.length-k)++U).toArray⟩,.string ⟨g.toArray⟩],.bool true]) ?_ rfl ⟨rfl,?_⟩
  .rw[<-db];simp[results,results84,go_sem,G,H,I]
  .exact(((a1.next (aj _ _ _ _) (λk hk h=>by omega)).next (aj _ _ _ _) (λk hk h=>by omega)).next (aj _ _ _ _) (λk hk h=>by omega)).next (aj _ _ _ _) (λk hk h=>by omega)
theorem Ef (bi:Nat) (im:Img) (bd:Bod) (ak:Option Addr) (n capk:Nat) (x:Ins) (st lo:L_) (w:World) (hI:cH w bi im) (hW:WfI im) (hbd:WfB im.zq im.zx bd) (hx:WfX im.zq im.zx.length bd.zy.length x) (hst: ∀c∈st,okT im.zq.length c=true) (hsl:st.length<=200000000) (hll:lo.length=bd.zy.length) (hv:x.op.toNat=100\/x.op.toNat=101\/x.op.toNat=120):
  Calls prog 84 #[.pointer (some ⟨bi,0,none⟩),.agg #[.int .i64 bd.cls,.int .i64 bd.meth,.string ⟨bd.zy.toArray⟩,.slice ak n capk,S_],.agg #[.int .u8 x.op.toNat,.int .i64 x.a,.int .i64 x.b,.int .i64 x.pos],.agg #[.bool true,.string ⟨st.toArray⟩,.string ⟨lo.toArray⟩]] w λen w'=>en= .returned (xf (cC im.zq im.zx bd x st lo) st lo)/\B_ w w':=by
 obtain⟨R,L⟩: ∃R,cC im.zq im.zx bd x st lo=R:=⟨_,rfl⟩;rw[L];have O:Hid (cC im.zq im.zx bd x st lo=R):=L;clear L;have b6:lo.length<=5:=by have:=hbd.loc.1;omega
 have c9:=tf x.op.toNat 115 (by omega);obtain⟨b1,a1⟩: ∃b,((x.op.toNat:Int)==100)=b:=⟨_,rfl⟩;obtain⟨b2,a2⟩: ∃b,((x.op.toNat:Int)==101)=b:=⟨_,rfl⟩;obtain⟨b3,a3⟩: ∃b,((x.op.toNat:Int)==120)=b:=⟨_,rfl⟩
 have hb:b1=true\/(b1=false/\b2=true)\/(b1=false/\b2=false/\b3=true):=by
  rw[<-a1,<-a2,<-a3];simp only[aX,eu];omega
 have b9:x.op.toNat≠115:=by omega
 have r:R=match cY x.op.toNat st with|none=>none|some k=>some (st.take (st.length-k)++bz im.zq im.zx x,lo):=by rw[<-O.out,cC,if_pos (by omega)];cases cY x.op.toNat st<;>simp[b9]
 have e1:=md im.zq im.zx x;have p:=λw (h:cH w bi im)=>qt bi im bd.zy.length x w h hW hx trivial
 generalize bz im.zq im.zx x=U at*;have F:Hid (R=match cY x.op.toNat st with|none=>none|some k=>some (st.take (st.length-k)++U,lo)):=r;have E:=hid p;clear r hv O hll p;obtain rfl| ⟨rfl,rfl⟩ | ⟨rfl,rfl,rfl⟩:=hb
 all_goals
  go_in
  go_wp2_with fail;obtain⟨W,Z,a5,d,f,e,j⟩:=C4 bd ak n capk x st lo w;rw[Z];clear Z;refine(sA x st _ (by omega)).mono ?_;rintro en w1 ⟨rfl,l⟩;replace d:=l.kp d;replace f:=l.kp f;replace e:=l.kp e;replace j:=l.kp j;have z:=a5.trans l;have G:=ce0 e;have H:=ce1 e;have I:=ce2 e;have J:=ce3 e;have a4:=ce0 f;have P:=ce1 f;have Q:=ce2 f;have s:=ce0 d;have S:w1.frozen? ⟨w.heap.size+3,0,none⟩=false:=bG w1 _ 0 _ _ d;have t:=ce1 d;have T:w1.frozen? ⟨w.heap.size+3,1,none⟩=false:=bG w1 _ 1 _ _ d;have y:=ce2 d;have X:w1.frozen? ⟨w.heap.size+3,2,none⟩=false:=bG w1 _ 2 _ _ d;have lS:=ae f;have lI:=ae e;have lR:=ae d
  have M:= @sB x.op.toNat st
  cases hq:cY x.op.toNat st with
  |none=>
   have q:R=none:=by rw[F.out,hq]
   subst q;simp only[qr];clear hq M;go_wp2_with fail;refine cA (v:= .tuple #[.agg #[.bool true,.string ⟨st.toArray⟩,.string ⟨lo.toArray⟩],.bool false]) (by simp[results,results84,go_sem,s,t,y]) rfl ⟨rfl,?_⟩;exact((z.next (aj _ _ _ _) (λk hk h=>by omega)).next (aj _ _ _ _) (λk hk h=>by omega)).next (aj _ _ _ _) (λk hk h=>by omega)
  |some k=>
   have q:R=some (st.take (st.length-k)++U,lo):=by rw[F.out,hq]
   subst q;obtain⟨e4,e3⟩:=M hq;simp only[qr];clear hq M F;have e2:(0:Int)<=(k:Int):=by omega
   go_wp2_with fail;have b0:(0:Int)<=(st.length:Int)-(k:Int):=by omega
   have b4:(st.length:Int)-(k:Int)<=(st.length:Int):=by omega
   have b5:(k:Int)<=(st.length:Int):=by omega
   have c8:=dc ((st.length:Int)-(k:Int)) (by omega) (by omega);have a6:B_ w1 w1.drew:=aA _ _;refine aD (B_ w1) 10 ?_
   iterate 9 (refine aF (v:=?_) rfl a6 ?_ ?_;rotate_left;(focus (intro wS h;have q0:=(h.kc P lS);have q1:=(h.kc Q lS);clear h;go_simp;try rfl));dsimp only[Act.put];try simp only[bW])
   have B:(⟨st.toArray⟩:ByteArray).extract 0 (st.length-k)=⟨(st.take (st.length-k)).toArray⟩:=jr _ _;rw[B];clear B c8 b0 b4 b5;refine au rfl ?_;intro KS hKS;go_simp;refine hKS.out _ _ (λ_=>(aa _ _ _).trans (aA _ _)) ?_;clear hKS KS;refine au rfl ?_;intro KS hKS;go_simp;refine hKS.out _ _ nofun ?_;clear hKS KS;refine aI rfl ?_;clear G H I J a4 P Q s t y S T X;have m:B_ w1 (w1.alloc (.cells #[.bool true,.string ⟨(st.take (st.length-k)).toArray⟩,.string ⟨lo.toArray⟩] 91)).drew:=(aa _ _ _).trans (aA _ _);have g:(w1.alloc (.cells #[.bool true,.string ⟨(st.take (st.length-k)).toArray⟩,.string ⟨lo.toArray⟩] 91)).drew.heap[w1.heap.size]?=some (.cells #[.bool true,.string ⟨(st.take (st.length-k)).toArray⟩,.string ⟨lo.toArray⟩] 91):=aO w1 _
   replace d:=m.kp d;replace f:=m.kp f;replace e:=m.kp e;replace j:=m.kp j;have A:=z.trans m;generalize (w1.alloc (.cells #[.bool true,.string ⟨(st.take (st.length-k)).toArray⟩,.string ⟨lo.toArray⟩] 91)).drew=w2 at*;obtain⟨gT,C⟩: ∃gT,w1.heap.size=gT:=⟨_,rfl⟩;rw[C]at g⊢;have e0:w.heap.size+3<gT:=by omega
   clear C;have G:=ce0 e;have H:=ce1 e;have I:=ce2 e;have J:=ce3 e;go_wp2_with fail;refine(E.out _ (hI.but A)).mono ?_;rintro en D ⟨rfl,i⟩;clear G H I J;replace g:=i.kp g;replace d:=i.kp d;replace f:=i.kp f;replace e:=i.kp e;replace j:=i.kp j;have Y:=A.trans i;have s:=ce0 d;have S:D.frozen? ⟨w.heap.size+3,0,none⟩=false:=bG D _ 0 _ _ d;have t:=ce1 d;have T:D.frozen? ⟨w.heap.size+3,1,none⟩=false:=bG D _ 1 _ _ d;have y:=ce2 d;have X:D.frozen? ⟨w.heap.size+3,2,none⟩=false:=bG D _ 2 _ _ d;have T0:=ce0 g;have T1:=ce1 g;have T2:=ce2 g;have F1:D.frozen? ⟨gT,1,none⟩=false:=bG D _ 1 _ _ g;have a0: ¬9223372036854775807<st.length-k+U.length:=by omega
   have b7:gT≠w.heap.size+3:=by omega
   have b8:w.heap.size+3≠gT:=by omega
   go_wp2_with fail;clear a0;refine cA (v:= .tuple #[.agg #[.bool true,.string ⟨(st.take (st.length-k)++U).toArray⟩,.string ⟨lo.toArray⟩],.bool true]) ?_ rfl ⟨rfl,?_⟩
   .rw[<-db];simp[results,results84,go_sem,s,t,y]
   .exact(((Y.next (aj _ _ _ _) (λk hk h=>by omega)).next (aj _ _ _ _) (λk hk h=>by omega)).next (aj _ _ _ _) (λk hk h=>by omega)).next (aj _ _ _ _) (λk hk h=>by omega)
theorem xg (bi:Nat) (im:Img) (bd:Bod) (ak:Option Addr) (n capk:Nat) (x:Ins) (st lo:L_) (w:World) (hI:cH w bi im) (hW:WfI im) (hbd:WfB im.zq im.zx bd) (hx:WfX im.zq im.zx.length bd.zy.length x) (hst: ∀c∈st,okT im.zq.length c=true) (hsl:st.length<=200000000) (hll:lo.length=bd.zy.length) (hdummy:True):
  Calls prog 84 #[.pointer (some ⟨bi,0,none⟩),.agg #[.int .i64 bd.cls,.int .i64 bd.meth,.string ⟨bd.zy.toArray⟩,.slice ak n capk,S_],.agg #[.int .u8 x.op.toNat,.int .i64 x.a,.int .i64 x.b,.int .i64 x.pos],.agg #[.bool true,.string ⟨st.toArray⟩,.string ⟨lo.toArray⟩]] w λen w'=>en= .returned (xf (cC im.zq im.zx bd x st lo) st lo)/\B_ w w':=by
 by_cases h1:x.op.toNat=115
 .exact C5 bi im bd ak n capk x st lo w hI hW hbd hx hst hsl hll h1
 by_cases h2:x.op.toNat=100\/x.op.toNat=101\/x.op.toNat=120
 .exact Ef bi im bd ak n capk x st lo w hI hW hbd hx hst hsl hll h2
 by_cases h5:x.op.toNat=108
 .exact EZ bi im bd ak n capk x st lo w hI hW hbd hx hst hsl hll h5
 exact yZ bi im bd ak n capk x st lo w hI hW hbd hx hst hsl hll (by omega)
theorem vj (x:Ins) (i:Nat) (w:World) (hi:i<=1000):
  Calls prog 85 #[.agg #[.int .u8 x.op.toNat,.int .i64 x.a,.int .i64 x.b,.int .i64 x.pos],.int .i64 i] w λen w'=>en= .returned (.tuple #[.int .i64 (bR x i).1,.int .i64 (bR x i).2])/\B_ w w':=by
 obtain⟨R,c⟩: ∃R,bR x i=R:=⟨_,rfl⟩;rw[c];unfold bR at c
 by_cases h1:x.op.toNat=116
 .rw[if_pos h1]at c;subst c;have t1:((x.op.toNat:Int)==116)=true:=by rw[aX];omega
  clear h1
  go_in
  go_wp2
  go_ret2
  exact⟨rfl,aa _ _ _⟩
 rw[if_neg h1]at c;have t1:=tf x.op.toNat 116 (by omega)
 by_cases h2:x.op.toNat=106
 .rw[if_pos h2]at c;subst c;have t2:((x.op.toNat:Int)==106)=true:=by rw[aX];omega
  clear h1 h2
  go_in
  go_wp2
  go_ret2
  exact⟨rfl,aa _ _ _⟩
 rw[if_neg h2]at c;have t2:=tf x.op.toNat 106 (by omega)
 by_cases h3:x.op.toNat=102
 .rw[if_pos h3]at c;subst c;have d:((x.op.toNat:Int)==102)=true:=by rw[aX];omega
  clear h1 h2 h3
  go_in
  go_wp2
  go_quiet (fail)
  go_wp2
  go_ret2
  exact⟨rfl,(aa _ _ _).trans (aH _ _ _)⟩
 .rw[if_neg h3]at c;subst c;have d:=tf x.op.toNat 102 (by omega);clear h1 h2 h3
  go_in
  go_wp2
  go_ret2
  exact⟨rfl,aa _ _ _⟩
theorem y8 (bd:Bod) (ak:Option Addr) (n capk:Nat) (w:World):
  Calls prog 56 #[.agg #[.int .i64 bd.cls,.int .i64 bd.meth,.string ⟨bd.zy.toArray⟩,.slice ak n capk,S_]] w λen w'=>en= .returned (.agg #[.bool true,.string ⟨#[]⟩,.string ⟨bd.zy.toArray⟩])/\B_ w w':=by
 go_in
 go_wp2
 refine cA (v:= .agg #[.bool true,.string ⟨#[]⟩,.string ⟨bd.zy.toArray⟩]) (by simp[results,results56,go_sem]) rfl ⟨rfl,?_⟩;exact(aa _ _ _).trans (aa _ _ _)
def stV (o:Option (L_×L_)):Array Value:=match o with
 |none=>#[.bool false,.string ⟨#[]⟩,.string ⟨#[]⟩]
 |some (s,l)=>#[.bool true,.string ⟨s.toArray⟩,.string ⟨l.toArray⟩]
def lM (cs:List Cls) (a:Option (L_×L_)) (sb lb:L_):Value:=match fx cs a sb lb with
 |some m=> .tuple #[.agg (stV (some m)),.bool true]
 |none=> .tuple #[.agg (stV a),.bool false]
theorem y9 (bi:Nat) (cs:List Cls) (nl:Nat) (a:Option (L_×L_)) (sb lb:L_) (w:World) (hI:iy w bi cs) (hw:WfC cs) (hn:cs.length<=4) (hnl:nl<=5) (ha: ∀s l,a=some (s,l)->okS cs.length nl s l) (hb:okS cs.length nl sb lb):
  Calls prog 227 #[.pointer (some ⟨bi,0,none⟩),.agg (stV a),.agg #[.bool true,.string ⟨sb.toArray⟩,.string ⟨lb.toArray⟩]] w λen w'=>en= .returned (lM cs a sb lb)/\B_ w w':=by
 obtain⟨z,A,r,L⟩:=hb
 cases a with
 |none=>
  simp only[stV,lM,fx]
  go_in
  go_wp2_with fail;refine cA (v:= .tuple #[.agg #[.bool true,.string ⟨sb.toArray⟩,.string ⟨lb.toArray⟩],.bool true]) (by simp[results,results227,go_sem]) rfl ⟨rfl,?_⟩;exact((aa _ _ _).trans (aa _ _ _)).trans (aa _ _ _)
 |some m=>
  obtain⟨sa,la⟩:=m;obtain⟨x,y,q,J⟩:=ha sa la rfl
  by_cases hl:sa.length=sb.length
  .have t1:((sa.length:Int)!=(sb.length:Int))=false:=by rw[bne_eq_false_iff_eq];omega
   have c:lM cs (some (sa,la)) sb lb= .tuple #[.agg #[.bool true,.string ⟨(e9 cs sa sb).toArray⟩,.string ⟨(e9 cs la lb).toArray⟩],.bool true]:=by simp[lM,fx,hl,stV]
   rw[c];simp only[stV];have F:Hid (sa.length=sb.length):=hl;have t:Hid (la.length=lb.length):=by show _=_;omega
   have B:=oO (cs:=cs) hl;generalize C:e9 cs sa sb=X;generalize D:e9 cs la lb=Y;have G:Hid (e9 cs sa sb=X):=C;have H:Hid (e9 cs la lb=Y):=D;have E:la.length<=100:=by omega
   clear hl c B C D q r
   go_in
   go_wp2_with fail;have j:B_ w (((w.alloc (.cells #[.bool true,.string ⟨sa.toArray⟩,.string ⟨la.toArray⟩] 91)).alloc (.cells #[.bool true,.string ⟨sb.toArray⟩,.string ⟨lb.toArray⟩] 91)).alloc (.cells #[.bool false,.string ⟨#[]⟩,.string ⟨#[]⟩] 91)):=((aa _ _ _).trans (aa _ _ _)).trans (aa _ _ _);have b:(((w.alloc (.cells #[.bool true,.string ⟨sa.toArray⟩,.string ⟨la.toArray⟩] 91)).alloc (.cells #[.bool true,.string ⟨sb.toArray⟩,.string ⟨lb.toArray⟩] 91)).alloc (.cells #[.bool false,.string ⟨#[]⟩,.string ⟨#[]⟩] 91)).heap[w.heap.size+2]?=some (.cells #[.bool false,.string ⟨#[]⟩,.string ⟨#[]⟩] 91):=aB (by simp) _
   have g:(((w.alloc (.cells #[.bool true,.string ⟨sa.toArray⟩,.string ⟨la.toArray⟩] 91)).alloc (.cells #[.bool true,.string ⟨sb.toArray⟩,.string ⟨lb.toArray⟩] 91)).alloc (.cells #[.bool false,.string ⟨#[]⟩,.string ⟨#[]⟩] 91)).heap[w.heap.size+1]?=some (.cells #[.bool true,.string ⟨sb.toArray⟩,.string ⟨lb.toArray⟩] 91):=((aa (λ_=>False) _ _).block _ (by simp) (λh=>h)).trans (aB (by simp) _);have f:(((w.alloc (.cells #[.bool true,.string ⟨sa.toArray⟩,.string ⟨la.toArray⟩] 91)).alloc (.cells #[.bool true,.string ⟨sb.toArray⟩,.string ⟨lb.toArray⟩] 91)).alloc (.cells #[.bool false,.string ⟨#[]⟩,.string ⟨#[]⟩] 91)).heap[w.heap.size]?=some (.cells #[.bool true,.string ⟨sa.toArray⟩,.string ⟨la.toArray⟩] 91):=(((aa (λ_=>False) _ _).trans (aa (λ_=>False) _ _)).block _ (by simp) (λh=>h)).trans (aO w _)
   generalize (((w.alloc (.cells #[.bool true,.string ⟨sa.toArray⟩,.string ⟨la.toArray⟩] 91)).alloc (.cells #[.bool true,.string ⟨sb.toArray⟩,.string ⟨lb.toArray⟩] 91)).alloc (.cells #[.bool false,.string ⟨#[]⟩,.string ⟨#[]⟩] 91))=W at*;refine(vg bi cs sa sb _ (hI.but j) hw hn x z F.out (by omega)).mono ?_;rw[G.out];rintro en w1 ⟨rfl,d⟩;replace b:=d.kp b;replace g:=d.kp g;replace f:=d.kp f;have e:=j.trans d;have I:=ce2 f;have b2:=ce2 g;go_wp2_with fail;refine(vg bi cs la lb _ (hI.but e) hw hn y A t.out (by omega)).mono ?_;rw[H.out];rintro en i ⟨rfl,n⟩;replace b:=n.kp b;have p:=e.trans n;have r0:=ce0 b
   have M:=ce1 b;have O:=ce2 b;have P:i.frozen? ⟨w.heap.size+2,0,none⟩=false:=bG i _ 0 _ _ b;have Q:i.frozen? ⟨w.heap.size+2,1,none⟩=false:=bG i _ 1 _ _ b;have S:i.frozen? ⟨w.heap.size+2,2,none⟩=false:=bG i _ 2 _ _ b;clear I b2;go_wp2_with fail;refine cA (v:= .tuple #[.agg #[.bool true,.string ⟨X.toArray⟩,.string ⟨Y.toArray⟩],.bool true]) (by simp[results,results227,go_sem,r0,M,O]) rfl ⟨rfl,?_⟩;exact((p.next (aj _ _ _ _) (λk hk h=>by omega)).next (aj _ _ _ _) (λk hk h=>by omega)).next (aj _ _ _ _) (λk hk h=>by omega)
  .have t1:((sa.length:Int)!=(sb.length:Int))=true:=by rw[bne_iff_ne];omega
   have c:lM cs (some (sa,la)) sb lb= .tuple #[.agg #[.bool true,.string ⟨sa.toArray⟩,.string ⟨la.toArray⟩],.bool false]:=by simp[lM,fx,hl,stV]
   rw[c];simp only[stV];clear hl c q r
   go_in
   go_wp2_with fail;refine cA (v:= .tuple #[.agg #[.bool true,.string ⟨sa.toArray⟩,.string ⟨la.toArray⟩],.bool false]) (by simp[results,results227,go_sem]) rfl ⟨rfl,?_⟩;exact((aa _ _ _).trans (aa _ _ _)).trans (aa _ _ _)
end
section
open Go Go.RowKit Sp
theorem sC (w:World) (b1 b2:Bool) (x1 y1 x2 y2:ByteArray):
  (binOp .neq 91 (.agg #[.bool b1,.string x1,.string y1]) (.agg #[.bool b2,.string x2,.string y2])).run prog w=
   .ok (.bool (!decide (b1=b2/\x1=x2/\y1=y2))) w:=by
 rw[run_neq_struct,run_equalIn_struct _ 9999 _ _ _ (by kernel_rfl) (by kernel_rfl)]
 have a: ∀x y:ByteArray,(x.toList==y.toList)=decide (x=y):=by
  intro x y;rw[Bool.eq_iff_iff,aX,decide_eq_true_iff]
  constructor
  .intro h;rw[ByteArray.toList_eq,ByteArray.toList_eq]at h;obtain⟨⟨x⟩⟩:=x;obtain⟨⟨y⟩⟩:=y;simp only at h;rw[h]
  .intro h;rw[h]
 have c:(b1==b2)=decide (b1=b2):=by cases b1<;>cases b2<;>rfl
 have d:=a x1 x2;have b:=a y1 y2;clear a
 by_cases h1:b1=b2
 .by_cases h2:x1=x2
  .by_cases h3:y1=y2
   .simp only[h1,h2,h3];go_simp
   .simp only[h3,decide_false]at b;go_simp
  .go_simp
 .go_simp
end
section
open Go Go.RowKit Sp
attribute [local go_sem ↓] eY eZ
def eH (tb:List (Option (L_×L_))):List Value:=tb.flatMap λo=>(stV o).toList
theorem yn (o:Option (L_×L_)):(stV o).toList.length=3:=by
 cases o<;>rfl
theorem pA {tb:List (Option (L_×L_))} {j k:Nat} {o:Option (L_×L_)} (h:tb[j]?=some o) (hk:k<3):(eH tb)[j*3+k]?=(stV o).toList[k]?:=
 fN (λo:Option (L_×L_)=>(stV o).toList) 3 yn tb j k o h hk
def fF (w:World) (gA:Nat) (tb:List (Option (L_×L_))):Prop:=w.heap[gA]?=some (.cells (eH tb).toArray 91)
def i7 (w:World) (bt gA n:Nat) (ch bad:Bool):Prop:=w.heap[bt]?=some (.cells #[.slice (some ⟨gA,0,none⟩) n n,.bool ch,.bool bad] 274)
section
variable {w:World} {bt gA n:Nat} {ch bad:Bool}
theorem i7.lt (h:i7 w bt gA n ch bad):bt<w.heap.size:=ae h
theorem i7.c0 (h:i7 w bt gA n ch bad):w.cell? ⟨bt,0,none⟩=some (.slice (some ⟨gA,0,none⟩) n n):=ce0 h
theorem i7.c1 (h:i7 w bt gA n ch bad):w.cell? ⟨bt,1,none⟩=some (.bool ch):=ce1 h
theorem i7.c2 (h:i7 w bt gA n ch bad):w.cell? ⟨bt,2,none⟩=some (.bool bad):=ce2 h
theorem i7.fz (h:i7 w bt gA n ch bad) (j:Nat):w.frozen? ⟨bt,j,none⟩=false:=bG w bt j _ _ h
theorem i7.but {F:Nat->Prop} {w':World} (h:i7 w bt gA n ch bad) (hb:But F w w') (hf: ¬F bt):i7 w' bt gA n ch bad:=(hb.block bt h.lt hf).trans h
theorem i7.set1 (h:i7 w bt gA n ch bad) (d:Bool):i7 (w.setCell ⟨bt,1,none⟩ (.bool d)) bt gA n d bad:=cQ w bt 1 _ _ _ h
theorem i7.set2 (h:i7 w bt gA n ch bad) (d:Bool):i7 (w.setCell ⟨bt,2,none⟩ (.bool d)) bt gA n ch d:=cQ w bt 2 _ _ _ h
end
theorem fF.lt {w:World} {gA:Nat} {tb:List (Option (L_×L_))} (h:fF w gA tb):gA<w.heap.size:=ae h
theorem fF.but {F:Nat->Prop} {w w':World} {gA:Nat} {tb:List (Option (L_×L_))} (h:fF w gA tb) (hb:But F w w') (hf: ¬F gA):fF w' gA tb:=(hb.block gA h.lt hf).trans h
theorem fF.cell {w:World} {gA:Nat} {tb:List (Option (L_×L_))} (h:fF w gA tb) {j k:Nat} {o:Option (L_×L_)} (hj:tb[j]?=some o) (hk:k<3):w.cell? ⟨gA,j*3+k,none⟩=(stV o).toList[k]?:=by
 rw[cz w gA _ _ _ (0,0) h,<-pA hj hk];simp
theorem fF.fz {w:World} {gA:Nat} {tb:List (Option (L_×L_))} (h:fF w gA tb) (j:Nat):w.frozen? ⟨gA,j,none⟩=false:=bG w gA j _ _ h
theorem zb: ∀(tb:List (Option (L_×L_))) (j:Nat) (a b c:Value) (m:Option (L_×L_)),j<tb.length->(stV m).toList=[a,b,c]->
  eH (tb.set j m)=(((eH tb).set (j*3) a).set (j*3+1) b).set (j*3+2) c:=by
 intro tb
 induction tb with
 |nil=>intro j a b c m h _;simp at h
 |cons o tb ih=>
  intro j a b c m h hm;have d:=yn o
  match ho':(stV o).toList,d with
  | [x,y,z],_=>
   cases j with
   |zero=>simp[eH,hm,ho']
   |succ j=>
    have:=ih j a b c m (by simpa using h) hm;simp only[eH,List.set_cons_succ,lr,ho']at this⊢;rw[this];rw[show(j+1)*3=j*3+3 from by omega]
    rfl
theorem fF.set {w:World} {gA:Nat} {tb:List (Option (L_×L_))} (h:fF w gA tb) {j:Nat} (hj:j<tb.length) (s l:L_):
  fF (((w.setCell ⟨gA,j*3,none⟩ (.bool true)).setCell ⟨gA,j*3+1,none⟩ (.string ⟨s.toArray⟩)).setCell ⟨gA,j*3+2,none⟩ (.string ⟨l.toArray⟩)) gA (tb.set j (some (s,l))):=by
 unfold fF;rw[zb tb j (.bool true) (.string ⟨s.toArray⟩) (.string ⟨l.toArray⟩) (some (s,l)) hj rfl];have a:=cQ w gA (j*3) _ _ (.bool true) h;have b:=cQ _ gA (j*3+1) _ _ (.string ⟨s.toArray⟩) a;have c:=cQ _ gA (j*3+2) _ _ (.string ⟨l.toArray⟩) b;simpa using c
def Bj (R:List (Option (L_×L_))×Bool×Bool) (bt gA n:Nat) (w':World):Prop:=i7 w' bt gA n R.2.1 R.2.2/\fF w' gA R.1
theorem Bk (bt gA bi:Nat) (cs:List Cls) (nl:Nat) (tb:List (Option (L_×L_))) (ch bad:Bool) (j:Int) (sb lb:L_) (w:World) (hI:iy w bi cs) (hw:WfC cs) (hn:cs.length<=4) (hnl:nl<=5) (htl:tb.length<=100)
  (hne:bt≠gA) (hT:i7 w bt gA tb.length ch bad) (hA:fF w gA tb) (hok: ∀(k:Nat) s l,tb[k]?=some (some (s,l))->okS cs.length nl s l) (hb:okS cs.length nl sb lb) (hjr: -1<=j/\j<=1000):
  Calls prog 185 #[.pointer (some ⟨bt,0,none⟩),.pointer (some ⟨bi,0,none⟩),.int .i64 j,.agg #[.bool true,.string ⟨sb.toArray⟩,.string ⟨lb.toArray⟩]] w λen w'=>en= .returned (.tuple #[])/\But (λk=>k=bt\/k=gA) w w'/\
   Bj (dl cs (tb,ch,bad) j sb lb) bt gA tb.length w':=by
 have c2:=hT.c2;have f2:=hT.fz 2;have blt:=hT.lt
 cases bad with
 |true=>
  rw[show dl cs (tb,ch,true) j sb lb=(tb,ch,true)from by simp[dl]]
  go_in
  go_wp2_with fail;exact fY results185 rfl ⟨rfl,aa _ _ _,hT.but (aa (λ_=>False) _ _) (λh=>h),hA.but (aa (λ_=>False) _ _) (λh=>h)⟩
 |false=>
 by_cases hj0:j<0
 .rw[show dl cs (tb,ch,false) j sb lb=(tb,ch,false)from by unfold dl;rw[if_pos (Or.inr hj0)]]
  go_in
  go_wp2_with fail;exact fY results185 rfl ⟨rfl,aa _ _ _,hT.but (aa (λ_=>False) _ _) (λh=>h),hA.but (aa (λ_=>False) _ _) (λh=>h)⟩
 have c0:=hT.c0
 by_cases hjn:(tb.length:Int)<=j
 .have a1:dl cs (tb,ch,false) j sb lb=(tb,ch,true):=by unfold dl;rw[if_neg (by simp;omega),if_pos hjn]
  rw[a1];clear a1
  go_in
  go_wp2_with fail;have c8:But (· =bt) w ((w.setCell ⟨bt,2,none⟩ (.bool true)).alloc (.cells #[.bool true,.string ⟨sb.toArray⟩,.string ⟨lb.toArray⟩] 91)):=(aj _ _ _ _).trans (aa _ _ _);exact fY results185 rfl ⟨rfl,c8.mono (λ_ _ h=>Or.inl h),(hT.set2 true).but (aa (λ_=>False) _ _) (λh=>h),hA.but c8 (λh=>hne h.symm)⟩
 .obtain⟨jn,rfl⟩:=Int.eq_ofNat_of_zero_le (by omega:0<=j);have b6:jn<tb.length:=by omega
  have e3:(jn:Int)<(tb.length:Int):=by omega
  have b0:=aG b6;obtain⟨o,ho⟩: ∃o,tb[jn]=o:=⟨_,rfl⟩;rw[ho]at b0;have H:tb.getD jn none=o:=by simp[List.getD,b0]
  have b9: ∀s l,o=some (s,l)->okS cs.length nl s l:=λs l h=>hok jn s l (by rw[b0,h])
  have Z:dl cs (tb,ch,false) (jn:Int) sb lb=match fx cs o sb lb with
    |none=>(tb,ch,true)
    |some m=>if some m=o then(tb,ch,false)else(tb.set jn (some m),true,false):=by
   unfold dl;rw[if_neg (by simp),if_neg (by simpa using e3)];simp only[jZ,H]
   cases fx cs o sb lb<;>rfl
  obtain⟨R,hR⟩: ∃R,dl cs (tb,ch,false) (jn:Int) sb lb=R:=⟨_,rfl⟩;rw[hR];have Q:=hid (Z.symm.trans hR);clear hR;have b1:=hid b0;have b7:=y9 bi cs nl o sb lb;clear Z H hj0 hjn ho
  go_in
  go_wp2_with fail;have y:B_ w (w.alloc (.cells #[.bool true,.string ⟨sb.toArray⟩,.string ⟨lb.toArray⟩] 91)):=aa _ _ _;have P:(w.alloc (.cells #[.bool true,.string ⟨sb.toArray⟩,.string ⟨lb.toArray⟩] 91)).heap[w.heap.size]?=some (.cells #[.bool true,.string ⟨sb.toArray⟩,.string ⟨lb.toArray⟩] 91):=aO _ _;revert y P;generalize (w.alloc (.cells #[.bool true,.string ⟨sb.toArray⟩,.string ⟨lb.toArray⟩] 91))=W;intro y P;have M:=hT.but y (λh=>h);have B:=hA.but y (λh=>h);have k0:=ce0 P;have k1:=ce1 P;have k2:=ce2 P;have e0:=M.c0;have ltT:=M.lt;have ltA:=B.lt;have ltb:=ae P;obtain⟨o0,o1,o2,i⟩: ∃o0 o1 o2,stV o=#[.bool o0,.string o1,.string o2]:=by cases o<;>exact⟨_,_,_,rfl⟩
  have q0:=B.cell (k:=0) b1.out (by omega);have q1:=B.cell (k:=1) b1.out (by omega);have q2:=B.cell (k:=2) b1.out (by omega);rw[i]at q0 q1 q2;simp only[Nat.add_zero]at q0;have a2:W.cell? ⟨gA,jn*3,none⟩=some (.bool o0):=q0;have a3:W.cell? ⟨gA,jn*3+1,none⟩=some (.string o1):=q1;have a4:W.cell? ⟨gA,jn*3+2,none⟩=some (.string o2):=q2;clear q0 q1 q2 c0 c2;have b3:B_ W W.drew:=aA _ _;refine aD (B_ W) 16 ?_
  iterate 9 (refine aF (v:=?_) rfl b3 ?_ ?_;rotate_left;(focus (intro wS h;have Q0:=(h.kc e0 ltT);have Q1:=(h.kc a2 ltA);have Q2:=(h.kc a3 ltA);have Q3:=(h.kc a4 ltA);have Q4:=(h.kc k0 ltb);have Q5:=(h.kc k1 ltb);have Q6:=(h.kc k2 ltb);clear h;go_simp;try rfl));dsimp only[Act.put];try simp only[bW])
  obtain⟨m0,S,T,okb,e1,c9⟩: ∃m0 S T okb,lM cs o sb lb= .tuple #[.agg #[.bool m0,.string S,.string T],.bool okb]/\
    ((fx cs o sb lb=none/\okb=false)\/ ∃s l,fx cs o sb lb=some (s,l)/\okb=true/\m0=true/\S=⟨s.toArray⟩/\T=⟨l.toArray⟩):=by
   unfold lM
   cases hm:fx cs o sb lb with
   |none=>exact⟨o0,o1,o2,false,by simp[i],Or.inl ⟨rfl,rfl⟩⟩
   |some m=>exact⟨true,⟨m.1.toArray⟩,⟨m.2.toArray⟩,true,rfl,Or.inr ⟨m.1,m.2,rfl,rfl,rfl,rfl,rfl⟩⟩
  rw[i,e1]at b7;have I:=hid c9;clear c9;have a5:=hid (λ(wx:World) (h:B_ W wx)=>b7 wx ((hI.but y).but h) hw hn hnl b9 hb);clear b7 e1;refine oJ (q:=13) (o:= ?oA9) (oq:= ?oqA9) (rest:= ?rsA9) (restq:= ?rqA9) ?hoA9 ?hqA9 ?hrA9 ?stA9 ?sqA9
  case hoA9=>rfl
  case hqA9=>rfl
  case hrA9=>kernel_rfl
  case' stA9=>
   intro KS hKS;go_simp;refine(a5.out W.drew b3).mono ?_;rintro en w1 ⟨rfl,J⟩;have c:B_ W w1:=b3.trans J;refine hKS.out _ _ (λ_=>c) ?_;clear hKS KS
   iterate 3 (refine aF (v:=?_) rfl c ?_ ?_;rotate_left;(focus (intro wS h;clear h;go_simp;try rfl));dsimp only[Act.put];try simp only[bW])
   refine au rfl ?_;intro KS hKS;go_simp;refine hKS.out _ _ (λ_=>c.trans (aa _ _ _)) ?_;clear hKS KS;refine au rfl ?_;intro KS hKS;go_simp;refine hKS.out _ _ (λ_=>c.trans (aa _ _ _)) ?_;clear hKS KS;refine au rfl ?_;intro KS hKS;go_simp;refine hKS.out _ _ (λ_=>c.trans (aa _ _ _)) ?_;clear hKS KS;refine aI rfl ?_;have b:B_ W (w1.alloc (.cells #[.bool m0,.string S,.string T] 91)):=c.trans (aa _ _ _);have f:(w1.alloc (.cells #[.bool m0,.string S,.string T] 91)).heap[w1.heap.size]?=some (.cells #[.bool m0,.string S,.string T] 91):=aO _ _;have O:W.heap.size<=w1.heap.size:=c.size
   revert b f O;clear J c;generalize (w1.alloc (.cells #[.bool m0,.string S,.string T] 91))=w2;generalize w1.heap.size=bm;intro b f O;clear w1
  case' sqA9=>
   intro KS hKS;go_simp;have L:B_ W (W.alloc (.cells #[.bool false,.string ⟨#[]⟩,.string ⟨#[]⟩] 91)).drew:=(aa _ _ _).trans (aA _ _);have H:(W.alloc (.cells #[.bool false,.string ⟨#[]⟩,.string ⟨#[]⟩] 91)).drew.heap[W.heap.size]?=some (.cells #[.bool false,.string ⟨#[]⟩,.string ⟨#[]⟩] 91):=aO _ _;revert L H;generalize (W.alloc (.cells #[.bool false,.string ⟨#[]⟩,.string ⟨#[]⟩] 91)).drew=Wd;have O:W.heap.size<=W.heap.size:=bP _;revert O;generalize a0:W.heap.size=bm;intro O L H;have O:W.heap.size<=bm:=by omega
   have e2:=hid a0;clear a0;refine hKS.out _ _ (λ_=>L) ?_;clear hKS KS;refine oK rfl ?_;intro KS hKS;go_simp;refine(a5.out Wd L).mono ?_;rintro en w1 ⟨rfl,J⟩;have c:B_ W w1:=L.trans J;have n:w1.heap[bm]?=some (.cells #[.bool false,.string ⟨#[]⟩,.string ⟨#[]⟩] 91):=J.kp H;refine hKS.out _ _ (λ_=>c) ?_;clear hKS KS
   iterate 3 (refine oL (v:=?_) rfl c ?_ ?_;rotate_left;(focus (intro wS h;clear h;go_simp;try rfl));dsimp only[Act.put];try simp only[bW])
   refine oM ?_;have r0:=ce0 n;have r1:=ce1 n;have r2:=ce2 n;have z0:w1.frozen? ⟨bm,0,none⟩=false:=bG w1 bm 0 _ _ n;have z1:w1.frozen? ⟨bm,1,none⟩=false:=bG w1 bm 1 _ _ n;have z2:w1.frozen? ⟨bm,2,none⟩=false:=bG w1 bm 2 _ _ n;have rlt:=ae n;have a6: ∀j u (wx:World),B_ W wx->B_ W (wx.setCell ⟨bm,j,none⟩ u):=λj u wx h=>h.next (aj _ _ _ _) (λk hk e=>by omega)
   have b:=a6 2 (.string T) _ (a6 1 (.string S) _ (a6 0 (.bool m0) _ c));have f:=cQ _ bm 2 _ _ (.string T) (cQ _ bm 1 _ _ (.string S) (cQ _ bm 0 _ _ (.bool m0) n));refine au rfl ?_;intro KS hKS;go_simp;refine hKS.out _ _ (λ_=>b) ?_;clear hKS KS;refine au rfl ?_;intro KS hKS;go_simp;refine hKS.out _ _ (λ_=>b) ?_;clear hKS KS;refine aI rfl ?_;have b5:(((w1.setCell ⟨bm,0,none⟩ (.bool m0)).setCell ⟨bm,1,none⟩ (.string S)).setCell ⟨bm,2,none⟩ (.string T)).heap[bm]?=some (.cells #[.bool m0,.string S,.string T] 91):=f;clear f;revert b b5;clear L H a6 n r0 r1 r2 z0 z1 z2 rlt J c;generalize (((w1.setCell ⟨bm,0,none⟩ (.bool m0)).setCell ⟨bm,1,none⟩ (.string S)).setCell ⟨bm,2,none⟩ (.string T))=w2
   intro b f;clear w1 Wd e2
  .have g:=M.but b (λh=>h);have x:=B.but b (λh=>h);have g2:=g.fz 2;have glt:=g.lt;have b2:=g.c2;clear a5 k0 k1 k2 e0 M B;obtain⟨G,rfl⟩ | ⟨s,l,G,rfl,rfl,rfl,rfl⟩:=I.out
   .have t:(tb,ch,true)=R:=by rw[<-Q.out,G]
    clear Q G I;subst t;go_wp2_with fail;exact fY results185 rfl ⟨rfl,(((y.trans b)).mono (λ_ _ h=>h.elim)).next (aj _ _ _ _) (λ_ _ h=>Or.inl h),g.set2 true,x.but (aj _ _ _ _) (λh=>hne h.symm)⟩
   .clear I;have E:=g.c0;have C:B_ w w2:=y.trans b;have n0:=ce0 f;have n1:=ce1 f;have n2:=ce2 f;have p0:=b.cell (p:=⟨gA,jn*3,none⟩) ltA (λh=>h);have p1:=b.cell (p:=⟨gA,jn*3+1,none⟩) ltA (λh=>h);have p2:=b.cell (p:=⟨gA,jn*3+2,none⟩) ltA (λh=>h);rw[a2]at p0;rw[a3]at p1;rw[a4]at p2;clear a2 a3 a4 b ltT ltA ltb;have ltA:=x.lt;have ltm:=ae f;go_wp2_with fail
    obtain⟨dd,b8,Y⟩: ∃dd:Bool,(∀wx,(binOp .neq 91 (.agg #[.bool true,.string ⟨s.toArray⟩,.string ⟨l.toArray⟩]) (.agg #[.bool o0,.string o1,.string o2])).run prog wx= .ok (.bool dd) wx)/\
      ((some (s,l)=o/\dd=false)\/(some (s,l)≠o/\dd=true)):=by
     refine⟨_,λwx=>sC wx true o0 ⟨s.toArray⟩ ⟨l.toArray⟩ o1 o2,?_⟩
     by_cases a:some (s,l)=o
     .left
      refine⟨a,?_⟩;subst a;have hv:stV (some (s,l))=#[.bool true,.string ⟨s.toArray⟩,.string ⟨l.toArray⟩]:=rfl;rw[hv]at i;simp only[Array.mk.injEq,List.cons.injEq,Value.bool.injEq,Value.string.injEq,and_true]at i;obtain⟨rfl,rfl,rfl⟩:=i;simp
     .right
      refine⟨a,?_⟩;rw[Bool.not_eq_true',decide_eq_false_iff_not];rintro⟨rfl,rfl,rfl⟩
      apply a
      cases o with
      |none=>simp[stV]at i
      |some m=>
       obtain⟨ms,ml⟩:=m;simp[stV]at i;obtain⟨h1,h2⟩:=i;rw[h1,h2]
    have D:=hid Y;clear Y;have X:B_ w2 w2.drew:=aA _ _;refine aD (B_ w2) 9 ?_
    iterate 9 (refine aF (v:=?_) rfl X ?_ ?_;rotate_left;(focus (intro wS h;have q0:=(h.kc n0 ltm);have q1:=(h.kc n1 ltm);have q2:=(h.kc n2 ltm);have q3:=(h.kc E glt);have q4:=(h.kc p0 ltA);have q5:=(h.kc p1 ltA);have q6:=(h.kc p2 ltA);clear h;go_simp;try rfl));dsimp only[Act.put];try simp only[bW])
    refine aI rfl ?_;clear b8;obtain⟨a,rfl⟩ | ⟨a,rfl⟩:=D.out
    .have t:(tb,ch,false)=R:=by rw[<-Q.out,G];simp only[if_pos a]
     clear Q G D a;subst t;go_wp2_with fail;exact bodyPost_end (v:= .tuple #[]) (by simp[results,results185,go_sem]) rfl ⟨rfl,(C.trans (aA _ _)).mono (λ_ _ h=>h.elim),g.but (aA (λ_=>False) _) (λh=>h),x.but (aA (λ_=>False) _) (λh=>h)⟩
    .have t:(tb.set jn (some (s,l)),true,false)=R:=by rw[<-Q.out,G];simp only[if_neg a]
     clear Q G D a;subst t;go_wp2_with fail;have d:B_ w2 w2.drew.drew:=(aA _ _).trans (aA _ _);refine aD (B_ w2) 7 ?_;revert d;clear X;generalize w2.drew.drew=w3;intro d
     iterate 7 (refine aF (v:=?_) rfl d ?_ ?_;rotate_left;(focus (intro wS h;have q0:=(h.kc n0 ltm);have q1:=(h.kc n1 ltm);have q2:=(h.kc n2 ltm);have q3:=(h.kc E glt);clear h;go_simp;try rfl));dsimp only[Act.put];try simp only[bW])
     have b4:=g.but d (λh=>h);have r:=x.but d (λh=>h);have u0:=d.kc p0 ltA;have u1:=d.kc p1 ltA;have u2:=d.kc p2 ltA;have z0:=r.fz (jn*3);have z1:=r.fz (jn*3+1);have z2:=r.fz (jn*3+2);have zlt:=r.lt;clear p0 p1 p2 n0 n1 n2 f E b2;refine au rfl ?_;intro KS hKS;go_simp;refine hKS.out _ _ nofun ?_;clear hKS KS;refine aI rfl ?_;have F:=r.set b6 s l;have z:But (· =gA) w3 (((w3.setCell ⟨gA,jn*3,none⟩ (.bool true)).setCell ⟨gA,jn*3+1,none⟩ (.string ⟨s.toArray⟩)).setCell ⟨gA,jn*3+2,none⟩ (.string ⟨l.toArray⟩)):=((aj _ _ _ _).trans (aj _ _ _ _)).trans (aj _ _ _ _);revert F z;clear u0 u1 u2 z0 z1 z2
     generalize (((w3.setCell ⟨gA,jn*3,none⟩ (.bool true)).setCell ⟨gA,jn*3+1,none⟩ (.string ⟨s.toArray⟩)).setCell ⟨gA,jn*3+2,none⟩ (.string ⟨l.toArray⟩))=w4;intro F z;have A:=b4.but z hne;have x1:=A.c1;have y1:=A.fz 1;have xlt:=A.lt;go_wp2_with fail;exact bodyPost_end (v:= .tuple #[]) (by simp[results,results185,go_sem]) rfl ⟨rfl,(((C.trans d).mono (λ_ _ h=>h.elim)).next z (λ_ _ h=>Or.inr h)).next (aj _ _ _ _) (λ_ _ h=>Or.inl h),A.set1 true,F.but (aj _ _ _ _) (λh=>hne h.symm)⟩
  .have g:=M.but b (λh=>h);have x:=B.but b (λh=>h);have g2:=g.fz 2;have glt:=g.lt;have b2:=g.c2;clear a5 k0 k1 k2 e0 M B;obtain⟨G,rfl⟩ | ⟨s,l,G,rfl,rfl,rfl,rfl⟩:=I.out
   .have t:(tb,ch,true)=R:=by rw[<-Q.out,G]
    clear Q G I;subst t;go_wp2_with fail;exact fY results185 rfl ⟨rfl,(((y.trans b)).mono (λ_ _ h=>h.elim)).next (aj _ _ _ _) (λ_ _ h=>Or.inl h),g.set2 true,x.but (aj _ _ _ _) (λh=>hne h.symm)⟩
   .clear I;have E:=g.c0;have C:B_ w w2:=y.trans b;have n0:=ce0 f;have n1:=ce1 f;have n2:=ce2 f;have p0:=b.cell (p:=⟨gA,jn*3,none⟩) ltA (λh=>h);have p1:=b.cell (p:=⟨gA,jn*3+1,none⟩) ltA (λh=>h);have p2:=b.cell (p:=⟨gA,jn*3+2,none⟩) ltA (λh=>h);rw[a2]at p0;rw[a3]at p1;rw[a4]at p2;clear a2 a3 a4 b ltT ltA ltb;have ltA:=x.lt;have ltm:=ae f;go_wp2_with fail
    obtain⟨dd,b8,Y⟩: ∃dd:Bool,(∀wx,(binOp .neq 91 (.agg #[.bool true,.string ⟨s.toArray⟩,.string ⟨l.toArray⟩]) (.agg #[.bool o0,.string o1,.string o2])).run prog wx= .ok (.bool dd) wx)/\
      ((some (s,l)=o/\dd=false)\/(some (s,l)≠o/\dd=true)):=by
     refine⟨_,λwx=>sC wx true o0 ⟨s.toArray⟩ ⟨l.toArray⟩ o1 o2,?_⟩
     by_cases a:some (s,l)=o
     .left
      refine⟨a,?_⟩;subst a;have hv:stV (some (s,l))=#[.bool true,.string ⟨s.toArray⟩,.string ⟨l.toArray⟩]:=rfl;rw[hv]at i;simp only[Array.mk.injEq,List.cons.injEq,Value.bool.injEq,Value.string.injEq,and_true]at i;obtain⟨rfl,rfl,rfl⟩:=i;simp
     .right
      refine⟨a,?_⟩;rw[Bool.not_eq_true',decide_eq_false_iff_not];rintro⟨rfl,rfl,rfl⟩
      apply a
      cases o with
      |none=>simp[stV]at i
      |some m=>
       obtain⟨ms,ml⟩:=m;simp[stV]at i;obtain⟨h1,h2⟩:=i;rw[h1,h2]
    have D:=hid Y;clear Y;have X:B_ w2 w2.drew:=aA _ _;refine aD (B_ w2) 9 ?_
    iterate 9 (refine aF (v:=?_) rfl X ?_ ?_;rotate_left;(focus (intro wS h;have q0:=(h.kc n0 ltm);have q1:=(h.kc n1 ltm);have q2:=(h.kc n2 ltm);have q3:=(h.kc E glt);have q4:=(h.kc p0 ltA);have q5:=(h.kc p1 ltA);have q6:=(h.kc p2 ltA);clear h;go_simp;try rfl));dsimp only[Act.put];try simp only[bW])
    refine aI rfl ?_;clear b8;obtain⟨a,rfl⟩ | ⟨a,rfl⟩:=D.out
    .have t:(tb,ch,false)=R:=by rw[<-Q.out,G];simp only[if_pos a]
     clear Q G D a;subst t;go_wp2_with fail;exact bodyPost_end (v:= .tuple #[]) (by simp[results,results185,go_sem]) rfl ⟨rfl,(C.trans (aA _ _)).mono (λ_ _ h=>h.elim),g.but (aA (λ_=>False) _) (λh=>h),x.but (aA (λ_=>False) _) (λh=>h)⟩
    .have t:(tb.set jn (some (s,l)),true,false)=R:=by rw[<-Q.out,G];simp only[if_neg a]
     clear Q G D a;subst t;go_wp2_with fail;have d:B_ w2 w2.drew.drew:=(aA _ _).trans (aA _ _);refine aD (B_ w2) 7 ?_;revert d;clear X;generalize w2.drew.drew=w3;intro d
     iterate 7 (refine aF (v:=?_) rfl d ?_ ?_;rotate_left;(focus (intro wS h;have q0:=(h.kc n0 ltm);have q1:=(h.kc n1 ltm);have q2:=(h.kc n2 ltm);have q3:=(h.kc E glt);clear h;go_simp;try rfl));dsimp only[Act.put];try simp only[bW])
     have b4:=g.but d (λh=>h);have r:=x.but d (λh=>h);have u0:=d.kc p0 ltA;have u1:=d.kc p1 ltA;have u2:=d.kc p2 ltA;have z0:=r.fz (jn*3);have z1:=r.fz (jn*3+1);have z2:=r.fz (jn*3+2);have zlt:=r.lt;clear p0 p1 p2 n0 n1 n2 f E b2;refine au rfl ?_;intro KS hKS;go_simp;refine hKS.out _ _ nofun ?_;clear hKS KS;refine aI rfl ?_;have F:=r.set b6 s l;have z:But (· =gA) w3 (((w3.setCell ⟨gA,jn*3,none⟩ (.bool true)).setCell ⟨gA,jn*3+1,none⟩ (.string ⟨s.toArray⟩)).setCell ⟨gA,jn*3+2,none⟩ (.string ⟨l.toArray⟩)):=((aj _ _ _ _).trans (aj _ _ _ _)).trans (aj _ _ _ _);revert F z;clear u0 u1 u2 z0 z1 z2
     generalize (((w3.setCell ⟨gA,jn*3,none⟩ (.bool true)).setCell ⟨gA,jn*3+1,none⟩ (.string ⟨s.toArray⟩)).setCell ⟨gA,jn*3+2,none⟩ (.string ⟨l.toArray⟩))=w4;intro F z;have A:=b4.but z hne;have x1:=A.c1;have y1:=A.fz 1;have xlt:=A.lt;go_wp2_with fail;exact bodyPost_end (v:= .tuple #[]) (by simp[results,results185,go_sem]) rfl ⟨rfl,(((C.trans d).mono (λ_ _ h=>h.elim)).next z (λ_ _ h=>Or.inr h)).next (aj _ _ _ _) (λ_ _ h=>Or.inl h),A.set1 true,F.but (aj _ _ _ _) (λh=>hne h.symm)⟩
theorem xh:(prog.info? 91).map (λi=>(i.zero,i.size,i.bytes))=some (some (.agg #[.bool false,.string ⟨#[]⟩,.string ⟨#[]⟩]),3,40):=by kernel_rfl
theorem Bl (n:Nat):madeCells #[.bool false,.string ⟨#[]⟩,.string ⟨#[]⟩] (n*3)=(eH (List.replicate n none)).toArray:=by
 apply Array.ext
 .rw[size_madeCells];simp[eH,stV,List.flatMap_replicate]
 .intro k b c;rw[size_madeCells]at b;have f:k=k / 3*3+k % 3:=by omega
  have e:(List.replicate n (none:Option (L_×L_)))[k / 3]?=some none:=by rw[List.getElem?_replicate];exact if_pos (by omega)
  have:=pA e (show k % 3<3 by omega);rw[<-f]at this;have a:(eH (List.replicate n none)).toArray[k]?=some ((eH (List.replicate n none)).toArray[k]):=by rw[Array.getElem?_eq_getElem c]
  rw[List.getElem?_toArray,this]at a
  have d:(madeCells #[.bool false,.string ⟨#[]⟩,.string ⟨#[]⟩] (n*3))[k]'(by rw[size_madeCells];exact b)=#[Value.bool false,.string ⟨#[]⟩,.string ⟨#[]⟩][k % 3]!:=by
   simp[madeCells]
  rw[d];generalize k % 3=r at a
  match r with
  |0=>simp[stV]at a;exact a
  |1=>simp[stV]at a;exact a
  |2=>simp[stV]at a;exact a
  |r+3=>simp[stV]at a
theorem Bm (n:Nat) (hn:n<=1000) (w:World):(Instr.makeSlice 45 (.int .i64 (n:Int)) (.int .i64 (n:Int))).run prog w= .ok (.slice (some ⟨w.heap.size,0,none⟩) n n) (w.alloc (.cells (eH (List.replicate n none)).toArray 91)):=by
 have a:=xh
 cases hi:prog.info? 91 with
 |none=>rw[hi]at a;cases a
 |some i=>
  rw[hi]at a;simp only[Option.map_some,Option.some.injEq,Prod.mk.injEq]at a;obtain⟨d,c,b⟩:=a;have:=run_make (P:=prog) w 45 91 i _ (by kernel_rfl) hi d .i64 .i64 n n (by omega) (by omega) (by rw[b];omega) (by omega);rw[this,c];simp only[jZ,Value.cells];rw[Bl]
theorem Eg (w:World) (x y z:Obj):(((w.alloc x).alloc y).alloc z).heap[w.heap.size]?=some x/\(((w.alloc x).alloc y).alloc z).heap[w.heap.size+1]?=some y/\(((w.alloc x).alloc y).alloc z).heap[w.heap.size+1+1]?=some z:=by
 have c:(w.alloc x).heap.size=w.heap.size+1:=Array.size_push _;have s2:((w.alloc x).alloc y).heap.size=w.heap.size+1+1:=(Array.size_push _).trans (congrArg (· +1) (Array.size_push _));have a1:=aO w x;have a:=aO (w.alloc x) y;have b:=aO ((w.alloc x).alloc y) z;rw[c]at a;rw[s2]at b;refine⟨?_,?_,b⟩
 .exact(((aa (λ_=>False) (w.alloc x) y).trans (aa _ _ _)).block _ (by omega) (λh=>h)).trans a1
 .exact((aa (λ_=>False) ((w.alloc x).alloc y) z).block _ (by omega) (λh=>h)).trans a
theorem tE (bt gA bi:Nat) (cs:List Cls) (nl n:Nat) (T:Tn) (j:Int) (sb lb:L_) (w:World) (hI:iy w bi cs) (hw:WfC cs) (hn:cs.length<=4) (hnl:nl<=5) (hn1:n<=100)
  (hne:bt≠gA) (hT:i7 w bt gA n T.2.1 T.2.2) (hA:fF w gA T.1) (hwf:wfT cs.length nl n T.1) (hb:okS cs.length nl sb lb) (hjr: -1<=j/\j<=1000):
  Calls prog 185 #[.pointer (some ⟨bt,0,none⟩),.pointer (some ⟨bi,0,none⟩),.int .i64 j,.agg #[.bool true,.string ⟨sb.toArray⟩,.string ⟨lb.toArray⟩]] w λen w'=>en= .returned (.tuple #[])/\But (λk=>k=bt\/k=gA) w w'/\
   i7 w' bt gA n (dl cs T j sb lb).2.1 (dl cs T j sb lb).2.2/\fF w' gA (dl cs T j sb lb).1:=by
 obtain⟨tb,ch,bad⟩:=T;have hl:=hwf.1;have a:=hwf.okS hn1;simp only at*;clear hwf;subst hl;exact(Bk bt gA bi cs nl tb ch bad j sb lb w hI hw hn hnl hn1 hne hT hA a hb hjr).mono (λen w' h=>⟨h.1,h.2.1,h.2.2.1,h.2.2.2⟩)
def sD (R:Option (List St)) (w:World) (en:Ending) (w':World):Prop:=match R with
 |none=>en= .returned (.tuple #[S_,.bool false])
 |some tb=> ∃gA,en= .returned (.tuple #[.slice (some ⟨gA,0,none⟩) tb.length tb.length,.bool true])/\fF w' gA tb/\w.heap.size<=gA
def vm (w:World) (bb:Nat) (bd:Bod) (ak:Option Addr) (n capk:Nat):Prop:=w.heap[bb]?=some (.cells #[.int .i64 bd.cls,.int .i64 bd.meth,.string ⟨bd.zy.toArray⟩,.slice ak n capk,S_] 52)
theorem vm.lt {w:World} {bb:Nat} {bd:Bod} {ak:Option Addr} {n capk:Nat} (h:vm w bb bd ak n capk):bb<w.heap.size:=ae h
theorem vm.but {F:Nat->Prop} {w w':World} {bb:Nat} {bd:Bod} {ak:Option Addr} {n capk:Nat} (h:vm w bb bd ak n capk) (hb:But F w w') (hf: ¬F bb):vm w' bb bd ak n capk:=(hb.block bb h.lt hf).trans h
theorem zc (bi:Nat) (im:Img) (bd:Bod) (ak:Option Addr) (capk:Nat) (w:World) (hI:cH w bi im) (hW:WfI im) (hbd:WfB im.zq im.zx bd) (hc:w.ownsRow 0 144 4 (.slice ak bd.code.length capk) bd.code.length (dx bd.code)):
  Calls prog 116 #[.pointer (some ⟨bi,0,none⟩),.agg #[.int .i64 bd.cls,.int .i64 bd.meth,.string ⟨bd.zy.toArray⟩,.slice ak bd.code.length capk,S_]] w λen w'=>B_ w w'/\sD (gD im bd) w en w':=by
 obtain⟨R,k5⟩: ∃R,gD im bd=R:=⟨_,rfl⟩;rw[k5];have m7:=hid k5;clear k5;have h7:=iY hbd;obtain⟨n,hn⟩: ∃n,bd.code.length=n:=⟨_,rfl⟩;have G:=hbd.len;rw[hn]at G hc h7⊢;have o6:=Bm n (by omega);have n5:=y8 bd ak n capk
 go_in
 go_wp2_with fail;clear o6
 obtain⟨W,l3⟩: ∃W,W=(((w.alloc (.cells #[.int .i64 bd.cls,.int .i64 bd.meth,.string ⟨bd.zy.toArray⟩,.slice ak n capk,S_] 52)).alloc
    (.cells (eH (List.replicate n none)).toArray 91)).alloc (.cells #[.slice (some ⟨w.heap.size+1,0,none⟩) n n,.bool true,.bool false] 274)):=⟨_,rfl⟩
 have n1:B_ w W:=by rw[l3];exact((aa _ _ _).trans (aa _ _ _)).trans (aa _ _ _)
 have h3:=Eg w (.cells #[.int .i64 bd.cls,.int .i64 bd.meth,.string ⟨bd.zy.toArray⟩,.slice ak n capk,S_] 52) (.cells (eH (List.replicate n none)).toArray 91) (.cells #[.slice (some ⟨w.heap.size+1,0,none⟩) n n,.bool true,.bool false] 274);rw[<-l3]at h3⊢;clear l3;obtain⟨b9,y1,y2⟩:=h3;have i6:fF W (w.heap.size+1) (List.replicate n none):=y1;have d:i7 W (w.heap.size+1+1) (w.heap.size+1) n true false:=y2;clear y1 y2;have h5:w.heap.size<=w.heap.size/\w.heap.size<w.heap.size+1/\w.heap.size+1<w.heap.size+1+1:=by omega
 revert b9 i6 d h5;generalize w.heap.size+1+1=bt;generalize w.heap.size+1=gA;obtain⟨bb,l4⟩: ∃bb,w.heap.size=bb:=⟨_,rfl⟩;rw[l4];intro b9 i6 d h6;have h5:w.heap.size<=bb/\bb<gA/\gA<bt:=by omega
 have p3:=hid l4;clear l4 h6;have b0:=ce0 b9;have b1:=ce1 b9;have b2:=ce2 b9;have b3:=ce3 b9;have b4:=ce4 b9;have ltb:=ae b9;have e0:=d.c0;have ltT:=d.lt;have e4:B_ W W.drew:=aA _ _;have e6:=hid (n5 W.drew);clear n5;refine aD (B_ W) 6 ?_
 iterate 5 (refine aF (v:=?_) rfl e4 ?_ ?_;rotate_left;(focus (intro wS h;have q0:=(h.kc e0 ltT);have q1:=(h.kc b0 ltb);have q2:=(h.kc b1 ltb);have q3:=(h.kc b2 ltb);have q4:=(h.kc b3 ltb);have q5:=(h.kc b4 ltb);clear h;go_simp;try rfl));dsimp only[Act.put];try simp only[bW])
 refine au rfl ?_;intro KS hKS;go_simp;refine e6.out.mono ?_;rintro en w1 ⟨rfl,e1⟩;have b:B_ W w1:=e4.trans e1;refine hKS.out _ _ (λ_=>b) ?_;clear hKS KS e6;refine au rfl ?_;intro KS hKS;go_simp;refine hKS.out _ _ nofun ?_;clear hKS KS;have c9:=i6.but b (λh=>h);have n3:=d.but b (λh=>h);have j2:(List.replicate n (none:Option (L_×L_)))[0]?=some none:=by rw[List.getElem?_replicate];exact if_pos G.1
 have u0:w1.cell? ⟨gA,0,none⟩=some (.bool false):=c9.cell (k:=0) j2 (by omega);have u1:w1.cell? ⟨gA,1,none⟩=some (.string ⟨#[]⟩):=c9.cell (k:=1) j2 (by omega);have u2:w1.cell? ⟨gA,2,none⟩=some (.string ⟨#[]⟩):=c9.cell (k:=2) j2 (by omega);have z0:=c9.fz 0;have z1:=c9.fz 1;have z2:=c9.fz 2;have zlt:=c9.lt;clear j2;refine au rfl ?_;intro KS hKS;go_simp;refine hKS.out _ _ nofun ?_;clear hKS KS;refine aI rfl ?_;have i4:=c9.set (j:=0) (by simpa using G.1) [] bd.zy;have f:But (· =gA) w1 (((w1.setCell ⟨gA,0,none⟩ (.bool true)).setCell ⟨gA,1,none⟩ (.string ⟨#[]⟩)).setCell ⟨gA,2,none⟩ (.string ⟨bd.zy.toArray⟩)):=((aj _ _ _ _).trans (aj _ _ _ _)).trans (aj _ _ _ _)
 have j5:fF (((w1.setCell ⟨gA,0,none⟩ (.bool true)).setCell ⟨gA,1,none⟩ (.string ⟨#[]⟩)).setCell ⟨gA,2,none⟩ (.string ⟨bd.zy.toArray⟩)) gA (dM bd):=by
  unfold dM;rw[hn];simpa using i4
 clear i4;revert j5 f;clear u0 u1 u2 z0 z1 z2;generalize (((w1.setCell ⟨gA,0,none⟩ (.bool true)).setCell ⟨gA,1,none⟩ (.string ⟨#[]⟩)).setCell ⟨gA,2,none⟩ (.string ⟨bd.zy.toArray⟩))=w2;intro f i4;have o1:=n3.but f (λh=>by omega);have m3:vm w2 bb bd ak n capk:=(f.block bb (bK ltb b.size) (λh=>by omega)).trans ((b.block bb ltb (λh=>h)).trans b9)
 have j7:B_ w w2:=by
  refine(n1.trans b).next f (λk hk h=> ?_);omega
 clear f c9 n3 b e1 e4 d i6 e0 ltT b0 b1 b2 b3 b4 ltb zlt b9 n1;clear w1 W;have HN:=hid hn;clear hn;go_wp2_with fail
 go_loopg [7] 80000 (λmm rs wr=> ∃(r:Nat) (tb:List St) (ch:Bool),rs= .int .i64 r/\r<=80000/\r+mm<=80000/\80000<=r+mm/\B_ w wr/\vm wr bb bd ak n capk/\i7 wr bt gA n ch false/\fF wr gA tb/\wfT im.zq.length bd.zy.length n tb/\Hid (fe im bd mm (tb,ch,false)=R))
 case atStart=>exact⟨0,dM bd,true,rfl,by omega,by omega,by omega,j7,m3,o1,i4,h7,m7.out⟩
 case round=>
  obtain⟨r,tb,ch,rfl,q9,p0,r3,A,E,d,B,z,HA⟩:=hrel;have g7:gk=80000-r:=by omega
  rw[g7]at HA;clear g7 p0;have c0:=d.c0;have c1:=d.c1;have f1:=d.fz 1;have clt:=d.lt
  by_cases b7:r<80000/\ch=true
  .obtain⟨b7,rfl⟩:=b7;have h0:(r:Int)<80000:=by omega
   obtain⟨SW,k6⟩: ∃SW,dL im bd n 0 (tb,false,false)=SW:=⟨_,rfl⟩;have o0:=hid k6
   have S:Hid (gE im bd (80000-(r+1)) SW=R):=by
    show _=_
    rw[<-HA.out,show 80000-r=(80000-(r+1))+1 from by omega,<-k6,<-HN.out,mU]
   clear k6 HA;go_wp2_with fail;have l0:=d.set1 false;have i5:But (· =bt) wr (wr.setCell ⟨bt,1,none⟩ (.bool false)):=aj _ _ _ _;have k4:=E.but i5 (by omega);have k7:=B.but i5 (by omega);have k3:B_ w (wr.setCell ⟨bt,1,none⟩ (.bool false)):=A.next i5 (λk hk h=>by omega);revert l0 k4 k7 k3;clear d E B A c0 c1 f1 clt i5;generalize (wr.setCell ⟨bt,1,none⟩ (.bool false))=wc;intro o2 E B k3
   go_loopg [8] n (λmm is wr=> ∃(i:Nat) (T:Tn),is= .int .i64 i/\i<=n/\i+mm<=n/\n<=i+mm/\B_ w wr/\vm wr bb bd ak n capk/\i7 wr bt gA n T.2.1 T.2.2/\fF wr gA T.1/\wfT im.zq.length bd.zy.length n T.1/\Hid (dL im bd mm i T=SW))
   case atStart=>exact⟨0,(tb,false,false),rfl,by omega,by omega,by omega,k3,E,o2,B,z,o0.out⟩
   case round=>
    obtain⟨i,T,rfl,q7,o5,q8,A,E,d,B,z,HA⟩:=hrel;have g7:gk=n-i:=by omega
    rw[g7]at HA;clear g7 o5;have c0:=d.c0;have c2:=d.c2;have clt:=d.lt;have b3:=ce3 E;have blt:=E.lt
    by_cases hgo:i<n/\T.2.2=false
    .obtain⟨b7,b8⟩:=hgo;have h0:(i:Int)<(n:Int):=by omega
     rw[b8]at c2;have p2:i<T.1.length:=by rw[z.1];exact b7
     obtain⟨o,ho⟩: ∃o,T.1[i]=o:=⟨_,rfl⟩;have e7:=aG p2;rw[ho]at e7;have q0:=B.cell (k:=0) e7 (by omega);have q1:=B.cell (k:=1) e7 (by omega);have q2:=B.cell (k:=2) e7 (by omega);simp only[Nat.add_zero]at q0;have alt:=B.lt
     cases o with
     |none=>
      have j3:wr.cell? ⟨gA,i*3,none⟩=some (.bool false):=q0
      have D:Hid (dL im bd (n-(i+1)) (i+1) T=SW):=by
       show _=_
       rw[<-HA.out,show n-i=(n-(i+1))+1 from by omega,iZ b8 (wP e7)]
      clear q0 q1 q2 e7 ho HA;go_wp2_with fail
      go_roundg (n-(i+1))
      case measure=>omega
      case rel=>exact⟨i+1,T,by simp,by omega,by omega,by omega,A,E,d,B,z,D.out⟩
     |some st=>
      obtain⟨st,lo⟩:=st;have j3:wr.cell? ⟨gA,i*3,none⟩=some (.bool true):=q0;have m5:wr.cell? ⟨gA,i*3+1,none⟩=some (.string ⟨st.toArray⟩):=q1;have m6:wr.cell? ⟨gA,i*3+2,none⟩=some (.string ⟨lo.toArray⟩):=q2;have C:=hid e7;clear q0 q1 q2 e7 ho;have h1:i<bd.code.length:=by rw[HN.out];exact b7
      have hx:=aG h1;have g4:=hbd.code _ (bD h1);obtain⟨X,hX⟩: ∃X,bd.code[i]=X:=⟨_,rfl⟩;rw[hX]at hx g4;clear hX;obtain⟨g,o3,J,q6,a⟩:=aE hc G.1;subst o3;have i0:=(A.cell (p:=⟨g,_,none⟩) J (λh=>h)).trans (a _ _ (jk hx));have i1:=(A.cell (p:=⟨g,_,none⟩) J (λh=>h)).trans (a _ _ (jl hx));have i2:=(A.cell (p:=⟨g,_,none⟩) J (λh=>h)).trans (a _ _ (jm hx));have i3:=(A.cell (p:=⟨g,_,none⟩) J (λh=>h)).trans (a _ _ (jo hx));have glt:g<wr.heap.size:=bK J A.size;clear a;have HX:=hid hx;clear hx;have h4:=z.okS G.2 i st lo C.out
      obtain⟨m1,m2,okb,n4,n2⟩: ∃m1 m2 okb,xf (cC im.zq im.zx bd X st lo) st lo= .tuple #[.agg #[.bool true,.string m1,.string m2],.bool okb]/\
        ((cC im.zq im.zx bd X st lo=none/\okb=false)\/ ∃s l,cC im.zq im.zx bd X st lo=some (s,l)/\okb=true/\m1=⟨s.toArray⟩/\m2=⟨l.toArray⟩):=by
       unfold xf
       cases he:cC im.zq im.zx bd X st lo with
       |none=>exact⟨_,_,false,rfl,Or.inl ⟨rfl,rfl⟩⟩
       |some m=>exact⟨_,_,true,rfl,Or.inr ⟨m.1,m.2,rfl,rfl,rfl,rfl⟩⟩
      have g0:=λ(wx:World) (h:B_ wr wx)=>xg bi im bd (some ⟨g,0,none⟩) n capk X st lo wx ((hI.but A).but h) hW hbd g4 h4.1 (by have:=h4.2.2.2;omega) h4.2.2.1 trivial
      rw[n4]at g0;have h9:=hid g0;have g2:=hid n2;clear g0 n4 n2;have b0:=ce0 E;have b1:=ce1 E;have b2:=ce2 E;have b4:=ce4 E;go_wp2_with fail;have e4:B_ wr wr.drew:=aA _ _;refine aD (B_ wr) 21 ?_
      iterate 14 (refine aF (v:=?_) rfl e4 ?_ ?_;rotate_left;(focus (intro wS h;have Q0:=(h.kc c0 clt);have Q1:=(h.kc j3 alt);have Q2:=(h.kc m5 alt);have Q3:=(h.kc m6 alt);have Q4:=(h.kc b0 blt);have Q5:=(h.kc b1 blt);have Q6:=(h.kc b2 blt);have Q7:=(h.kc b3 blt);have Q8:=(h.kc b4 blt);have Q9:=(h.kc i0 glt);have p4:=(h.kc i1 glt);have p5:=(h.kc i2 glt);have p6:=(h.kc i3 glt);clear h;go_simp;try rfl));dsimp only[Act.put];try simp only[bW])
      refine oJ (q:=18) (o:= ?oE14) (oq:= ?oqE14) (rest:= ?rsE14) (restq:= ?rqE14) ?hoE14 ?hqE14 ?hrE14 ?stE14 ?sqE14
      case hoE14=>rfl
      case hqE14=>rfl
      case hrE14=>kernel_rfl
      case' stE14=>
       intro KS hKS;go_simp;refine(h9.out wr.drew e4).mono ?_;rintro en w1 ⟨rfl,e1⟩;have b:B_ wr w1:=e4.trans e1;refine hKS.out _ _ (λ_=>b) ?_;clear hKS KS
       iterate 3 (refine aF (v:=?_) rfl b ?_ ?_;rotate_left;(focus (intro wS h;clear h;go_simp;try rfl));dsimp only[Act.put];try simp only[bW])
       refine au rfl ?_;intro KS hKS;go_simp;refine hKS.out _ _ (λ_=>b.trans (aa _ _ _)) ?_;clear hKS KS;refine au rfl ?_;intro KS hKS;go_simp;refine hKS.out _ _ (λ_=>b.trans (aa _ _ _)) ?_;clear hKS KS;refine au rfl ?_;intro KS hKS;go_simp;refine hKS.out _ _ (λ_=>b.trans (aa _ _ _)) ?_;clear hKS KS;refine aI rfl ?_;have f:B_ wr (w1.alloc (.cells #[.bool true,.string m1,.string m2] 91)):=b.trans (aa _ _ _);have c8:(w1.alloc (.cells #[.bool true,.string m1,.string m2] 91)).heap[w1.heap.size]?=some (.cells #[.bool true,.string m1,.string m2] 91):=aO _ _;have f6:wr.heap.size<=w1.heap.size:=b.size
       revert f c8 f6;clear e1 b;generalize (w1.alloc (.cells #[.bool true,.string m1,.string m2] 91))=w2;generalize w1.heap.size=bm;intro f c8 f6;clear w1
      case' sqE14=>
       intro KS hKS;go_simp;have g3:B_ wr (wr.alloc (.cells #[.bool false,.string ⟨#[]⟩,.string ⟨#[]⟩] 91)).drew:=(aa _ _ _).trans (aA _ _);have j1:(wr.alloc (.cells #[.bool false,.string ⟨#[]⟩,.string ⟨#[]⟩] 91)).drew.heap[wr.heap.size]?=some (.cells #[.bool false,.string ⟨#[]⟩,.string ⟨#[]⟩] 91):=aO _ _;revert g3 j1;generalize (wr.alloc (.cells #[.bool false,.string ⟨#[]⟩,.string ⟨#[]⟩] 91)).drew=Wd;generalize g5:wr.heap.size=bm;intro g3 j1;have f6:wr.heap.size<=bm:=by omega
       have n8:=hid g5;clear g5;refine hKS.out _ _ (λ_=>g3) ?_;clear hKS KS;refine oK rfl ?_;intro KS hKS;go_simp;refine(h9.out Wd g3).mono ?_;rintro en w1 ⟨rfl,e1⟩;have b:B_ wr w1:=g3.trans e1;have P:w1.heap[bm]?=some (.cells #[.bool false,.string ⟨#[]⟩,.string ⟨#[]⟩] 91):=e1.kp j1;refine hKS.out _ _ (λ_=>b) ?_;clear hKS KS
       iterate 3 (refine oL (v:=?_) rfl b ?_ ?_;rotate_left;(focus (intro wS h;clear h;go_simp;try rfl));dsimp only[Act.put];try simp only[bW])
       refine oM ?_;have r0:=ce0 P;have r1:=ce1 P;have r2:=ce2 P;have z0:w1.frozen? ⟨bm,0,none⟩=false:=bG w1 bm 0 _ _ P;have z1:w1.frozen? ⟨bm,1,none⟩=false:=bG w1 bm 1 _ _ P;have z2:w1.frozen? ⟨bm,2,none⟩=false:=bG w1 bm 2 _ _ P;have rlt:=ae P;have j0: ∀j u (wx:World),B_ wr wx->B_ wr (wx.setCell ⟨bm,j,none⟩ u):=λj u wx h=>h.next (aj _ _ _ _) (λk hk e=>by omega)
       have f:=j0 2 (.string m2) _ (j0 1 (.string m1) _ (j0 0 (.bool true) _ b));have c8:=cQ _ bm 2 _ _ (.string m2) (cQ _ bm 1 _ _ (.string m1) (cQ _ bm 0 _ _ (.bool true) P));refine au rfl ?_;intro KS hKS;go_simp;refine hKS.out _ _ (λ_=>f) ?_;clear hKS KS;refine au rfl ?_;intro KS hKS;go_simp;refine hKS.out _ _ (λ_=>f) ?_;clear hKS KS;refine aI rfl ?_;have m4:(((w1.setCell ⟨bm,0,none⟩ (.bool true)).setCell ⟨bm,1,none⟩ (.string m1)).setCell ⟨bm,2,none⟩ (.string m2)).heap[bm]?=some (.cells #[.bool true,.string m1,.string m2] 91):=c8;clear c8;revert f m4;clear g3 j1 j0 P r0 r1 r2 z0 z1 z2 rlt e1 b
       generalize (((w1.setCell ⟨bm,0,none⟩ (.bool true)).setCell ⟨bm,1,none⟩ (.string m1)).setCell ⟨bm,2,none⟩ (.string m2))=w2;intro f c8;clear w1 Wd n8
      .clear h9 b0 b1 b2 b3 b4 j3 m5 m6 i0 i1 i2 i3 c0 c2;have f3:=B.lt;have f4:=d.lt;have b5:=d.but f (λh=>h);have a5:=B.but f (λh=>h);have L:=E.but f (λh=>h);have c:=A.trans f;clear d B E f A e4 clt alt blt glt;obtain⟨hE,rfl⟩ | ⟨s,l,hE,rfl,rfl,rfl⟩:=g2.out
       .have e3:none=R:=by
         rw[<-S.out,<-HA.out,show n-i=(n-(i+1))+1 from by omega,lF b8 (mW HX.out C.out hE)]
         rfl
        clear g2 hE HA S HX C;subst e3;go_wp2_with fail;exact cA (v:= .tuple #[S_,.bool false]) (by simp[results,results116,go_sem]) rfl ⟨c,rfl⟩
       .have I:=pY hW g4 (z.2 i st lo C.out).1 hE;have e6:=hid (kN HX.out C.out hE)
        have D:Hid (dL im bd (n-(i+1)) (i+1) (dl im.zq (dl im.zq T (bR X i).1 s l) (bR X i).2 s l)=SW):=by
         show _=_
         rw[<-HA.out,show n-i=(n-(i+1))+1 from by omega,iZ b8 e6.out]
        have g1:=iX hW.nc hW.cls (j:=(bR X i).1) z I.1 (by have:=(z.2 i st lo C.out).2;omega);have h8:=iX hW.nc hW.cls (j:=(bR X i).2) g1.1 I.1 (by have:=(z.2 i st lo C.out).2;omega);have h2:okS im.zq.length bd.zy.length s l:=⟨I.1.1,I.1.2.1,I.1.2.2,by have:=I.2;have:=(z.2 i st lo C.out).2;have:=pX T.1;have:=z.1;omega⟩;have Y:=hid g1;have H:=hid h8;have n7:=hid b8;clear g2 hE HA S I e6 g1 h8 C h4 b8;obtain⟨g',f5,l6,m0,a⟩:=aE hc G.1
        cases f5
        have i0:=(c.cell (p:=⟨g,_,none⟩) J (λh=>h)).trans (a _ _ (jk HX.out));have i1:=(c.cell (p:=⟨g,_,none⟩) J (λh=>h)).trans (a _ _ (jl HX.out));have i2:=(c.cell (p:=⟨g,_,none⟩) J (λh=>h)).trans (a _ _ (jm HX.out));have i3:=(c.cell (p:=⟨g,_,none⟩) J (λh=>h)).trans (a _ _ (jo HX.out));have glt:g<w2.heap.size:=bK J c.size;have b3:=ce3 L;have blt:=L.lt;clear a;go_wp2_with fail;refine(vj X i w2 (by omega)).mono ?_;rintro en w3 ⟨rfl,Q⟩
        have e5:(-1<=(bR X i).1/\(bR X i).1<=1000)/\(-1<=(bR X i).2/\(bR X i).2<=1000):=by
         have:=g4.num;unfold bR
         split
         .simp
         split
         .simp;omega
         split
         .simp;omega
         .simp;omega
        revert D Y H e5;generalize (bR X i).1=x;generalize (bR X i).2=y;intro D Y H e5;have b6:=b5.but Q (λh=>h);have a6:=a5.but Q (λh=>h);have a3:=L.but Q (λh=>h);have Z:=c.trans Q;have t:=Q.kp c8;have l5:gA<bm/\bt<bm:=⟨bK f3 f6,bK f4 f6⟩;clear b5 a5 L c c8 i0 i1 i2 i3 glt b3 blt Q;have k0:=ce0 t;have k1:=ce1 t;have k2:=ce2 t;have klt:=ae t;go_wp2_with fail;refine(tE bt gA bi im.zq bd.zy.length n T x s l w3 (hI.but Z).cls hW.cls hW.nc hbd.loc.1 G.2 (by omega) b6 a6 z h2 e5.1).mono ?_;rintro en w4 ⟨rfl,e2,O,M⟩;have a4:=a3.but e2 (λh=>by omega);have a0:B_ w w4:=Z.next e2 (λk hk h=>by omega)
        have F:=(e2.block bm (ae t) (λh=>by omega)).trans t;clear k0 k1 k2 klt b6 a6 a3 Z t e2;have k0:=ce0 F;have k1:=ce1 F;have k2:=ce2 F;have klt:=ae F;revert D Y H O M;generalize dl im.zq T x s l=T1;intro D Y H O M;go_wp2_with fail;refine(tE bt gA bi im.zq bd.zy.length n T1 y s l w4 (hI.but a0).cls hW.cls hW.nc hbd.loc.1 G.2 (by omega) O M Y.out.1 h2 e5.2).mono ?_;rintro en w5 ⟨rfl,e8,a2,a1⟩;have f0:=a4.but e8 (λh=>by omega);have f2:B_ w w5:=a0.next e8 (λk hk h=>by omega);clear k0 k1 k2 klt O M a4 a0 F e8;revert D H a2 a1;generalize dl im.zq T1 y s l=T2;intro D H a2 a1
        go_wp2_with fail
        go_roundg (n-(i+1))
        case measure=>omega
        case rel=>exact⟨i+1,T2,by simp,by omega,by omega,by omega,f2,f0,a2,a1,H.out.1,D.out⟩
      .clear h9 b0 b1 b2 b3 b4 j3 m5 m6 i0 i1 i2 i3 c0 c2;have f3:=B.lt;have f4:=d.lt;have b5:=d.but f (λh=>h);have a5:=B.but f (λh=>h);have L:=E.but f (λh=>h);have c:=A.trans f;clear d B E f A e4 clt alt blt glt;obtain⟨hE,rfl⟩ | ⟨s,l,hE,rfl,rfl,rfl⟩:=g2.out
       .have e3:none=R:=by
         rw[<-S.out,<-HA.out,show n-i=(n-(i+1))+1 from by omega,lF b8 (mW HX.out C.out hE)]
         rfl
        clear g2 hE HA S HX C;subst e3;go_wp2_with fail;exact cA (v:= .tuple #[S_,.bool false]) (by simp[results,results116,go_sem]) rfl ⟨c,rfl⟩
       .have I:=pY hW g4 (z.2 i st lo C.out).1 hE;have e6:=hid (kN HX.out C.out hE)
        have D:Hid (dL im bd (n-(i+1)) (i+1) (dl im.zq (dl im.zq T (bR X i).1 s l) (bR X i).2 s l)=SW):=by
         show _=_
         rw[<-HA.out,show n-i=(n-(i+1))+1 from by omega,iZ b8 e6.out]
        have g1:=iX hW.nc hW.cls (j:=(bR X i).1) z I.1 (by have:=(z.2 i st lo C.out).2;omega);have h8:=iX hW.nc hW.cls (j:=(bR X i).2) g1.1 I.1 (by have:=(z.2 i st lo C.out).2;omega);have h2:okS im.zq.length bd.zy.length s l:=⟨I.1.1,I.1.2.1,I.1.2.2,by have:=I.2;have:=(z.2 i st lo C.out).2;have:=pX T.1;have:=z.1;omega⟩;have Y:=hid g1;have H:=hid h8;have n7:=hid b8;clear g2 hE HA S I e6 g1 h8 C h4 b8;obtain⟨g',f5,l6,m0,a⟩:=aE hc G.1
        cases f5
        have i0:=(c.cell (p:=⟨g,_,none⟩) J (λh=>h)).trans (a _ _ (jk HX.out));have i1:=(c.cell (p:=⟨g,_,none⟩) J (λh=>h)).trans (a _ _ (jl HX.out));have i2:=(c.cell (p:=⟨g,_,none⟩) J (λh=>h)).trans (a _ _ (jm HX.out));have i3:=(c.cell (p:=⟨g,_,none⟩) J (λh=>h)).trans (a _ _ (jo HX.out));have glt:g<w2.heap.size:=bK J c.size;have b3:=ce3 L;have blt:=L.lt;clear a;go_wp2_with fail;refine(vj X i w2 (by omega)).mono ?_;rintro en w3 ⟨rfl,Q⟩
        have e5:(-1<=(bR X i).1/\(bR X i).1<=1000)/\(-1<=(bR X i).2/\(bR X i).2<=1000):=by
         have:=g4.num;unfold bR
         split
         .simp
         split
         .simp;omega
         split
         .simp;omega
         .simp;omega
        revert D Y H e5;generalize (bR X i).1=x;generalize (bR X i).2=y;intro D Y H e5;have b6:=b5.but Q (λh=>h);have a6:=a5.but Q (λh=>h);have a3:=L.but Q (λh=>h);have Z:=c.trans Q;have t:=Q.kp c8;have l5:gA<bm/\bt<bm:=⟨bK f3 f6,bK f4 f6⟩;clear b5 a5 L c c8 i0 i1 i2 i3 glt b3 blt Q;have k0:=ce0 t;have k1:=ce1 t;have k2:=ce2 t;have klt:=ae t;go_wp2_with fail;refine(tE bt gA bi im.zq bd.zy.length n T x s l w3 (hI.but Z).cls hW.cls hW.nc hbd.loc.1 G.2 (by omega) b6 a6 z h2 e5.1).mono ?_;rintro en w4 ⟨rfl,e2,O,M⟩;have a4:=a3.but e2 (λh=>by omega);have a0:B_ w w4:=Z.next e2 (λk hk h=>by omega)
        have F:=(e2.block bm (ae t) (λh=>by omega)).trans t;clear k0 k1 k2 klt b6 a6 a3 Z t e2;have k0:=ce0 F;have k1:=ce1 F;have k2:=ce2 F;have klt:=ae F;revert D Y H O M;generalize dl im.zq T x s l=T1;intro D Y H O M;go_wp2_with fail;refine(tE bt gA bi im.zq bd.zy.length n T1 y s l w4 (hI.but a0).cls hW.cls hW.nc hbd.loc.1 G.2 (by omega) O M Y.out.1 h2 e5.2).mono ?_;rintro en w5 ⟨rfl,e8,a2,a1⟩;have f0:=a4.but e8 (λh=>by omega);have f2:B_ w w5:=a0.next e8 (λk hk h=>by omega);clear k0 k1 k2 klt O M a4 a0 F e8;revert D H a2 a1;generalize dl im.zq T1 y s l=T2;intro D H a2 a1
        go_wp2_with fail
        go_roundg (n-(i+1))
        case measure=>omega
        case rel=>exact⟨i+1,T2,by simp,by omega,by omega,by omega,f2,f0,a2,a1,H.out.1,D.out⟩
    .have p1:SW=some T:=by
      rw[<-HA.out]
      by_cases hb:T.2.2=true
      .exact mV im bd _ _ T hb
      .have: ¬i<n:=λh=>hgo ⟨h,by simpa using hb⟩
       rw[show n-i=0 from by omega]
       rfl
     clear HA;subst p1
     by_cases b7:i<n
     .have hb:T.2.2=true:=by
       by_cases hb:T.2.2=true
       .exact hb
       .exact absurd ⟨b7,by simpa using hb⟩ hgo
      have e3:none=R:=by rw[<-S.out];simp[gE,hb]
      clear S hgo;subst e3;rw[hb]at c2;have h0:(i:Int)<(n:Int):=by omega
      go_wp2_with fail;exact cA (v:= .tuple #[S_,.bool false]) (by simp[results,results116,go_sem]) rfl ⟨A,rfl⟩
     .have h0: ¬(i:Int)<(n:Int):=by omega
      obtain⟨n6,n0,j4⟩:=T
      cases j4 with
      |true=>
       have e3:none=R:=by rw[<-S.out];simp[gE]
       clear S hgo;subst e3;go_wp2_with fail;exact cA (v:= .tuple #[S_,.bool false]) (by simp[results,results116,go_sem]) rfl ⟨A,rfl⟩
      |false=>
       have n9:Hid (fe im bd (80000-(r+1)) (n6,n0,false)=R):=by show _=_;rw[<-S.out];simp[gE]
       clear S hgo;go_wp2_with fail
       go_roundg (80000-(r+1))
       case measure=>omega
       case rel=>exact⟨r+1,n6,n0,by simp,by omega,by omega,by omega,A,E,d,B,z,n9.out⟩
  .have e3:some tb=R:=by
    rw[<-HA.out]
    cases ch with
    |false=>rw[jp]
    |true=>
     rw[show 80000-r=0 from by have: ¬r<80000:=λh=>b7 ⟨h,rfl⟩;omega]
     rfl
   clear HA m7;subst e3;have g6:sD (some tb) w (.returned (.tuple #[.slice (some ⟨gA,0,none⟩) n n,.bool true])) wr:=⟨gA,by rw[z.1],B,by omega⟩;have HF:=hid g6;clear g6
   by_cases hr:r<80000
   .have o4:ch=false:=by
     cases ch
     .rfl
     .exact absurd ⟨hr,rfl⟩ b7
    subst o4;clear b7;have h0:(r:Int)<80000:=by omega
    go_wp2_with fail;exact cA (v:= .tuple #[.slice (some ⟨gA,0,none⟩) n n,.bool true]) (by simp[results,results116,go_sem]) rfl ⟨A,HF.out⟩
   .clear b7;have h0: ¬(r:Int)<80000:=by omega
    go_wp2_with fail;exact cA (v:= .tuple #[.slice (some ⟨gA,0,none⟩) n n,.bool true]) (by simp[results,results116,go_sem]) rfl ⟨A,HF.out⟩
def gY (im:Img):Nat->List Bod->Except Nat (List (List St))
 |_,[]=> .ok []
 |i,b::bs=>
  match gD im b with
  |none=> .error i
  |some t=>
   match gY im (i+1) bs with
   | .error e=> .error e
   | .ok ts=> .ok (t::ts)
theorem zd {im:Img}: ∀{bs:List Bod} {i k:Nat} {ts:List (List St)} {b:Bod},(bs.take k).map (gD im)=ts.map some->bs[k]?=some b->gD im b=none->gY im i bs= .error (i+k):=by
 intro bs
 induction bs with
 |nil=>intro i k ts b _ h;simp at h
 |cons x bs ih=>
  intro i k ts b a c d
  cases k with
  |zero=>simp at c;subst c;simp[gY,d]
  |succ k=>
   cases ts with
   |nil=>simp at a
   |cons t ts=>
    simp at a c;have:=ih (i:=i+1) (k:=k) (by rw[List.map_take];exact a.2) c d;simp only[gY,a.1,this]
    congr 1
    omega
theorem Bn {im:Img}: ∀{bs:List Bod} {i:Nat} {ts:List (List St)},bs.map (gD im)=ts.map some->gY im i bs= .ok ts:=by
 intro bs
 induction bs with
 |nil=>intro i ts h;simp at h;subst h;rfl
 |cons x bs ih=>
  intro i ts h
  cases ts with
  |nil=>simp at h
  |cons t ts=>
   simp at h;simp only[gY,h.1,ih (i:=i+1) h.2]
def nI (l:List (Nat×List St)):List Value:=l.map λp=> .slice (some ⟨p.1,0,none⟩) p.2.length p.2.length
def iF (w:World) (base:Nat) (v:Value) (l:List (Nat×List St)):Prop:=
 w.ownsRow base 45 1 v l.length (nI l)/\ ∀p∈l,fF w p.1 p.2/\base<=p.1/\v.ownBlock≠some p.1
def xj (R:Except Nat (List (List St))) (w:World) (en:Ending) (w':World):Prop:=match R with
 | .error k=>en= .returned (.tuple #[S_,.int .i64 k,.bool false])
 | .ok ts=> ∃v l,l.map (·.2)=ts/\en= .returned (.tuple #[v,.int .i64 0,.bool true])/\iF w' w.heap.size v l
theorem Bo:(prog.info? 45).map (λi=>(i.zero,i.size,i.bytes))=some (some S_,1,24):=by kernel_rfl
theorem iF.but {w w':World} {base:Nat} {v:Value} {l:List (Nat×List St)} (h:iF w base v l) (hb:B_ w w'):iF w' base v l:=
 ⟨ag h.1 hb (λ_ _ h=>h),λp hp=>⟨(h.2 p hp).1.but hb (λh=>h),(h.2 p hp).2⟩⟩
theorem qu (bi:Nat) (im:Img) (w:World) (hI:cH w bi im) (hW:WfI im):
  Calls prog 69 #[.pointer (some ⟨bi,0,none⟩)] w λen w'=>B_ w w'/\xj (gY im 0 im.zj) w en w':=by
 obtain⟨R,x⟩: ∃R,gY im 0 im.zj=R:=⟨_,rfl⟩;rw[x];have r:=hid x;clear x;obtain⟨i0,a5,b2,b3,b4⟩:=info_parts Bo;obtain⟨v0,v1,v2,bl,M,hC,hS,hB,hl,Q⟩:=hI;have hI:cH w bi im:=⟨v0,v1,v2,bl,M,hC,hS,hB,hl,Q⟩;obtain⟨a2,a1,rfl⟩:=ay hB;have b9:bl.length<=7:=by have:=hW.nb;rw[<-hl]at this;simpa using this
 have HL:=hid hl;clear hl
 go_in
 go_wp2_with fail
 go_loopg [5,6] bl.length (λmm vs ks wr=> ∃(k:Nat) (ao:Option Addr) (cap:Nat) (l:List (Nat×List St)),vs= .slice ao k cap/\l.length=k/\ks= .int .i64 k/\k<=bl.length/\k+mm<=bl.length/\bl.length<=k+mm/\B_ w wr/\iF wr w.heap.size (.slice ao k cap) l/\Hid ((im.zj.take k).map (gD im)=(l.map (·.2)).map some))
 case atStart=>exact⟨0,none,0,[],rfl,rfl,rfl,by omega,by omega,by omega,bf _ _,⟨cR _ _ _ _,by simp⟩,rfl⟩
 case round=>
  obtain⟨k,ao,cap,l,rfl,T,rfl,b7,a6,b8,b,z,H⟩:=hrel;have q:=hid T;clear T a6;have d2:=(M.but b (λh=>h)).c2
  by_cases hlt:k<bl.length
  .have F:=aG hlt;obtain⟨g,rfl,b5,b6,a⟩:=aE (ag hB b (λ_ _ h=>h)) (by omega);have q0:=a _ _ (eP F);have q1:=a _ _ (eQ F);have q2:=a _ _ (fO F);have q3:=a _ _ (fP F);have Z:=a _ _ (fQ F);have d:bl[k]∈bl:=bD hlt;obtain⟨j,D⟩:=Q _ d;have E:WfB im.zq im.zx bl[k].1:=hW.bod _ (by rw[<-HL.out];exact List.mem_map_of_mem d);have f:im.zj[k]?=some bl[k].1:=by rw[<-HL.out,cV,F];rfl
   obtain⟨X,hX⟩: ∃X,bl[k]=X:=⟨_,rfl⟩;rw[hX]at q0 q1 q2 q3 Z j D E f;rw[D]at Z;obtain⟨Xb,Xk,Xt⟩:=X;simp only at q0 q1 q2 q3 Z j E f;obtain⟨ak,capk,rfl⟩:=ay j;have n:=hid f;clear a F hX d D f;have b0:(k:Int)<(bl.length:Int):=by omega
   go_wp2_with fail;refine(zc bi im Xb ak capk wr (hI.but b) hW E (ag j b (λ_ _ h=>h))).mono ?_;rintro en w1 ⟨J,hp⟩;have m:=z.but J;have c:=b.trans J;clear q0 q1 q2 q3 Z d2;generalize Y:gD im Xb=U at hp
   cases U with
   |none=>
    have hp':en= .returned (.tuple #[S_,.bool false]):=hp;subst hp'
    have e:Except.error k=R:=by
     rw[<-r.out];have:=zd (i:=0) H.out n.out Y;rw[this];simp
    subst e;clear Y hp H n;go_wp2_with fail;exact cA (v:= .tuple #[S_,.int .i64 k,.bool false]) (by simp[results,results69,go_sem]) rfl ⟨c,rfl⟩
   |some t=>
    obtain⟨gt,rfl,C,a4⟩:=hp;have HU:=hid Y;clear Y;have S:w.heap.size<=gt:=Nat.le_trans b.size a4;have ltt:=C.lt;have O:w1.ownsRow w.heap.size 45 1 (.slice ao k cap) k (nI l):=by have:=m.1;rw[q.out]at this;exact this
    have c8:=c.size;go_wp2_with (at_builtin;refine wpList_append_lies _ rfl _ _ _ rfl w.heap.size 45 i0 _ 1 24 (by kernel_rfl) a5 b2 b3 b4 rfl (by omega) _ k (nI l) rfl (O.alloc _) ⟨w1.heap.size,0,none⟩ 1 1 [.slice (some ⟨gt,0,none⟩) t.length t.length] rfl rfl (iu (cs:=#[.slice (some ⟨gt,0,none⟩) t.length t.length]) (t:=45) (fr:=(0,0)) (aO w1 _)) (by simp[Value.oneCell']) (by omega) (by unfold maxLen;omega) (by omega) (by simp;omega) (w1.heap.size+1) (by simp) ?_);intro gg cap3 w2 B A a3 b1;have y:But (λk'=>(Value.slice ao k cap).ownBlock=some k') w1 w2:=(aa _ _ _).trans (a8 A);have L:B_ w w2:=c.next y (λk' hk' h=>absurd (aw O k' h) (by omega))
    have P:iF w2 w.heap.size (.slice (some ⟨gg,0,none⟩) (k+1) cap3) (l++ [(gt,t)]):=by
     refine⟨?_,?_⟩
     .rw[aN,q.out,nI,List.map_append];exact B
     .intro p hp
      have key: ∀p1,p1<w1.heap.size->(Value.slice ao k cap).ownBlock≠some p1->(Value.slice (some ⟨gg,0,none⟩) (k+1) cap3).ownBlock≠some p1:=λp1 I G s=>by
       have h5:gg=p1:=by simpa[Value.ownBlock]using s
       obtain h|h:=a3
       .exact G (by rw[<-h5];exact h)
       .omega
      obtain hp|hp:=gz hp
      .obtain⟨I,G,s⟩:=m.2 p hp;exact⟨I.but y s,G,key _ I.lt s⟩
      .simp at hp;subst hp;have s:(Value.slice ao k cap).ownBlock≠some gt:=λh=>by have:=aY z.1 _ h;omega
       exact⟨C.but y s,S,key _ C.lt s⟩
    have a0:Hid ((im.zj.take (k+1)).map (gD im)=((l++ [(gt,t)]).map (·.2)).map some):=by
     show _=_
     rw[List.take_add_one,n.out,List.map_append,H.out];simp[HU.out]
    go_wp2_with fail
    go_roundg (bl.length-(k+1))
    case measure=>omega
    case rel=>exact⟨k+1,_,_,l++ [(gt,t)],rfl,by rw[aN,q.out];rfl,by simp,by omega,by omega,by omega,L,P,a0⟩
  .have e:Except.ok (l.map (·.2))=R:=by
    rw[<-r.out]
    symm
    apply Bn
    have I:im.zj.take k=im.zj:=fd (by rw[<-HL.out];simp;omega);have G:=H.out;rw[I]at G;exact G
   clear H r;subst e;have b0: ¬(k:Int)<(bl.length:Int):=by omega
   go_wp2_with fail;exact cA (v:= .tuple #[.slice ao k cap,.int .i64 0,.bool true]) (by simp[results,results69,go_sem]) rfl ⟨b,_,l,rfl,rfl,z⟩
def mY (s:ByteArray):Nat×Nat:=
 match gQ s with
 | .error e=>e
 | .ok im=>
  match gY im 0 im.zj with
  | .error k=>(4,k)
  | .ok _=>(0,0)
theorem sE {s:ByteArray} {e p:Nat} (h:gQ s= .error (e,p)):1<=e/\e<=3:=by
 unfold gQ at h
 split at h
 .cases h;omega
 split at h
 .cases h;omega
 .split at h
  .cases h;omega
  .cases h
theorem ze (s:ByteArray) (w:World) (hmax:s.size<=maxLen):
  Calls prog 46 #[.string s] w λen w'=>en= .returned (.tuple #[.int .i64 (mY s).1,.int .i64 (mY s).2])/\B_ w w':=by
 obtain⟨R,a⟩: ∃R,mY s=R:=⟨_,rfl⟩;rw[a];unfold mY at a
 go_in
 go_wp2_with fail;refine(qs s w hmax).mono ?_;rintro en w1 ⟨rfl,b,hp⟩
 cases hl:gQ s with
 |error ep=>
  obtain⟨e,p⟩:=ep;rw[hl]at a;have:=sE hl;simp only at a;subst a;have g:=tf e 0 (by omega);simp only[nG];clear hl hp;go_wp2_with fail;exact cA (v:= .tuple #[.int .i64 e,.int .i64 p]) (by simp[results,results46,go_sem]) rfl ⟨rfl,b⟩
 |ok im=>
  rw[hl]at a hp;simp only[nG];have hp':cH w1 w.heap.size im/\WfI im:=hp;simp only at a;clear hp hl;go_wp2_with fail;refine(qu w.heap.size im w1 hp'.1 hp'.2).mono ?_;rintro en i ⟨c,d⟩
  cases ht:gY im 0 im.zj with
  |error k=>
   rw[ht]at a d;simp only at a;subst a;have f:en= .returned (.tuple #[S_,.int .i64 k,.bool false]):=d;subst f;clear d ht;go_wp2_with fail;exact cA (v:= .tuple #[.int .i64 4,.int .i64 k]) (by simp[results,results46,go_sem]) rfl ⟨rfl,b.trans c⟩
  |ok ts=>
   rw[ht]at a d;simp only at a;subst a;obtain⟨v,l,hl,rfl,h⟩:=d;clear ht hl;go_wp2_with fail;exact cA (v:= .tuple #[.int .i64 0,.int .i64 0]) (by simp[results,results46,go_sem]) rfl ⟨rfl,b.trans c⟩
theorem yo {α:Type} {f:α->L_} {m:Nat}: ∀{t:List α},(∀o∈t,(f o).length<=m)->(t.flatMap f).length<=m*t.length:=by
 intro t
 induction t with
 |nil=>intro _;simp
 |cons x t ih=>
  intro h;have a:=h x (by simp);have b:=ih (λo ho=>h o (by simp[ho]));simp only[lr,aN,iU,Nat.mul_add];omega
end
end Go.Proofs.YtpfkkmacakjmbaaGreatDoor
