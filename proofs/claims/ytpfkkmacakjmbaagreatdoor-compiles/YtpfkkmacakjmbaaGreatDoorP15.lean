import Derived.Test.YtpfkkmacakjmbaaGreatDoorP14
set_option maxRecDepth 100000
set_option maxHeartbeats 6400000
set_option linter.all false
namespace Go.Proofs.YtpfkkmacakjmbaaGreatDoor
open Proofs.Tryz
section
open Go Go.RowKit Sp
attribute [local go_sem ↓] eY eZ
theorem vD {fn:Func} {R:Ending->World->Prop} {a:Act} {w:World} {c g:Nat} {a0 a1 a2 a3 a4 x0 x1 x2 x3 x4:Value} (hf:fn.results=#[.cell c 219]) (hd:a.defers=[]) (hc:a.tmps.getD c undef= .pointer (some ⟨g,0,none⟩)) (h:w.heap[g]?=some (.cells #[a0,a1,a2,a3,a4] 219)) (hR: ∀w9,w9.heap[g]?=some (.cells #[x0,x1,x2,x3,x4] 219)->But (· =g) w w9->R (.returned (.agg #[x0,x1,x2,x3,x4])) w9):bodyPost prog fn R .ret a (((((w.setCell ⟨g,0,none⟩ x0).setCell ⟨g,1,none⟩ x1).setCell ⟨g,2,none⟩ x2).setCell ⟨g,3,none⟩ x3).setCell ⟨g,4,none⟩ x4):=by
 have b:=iI h x0 x1 x2 x3 x4;have r0:=ce0 b;have e:=ce1 b;have f:=ce2 b;have i:=ce3 b;have j:=ce4 b;refine cA (v:= .agg #[x0,x1,x2,x3,x4]) ?_ hd (hR _ b (jP w g x0 x1 x2 x3 x4));have d:a.tmps[c]?.getD undef= .pointer (some ⟨g,0,none⟩):=by simpa using hc
 unfold tT at r0 e f i j;simp[results,hf,d,go_sem,r0,e,f,i,j]
structure kH (w w1:World) (b g h:Nat) (p o c n:Value):Prop where
 but:But (· =b) w w1
 box:w1.heap[g]?=some (.cells #[.int .i64 0,.int .u8 0,.int .u8 0,.int .i64 0,S_] 219)
 item:w1.heap[h]?=some (.cells #[p,o,c,n,S_] 219)
theorem kH.next {w w1 w2:World} {b g h:Nat} {p o c n:Value} (x:kH w w1 b g h p o c n) (hg:b<g) (hh:b<h) (h2:But (· =b) w1 w2):kH w w2 b g h p o c n:=
 ⟨x.but.trans h2,(h2.block _ (ae x.box) (by omega)).trans x.box,(h2.block _ (ae x.item) (by omega)).trans x.item⟩
theorem kH.set1 {w w1:World} {b g h:Nat} {p o c n:Value} (x:kH w w1 b g h p o c n) (hh:w.heap.size<=h) (hgh:g≠h) (v:Value):kH w (w1.setCell ⟨h,1,none⟩ v) b g h p v c n:=
 ⟨x.but.next (aj _ _ _ _) (λj hj e=>by omega),((aj w1 h 1 v).block _ (ae x.box) (by omega)).trans x.box,cQ w1 h 1 _ _ v x.item⟩
theorem kH.set2 {w w1:World} {b g h:Nat} {p o c n:Value} (x:kH w w1 b g h p o c n) (hh:w.heap.size<=h) (hgh:g≠h) (v:Value):kH w (w1.setCell ⟨h,2,none⟩ v) b g h p o v n:=
 ⟨x.but.next (aj _ _ _ _) (λj hj e=>by omega),((aj w1 h 2 v).block _ (ae x.box) (by omega)).trans x.box,cQ w1 h 2 _ _ v x.item⟩
theorem kH.set3 {w w1:World} {b g h:Nat} {p o c n:Value} (x:kH w w1 b g h p o c n) (hh:w.heap.size<=h) (hgh:g≠h) (v:Value):kH w (w1.setCell ⟨h,3,none⟩ v) b g h p o c v:=
 ⟨x.but.next (aj _ _ _ _) (λj hj e=>by omega),((aj w1 h 3 v).block _ (ae x.box) (by omega)).trans x.box,cQ w1 h 3 _ _ v x.item⟩
theorem gZ (w:World) (b:Nat) (hb:b<w.heap.size) (A B:Array Value) (t:Nat):But (· =b) w ((w.alloc (.cells A t)).alloc (.cells B t))/\((w.alloc (.cells A t)).alloc (.cells B t)).heap[w.heap.size]?=some (.cells A t)/\((w.alloc (.cells A t)).alloc (.cells B t)).heap[w.heap.size+1]?=some (.cells B t):=by
 refine⟨(aa _ _ _).trans (aa _ _ _),?_,aB (by simp) _⟩;rw[(aa (λ_=>False) (w.alloc (.cells A t)) (.cells B t)).block w.heap.size (ae (aO w _)) (λh=>h)];exact aO w _
theorem dI {w:World} {g t:Nat} {x0 x1 x2 x3 x4:Value} (h:w.heap[g]?=some (.cells #[x0,x1,x2,x3,x4] t)):
  w.frozen? ⟨g,0,none⟩=false/\w.frozen? ⟨g,1,none⟩=false/\w.frozen? ⟨g,2,none⟩=false/\w.frozen? ⟨g,3,none⟩=false/\w.frozen? ⟨g,4,none⟩=false:=
 ⟨bG w g 0 _ _ h,bG w g 1 _ _ h,bG w g 2 _ _ h,bG w g 3 _ _ h,bG w g 4 _ _ h⟩
theorem cI {c:UInt8} (m:Int) (h:(c.toNat:Int)=m):((c.toNat:Int)==m)=true:=beq_iff_eq.2 h
theorem cg {c:UInt8} (m:Int) (h:(c.toNat:Int)≠m):((c.toNat:Int)==m)=false:=beq_eq_false_iff_ne.2 h
def il (s:ByteArray) (SC:List Cls) (ng nl p:Nat) (c:UInt8) (j:Nat) (bad:Bool):XIt×Nat×Bool:=
 if c.toNat=108\/c.toNat=115 then(⟨p,c,45,(dgX s nl j bad).1,none,0,0⟩,(dgX s nl j bad).2.1,(dgX s nl j bad).2.2)
 else if c.toNat=110\/c.toNat=120 then(⟨p,c,(ltX s SC.length j bad).1,0,none,0,0⟩,(ltX s SC.length j bad).2.1,(ltX s SC.length j bad).2.2)
 else if c.toNat=103\/c.toNat=112 then(⟨p,c,(ltX s SC.length j bad).1,(dgX s (cD (SC.map toX) (ltX s SC.length j bad).1).length (ltX s SC.length j bad).2.1 (ltX s SC.length j bad).2.2).1,none,0,0⟩,(dgX s (cD (SC.map toX) (ltX s SC.length j bad).1).length (ltX s SC.length j bad).2.1 (ltX s SC.length j bad).2.2).2.1,(dgX s (cD (SC.map toX) (ltX s SC.length j bad).1).length (ltX s SC.length j bad).2.1 (ltX s SC.length j bad).2.2).2.2)
 else if c.toNat=99 then(⟨p,c,(ltX s SC.length j bad).1,(dgX s ng (ltX s SC.length j bad).2.1 (ltX s SC.length j bad).2.2).1,none,0,0⟩,(dgX s ng (ltX s SC.length j bad).2.1 (ltX s SC.length j bad).2.2).2.1,(dgX s ng (ltX s SC.length j bad).2.1 (ltX s SC.length j bad).2.2).2.2)
 else(⟨p,c,45,0,none,0,0⟩,if bad=true then j else p,true)
theorem zO {s:ByteArray} {SC:List Cls} {ng nl p:Nat} {c:UInt8} {j:Nat} {bad:Bool} (hc:c.toNat=103\/c.toNat=112) {Y:UInt8×Nat×Bool} (hY:ltX s SC.length j bad=Y) {F:Nat} (hF:(cD (SC.map toX) Y.1).length=F) {Z:Nat×Nat×Bool} (hZ:dgX s F Y.2.1 Y.2.2=Z):il s SC ng nl p c j bad=(⟨p,c,Y.1,Z.1,none,0,0⟩,Z.2.1,Z.2.2):=by
 unfold il;rw[if_neg (by omega),if_neg (by omega),if_pos hc,hY,hF,hZ]
section
variable (b base:Nat) (s:ByteArray) (i:Nat) (SC:List Cls) (a0 a1 al:Option Addr) (ng nl cap0 cap1 capl:Nat) (v2:RdV) (w:World)
theorem Ek (p:Nat) (bad:Bool) (c:UInt8) (h108:c.toNat≠108) (h115:c.toNat≠115) (h110:c.toNat≠110) (h120:c.toNat≠120) (h103:c.toNat≠103) (h112:c.toNat≠112) (h99:c.toNat≠99) (hnc:SC.length<=4) (hng:ng<=3) (hnl:nl<=10) (hs:s.size<=2000)
  (hR:XrB w b s i bad (.slice a0 SC.length cap0) (.slice a1 ng cap1) v2) (hv:v2.hl= .slice al nl capl):
  Calls prog 223 #[.pointer (some ⟨b,0,none⟩),itV ⟨p,c,45,0,none,0,0⟩] w λen w'=>But (· =b) w w'/\ ∃x j bad',en= .returned (itV x)/\XrB w' b s j bad' (.slice a0 SC.length cap0) (.slice a1 ng cap1) v2/\il s SC ng nl p c i bad=(x,j,bad'):=by
 have y:=hR.lt;obtain⟨nc,d⟩: ∃nc,SC.length=nc:=⟨_,rfl⟩;have a2:=hid hnc;have a3:=hid d;rw[d]at hR hnc;simp only[d];have A:=cg (c:=c) 108 (by omega);have D:=cg (c:=c) 115 (by omega);have B:=cg (c:=c) 110 (by omega);have E:=cg (c:=c) 120 (by omega);have z:=cg (c:=c) 103 (by omega);have C:=cg (c:=c) 112 (by omega);have a4:=cg (c:=c) 99 (by omega);clear d;obtain⟨g,l,m⟩:=gZ w b y #[.int .i64 p,.int .u8 c.toNat,.int .u8 45,.int .i64 0,S_] #[.int .i64 0,.int .u8 0,.int .u8 0,.int .i64 0,S_] 219;have q:=hR.but ((aa (λ_=>False) w (.cells #[.int .i64 p,.int .u8 c.toNat,.int .u8 45,.int .i64 0,S_] 219)).trans (aa _ _ (.cells #[.int .i64 0,.int .u8 0,.int .u8 0,.int .i64 0,S_] 219))) (λh=>h)
 have a:=hid (kH.mk g m l);clear g l m;unfold itV;dsimp only;simp only[show(UInt8.toNat 45)=45 from rfl]
 go_in
 go_wp2_with fail;revert a q;generalize ((w.alloc (.cells #[.int .i64 p,.int .u8 c.toNat,.int .u8 45,.int .i64 0,S_] 219)).alloc (.cells #[.int .i64 0,.int .u8 0,.int .u8 0,.int .i64 0,S_] 219))=W;intro r a;obtain⟨S,T,X,Y,Z⟩:=dp a.out.item;obtain⟨F,G,H,I,J⟩:=dI a.out.item;obtain⟨y0,y1,y2,y3,y4⟩:=dp a.out.box;obtain⟨L,M,O,P,Q⟩:=dI a.out.box;refine(kj b s i bad _ _ v2 _ p r).mono ?_;rintro en w3 ⟨rfl,n,t⟩;clear S T X Y Z F G H I J y0 y1 y2 y3 y4 L M O P Q;have e:=a.out.next (by omega) (by omega) n;obtain⟨S,T,X,Y,Z⟩:=dp e.item;obtain⟨F,G,H,I,J⟩:=dI e.item;obtain⟨y0,y1,y2,y3,y4⟩:=dp e.box
 obtain⟨L,M,O,P,Q⟩:=dI e.box;have f:=hid (e);have v:=t;go_wp2_with fail;exact vD results223 rfl rfl f.out.box (λw9 _ h9d=>⟨f.out.but.next h9d (λk hk h=>by omega),⟨p,c,45,0,none,0,0⟩,(if bad=true then i else p),true,rfl,v.but h9d (by omega),by simp[il,h108,h115,h110,h120,h103,h112,h99]⟩)
theorem E0 (p:Nat) (bad:Bool) (c:UInt8) (hc:c.toNat=108\/c.toNat=115) (hnc:SC.length<=4) (hng:ng<=3) (hnl:nl<=10) (hs:s.size<=2000)
  (hR:XrB w b s i bad (.slice a0 SC.length cap0) (.slice a1 ng cap1) v2) (hv:v2.hl= .slice al nl capl):
  Calls prog 223 #[.pointer (some ⟨b,0,none⟩),itV ⟨p,c,45,0,none,0,0⟩] w λen w'=>But (· =b) w w'/\ ∃x j bad',en= .returned (itV x)/\XrB w' b s j bad' (.slice a0 SC.length cap0) (.slice a1 ng cap1) v2/\il s SC ng nl p c i bad=(x,j,bad'):=by
 have J:=hR.lt;obtain⟨nc,e⟩: ∃nc,SC.length=nc:=⟨_,rfl⟩;have a2:=hid hnc;have a3:=hid e;rw[e]at hR hnc;simp only[e];have d3:=hR.d3;rw[hv]at d3;have HK:=hid hc;obtain h|h:=hc
 all_goals
  first|have n:=cg (c:=c) 108 (by omega) |have n:=cI (c:=c) 108 (by omega)
  first|have t:=cg (c:=c) 115 (by omega) |have t:=cI (c:=c) 115 (by omega)
  first|have q:=cg (c:=c) 110 (by omega) |have q:=cI (c:=c) 110 (by omega)
  first|have v:=cg (c:=c) 120 (by omega) |have v:=cI (c:=c) 120 (by omega)
  first|have m:=cg (c:=c) 103 (by omega) |have m:=cI (c:=c) 103 (by omega)
  first|have r:=cg (c:=c) 112 (by omega) |have r:=cI (c:=c) 112 (by omega)
  first|have C:=cg (c:=c) 99 (by omega) |have C:=cI (c:=c) 99 (by omega)
  clear h;clear e;obtain⟨y,z,A⟩:=gZ w b J #[.int .i64 p,.int .u8 c.toNat,.int .u8 45,.int .i64 0,S_] #[.int .i64 0,.int .u8 0,.int .u8 0,.int .i64 0,S_] 219;have E:=hR.but ((aa (λ_=>False) w (.cells #[.int .i64 p,.int .u8 c.toNat,.int .u8 45,.int .i64 0,S_] 219)).trans (aa _ _ (.cells #[.int .i64 0,.int .u8 0,.int .u8 0,.int .i64 0,S_] 219))) (λh=>h);have a:=hid (kH.mk y A z);clear y z A;unfold itV;dsimp only;simp only[show(UInt8.toNat 45)=45 from rfl]
  go_in
  go_wp2_with fail;revert a E;generalize ((w.alloc (.cells #[.int .i64 p,.int .u8 c.toNat,.int .u8 45,.int .i64 0,S_] 219)).alloc (.cells #[.int .i64 0,.int .u8 0,.int .u8 0,.int .i64 0,S_] 219))=W;intro F a;obtain⟨q0,q1,q2,q3,q4⟩:=dp a.out.item;obtain⟨L,M,O,P,Q⟩:=dI a.out.item;obtain⟨y0,y1,y2,y3,y4⟩:=dp a.out.box;obtain⟨S,T,X,Y,g4⟩:=dI a.out.box;refine(ij b s i bad _ _ v2 _ nl (by omega) hs F).mono ?_;rintro en w5 ⟨rfl,D,g⟩;obtain⟨Z,B⟩: ∃Z,dgX s nl i bad=Z:=⟨_,rfl⟩;rw[B]at g;rw[B];have HZ:=hid B;clear B;obtain⟨d,j5,b5⟩:=Z;dsimp only at g⊢;clear d3 q0 q1 q2 q3 q4 L M O P Q y0 y1 y2 y3 y4 S T X Y g4
  have f:=a.out.next (by omega) (by omega) D;obtain⟨q0,q1,q2,q3,q4⟩:=dp f.item;obtain⟨L,M,O,P,Q⟩:=dI f.item;obtain⟨y0,y1,y2,y3,y4⟩:=dp f.box;obtain⟨S,T,X,Y,g4⟩:=dI f.box;have I:=f.set3 (by omega) (by omega) (.int .i64 d);have G:=g.but (aj w5 w.heap.size 3 (.int .i64 d)) (by omega);have l:=hid (I);have H:=G;go_wp2_with fail;exact vD results223 rfl rfl l.out.box (λw9 _ h9d=>⟨l.out.but.next h9d (λk hk h=>by omega),⟨p,c,45,d,none,0,0⟩,j5,b5,rfl,H.but h9d (by omega),by unfold il;rw[if_pos HK.out,HZ.out]⟩)
theorem E1 (p:Nat) (bad:Bool) (c:UInt8) (hc:c.toNat=110\/c.toNat=120) (hnc:SC.length<=4) (hng:ng<=3) (hnl:nl<=10) (hs:s.size<=2000)
  (hR:XrB w b s i bad (.slice a0 SC.length cap0) (.slice a1 ng cap1) v2) (hv:v2.hl= .slice al nl capl):
  Calls prog 223 #[.pointer (some ⟨b,0,none⟩),itV ⟨p,c,45,0,none,0,0⟩] w λen w'=>But (· =b) w w'/\ ∃x j bad',en= .returned (itV x)/\XrB w' b s j bad' (.slice a0 SC.length cap0) (.slice a1 ng cap1) v2/\il s SC ng nl p c i bad=(x,j,bad'):=by
 have J:=hR.lt;obtain⟨nc,d⟩: ∃nc,SC.length=nc:=⟨_,rfl⟩;have a2:=hid hnc;have B:=hid d;rw[d]at hR hnc;simp only[d];have L:=hid hc;obtain h|h:=hc
 all_goals
  first|have m:=cg (c:=c) 108 (by omega) |have m:=cI (c:=c) 108 (by omega)
  first|have r:=cg (c:=c) 115 (by omega) |have r:=cI (c:=c) 115 (by omega)
  first|have n:=cg (c:=c) 110 (by omega) |have n:=cI (c:=c) 110 (by omega)
  first|have t:=cg (c:=c) 120 (by omega) |have t:=cI (c:=c) 120 (by omega)
  first|have l:=cg (c:=c) 103 (by omega) |have l:=cI (c:=c) 103 (by omega)
  first|have q:=cg (c:=c) 112 (by omega) |have q:=cI (c:=c) 112 (by omega)
  first|have C:=cg (c:=c) 99 (by omega) |have C:=cI (c:=c) 99 (by omega)
  clear h;clear d;obtain⟨v,y,z⟩:=gZ w b J #[.int .i64 p,.int .u8 c.toNat,.int .u8 45,.int .i64 0,S_] #[.int .i64 0,.int .u8 0,.int .u8 0,.int .i64 0,S_] 219;have E:=hR.but ((aa (λ_=>False) w (.cells #[.int .i64 p,.int .u8 c.toNat,.int .u8 45,.int .i64 0,S_] 219)).trans (aa _ _ (.cells #[.int .i64 0,.int .u8 0,.int .u8 0,.int .i64 0,S_] 219))) (λh=>h);have a:=hid (kH.mk v z y);clear v y z;unfold itV;dsimp only;simp only[show(UInt8.toNat 45)=45 from rfl]
  go_in
  go_wp2_with fail;revert a E;generalize ((w.alloc (.cells #[.int .i64 p,.int .u8 c.toNat,.int .u8 45,.int .i64 0,S_] 219)).alloc (.cells #[.int .i64 0,.int .u8 0,.int .u8 0,.int .i64 0,S_] 219))=W;intro F a;obtain⟨q0,q1,q2,q3,q4⟩:=dp a.out.item;obtain⟨M,O,P,Q,S⟩:=dI a.out.item;obtain⟨y0,y1,y2,y3,y4⟩:=dp a.out.box;obtain⟨T,X,Z,g3,g4⟩:=dI a.out.box;refine(jM b s i bad _ v2 _ nc cap0 a0 (by omega) hs F).mono ?_;rintro en w3 ⟨rfl,D,f⟩;obtain⟨Y,A⟩: ∃Y,ltX s nc i bad=Y:=⟨_,rfl⟩;rw[A]at f;rw[A];have HY:=hid (show ltX s SC.length i bad=Y by rw[B.out];exact A);clear A;obtain⟨kc,j3,b3⟩:=Y
  dsimp only at f⊢;clear q0 q1 q2 q3 q4 M O P Q S y0 y1 y2 y3 y4 T X Z g3 g4;have e:=a.out.next (by omega) (by omega) D;obtain⟨q0,q1,q2,q3,q4⟩:=dp e.item;obtain⟨M,O,P,Q,S⟩:=dI e.item;obtain⟨y0,y1,y2,y3,y4⟩:=dp e.box;obtain⟨T,X,Z,g3,g4⟩:=dI e.box;have I:=e.set2 (by omega) (by omega) (.int .u8 kc.toNat);have G:=f.but (aj w3 w.heap.size 2 (.int .u8 kc.toNat)) (by omega);have g:=hid (I);have H:=G;go_wp2_with fail;exact vD results223 rfl rfl g.out.box (λw9 _ h9d=>⟨g.out.but.next h9d (λk hk h=>by omega),⟨p,c,kc,0,none,0,0⟩,j3,b3,rfl,H.but h9d (by omega),by unfold il;rw[if_neg (by have:=L.out;omega),if_pos L.out,HY.out]⟩)
theorem E3 (p:Nat) (bad:Bool) (c:UInt8) (hc:c.toNat=103\/c.toNat=112) (hnc:SC.length<=4) (hng:ng<=3) (hnl:nl<=10) (hs:s.size<=2000)
  (hR:XrB w b s i bad (.slice a0 SC.length cap0) (.slice a1 ng cap1) v2) (hv:v2.hl= .slice al nl capl) (hwf:WfC SC) (hC:TcV w base (.slice a0 SC.length cap0) (SC.map toX)) (hb:b<base):
  Calls prog 223 #[.pointer (some ⟨b,0,none⟩),itV ⟨p,c,45,0,none,0,0⟩] w λen w'=>But (· =b) w w'/\ ∃x j bad',en= .returned (itV x)/\XrB w' b s j bad' (.slice a0 SC.length cap0) (.slice a1 ng cap1) v2/\il s SC ng nl p c i bad=(x,j,bad'):=by
 have T:=hR.lt;obtain⟨nc,f⟩: ∃nc,SC.length=nc:=⟨_,rfl⟩;have t:=hid hnc;have b1:=hid f;rw[f]at hR hnc;simp only[f];have HC:=hid (λ(w':World) (h:But (· =b) w w') (hr:w'.cell? ⟨b,0,none⟩=some (.slice a0 SC.length cap0))=>(hC.but h (λg e cur _ _ hg he=>by omega)).tx hr (bK T h.size));have E:=hid hwf;rw[f]at HC;clear hC hwf;have HK:=hid hc;obtain h|h:=hc
 all_goals
  first|have H:=cg (c:=c) 108 (by omega) |have H:=cI (c:=c) 108 (by omega)
  first|have L:=cg (c:=c) 115 (by omega) |have L:=cI (c:=c) 115 (by omega)
  first|have I:=cg (c:=c) 110 (by omega) |have I:=cI (c:=c) 110 (by omega)
  first|have M:=cg (c:=c) 120 (by omega) |have M:=cI (c:=c) 120 (by omega)
  first|have G:=cg (c:=c) 103 (by omega) |have G:=cI (c:=c) 103 (by omega)
  first|have J:=cg (c:=c) 112 (by omega) |have J:=cI (c:=c) 112 (by omega)
  first|have b2:=cg (c:=c) 99 (by omega) |have b2:=cI (c:=c) 99 (by omega)
  clear h;clear f;obtain⟨O,a3,a4⟩:=gZ w b T #[.int .i64 p,.int .u8 c.toNat,.int .u8 45,.int .i64 0,S_] #[.int .i64 0,.int .u8 0,.int .u8 0,.int .i64 0,S_] 219;have b7:=hR.but ((aa (λ_=>False) w (.cells #[.int .i64 p,.int .u8 c.toNat,.int .u8 45,.int .i64 0,S_] 219)).trans (aa _ _ (.cells #[.int .i64 0,.int .u8 0,.int .u8 0,.int .i64 0,S_] 219))) (λh=>h);have l:=hid (kH.mk O a4 a3);clear O a3 a4;unfold itV;dsimp only;simp only[show(UInt8.toNat 45)=45 from rfl]
  go_in
  go_wp2_with fail;revert l b7;generalize ((w.alloc (.cells #[.int .i64 p,.int .u8 c.toNat,.int .u8 45,.int .i64 0,S_] 219)).alloc (.cells #[.int .i64 0,.int .u8 0,.int .u8 0,.int .i64 0,S_] 219))=W;intro b8 l;obtain⟨q0,q1,q2,q3,q4⟩:=dp l.out.item;obtain⟨f0,f1,f2,f3,f4⟩:=dI l.out.item;obtain⟨y0,y1,y2,y3,y4⟩:=dp l.out.box;obtain⟨g0,g1,g2,g3,g4⟩:=dI l.out.box;refine(jM b s i bad _ v2 _ nc cap0 a0 (by omega) hs b8).mono ?_;rintro en w3 ⟨rfl,b4,y⟩;obtain⟨Y,hY⟩: ∃Y,ltX s nc i bad=Y:=⟨_,rfl⟩;rw[hY]at y;rw[hY];have HY:=hid (show ltX s SC.length i bad=Y by rw[b1.out];exact hY)
  clear hY;obtain⟨kc,j3,b3⟩:=Y;dsimp only at y⊢;clear q0 q1 q2 q3 q4 f0 f1 f2 f3 f4 y0 y1 y2 y3 y4 g0 g1 g2 g3 g4;have n:=l.out.next (by omega) (by omega) b4;obtain⟨q0,q1,q2,q3,q4⟩:=dp n.item;obtain⟨f0,f1,f2,f3,f4⟩:=dI n.item;obtain⟨y0,y1,y2,y3,y4⟩:=dp n.box;obtain⟨g0,g1,g2,g3,g4⟩:=dI n.box;have Q:=n.set2 (by omega) (by omega) (.int .u8 kc.toNat);have m:=y.but (aj w3 w.heap.size 2 (.int .u8 kc.toNat)) (by omega);have a:=hid Q;clear n Q;go_wp2_with fail;revert a m;generalize (w3.setCell ⟨w.heap.size,2,none⟩ (.int .u8 kc.toNat))=X;intro m a;have S:=HC.out X a.out.but m.c0;have A:=tK b (SC.map toX) kc X.drew (by rw[eF];have:=t.out;omega) (S.but (aA _ _))
  have a2:=nQ E.out t.out kc;obtain⟨F,hF⟩: ∃F,(cD (SC.map toX) kc).length=F:=⟨_,rfl⟩;rw[hF]at A a2;have b0:=hid hF;have B:=hid A;have e0:F<=8:=by have:=t.out;omega
  clear hF A a2 S;obtain⟨x0,x1,x2,x3,x4⟩:=dp a.out.item;have a5:=ae a.out.item;have r:B_ X X.drew:=aA _ _;refine aD (B_ X) 6 ?_
  iterate 5 (refine aF (v:=?_) rfl r ?_ ?_;rotate_left;(focus (intro wS h;have q0:=(h.kc x2 a5);clear h;go_simp;try rfl));dsimp only[Act.put];try simp only[bW])
  refine au rfl ?_;intro KS hKS;go_simp;refine B.out.mono ?_;rintro en w4 ⟨rfl,a6⟩;rw[a6];clear a6 w4 B;refine hKS.out _ _ (λ_=>r) ?_;clear hKS KS;refine au rfl ?_;intro KS hKS;go_simp;refine hKS.out _ _ nofun ?_;clear hKS KS;refine aI rfl ?_;have C:=hid (a.out.next (by omega) (by omega) (aA _ _));have P:=m.but r (λh=>h);clear a m r x0 x1 x2 x3 x4 a5;revert C P;generalize X.drew=X';intro a m;go_wp2_with fail;refine(ij b s j3 b3 _ _ v2 _ F (by omega) hs m).mono ?_;rintro en w5 ⟨rfl,b6,z⟩;obtain⟨Z,hZ⟩: ∃Z,dgX s F j3 b3=Z:=⟨_,rfl⟩;rw[hZ]at z;rw[hZ];have HZ:=hid hZ;clear hZ;obtain⟨d,j5,b5⟩:=Z
  dsimp only at z⊢;clear q0 q1 q2 q3 q4 f0 f1 f2 f3 f4 y0 y1 y2 y3 y4 g0 g1 g2 g3 g4;have q:=a.out.next (by omega) (by omega) b6;obtain⟨q0,q1,q2,q3,q4⟩:=dp q.item;obtain⟨f0,f1,f2,f3,f4⟩:=dI q.item;obtain⟨y0,y1,y2,y3,y4⟩:=dp q.box;obtain⟨g0,g1,g2,g3,g4⟩:=dI q.box;have c9:=q.set3 (by omega) (by omega) (.int .i64 d);have b9:=z.but (aj w5 w.heap.size 3 (.int .i64 d)) (by omega);have D:=hid (c9);have c8:=b9;go_wp2_with fail;exact vD results223 rfl rfl D.out.box (λw9 _ h9d=>⟨D.out.but.next h9d (λk hk h=>by omega),⟨p,c,kc,d,none,0,0⟩,j5,b5,rfl,c8.but h9d (by omega),zO HK.out HY.out b0.out HZ.out⟩)
theorem Dc (p:Nat) (bad:Bool) (hnc:SC.length<=4) (hng:ng<=3) (hnl:nl<=10) (hs:s.size<=2000)
  (hR:XrB w b s i bad (.slice a0 SC.length cap0) (.slice a1 ng cap1) v2) (hv:v2.hl= .slice al nl capl):
  Calls prog 223 #[.pointer (some ⟨b,0,none⟩),itV ⟨p,99,45,0,none,0,0⟩] w λen w'=>But (· =b) w w'/\ ∃x j bad',en= .returned (itV x)/\XrB w' b s j bad' (.slice a0 SC.length cap0) (.slice a1 ng cap1) v2/\il s SC ng nl p 99 i bad=(x,j,bad'):=by
 have b6:=hR.lt;obtain⟨nc,c⟩: ∃nc,SC.length=nc:=⟨_,rfl⟩;have b7:=hid hnc;have a2:=hid c;rw[c]at hR hnc;simp only[c];clear c;obtain⟨n,t,v⟩:=gZ w b b6 #[.int .i64 p,.int .u8 99,.int .u8 45,.int .i64 0,S_] #[.int .i64 0,.int .u8 0,.int .u8 0,.int .i64 0,S_] 219;have a6:=hR.but ((aa (λ_=>False) w (.cells #[.int .i64 p,.int .u8 99,.int .u8 45,.int .i64 0,S_] 219)).trans (aa _ _ (.cells #[.int .i64 0,.int .u8 0,.int .u8 0,.int .i64 0,S_] 219))) (λh=>h);have a:=hid (kH.mk n v t);clear n t v;unfold itV;dsimp only;simp only[show(UInt8.toNat 45)=45 from rfl,show(UInt8.toNat 99)=99 from rfl]
 go_in
 go_wp2_with fail;revert a a6;generalize ((w.alloc (.cells #[.int .i64 p,.int .u8 99,.int .u8 45,.int .i64 0,S_] 219)).alloc (.cells #[.int .i64 0,.int .u8 0,.int .u8 0,.int .i64 0,S_] 219))=W;intro b0 a;obtain⟨L,M,O,P,Q⟩:=dp a.out.item;obtain⟨y,z,A,B,C⟩:=dI a.out.item;obtain⟨S,T,X,y3,y4⟩:=dp a.out.box;obtain⟨D,E,F,G,H⟩:=dI a.out.box;refine(jM b s i bad _ v2 _ nc cap0 a0 (by omega) hs b0).mono ?_;rintro en w3 ⟨rfl,a4,g⟩;obtain⟨Y,I⟩: ∃Y,ltX s nc i bad=Y:=⟨_,rfl⟩;rw[I]at g;rw[I];have HY:=hid (show ltX s SC.length i bad=Y by rw[a2.out];exact I);clear I;obtain⟨kc,j3,b3⟩:=Y
 dsimp only at g⊢;clear L M O P Q y z A B C S T X y3 y4 D E F G H;have e:=a.out.next (by omega) (by omega) a4;obtain⟨L,M,O,P,Q⟩:=dp e.item;obtain⟨y,z,A,B,C⟩:=dI e.item;obtain⟨S,T,X,y3,y4⟩:=dp e.box;obtain⟨D,E,F,G,H⟩:=dI e.box;have r:=e.set2 (by omega) (by omega) (.int .u8 kc.toNat);have q:=g.but (aj w3 w.heap.size 2 (.int .u8 kc.toNat)) (by omega);have a3:=hid r;clear e r;have p1:=q.c1;go_wp2_with fail;refine(ij b s j3 b3 _ _ v2 _ ng (by omega) hs q).mono ?_;rintro en w5 ⟨rfl,a5,l⟩;obtain⟨Z,J⟩: ∃Z,dgX s ng j3 b3=Z:=⟨_,rfl⟩;rw[J]at l;rw[J];have HZ:=hid J;clear J;obtain⟨d,j5,b5⟩:=Z;dsimp only at l⊢
 clear p1 L M O P Q y z A B C S T X y3 y4 D E F G H;have f:=a3.out.next (by omega) (by omega) a5;obtain⟨L,M,O,P,Q⟩:=dp f.item;obtain⟨y,z,A,B,C⟩:=dI f.item;obtain⟨S,T,X,y3,y4⟩:=dp f.box;obtain⟨D,E,F,G,H⟩:=dI f.box;have b4:=f.set3 (by omega) (by omega) (.int .i64 d);have b1:=l.but (aj w5 w.heap.size 3 (.int .i64 d)) (by omega);have m:=hid (b4);have b2:=b1;go_wp2_with fail;exact vD results223 rfl rfl m.out.box (λw9 _ h9d=>⟨m.out.but.next h9d (λk hk h=>by omega),⟨p,99,kc,d,none,0,0⟩,j5,b5,rfl,b2.but h9d (by omega),by unfold il;rw[if_neg (by decide),if_neg (by decide),if_neg (by decide),if_pos (by decide),HY.out,HZ.out]⟩)
theorem zP (p:Nat) (bad:Bool) (c:UInt8) (hnc:SC.length<=4) (hng:ng<=3) (hnl:nl<=10) (hs:s.size<=2000)
  (hR:XrB w b s i bad (.slice a0 SC.length cap0) (.slice a1 ng cap1) v2) (hv:v2.hl= .slice al nl capl) (hG:c.toNat=103\/c.toNat=112->WfC SC/\TcV w base (.slice a0 SC.length cap0) (SC.map toX)) (hb:b<base):
  Calls prog 223 #[.pointer (some ⟨b,0,none⟩),itV ⟨p,c,45,0,none,0,0⟩] w λen w'=>But (· =b) w w'/\ ∃x j bad',en= .returned (itV x)/\XrB w' b s j bad' (.slice a0 SC.length cap0) (.slice a1 ng cap1) v2/\il s SC ng nl p c i bad=(x,j,bad'):=by
 have e: ∀n:Nat,n<256->c.toNat=n->c=UInt8.ofNat n:=λn hn h=>(u8n hn).1 h
 by_cases hc:c.toNat=108\/c.toNat=115
 .exact E0 b s i SC a0 a1 al ng nl cap0 cap1 capl v2 w p bad c hc hnc hng hnl hs hR hv
 obtain⟨d,k⟩:=not_or.1 hc;clear hc
 by_cases hc:c.toNat=110\/c.toNat=120
 .exact E1 b s i SC a0 a1 al ng nl cap0 cap1 capl v2 w p bad c hc hnc hng hnl hs hR hv
 obtain⟨f,l⟩:=not_or.1 hc;clear hc
 by_cases hc:c.toNat=103\/c.toNat=112
 .exact E3 b base s i SC a0 a1 al ng nl cap0 cap1 capl v2 w p bad c hc hnc hng hnl hs hR hv (hG hc).1 (hG hc).2 hb
 obtain⟨a,g⟩:=not_or.1 hc;clear hc
 by_cases h99:c.toNat=99
 .have hc:c=99:=e _ (by decide) h99;subst hc;exact Dc b s i SC a0 a1 al ng nl cap0 cap1 capl v2 w p bad hnc hng hnl hs hR hv
 exact Ek b s i SC a0 a1 al ng nl cap0 cap1 capl v2 w p bad c d k f l a g h99 hnc hng hnl hs hR hv
end
theorem BM {s:ByteArray} {SC:List Cls} {ng nl i:Nat} {c:UInt8} {x:XIt} {j:Nat} {bad':Bool} (hnc:SC.length<=4) (hpc:pk s i=c) (hn: ¬(c.toNat=114\/c.toNat=119\/c.toNat=43\/c.toNat=45\/c.toNat=42\/c.toNat=47\/c.toNat=60\/c.toNat=61\/c.toNat=101\/c.toNat=122\/c.toNat=100\/c.toNat=116\/c.toNat=107\/c.toNat=106\/c.toNat=102))
  (h:il s SC ng nl i c (i+1) false=(x,j,bad')):rW s SC ng nl i false x j bad':=by
 unfold il at h
 by_cases h1:c.toNat=108\/c.toNat=115
 .rw[if_pos h1]at h;obtain⟨rfl,rfl,rfl⟩:=(by simpa using h:_/\_/\_);exact C9 (n:=nl) hpc (Or.inr ⟨h1,rfl⟩) rfl
 rw[if_neg h1]at h
 by_cases h2:c.toNat=110\/c.toNat=120
 .rw[if_pos h2]at h;obtain⟨rfl,rfl,rfl⟩:=(by simpa using h:_/\_/\_);exact Da hnc hpc h2 rfl
 rw[if_neg h2]at h
 by_cases h3:c.toNat=103\/c.toNat=112
 .rw[if_pos h3]at h;obtain⟨rfl,rfl,rfl⟩:=(by simpa using h:_/\_/\_);exact Db hnc hpc h3 rfl rfl
 rw[if_neg h3]at h
 by_cases h4:c.toNat=99
 .rw[if_pos h4]at h;obtain⟨rfl,rfl,rfl⟩:=(by simpa using h:_/\_/\_);exact BL hnc hpc h4 rfl rfl
 rw[if_neg h4]at h;obtain⟨rfl,rfl,rfl⟩:=(by simpa using h:_/\_/\_)
 try simp only[dS,if_false]
 refine Ej ?_;rw[hpc];simp only[cE,List.contains_eq_mem,List.mem_cons,List.not_mem_nil,or_false,decide_eq_false_iff_not];omega
theorem BN {s:ByteArray} {SC:List Cls} {ng nl i:Nat}:il s SC ng nl i 0 i true=(⟨i,0,45,0,none,0,0⟩,i,true):=by
 unfold il;simp
section
variable (b base:Nat) (s:ByteArray) (i:Nat) (SC:List Cls) (a0 a1 al:Option Addr) (ng nl cap0 cap1 capl:Nat) (v2:RdV) (w:World)
end
theorem zQ:(prog.info? 115).map (λi=>(i.zero,i.size,i.bytes))=some (some (.agg #[.int .u8 0,.int .i64 0,.int .u8 0,S_,S_]),5,72):=by kernel_rfl
theorem lQ:(prog.info? 219).map (λi=>(i.zero,i.size,i.bytes))=some (some (.agg #[.int .i64 0,.int .u8 0,.int .u8 0,.int .i64 0,S_]),5,48):=by kernel_rfl
theorem vE (l:List XIt): ∀u∈ck l,u.oneCell'=true:=by
 intro u b;obtain⟨x,_,a⟩:=List.mem_flatMap.1 b;simp only[List.mem_cons,List.not_mem_nil,or_false]at a;obtain h|h|h|h|h:=a<;>(rw[h];rfl)
theorem tZ (w:World) (ty:TypeId) (base bx:Nat) (v xv:Value) (m:List XIt) (hown:ItB w base v []) (hx:ItB w bx xv m) (hlen:m.length<=100000) (hbase:base<=w.heap.size):
  ∃v' w',(Builtin.append_ #[113,113] ty #[v,xv]).run prog w= .ok v' w'/\ItB w' base v' m/\But (λk=>v.ownBlock=some k) w w'/\(v'.ownBlock=v.ownBlock\/v'.ownBlock=some w.heap.size):=by
 obtain⟨q,c,n,d,p⟩:=info_parts lQ;have l:prog.underlying 113=some (.slice 219):=by kernel_rfl
 obtain⟨ax,cx,rfl⟩:=ay hx
 cases ax with
 |none=>
  have hm:m.length=0:=by
   obtain h|h:=Nat.eq_zero_or_pos m.length
   .exact h
   .obtain⟨g,x,_⟩:=aE hx h
    cases x
  have i:m=[]:=List.length_eq_zero_iff.1 hm;subst i
  have hc: ∃ao cap,v= .slice ao 0 cap:=by
   obtain⟨ao,cap,h⟩:=ay hown;exact⟨ao,cap,h⟩
  obtain⟨ao,cap,rfl⟩:=hc;refine⟨_,w,run_append_nothing w _ _ ty 219 q l c ao 0 cap (by omega) _ (by rw[d];exact Src.ofNil w l cx),hown,bf _ _,Or.inl rfl⟩
 |some ad=>
  have b: ∀j u,(ck m)[j]?=some u->w.cell? (ad.add j)=some u:=by
   intro j u y;obtain⟨g,cap',hv,hc,_⟩:=jC hx y
   have r:ad=⟨g,0,none⟩:=by
    have f:=congrArg (λv=>match v with|Value.slice a _ _=>a|_=>none) hv;exact Option.some.inj f
   rw[r];have e:(⟨g,0,none⟩:Addr).add j=⟨g,j,none⟩:=by simp[Addr.add];exact λh=>h.symm
   rw[e];exact hc
  obtain⟨v',w',z,f,s,_,t⟩:=run_append_own_at (P:=prog) w base _ ty 219 q _ 5 48 l c n d p rfl (by omega) v 0 (ck []) hown ad m.length cx (ck m) (vB m) b (vE m) (by unfold maxLen;omega) (by omega) hbase;refine⟨v',w',z,?_,a8 s,t⟩;unfold ItB;rw[Nat.zero_add]at f;exact f
theorem ll {w:World} {ops:Array Oper} {rest:List Oper} {o:Oper} {a:Act} {Q:Exit->Act->World->Prop} (hgd:o.guard=none) (s x:Operand)
  (ho:o.op= .call {callee:= .builtin .append,args:=#[s,x],argTypes:=#[113,113]}) (base bx:Nat) (v xv:Value) (m:List XIt) (hs:a.eval s=v) (hx:a.eval x=xv) (hown:ItB w base v []) (hxo:ItB w bx xv m) (hlen:m.length<=100000) (hbase:base<=w.heap.size)
  (h: ∀ao cap w',ItB w' base (.slice ao m.length cap) m->But (λk=>v.ownBlock=some k) w w'->wpList prog ops Q rest (a.put o.dst (.slice ao m.length cap)) w'):wpList prog ops Q (o::rest) a w:=by
 refine wpList_plain hgd λK hK=> ?_
 obtain⟨v',w',d,b,c,e⟩:=tZ w o.type base bx v xv m hown hxo hlen hbase;obtain⟨ao,cap,rfl⟩:=ay b;unfold Oper.wp execOp;simp only[ho,resolve,invoke,builtin,Sem.run_bind,Sem.run_pure,Result.andThen_ok,List.map_toArray,List.map_cons,List.map_nil,hs,hx,d];exact hK _ _ (h ao cap w' b c)
theorem ItB.empty (w:World):ItB (w.alloc (.cells #[] 219)) w.heap.size (.slice (some ⟨w.heap.size,0,none⟩) 0 0) []:=
 ⟨rfl,Or.inr ⟨w.heap.size,0,#[],rfl,bP _,aO w _,by simp,by unfold maxLen;omega,rfl,rfl⟩⟩
theorem nT (b base bx:Nat) (s:ByteArray) (i:Nat) (bad mn:Bool) (v0 v1 vi:Value) (a2:Option Addr) (cap2:Nat) (bs:List cZ) (X:cZ) (al ai:Option Addr) (capl capi:Nat) (w:World) (hnb:bs.length<=7) (hni:X.items.length<=100) (hs:s.size<=2000)
  (hR:XrB w b s i bad v0 v1 ⟨.slice a2 bs.length cap2,.int .u8 X.cls.toNat,.int .i64 X.meth,.int .u8 X.ans.toNat,.slice al X.zy.length capl,vi,mn⟩) (hT:TbV w base (.slice a2 bs.length cap2) bs) (hl:BtB w base (.slice al X.zy.length capl) X.zy) (hi:ItB w bx (.slice ai X.items.length capi) X.items) (hb:b<base) (hbx:b<bx) (hbase:base<=w.heap.size):
  Calls prog 102 #[.pointer (some ⟨b,0,none⟩),.slice ai X.items.length capi] w λen w'=>en= .returned (.tuple #[])/\But (λk=>k=b\/(Value.slice a2 bs.length cap2).ownBlock=some k) w w'/\
   ∃a2' cap2' vi',XrB w' b s (tkP s 46 i bad).1 (tkP s 46 i bad).2 v0 v1 ⟨.slice a2' (bs++ [X]).length cap2',.int .u8 X.cls.toNat,.int .i64 X.meth,.int .u8 X.ans.toNat,.slice al X.zy.length capl,vi',mn⟩/\TbV w' base (.slice a2' (bs++ [X]).length cap2') (bs++ [X]):=by
 obtain⟨i0,b1,b4,b5,b7⟩:=info_parts zQ;obtain⟨l,S,hm,hf⟩:=hT;have I:l.length=bs.length:=by rw[<-hm];simp
 have a1:=hid I;rw[<-I]at hR S hnb⊢;clear I;have c9:=hR.lt;have C:=eJ b s i bad _ _ _ _ 46 (by decide) hs hR;obtain⟨TK,a0⟩: ∃TK,tkP s 46 i bad=TK:=⟨_,rfl⟩;rw[a0]at C⊢;clear a0;obtain⟨j1,a4⟩:=TK;dsimp only at C⊢;have M:=hid C;clear C
 go_in
 go_wp2_with fail;refine M.out.mono ?_;rintro en w1 ⟨rfl,F,H⟩;have Q:ItB w1 bx (.slice ai X.items.length capi) X.items:=ag hi F (λg a h=>by have:=aw hi g a;omega);have b6:=F.size;have hE:=ItB.empty w1;have Z:=H.but (aa (λ_=>False) w1 (.cells #[] 219)) (λh=>h);go_wp2_with (at_builtin;refine ll rfl _ _ rfl w1.heap.size bx _ _ X.items rfl rfl hE (ag Q (aa (λ_=>False) _ _) (λ_ _ h=>h)) (by omega) (by simp) ?_);intro ao cap L G O;have q:B_ w1 L:=(aa (λ_=>False) _ _).next O (λk hk h=>by simp[Value.ownBlock]at h;omega);have A:=H.but q (λh=>h);have c7:=A.d4;have g7:=A.fz 7
 have b8:=q.size;clear Q hE Z;go_wp2_with fail;have B:=A.setI (.slice ao X.items.length cap);have r:But (· =b) L (L.setCell ⟨b,7,none⟩ (.slice ao X.items.length cap)):=aj _ _ _ _;have z:ItB (L.setCell ⟨b,7,none⟩ (.slice ao X.items.length cap)) w1.heap.size (.slice ao X.items.length cap) X.items:=ag G r (λg a h=>by have:=aw G g a;omega);have f:But (· =b) w (L.setCell ⟨b,7,none⟩ (.slice ao X.items.length cap)):=(F.next q (λ_ _ h=>h.elim)).trans r;revert B z f;generalize (L.setCell ⟨b,7,none⟩ (.slice ao X.items.length cap))=W;intro c z f;have b2:ItB W base (.slice ao X.items.length cap) X.items:=ie z (by omega)
 clear r z G O c7 g7 A H hi;dsimp only at c;have Y:=ag S f (λg a h=>by have:=aw S g a;omega);have e1:=aY S;have e2:=c.c2;have e3:=c.d0;have e4:=c.d1;have e5:=c.d2;have e6:=c.d3;have e7:=c.d4;have g2:=c.fz 2;have bltW:=c.lt;dsimp only at e2 e3 e4 e5 e6 e7;have ab:(Value.slice a2 l.length cap2).ownBlock≠some b:=λh=>by have:=aw S _ h;omega
 have b0:But (λk=>(Value.slice a2 l.length cap2).ownBlock=some k) W W.drew:=aA _ _;have c8:base<=W.heap.size:=by have:=f.size;omega
 have HM:=hid hm;clear hm M;refine aD (But (λk=>(Value.slice a2 l.length cap2).ownBlock=some k) W) 12 ?_
 iterate 10 (refine aF (v:=?_) rfl b0 ?_ ?_;rotate_left;(focus (intro wS h;have q0:=((h.cell (p:=⟨b,2,none⟩) bltW ab).trans e2);have q1:=((h.cell (p:=⟨b,3,none⟩) bltW ab).trans e3);have q2:=((h.cell (p:=⟨b,4,none⟩) bltW ab).trans e4);have q3:=((h.cell (p:=⟨b,5,none⟩) bltW ab).trans e5);have q4:=((h.cell (p:=⟨b,6,none⟩) bltW ab).trans e6);have q5:=((h.cell (p:=⟨b,7,none⟩) bltW ab).trans e7);clear h;go_simp;try rfl));dsimp only[Act.put];try simp only[bW])
 refine au rfl ?_;intro KS hKS;go_simp;refine hKS.out _ _ (λ_=>(aa _ _ _).trans (aA _ _)) ?_;clear hKS KS;refine au rfl ?_;intro KS hKS
 refine step_append_lies _ (by rfl) _ _ _ (by rfl) base 115 i0 _ 5 72 (by kernel_rfl) b1 b4 b5 b7 rfl (by omega) _ l.length (mx l) (by rfl) ((Y.alloc _).drew)
    ⟨W.heap.size,0,none⟩ 1 1 [.int .u8 X.cls.toNat,.int .i64 X.meth,.int .u8 X.ans.toNat,.slice al X.zy.length capl,.slice ao X.items.length cap] (by rfl) (by rfl) (iu (cs:=#[.int .u8 X.cls.toNat,.int .i64 X.meth,.int .u8 X.ans.toNat,.slice al X.zy.length capl,.slice ao X.items.length cap]) (t:=115) (fr:=(0,0)) (aO W _)) (by simp[Value.oneCell'])
    (by omega) (by unfold maxLen;omega) (by omega) (by simp;omega) (W.heap.size+1) (by simp) ?_
 intro gg cap3 E j y b9 b3;have n:But (λk=>(Value.slice a2 l.length cap2).ownBlock=some k) W E:=((aa _ _ _).trans (aA _ _)).trans (a8 y);refine hKS.out _ _ (λ_=>n) ?_;clear hKS KS;have y0:=(n.cell (p:=⟨b,2,none⟩) bltW ab).trans e2;have y1:=(n.frozen (p:=⟨b,2,none⟩) bltW ab).trans g2;refine au rfl ?_;intro KS hKS;go_simp;refine hKS.out _ _ nofun ?_;clear hKS KS;refine au rfl ?_;intro KS hKS;go_simp;refine hKS.out _ _ nofun ?_;clear hKS KS;refine au rfl ?_;intro KS hKS;go_simp;refine hKS.out _ _ nofun ?_;clear hKS KS;refine au rfl ?_;intro KS hKS;go_simp;refine hKS.out _ _ nofun ?_;clear hKS KS
 refine aI rfl ?_;have e0:=aw j gg rfl;have B:=(c.but n ab).set2 (.slice (some ⟨gg,0,none⟩) (l.length+1) cap3);have d:But (λk=>k=b\/(Value.slice a2 l.length cap2).ownBlock=some k) W (E.setCell ⟨b,2,none⟩ (.slice (some ⟨gg,0,none⟩) (l.length+1) cap3)):=(n.mono (λ_ _ h=>Or.inr h)).next (aj _ _ _ _) (λ_ _ h=>Or.inl h);have T:=ag j (aj E b 2 (.slice (some ⟨gg,0,none⟩) (l.length+1) cap3)) (λg a h=>by have:=aw j g a;omega)
 have P: ∀x∈l++ [(X,.slice al X.zy.length capl,.slice ao X.items.length cap)],BtB (E.setCell ⟨b,2,none⟩ (.slice (some ⟨gg,0,none⟩) (l.length+1) cap3)) base x.2.1 x.1.zy/\ItB (E.setCell ⟨b,2,none⟩ (.slice (some ⟨gg,0,none⟩) (l.length+1) cap3)) base x.2.2 x.1.items:=by
  have m: ∀g cur e,W.heap[g]?=some (.cells cur e)->e≠115->base<=g-> ¬(g=b\/(Value.slice a2 l.length cap2).ownBlock=some g):=by
   intro g cur e hh he a h;obtain h|h:=h
   .omega
   .exact kT Y hh he h
  intro x J;obtain J|J:=gz J
  .have h1:=hf x J;exact⟨dn (BtB.but h1.1 f (λg a h=>by have:=aw h1.1 g a;omega)) d (λg cur hh a=>m g cur _ hh (by decide) a),dn (ag h1.2 f (λg a h=>by have:=aw h1.2 g a;omega)) d (λg cur hh a=>m g cur _ hh (by decide) a)⟩
  .simp at J;subst J;exact⟨dn (hl.but f (λg a h=>by have:=aw hl g a;omega)) d (λg cur hh a=>m g cur _ hh (by decide) a),dn b2 d (λg cur hh a=>m g cur _ hh (by decide) a)⟩
 have a6:TbV (E.setCell ⟨b,2,none⟩ (.slice (some ⟨gg,0,none⟩) (l.length+1) cap3)) base (.slice (some ⟨gg,0,none⟩) (l.length+1) cap3) (bs++ [X]):=
  ⟨l++ [(X,.slice al X.zy.length capl,.slice ao X.items.length cap)],by rw[tP,aN];exact T,by rw[List.map_append,HM.out];rfl,P⟩
 have a5:But (λk=>k=b\/(Value.slice a2 l.length cap2).ownBlock=some k) w (E.setCell ⟨b,2,none⟩ (.slice (some ⟨gg,0,none⟩) (l.length+1) cap3)):=(f.mono (λ_ _ h=>Or.inl h)).trans d;clear P d T;generalize (E.setCell ⟨b,2,none⟩ (.slice (some ⟨gg,0,none⟩) (l.length+1) cap3))=W3 at*;clear y0 y1 e2 e3 e4 e5 e6 e7 g2 n y;have D:(bs++ [X]).length=l.length+1:=by rw[aN,<-a1.out];rfl
 have a3:=hid D;clear D;dsimp only at B;go_wp2_with fail;go_end0;refine⟨rfl,a5,some ⟨gg,0,none⟩,cap3,.slice ao X.items.length cap,?_⟩;rw[a3.out];exact⟨B,a6⟩
theorem BO (s:ByteArray) (w:World):
  Calls prog 97 #[.string s] w λen w'=>en= .returned (.pointer (some ⟨w.heap.size,0,none⟩))/\B_ w w'/\w.heap.size<w'.heap.size/\XrB w' w.heap.size s 0 false S_ S_ ⟨S_,.int .u8 0,.int .i64 0,.int .u8 0,S_,S_,false⟩:=by
 go_in
 go_wp2
 go_ret;exact⟨rfl,aa _ _ _,by simp,aO _ _⟩
def E4 (s:ByteArray) (nc:Nat) (gs:List Sig) (BS:List Bod) (i:Nat) (a0:Option Addr) (cap0:Nat) (v1:Value) (a2:Option Addr) (n cap2 b base:Nat) (w':World):Prop:=
 ∃(c:UInt8) (m:Nat) (r:UInt8) (ao:Option Addr) (cap:Nat) (l:L_) (j:Nat) (bad':Bool),XrB w' b s j bad' (.slice a0 nc cap0) v1 ⟨.slice a2 n cap2,.int .u8 (UInt8.toNat c),.int .i64 m,.int .u8 (UInt8.toNat r),.slice ao (List.length l) cap,S_,false⟩/\BtB w' base (.slice ao l.length cap) l/\l.length<=5/\
   ((bad'=false/\ ∃x t,jQ s nc gs BS i= .ok ((x,m,t),j)/\c=UInt8.ofNat (65+x)/\x<nc/\m<gs.length/\r=(dO gs m).ret/\l=c::(dO gs m).arg::t)\/(bad'=true/\jQ s nc gs BS i= .error j))
def E5 (s:ByteArray) (nc i:Nat) (bad:Bool) (a0:Option Addr) (cap0:Nat) (v1:Value) (a2:Option Addr) (n cap2 b base:Nat) (w':World):Prop:=
 ∃(ao:Option Addr) (cap:Nat) (l:L_) (j:Nat) (bad':Bool),XrB w' b s j bad' (.slice a0 nc cap0) v1 ⟨.slice a2 n cap2,.int .u8 45,.int .i64 0,.int .u8 105,.slice ao (List.length l) cap,S_,true⟩/\BtB w' base (.slice ao l.length cap) l/\l.length<=3/\
   ((bad'=false/\jw s nc 58 3 i bad= .ok (l,j))\/(bad'=true/\jw s nc 58 3 i bad= .error j))
theorem qH (b:Nat) (s:ByteArray) (i:Nat) (bad:Bool) (v0 v1:Value) (v2:RdV) (w:World) (hR:XrB w b s i bad v0 v1 v2) (hx:v2.main=true\/bad=true):
  Calls prog 100 #[.pointer (some ⟨b,0,none⟩)] w λe w'=>e= .returned (.bool false)/\ ∃m,w'=w.drewN m:=by
 have d:=hR.c4;have a:=hR.d5
 cases hm:v2.main with
 |true=>
  rw[hm]at a
  go_in
  go_wp2_with fail;exact eh (.bool false) results100 rfl rfl ⟨rfl,0,rfl⟩
 |false=>
  rw[hm]at a;have c:bad=true:=by rcases hx with h|h;(rw[hm]at h;cases h);exact h
  subst c
  go_in
  go_wp2_with fail;exact eh (.bool false) results100 rfl rfl ⟨rfl,0,rfl⟩
theorem qJ (b base:Nat) (s:ByteArray) (i:Nat) (a0 a2:Option Addr) (nc cap0 n cap2:Nat) (v1 x0 x1 x2 x3 x4:Value) (w:World) (gs:List Sig) (BS:List Bod) (xs:List cZ) (hxs:xs.map ly=(BS.map (fG gs)).map ly) (hnc:nc<=4) (hgs:gs.length<=3) (hBS:BS.length<=6) (hsb: ∀b∈BS,(b.cls= -1)\/lP b) (hs:s.size<=2000)
  (hR:XrB w b s i false (.slice a0 nc cap0) v1 ⟨.slice a2 n cap2,x0,x1,x2,x3,x4,false⟩) (hM:TmV w base v1 gs) (hBd:TbV w base (.slice a2 n cap2) xs) (hb:b<base) (hn:n<6) (hp:pk s i≠59):
  Calls prog 100 #[.pointer (some ⟨b,0,none⟩)] w λen w'=>But (· =b) w w'/\en= .returned (.bool true)/\E4 s nc gs BS i a0 cap0 v1 a2 n cap2 b w.heap.size w':=by
 have A:=hR.c2;have D:=hR.c4;have B:=hR.d5;have F:(n:Int)<6:=by omega
 have E:=hR.lt;have d:=d6 b s i false _ _ _ w 59 hR;rw[show(!false&& !decide (pk s i=59))=true from by simp[hp]]at d;have e:=hid d;have f:=hid (λk=>zM b base s i a0 nc cap0 v1 ⟨.slice a2 n cap2,x0,x1,x2,x3,x4,false⟩ (w.drewN k) gs BS xs hxs hnc hgs hBS hsb hs (hR.drewN k) (hM.but (aH (λ_=>False) _ _) (λ_ _ _ _ _ _ h=>h)) (hBd.but (aH (λ_=>False) _ _) (λ_ _ _ _ _ _ h=>h)) hb);clear d hp hM hBd hsb hBS hn hxs;dsimp only at A B
 go_in
 go_wp2_with fail;refine e.out.mono ?_;rintro en w1 ⟨rfl,k,rfl⟩;go_wp2_with fail;refine(f.out k).mono ?_;rintro en C ⟨x,c,m,r,ao,cap,l,j,bad',rfl,a,q,z,t⟩;have v:=hid t;have G:=a.d0;have H:=a.d1;have I:=a.d2;have J:=a.d3;have L:=a.d4;have M:=a.fz 3;have O:=a.fz 4;have P:=a.fz 5;have Q:=a.fz 6;have S:=a.fz 7;clear t A D B e f;unfold hdV;go_wp2_with fail;have y:=a.setB (.int .u8 c.toNat) (.int .i64 m) (.int .u8 r.toNat) (.slice ao l.length cap) S_
 have p:But (· =b) C (((((C.setCell ⟨b,3,none⟩ (.int .u8 c.toNat)).setCell ⟨b,4,none⟩ (.int .i64 m)).setCell ⟨b,5,none⟩ (.int .u8 r.toNat)).setCell ⟨b,6,none⟩ (.slice ao l.length cap)).setCell ⟨b,7,none⟩ S_):=
  ((((aj _ _ _ _).trans (aj _ _ _ _)).trans (aj _ _ _ _)).trans (aj _ _ _ _)).trans (aj _ _ _ _)
 exact eh (.bool true) results100 rfl rfl ⟨((aH _ _ _).trans x).trans p,rfl,c,m,r,ao,cap,l,j,bad',y,BtB.but q p (λg hg h=>by have:=aw q g hg;have:w.heap.size<=g:=this;omega),z,v.out⟩
theorem qK (b:Nat) (s:ByteArray) (i:Nat) (a0 a2:Option Addr) (nc cap0 n cap2:Nat) (v1 x0 x1 x2 x3 x4:Value) (w:World) (hnc:nc<=4) (hs:s.size<=2000)
  (hR:XrB w b s i false (.slice a0 nc cap0) v1 ⟨.slice a2 n cap2,x0,x1,x2,x3,x4,false⟩) (hx: ¬n<6\/pk s i=59):
  Calls prog 100 #[.pointer (some ⟨b,0,none⟩)] w λen w'=>But (· =b) w w'/\en= .returned (.bool true)/\E5 s nc (tkP s 59 i false).1 (tkP s 59 i false).2 a0 cap0 v1 a2 n cap2 b w.heap.size w':=by
 have G:=hR.c2;have O:=hR.c4;have H:=hR.d5;have M:=hR.fz 10;have a1:=hR.lt;dsimp only at G H;obtain⟨TK,B⟩: ∃TK,tkP s 59 i false=TK:=⟨_,rfl⟩;rw[B];obtain⟨P,v⟩:=TK;dsimp only;have c:=hid (λ(wx:World) (h:XrB wx b s i false (.slice a0 nc cap0) v1 ⟨.slice a2 n cap2,x0,x1,x2,x3,x4,true⟩)=>eJ b s i false _ _ _ wx 59 (by decide) hs h);rw[B]at c;clear B;have L:Hid (∀(w1 F D:World),But (· =b) w w1->w.heap.size<=w1.heap.size->True):=hid (λ_ _ _ _ _=>trivial)
 by_cases hnI:(n:Int)<6
 .have hp:pk s i=59:=by
   obtain h|h:=hx
   .omega
   .exact h
  have t:=d6 b s i false _ _ _ w 59 hR;rw[show(!false&& !decide (pk s i=59))=false from by simp[hp]]at t;have E:=hid t;clear t hp hx
  go_in
  go_wp2_with fail;refine E.out.mono ?_;rintro en w1 ⟨rfl,k,rfl⟩;have q:=(hR.drewN k).setM true;have f:But (· =b) w ((w.drewN k).setCell ⟨b,10,none⟩ (.bool true)):=(aH _ _ _).trans (aj _ _ _ _);have J:=f.size;go_wp2_with fail;refine(c.out _ q).mono ?_;rintro en F ⟨rfl,d,z⟩;have I:=d.size;have m:=f.trans d;clear G O H M E c q;go_wp2_with fail;refine(mO b s P v a0 nc cap0 _ _ F hnc hs z).mono ?_;rintro en D ⟨y,ao,cap,l,j,bad',rfl,a,p,C,r⟩;have x:=hid r;have Q:=a.d0;have S:=a.d1;have T:=a.d2;have X:=a.d3;have Y:=a.d4;have Z:=a.fz 3;have g1:=a.fz 4;have g2:=a.fz 5;have g3:=a.fz 6;have g4:=a.fz 7;clear r
  unfold hdV;simp only[show(UInt8.toNat 45)=45 from rfl,show(UInt8.toNat 105)=105 from rfl];go_wp2_with fail;have A:=a.setB (.int .u8 45) (.int .i64 0) (.int .u8 105) (.slice ao l.length cap) S_
  have e:But (· =b) D (((((D.setCell ⟨b,3,none⟩ (.int .u8 45)).setCell ⟨b,4,none⟩ (.int .i64 0)).setCell ⟨b,5,none⟩ (.int .u8 105)).setCell ⟨b,6,none⟩ (.slice ao l.length cap)).setCell ⟨b,7,none⟩ S_):=
   ((((aj _ _ _ _).trans (aj _ _ _ _)).trans (aj _ _ _ _)).trans (aj _ _ _ _)).trans (aj _ _ _ _)
  exact eh (.bool true) results100 rfl rfl ⟨(m.trans y).trans e,rfl,ao,cap,l,j,bad',A,BtB.but (ie p (by omega)) e (λg hg h=>by have:=aw p g hg;omega),C,x.out⟩
 .clear hx;have q:=hR.setM true;have f:But (· =b) w (w.setCell ⟨b,10,none⟩ (.bool true)):=aj _ _ _ _;have J:=f.size
  go_in
  go_wp2_with fail;refine(c.out _ q).mono ?_;rintro en F ⟨rfl,d,z⟩;have I:=d.size;have m:=f.trans d;clear G O H M c q;go_wp2_with fail;refine(mO b s P v a0 nc cap0 _ _ F hnc hs z).mono ?_;rintro en D ⟨y,ao,cap,l,j,bad',rfl,a,p,C,r⟩;have x:=hid r;have Q:=a.d0;have S:=a.d1;have T:=a.d2;have X:=a.d3;have Y:=a.d4;have Z:=a.fz 3;have g1:=a.fz 4;have g2:=a.fz 5;have g3:=a.fz 6;have g4:=a.fz 7;clear r;unfold hdV;simp only[show(UInt8.toNat 45)=45 from rfl,show(UInt8.toNat 105)=105 from rfl];go_wp2_with fail;have A:=a.setB (.int .u8 45) (.int .i64 0) (.int .u8 105) (.slice ao l.length cap) S_
  have e:But (· =b) D (((((D.setCell ⟨b,3,none⟩ (.int .u8 45)).setCell ⟨b,4,none⟩ (.int .i64 0)).setCell ⟨b,5,none⟩ (.int .u8 105)).setCell ⟨b,6,none⟩ (.slice ao l.length cap)).setCell ⟨b,7,none⟩ S_):=
   ((((aj _ _ _ _).trans (aj _ _ _ _)).trans (aj _ _ _ _)).trans (aj _ _ _ _)).trans (aj _ _ _ _)
  exact eh (.bool true) results100 rfl rfl ⟨(m.trans y).trans e,rfl,ao,cap,l,j,bad',A,BtB.but (ie p (by omega)) e (λg hg h=>by have:=aw p g hg;omega),C,x.out⟩
def E6 (s:ByteArray) (i:Nat) (bad:Bool) (b:Nat) (w:World) (en:Ending) (w':World):Prop:=
 ((bad||decide (i<s.size))=true/\ ∃g,w.heap.size<=g/\en= .returned (.tuple #[.pointer (some ⟨g,0,none⟩),.int .i64 i])/\w'.heap[g]?=some (.cells #[S_,S_,S_] 109))\/
    ((bad||decide (i<s.size))=false/\en= .returned (.tuple #[.pointer (some ⟨b,0,none⟩),.int .i64 (-1)]))
theorem vF (b:Nat) (s:ByteArray) (i:Nat) (bad:Bool) (v0 v1:Value) (v2:RdV) (w:World) (hR:XrB w b s i bad v0 v1 v2):
  Calls prog 103 #[.pointer (some ⟨b,0,none⟩)] w λen w'=>B_ w w'/\E6 s i bad b w en w':=by
 have n:=hR.c3;have p:=hR.c4;have q:=hR.c5;have r:=hR.lt
 cases bad with
 |true=>
   go_in
   go_wp2
   go_quiet (fail)
   go_wp2_with fail;have c:=hR.drewN nq;have a:B_ w (w.drewN nq):=aH _ _ _;have e:w.heap.size<=(w.drewN nq).heap.size:=a.size;revert c a e;generalize (w.drewN nq)=V;intro c a e;have m:=c.c3;have f:=c.lt;clear n p q hR;have d:B_ V V.drew:=aA _ _;refine fR (B_ V) 7 ?_;refine eR [2,3,4,5,0] ?_
   iterate 5 (refine fS (v:=?_) rfl d ?_ ?_;rotate_left;(focus (intro wS h;have t:=(h.kc m f);clear h;go_simp;try rfl));dsimp only[Act.put];try simp only[bW])
   refine aM (k:=1) rfl ?_;intro KS hKS;go_simp;refine hKS.out _ _ (λ_=>d.trans (aa _ _ _)) ?_;clear hKS KS;refine aM (k:=6) rfl ?_;intro KS hKS;go_simp;refine hKS.out _ _ (λ_=>d.trans (aa _ _ _)) ?_;clear hKS KS;refine aM (k:=7) rfl ?_;intro KS hKS;go_simp;refine hKS.out _ _ nofun ?_;clear hKS KS;refine eE rfl ?_;have g:B_ V (V.drew.alloc (.cells #[S_,S_,S_] 109)):=(aA _ _).trans (aa _ _ _);have j:=aO V.drew (.cells #[S_,S_,S_] 109);go_wp2_with fail;exact cA (v:= .tuple #[.pointer (some ⟨V.heap.size,0,none⟩),.int .i64 i]) (by simp[results,results103,go_sem]) rfl ⟨a.trans g,Or.inl ⟨rfl,V.heap.size,e,rfl,j⟩⟩
 |false=>
  by_cases hi:(i:Int)<(s.size:Int)
  .have l:Hid ((false||decide (i<s.size))=true):=hid (by simp;omega)
   go_in
   go_wp2
   go_quiet (fail)
   go_wp2_with fail;have c:=hR.drewN nq;have a:B_ w (w.drewN nq):=aH _ _ _;have e:w.heap.size<=(w.drewN nq).heap.size:=a.size;revert c a e;generalize (w.drewN nq)=V;intro c a e;have m:=c.c3;have f:=c.lt;clear n p q hR;have d:B_ V V.drew:=aA _ _;refine fR (B_ V) 7 ?_;refine eR [2,3,4,5,0] ?_
   iterate 5 (refine fS (v:=?_) rfl d ?_ ?_;rotate_left;(focus (intro wS h;have t:=(h.kc m f);clear h;go_simp;try rfl));dsimp only[Act.put];try simp only[bW])
   refine aM (k:=1) rfl ?_;intro KS hKS;go_simp;refine hKS.out _ _ (λ_=>d.trans (aa _ _ _)) ?_;clear hKS KS;refine aM (k:=6) rfl ?_;intro KS hKS;go_simp;refine hKS.out _ _ (λ_=>d.trans (aa _ _ _)) ?_;clear hKS KS;refine aM (k:=7) rfl ?_;intro KS hKS;go_simp;refine hKS.out _ _ nofun ?_;clear hKS KS;refine eE rfl ?_;have g:B_ V (V.drew.alloc (.cells #[S_,S_,S_] 109)):=(aA _ _).trans (aa _ _ _);have j:=aO V.drew (.cells #[S_,S_,S_] 109);go_wp2_with fail;exact cA (v:= .tuple #[.pointer (some ⟨V.heap.size,0,none⟩),.int .i64 i]) (by simp[results,results103,go_sem]) rfl ⟨a.trans g,Or.inl ⟨l.out,V.heap.size,e,rfl,j⟩⟩
  .have l:Hid ((false||decide (i<s.size))=false):=hid (by simp;omega)
   go_in
   go_wp2
   go_quiet (fail)
   go_wp2_with fail;exact cA (v:= .tuple #[.pointer (some ⟨b,0,none⟩),.int .i64 (-1)]) (by simp[results,results103,go_sem]) rfl ⟨aH _ _ _,Or.inr ⟨l.out,rfl⟩⟩
section
variable {Gd:Prop} {s:ByteArray} {cs:List Cls} {gs:List Sig} {R:Except Nat (List Bod×Nat)}
theorem zR {m:Nat} (h:m<gs.length):(dO gs m).arg=ib gs m:=by
 unfold dO ib;rw[aG h]
 rfl
end
theorem TbV.apart {w:World} {base:Nat} {v:Value} {bs:List cZ} (h:TbV w base v bs) {g e:Nat} {cur:Array Value} (hh:w.heap[g]?=some (.cells cur e)) (hne:e≠115): ¬v.ownBlock=some g:=by
 obtain⟨l,a,_⟩:=h;exact kT a hh hne
theorem TbV.ge {w:World} {base:Nat} {v:Value} {bs:List cZ} (h:TbV w base v bs): ∀g,v.ownBlock=some g->base<=g:=by
 obtain⟨l,a,_⟩:=h;exact aw a
end
section
open Go Go.RowKit Sp
theorem BP {c:UInt8} {n:Nat} (h:aK n c=true) (hn:n<=4):c=UInt8.ofNat (65+(kl c).toNat):=by
 rw[<-qG h hn]
 congr 2
 unfold kl;have:(UInt8.ofNat (65+(c.toNat-65)))=c:=qG h hn;rw[this];omega
theorem D5 {n x:Nat} (h:x<n) (hn:n<=4):aK n (UInt8.ofNat (65+x))=true/\kl (UInt8.ofNat (65+x))=x:=by
 have hv:(UInt8.ofNat (65+x)).toNat=65+x:=by simp;omega
 constructor
 .simp only[aK,hv,dk,dg];omega
 .unfold kl;rw[hv];omega
theorem vG {cs:List Cls} {gs:List Sig} {BS:List Bod} (hw:WfC cs) (hn:cs.length<=4) (hB: ∀b∈BS,(b.cls= -1)\/lP b) (m:Nat):
  ∀(f f' x:Nat),x<cs.length->x<f->x<f'->jO (cs.map toX) (BS.map (fG gs)) m f (UInt8.ofNat (65+x))=bM cs BS m f' x:=by
 intro f
 induction f with
 |zero=>intro f' x _ h _;omega
 |succ f ih=>
  intro f' x t v y;obtain⟨g,rfl⟩: ∃g,f'=g+1:=⟨f'-1,by omega⟩;have hv:(UInt8.ofNat (65+x)).toNat=65+x:=by simp;omega
  have c:=sJ (gs:=gs) (m:=m) hB (x:=x) (by omega);rw[jO,if_neg (show¬(UInt8.ofNat (65+x)).toNat=45 by omega),c,bM,if_neg (show¬(x:Int)<0 by omega)]
  split
  .rfl
  .obtain⟨hl,r⟩:=D5 t hn;have hp:=nP hw hn hl;rw[r]at hp;have s:=dX hw (p:=(x:Int)) (by omega);obtain⟨d,a⟩ | ⟨d,a,i⟩:=hp
   .rw[a]
    have j: ∀k,jO (cs.map toX) (BS.map (fG gs)) m k 45= -1:=by
     intro k
     cases k with
     |zero=>rfl
     |succ k=>rw[jO];simp
    have l: ∀k,bM cs BS m k (cU cs x)= -1:=by
     intro k
     cases k with
     |zero=>rfl
     |succ k=>rw[bM,if_pos d]
    rw[j,l]
   .have e:=BP a hn;rw[i]at e;rw[e];have n:((cU cs x).toNat:Int)=cU cs x:=by omega
    have q:(cU cs x).toNat<cs.length:=by omega
    have:=ih g (cU cs x).toNat q (by omega) (by omega);rw[this,n]
end
section
open Go Go.RowKit Sp
attribute [local go_sem ↓] eY eZ
theorem xz (b:Nat) (cs:List cd) (ms:List Sig) (p n:Nat) (k ans:UInt8) (w:World) {ap:Option Addr} {np cp:Nat} (hn:cs.length<=100) (hT:TxC w b cs):
  Calls prog 140 #[.pointer (some ⟨b,0,none⟩),.agg #[.int .i64 p,.int .u8 112,.int .u8 k.toNat,.int .i64 n,.slice ap np cp],.int .u8 ans.toNat] w λe w'=>B_ w w'/\ ∃v,e= .returned v/\BtB w' w.heap.size v [k,cM (cD cs k) n]:=by
 go_in
 go_wp2_with fail;have d:B_ w (w.alloc (.cells #[.int .i64 p,.int .u8 112,.int .u8 k.toNat,.int .i64 n,.slice ap np cp] 219)):=aa _ _ _;have a:=aO w (.cells #[.int .i64 p,.int .u8 112,.int .u8 k.toNat,.int .i64 n,.slice ap np cp] 219);revert d a;generalize (w.alloc (.cells #[.int .i64 p,.int .u8 112,.int .u8 k.toNat,.int .i64 n,.slice ap np cp] 219))=W;intro d a;obtain⟨r,k1,k2,q,s⟩:=dp a;have gltW:=ae a;have j:=hid a;clear a;have f:B_ W W.drew:=aA _ _;have c:=hid (tL b cs k n W.drew hn ((hT.but d).but f));refine aD (B_ W) 9 ?_
 iterate 7 (refine aF (v:=?_) rfl f ?_ ?_;rotate_left;(focus (intro wS h;have t:=(h.kc k2 gltW);have x:=(h.kc q gltW);clear h;go_simp;try rfl));dsimp only[Act.put];try simp only[bW])
 refine au rfl ?_;intro KS hKS;go_simp;refine c.out.mono ?_;rintro en wx ⟨rfl,i⟩;rw[i];clear i wx c;refine hKS.out _ _ (λ_=>f) ?_;clear hKS KS;obtain⟨z,g⟩: ∃z,cM (cD cs k) n=z:=⟨_,rfl⟩;rw[g];have l:=hid g;clear g;refine au rfl ?_;intro KS hKS;go_simp;refine hKS.out _ _ (λ_=>f.trans (aa _ _ _)) ?_;clear hKS KS;refine au rfl ?_;intro KS hKS;go_simp;refine hKS.out _ _ nofun ?_;clear hKS KS;refine aI rfl ?_;have m:=d.size;go_wp2_with fail;exact eh (.slice (some ⟨W.heap.size,0,none⟩) 2 2) results140 rfl rfl ⟨d.trans ((aa _ _ _).trans (aA _ _)),_,rfl,by rw[l.out];exact BtB.but (BtB.lit W w.heap.size m [k,z] (by simp)) (aA (λ_=>False) _) (λ_ _ h=>h)⟩
theorem zS (b:Nat) (cs:List cd) (ms:List Sig) (p n:Nat) (k ans:UInt8) (w:World) {ap:Option Addr} {np cp:Nat} (hm:ms.length<=100) (hM:TxM w b ms):
  Calls prog 140 #[.pointer (some ⟨b,0,none⟩),.agg #[.int .i64 p,.int .u8 99,.int .u8 k.toNat,.int .i64 n,.slice ap np cp],.int .u8 ans.toNat] w λe w'=>B_ w w'/\ ∃v,e= .returned v/\BtB w' w.heap.size v [k,(dO ms n).arg]:=by
 go_in
 go_wp2_with fail;have d:B_ w (w.alloc (.cells #[.int .i64 p,.int .u8 99,.int .u8 k.toNat,.int .i64 n,.slice ap np cp] 219)):=aa _ _ _;have a:=aO w (.cells #[.int .i64 p,.int .u8 99,.int .u8 k.toNat,.int .i64 n,.slice ap np cp] 219);revert d a;generalize (w.alloc (.cells #[.int .i64 p,.int .u8 99,.int .u8 k.toNat,.int .i64 n,.slice ap np cp] 219))=W;intro d a;obtain⟨t,k1,k2,r,x⟩:=dp a;have gltW:=ae a;have l:=hid a;clear a;have g:B_ W W.drew:=aA _ _;have c:=hid (iQ b ms n W.drew hm ((hM.but d).but g));refine aD (B_ W) 8 ?_
 iterate 5 (refine aF (v:=?_) rfl g ?_ ?_;rotate_left;(focus (intro wS h;have y:=(h.kc k2 gltW);have A:=(h.kc r gltW);clear h;go_simp;try rfl));dsimp only[Act.put];try simp only[bW])
 refine au rfl ?_;intro KS hKS;go_simp;refine c.out.mono ?_;rintro en wx ⟨rfl,j⟩;clear c;have f:=g.trans j;refine hKS.out _ _ (λ_=>f) ?_;clear hKS KS;obtain⟨z,i⟩: ∃z,dO ms n=z:=⟨_,rfl⟩;rw[i];have m:=hid i;clear i;obtain⟨za,zr⟩:=z;dsimp only;refine au rfl ?_;intro KS hKS;go_simp;refine hKS.out _ _ (λ_=>f) ?_;clear hKS KS;refine au rfl ?_;intro KS hKS;go_simp;refine hKS.out _ _ (λ_=>f.trans (aa _ _ _)) ?_;clear hKS KS;refine au rfl ?_;intro KS hKS;go_simp;refine hKS.out _ _ nofun ?_;clear hKS KS;refine aI rfl ?_;have s:=d.size;go_wp2_with fail;have q:=f.size;exact eh (.slice (some ⟨wx.heap.size,0,none⟩) 2 2) results140 rfl rfl ⟨(d.trans f).trans (aa _ _ _),_,rfl,by rw[m.out];exact BtB.lit wx w.heap.size (by omega) [k,za] (by simp)⟩
theorem xA (b:Nat) (cs:List cd) (ms:List Sig) (p n:Nat) (c k ans:UInt8) (w:World) {ap:Option Addr} {np cp:Nat} (hn:cs.length<=100) (hm:ms.length<=100) (hT:TxC w b cs) (hM:TxM w b ms):
  Calls prog 140 #[.pointer (some ⟨b,0,none⟩),.agg #[.int .i64 p,.int .u8 c.toNat,.int .u8 k.toNat,.int .i64 n,.slice ap np cp],.int .u8 ans.toNat] w λe w'=>B_ w w'/\ ∃v,e= .returned v/\BtB w' w.heap.size v (aS cs ms c k n ans):=by
 by_cases h112:c.toNat=112
 .have hc:c=112:=bJ h112;subst hc;exact xz b cs ms p n k ans w hn hT
 by_cases h99:c.toNat=99
 .have hc:c=99:=bJ h99;subst hc;exact zS b cs ms p n k ans w hm hM
 exact tO b cs ms p n c k ans w h112 h99
theorem FW {w:World} {g t:Nat} {x0 x1 x2:Value} (h:w.heap[g]?=some (.cells #[x0,x1,x2] t)):w.cell? ⟨g,0,none⟩=some x0/\w.cell? ⟨g,1,none⟩=some x1/\w.cell? ⟨g,2,none⟩=some x2:=by
 refine⟨?_,?_,?_⟩
 .rw[cz w g 0 _ _ (0,0) h];rfl
 .rw[cz w g 1 _ _ (0,0) h];rfl
 .rw[cz w g 2 _ _ (0,0) h];rfl
theorem yp {ms:List Sig} {n:Nat} (h:n<ms.length):(dO ms n).arg=fU ms n/\(dO ms n).ret=fq ms n:=by
 unfold dO fU fq;rw[aG h];exact⟨rfl,rfl⟩
theorem BQ {x:Ins} (h:x.op.toNat=110\/x.op.toNat=120\/x.op.toNat=103\/x.op.toNat=112\/x.op.toNat=99):(cB x).cls=bQ x.a:=by unfold cB;rw[if_pos h];rfl
def nU (g:Nat) (im:Img):Value:=match im.zj.findSome? (λb=>unl im.zq im.zj b.code)with
 |some q=> .agg #[.int .i64 3,.int .i64 q,.pointer none,S_]
 |none=> .agg #[.int .i64 0,.int .i64 0,.pointer (some ⟨g,0,none⟩),S_]
theorem zT (g j:Nat) (w:World):
  Calls prog 64 #[.pointer (some ⟨g,0,none⟩),.int .i64 j] w λen w'=>B_ w w'/\en= .returned (.agg #[.int .i64 2,.int .i64 j,.pointer none,S_]):=by
 have d: ¬(j:Int)= -1:=by omega
 have c:((j:Int)== -1)=false:=by rw[eu];omega
 have i:((j:Int)!= -1)=true:=by simp[bne,c]
 go_in
 go_wp2_with fail;have b:=aO w (.cells #[.int .i64 2,.int .i64 j,.pointer none,S_] 60);have a:B_ w (w.alloc (.cells #[.int .i64 2,.int .i64 j,.pointer none,S_] 60)):=aa _ _ _;revert b a;generalize (w.alloc (.cells #[.int .i64 2,.int .i64 j,.pointer none,S_] 60))=w9;intro b a;obtain⟨r0,e,f,h⟩:=lz b;exact cA (v:= .agg #[.int .i64 2,.int .i64 j,.pointer none,S_]) (by simp[results,results64,go_sem,r0,e,f,h]) rfl ⟨a,rfl⟩
end
end Go.Proofs.YtpfkkmacakjmbaaGreatDoor
