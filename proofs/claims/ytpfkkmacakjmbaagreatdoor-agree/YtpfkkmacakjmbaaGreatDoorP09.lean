import Derived.Test.YtpfkkmacakjmbaaGreatDoorP08
set_option maxRecDepth 100000
set_option maxHeartbeats 6400000
set_option linter.all false
namespace Go.Proofs.YtpfkkmacakjmbaaGreatDoor
open Proofs.Tryz
section
open Go Go.RowKit Sp
def rx (s:ByteArray) (cs:List Cls) (ns nl i:Nat) (bad:Bool):Except Nat (Ins×Nat):=if bad=true then .error i else oG s cs ns nl i
def jm (s:ByteArray) (cs:List Cls) (ns nl i:Nat) (bad:Bool) (x:XIt) (j:Nat) (bad':Bool):Prop:=
 (bad'=false/\ ∃y,rx s cs ns nl i bad= .ok (y,j)/\x=aJ y)\/(bad'=true/\rx s cs ns nl i bad= .error j)
section
variable {s:ByteArray} {cs:List Cls} {ns nl i:Nat}
theorem C9 {bad:Bool} {x:XIt} (h:bad=true\/s.size<=i):jm s cs ns nl i bad x i true:=by
 right
 refine⟨rfl,?_⟩;unfold rx
 cases bad with
 |true=>rfl
 |false=>
  obtain h|h:=h
  .cases h
  .simp only[dx,if_false];unfold oG;rw[qh h]
   rfl
theorem Er {x:XIt} (h:df.contains (pk s i).toNat=false):jm s cs ns nl i false x i true:=by
 right
 refine⟨rfl,?_⟩;simp only[rx,dx,if_false,oG,h]
theorem oO {c:UInt8} (hc:pk s i=c) (hl:df.contains c.toNat=true) {a n j:Nat} (h:dL s cs ns nl c.toNat (i+1)= .ok (a,n,j)):jm s cs ns nl i false (aJ ⟨c,a,n,i⟩) j false:=by
 left
 refine⟨rfl,_,?_,rfl⟩;simp only[rx,dx,if_false,oG,hc,hl,if_true,h]
theorem jJ {c:UInt8} (hc:pk s i=c) (hl:df.contains c.toNat=true) {x:XIt} {j:Nat} (h:dL s cs ns nl c.toNat (i+1)= .error j):jm s cs ns nl i false x j true:=by
 right
 refine⟨rfl,?_⟩;simp only[rx,dx,if_false,oG,hc,hl,if_true,h]
theorem zO {c:UInt8} (hc:pk s i=c) (hl:df.contains c.toNat=true) (h:dL s cs ns nl c.toNat (i+1)= .ok (0,0,i+1)) (hn: ¬(c.toNat=110\/c.toNat=120\/c.toNat=103\/c.toNat=112\/c.toNat=99)):jm s cs ns nl i false ⟨i,c,45,0,none,0,0⟩ (i+1) false:=by
 have:=oO hc hl h;rw[aJ]at this;simp only at this;rw[if_neg hn]at this;exact this
theorem yD {c:UInt8} {n:Nat} (hc:pk s i=c) (h:(c.toNat=107/\n=10)\/((c.toNat=108\/c.toNat=115)/\n=nl)) {Y:Nat×Nat×Bool} (hY:dgX s n (i+1) false=Y):jm s cs ns nl i false ⟨i,c,45,Y.1,none,0,0⟩ Y.2.1 Y.2.2:=by
 have hl:df.contains c.toNat=true:=by rcases h with⟨h,_⟩ | ⟨h|h,_⟩<;>(rw[h];decide)
 have a:dL s cs ns nl c.toNat (i+1)=match gE s n (i+1)with
  | .ok (b,j)=> .ok (0,b,j)
  | .error j=> .error j:=by
  unfold dL;obtain⟨h,rfl⟩ | ⟨h,rfl⟩:=h
  .rw[if_neg (by omega),if_pos h];rfl
  .rw[if_pos h];rfl
 subst hY;unfold gE at a
 cases hd:gY n (pk s (i+1))with
 |true=>
  rw[oM hd];rw[hd]at a;have:=oO hc hl a;rw[aJ]at this;simp only at this;rw[if_neg (by rcases h with⟨h,_⟩ | ⟨h|h,_⟩<;>omega)]at this;exact this
 |false=>
  rw[jY (Or.inr hd)];rw[hd]at a;exact jJ hc hl a
theorem qs {n:Nat} {c:UInt8} (h:aQ n c=true) (hn:n<=4):UInt8.ofNat (65+(c.toNat-65))=c:=by
 simp only[aQ,dl,dk]at h
 apply ck
 have:=c.toNat_lt;simp;omega
theorem Da {c:UInt8} (hnc:cs.length<=4) (hc:pk s i=c) (h:c.toNat=110\/c.toNat=120) {Y:UInt8×Nat×Bool} (hY:ltX s cs.length (i+1) false=Y):jm s cs ns nl i false ⟨i,c,Y.1,0,none,0,0⟩ Y.2.1 Y.2.2:=by
 have hl:df.contains c.toNat=true:=by rcases h with h|h<;>(rw[h];decide)
 have b:dL s cs ns nl c.toNat (i+1)=match jb s cs.length (i+1)with
  | .ok (a,j)=> .ok (a,0,j)
  | .error j=> .error j:=by
  unfold dL;rw[if_neg (by omega),if_neg (by omega),if_pos h]
  rfl
 subst hY;unfold jb at b
 cases hd:aQ cs.length (pk s (i+1))with
 |true=>
  rw[tu hd];rw[hd]at b;have:=oO hc hl b;rw[aJ]at this;simp only at this;rw[if_pos (by omega),qs hd hnc]at this;exact this
 |false=>
  rw[tw (Or.inr hd)];rw[hd]at b;exact jJ hc hl b
theorem kQ {a:Nat} {c:UInt8} (hd:aQ cs.length c=true):db cs (c.toNat-65)=(bV (cs.map toX) c).length:=by
 unfold db bV;rw[bZ,if_pos hd,cg]
 cases cs[c.toNat-65]?<;>rfl
theorem Db {c:UInt8} (hnc:cs.length<=4) (hc:pk s i=c) (h:c.toNat=103\/c.toNat=112) {Y:UInt8×Nat×Bool} (hY:ltX s cs.length (i+1) false=Y) {Z:Nat×Nat×Bool} (hZ:dgX s (bV (cs.map toX) Y.1).length Y.2.1 Y.2.2=Z):jm s cs ns nl i false ⟨i,c,Y.1,Z.1,none,0,0⟩ Z.2.1 Z.2.2:=by
 have hl:df.contains c.toNat=true:=by rcases h with h|h<;>(rw[h];decide)
 have d:dL s cs ns nl c.toNat (i+1)=match jb s cs.length (i+1)with
  | .error j=> .error j
  | .ok (a,j)=>
   match gE s (db cs a) j with
   | .ok (b,l)=> .ok (a,b,l)
   | .error l=> .error l:=by
  unfold dL;rw[if_neg (by omega),if_neg (by omega),if_neg (by omega),if_pos h]
  rfl
 subst hY;subst hZ;unfold jb at d
 cases hd:aQ cs.length (pk s (i+1))with
 |true=>
  rw[tu hd];rw[hd]at d;simp only[if_true]at d⊢;rw[kQ (a:=0) hd]at d;unfold gE at d
  cases he:gY (bV (cs.map toX) (pk s (i+1))).length (pk s (i+1+1))with
  |true=>
   rw[oM he];rw[he]at d;have:=oO hc hl d;rw[aJ]at this;simp only at this;rw[if_pos (by omega),qs hd hnc]at this;exact this
  |false=>
   rw[jY (Or.inr he)];rw[he]at d;exact jJ hc hl d
 |false=>
  rw[tw (Or.inr hd)];simp only;rw[jY (Or.inl rfl)];rw[hd]at d;exact jJ hc hl d
theorem Bu {c:UInt8} (hnc:cs.length<=4) (hc:pk s i=c) (h:c.toNat=99) {Y:UInt8×Nat×Bool} (hY:ltX s cs.length (i+1) false=Y) {Z:Nat×Nat×Bool} (hZ:dgX s ns Y.2.1 Y.2.2=Z):jm s cs ns nl i false ⟨i,c,Y.1,Z.1,none,0,0⟩ Z.2.1 Z.2.2:=by
 have hl:df.contains c.toNat=true:=by rw[h];decide
 have d:dL s cs ns nl c.toNat (i+1)=match jb s cs.length (i+1)with
  | .error j=> .error j
  | .ok (a,j)=>
   match gE s ns j with
   | .ok (b,l)=> .ok (a,b,l)
   | .error l=> .error l:=by
  unfold dL;rw[if_neg (by omega),if_neg (by omega),if_neg (by omega),if_neg (by omega),if_pos h]
  rfl
 subst hY;subst hZ;unfold jb at d
 cases hd:aQ cs.length (pk s (i+1))with
 |true=>
  rw[tu hd];rw[hd]at d;simp only[if_true]at d⊢;unfold gE at d
  cases he:gY ns (pk s (i+1+1))with
  |true=>
   rw[oM he];rw[he]at d;have:=oO hc hl d;rw[aJ]at this;simp only at this;rw[if_pos (by omega),qs hd hnc]at this;exact this
  |false=>
   rw[jY (Or.inr he)];rw[he]at d;exact jJ hc hl d
 |false=>
  rw[tw (Or.inr hd)];simp only;rw[jY (Or.inl rfl)];rw[hd]at d;exact jJ hc hl d
theorem Dc {c:UInt8} (hc:pk s i=c) (h:c.toNat=106\/c.toNat=102) {Z:Nat×Nat×Bool} (hZ:tgX s (i+1) false=Z):jm s cs ns nl i false ⟨i,c,45,Z.1,none,0,0⟩ Z.2.1 Z.2.2:=by
 have hl:df.contains c.toNat=true:=by rcases h with h|h<;>(rw[h];decide)
 have d:dL s cs ns nl c.toNat (i+1)=match gE s 10 (i+1)with
  | .error j=> .error j
  | .ok (a,j)=>
   match gE s 10 j with
   | .ok (b,l)=> .ok (0,10*a+b,l)
   | .error l=> .error l:=by
  unfold dL;rw[if_neg (by omega),if_neg (by omega),if_neg (by omega),if_neg (by omega),if_neg (by omega),if_pos h]
  rfl
 subst hZ;unfold tgX;unfold gE at d
 cases hd:gY 10 (pk s (i+1))with
 |true=>
  rw[oM hd];rw[hd]at d;simp only[if_true]at d⊢
  cases he:gY 10 (pk s (i+1+1))with
  |true=>
   rw[oM he];rw[he]at d;have:=oO hc hl d;rw[aJ]at this;simp only at this;rw[if_neg (by omega)]at this;exact this
  |false=>
   rw[jY (Or.inr he)];rw[he]at d;exact jJ hc hl d
 |false=>
  rw[jY (Or.inr hd)];simp only;rw[jY (Or.inl rfl)];rw[hd]at d;exact jJ hc hl d
end
end
section
open Go Go.RowKit Sp
attribute [local go_sem ↓] eF eG
theorem nS {fn:Func} {R:Ending->World->Prop} {a:Act} {w:World} {c g:Nat} {a0 a1 a2 a3 a4 x0 x1 x2 x3 x4:Value} (hf:fn.results=#[.cell c 219]) (hd:a.defers=[]) (hc:a.tmps.getD c undef= .pointer (some ⟨g,0,none⟩)) (h:w.heap[g]?=some (.cells #[a0,a1,a2,a3,a4] 219)) (hR: ∀w9,w9.heap[g]?=some (.cells #[x0,x1,x2,x3,x4] 219)->But (· =g) w w9->R (.returned (.agg #[x0,x1,x2,x3,x4])) w9):bodyPost prog fn R .ret a (((((w.setCell ⟨g,0,none⟩ x0).setCell ⟨g,1,none⟩ x1).setCell ⟨g,2,none⟩ x2).setCell ⟨g,3,none⟩ x3).setCell ⟨g,4,none⟩ x4):=by
 have b:=il h x0 x1 x2 x3 x4;have r0:=ce0 b;have e:=ce1 b;have f:=ce2 b;have i:=ce3 b;have j:=ce4 b;refine cU (v:= .agg #[x0,x1,x2,x3,x4]) ?_ hd (hR _ b (jl w g x0 x1 x2 x3 x4));have d:a.tmps[c]?.getD undef= .pointer (some ⟨g,0,none⟩):=by simpa using hc
 unfold tr at r0 e f i j;simp[results,hf,d,go_sem,r0,e,f,i,j]
structure iU (w w1:World) (b g h:Nat) (p o c n:Value):Prop where
 but:But (· =b) w w1
 box:w1.heap[g]?=some (.cells #[.int .i64 0,.int .u8 0,.int .u8 0,.int .i64 0,S_] 219)
 item:w1.heap[h]?=some (.cells #[p,o,c,n,S_] 219)
theorem iU.next {w w1 w2:World} {b g h:Nat} {p o c n:Value} (x:iU w w1 b g h p o c n) (hg:b<g) (hh:b<h) (h2:But (· =b) w1 w2):iU w w2 b g h p o c n:=
 ⟨x.but.trans h2,(h2.block _ (ae x.box) (by omega)).trans x.box,(h2.block _ (ae x.item) (by omega)).trans x.item⟩
theorem iU.set1 {w w1:World} {b g h:Nat} {p o c n:Value} (x:iU w w1 b g h p o c n) (hh:w.heap.size<=h) (hgh:g≠h) (v:Value):iU w (w1.setCell ⟨h,1,none⟩ v) b g h p v c n:=
 ⟨x.but.next (aq _ _ _ _) (λj hj e=>by omega),((aq w1 h 1 v).block _ (ae x.box) (by omega)).trans x.box,bS w1 h 1 _ _ v x.item⟩
theorem iU.set2 {w w1:World} {b g h:Nat} {p o c n:Value} (x:iU w w1 b g h p o c n) (hh:w.heap.size<=h) (hgh:g≠h) (v:Value):iU w (w1.setCell ⟨h,2,none⟩ v) b g h p o v n:=
 ⟨x.but.next (aq _ _ _ _) (λj hj e=>by omega),((aq w1 h 2 v).block _ (ae x.box) (by omega)).trans x.box,bS w1 h 2 _ _ v x.item⟩
theorem iU.set3 {w w1:World} {b g h:Nat} {p o c n:Value} (x:iU w w1 b g h p o c n) (hh:w.heap.size<=h) (hgh:g≠h) (v:Value):iU w (w1.setCell ⟨h,3,none⟩ v) b g h p o c v:=
 ⟨x.but.next (aq _ _ _ _) (λj hj e=>by omega),((aq w1 h 3 v).block _ (ae x.box) (by omega)).trans x.box,bS w1 h 3 _ _ v x.item⟩
theorem dU (w:World) (b:Nat) (hb:b<w.heap.size) (A B:Array Value) (t:Nat):But (· =b) w ((w.alloc (.cells A t)).alloc (.cells B t))/\((w.alloc (.cells A t)).alloc (.cells B t)).heap[w.heap.size]?=some (.cells A t)/\((w.alloc (.cells A t)).alloc (.cells B t)).heap[w.heap.size+1]?=some (.cells B t):=by
 refine⟨(ag _ _ _).trans (ag _ _ _),?_,aw (by simp) _⟩;rw[(ag (λ_=>False) (w.alloc (.cells A t)) (.cells B t)).block w.heap.size (ae (bj w _)) (λh=>h)];exact bj w _
theorem cI {w:World} {g t:Nat} {x0 x1 x2 x3 x4:Value} (h:w.heap[g]?=some (.cells #[x0,x1,x2,x3,x4] t)):
  w.frozen? ⟨g,0,none⟩=false/\w.frozen? ⟨g,1,none⟩=false/\w.frozen? ⟨g,2,none⟩=false/\w.frozen? ⟨g,3,none⟩=false/\w.frozen? ⟨g,4,none⟩=false:=
 ⟨cw w g 0 _ _ h,cw w g 1 _ _ h,cw w g 2 _ _ h,cw w g 3 _ _ h,cw w g 4 _ _ h⟩
theorem bA {c:UInt8} (m:Int) (h:(c.toNat:Int)=m):((c.toNat:Int)==m)=true:=beq_iff_eq.2 h
theorem aX {c:UInt8} (m:Int) (h:(c.toNat:Int)≠m):((c.toNat:Int)==m)=false:=beq_eq_false_iff_ne.2 h
def gy (s:ByteArray) (SC:List Cls) (ng nl p:Nat) (c:UInt8) (j:Nat) (bad:Bool):XIt×Nat×Bool:=
 if c.toNat=108\/c.toNat=115 then(⟨p,c,45,(dgX s nl j bad).1,none,0,0⟩,(dgX s nl j bad).2.1,(dgX s nl j bad).2.2)
 else if c.toNat=110\/c.toNat=120 then(⟨p,c,(ltX s SC.length j bad).1,0,none,0,0⟩,(ltX s SC.length j bad).2.1,(ltX s SC.length j bad).2.2)
 else if c.toNat=103\/c.toNat=112 then(⟨p,c,(ltX s SC.length j bad).1,(dgX s (bV (SC.map toX) (ltX s SC.length j bad).1).length (ltX s SC.length j bad).2.1 (ltX s SC.length j bad).2.2).1,none,0,0⟩,(dgX s (bV (SC.map toX) (ltX s SC.length j bad).1).length (ltX s SC.length j bad).2.1 (ltX s SC.length j bad).2.2).2.1,(dgX s (bV (SC.map toX) (ltX s SC.length j bad).1).length (ltX s SC.length j bad).2.1 (ltX s SC.length j bad).2.2).2.2)
 else if c.toNat=99 then(⟨p,c,(ltX s SC.length j bad).1,(dgX s ng (ltX s SC.length j bad).2.1 (ltX s SC.length j bad).2.2).1,none,0,0⟩,(dgX s ng (ltX s SC.length j bad).2.1 (ltX s SC.length j bad).2.2).2.1,(dgX s ng (ltX s SC.length j bad).2.1 (ltX s SC.length j bad).2.2).2.2)
 else(⟨p,c,45,0,none,0,0⟩,if bad=true then j else p,true)
theorem zP {s:ByteArray} {SC:List Cls} {ng nl p:Nat} {c:UInt8} {j:Nat} {bad:Bool} (hc:c.toNat=103\/c.toNat=112) {Y:UInt8×Nat×Bool} (hY:ltX s SC.length j bad=Y) {F:Nat} (hF:(bV (SC.map toX) Y.1).length=F) {Z:Nat×Nat×Bool} (hZ:dgX s F Y.2.1 Y.2.2=Z):gy s SC ng nl p c j bad=(⟨p,c,Y.1,Z.1,none,0,0⟩,Z.2.1,Z.2.2):=by
 unfold gy;rw[if_neg (by omega),if_neg (by omega),if_pos hc,hY,hF,hZ]
section
variable (b base:Nat) (s:ByteArray) (i:Nat) (SC:List Cls) (a0 a1 al:Option Addr) (ng nl cap0 cap1 capl:Nat) (v2:RdV) (w:World)
theorem Es (p:Nat) (bad:Bool) (c:UInt8) (h108:c.toNat≠108) (h115:c.toNat≠115) (h110:c.toNat≠110) (h120:c.toNat≠120) (h103:c.toNat≠103) (h112:c.toNat≠112) (h99:c.toNat≠99) (hnc:SC.length<=4) (hng:ng<=3) (hnl:nl<=10) (hs:s.size<=2000)
  (hR:XrB w b s i bad (.slice a0 SC.length cap0) (.slice a1 ng cap1) v2) (hv:v2.hl= .slice al nl capl):
  Calls prog 223 #[.pointer (some ⟨b,0,none⟩),itV ⟨p,c,45,0,none,0,0⟩] w λen w'=>But (· =b) w w'/\ ∃x j bad',en= .returned (itV x)/\XrB w' b s j bad' (.slice a0 SC.length cap0) (.slice a1 ng cap1) v2/\gy s SC ng nl p c i bad=(x,j,bad'):=by
 have y:=hR.lt;obtain⟨nc,d⟩: ∃nc,SC.length=nc:=⟨_,rfl⟩;have a2:=hid hnc;have a3:=hid d;rw[d]at hR hnc;simp only[d];have A:=aX (c:=c) 108 (by omega);have D:=aX (c:=c) 115 (by omega);have B:=aX (c:=c) 110 (by omega);have E:=aX (c:=c) 120 (by omega);have z:=aX (c:=c) 103 (by omega);have C:=aX (c:=c) 112 (by omega);have a4:=aX (c:=c) 99 (by omega);clear d;obtain⟨g,l,m⟩:=dU w b y #[.int .i64 p,.int .u8 c.toNat,.int .u8 45,.int .i64 0,S_] #[.int .i64 0,.int .u8 0,.int .u8 0,.int .i64 0,S_] 219;have q:=hR.but ((ag (λ_=>False) w (.cells #[.int .i64 p,.int .u8 c.toNat,.int .u8 45,.int .i64 0,S_] 219)).trans (ag _ _ (.cells #[.int .i64 0,.int .u8 0,.int .u8 0,.int .i64 0,S_] 219))) (λh=>h)
 have a:=hid (iU.mk g m l);clear g l m;unfold itV;dsimp only;simp only[show(UInt8.toNat 45)=45 from rfl]
 go_in
 go_wp2_with fail;revert a q;generalize ((w.alloc (.cells #[.int .i64 p,.int .u8 c.toNat,.int .u8 45,.int .i64 0,S_] 219)).alloc (.cells #[.int .i64 0,.int .u8 0,.int .u8 0,.int .i64 0,S_] 219))=W;intro r a;obtain⟨P,Q,S,T,X⟩:=bI a.out.item;obtain⟨F,G,H,I,J⟩:=cI a.out.item;obtain⟨Y,Z,y2,y3,y4⟩:=bI a.out.box;obtain⟨L,g1,g2,M,O⟩:=cI a.out.box;refine(jH b s i bad _ _ v2 _ p r).mono ?_;rintro en w3 ⟨rfl,n,t⟩;clear P Q S T X F G H I J Y Z y2 y3 y4 L g1 g2 M O;have e:=a.out.next (by omega) (by omega) n;obtain⟨P,Q,S,T,X⟩:=bI e.item;obtain⟨F,G,H,I,J⟩:=cI e.item;obtain⟨Y,Z,y2,y3,y4⟩:=bI e.box
 obtain⟨L,g1,g2,M,O⟩:=cI e.box;have f:=hid (e);have v:=t;go_wp2_with fail;exact nS results223 rfl rfl f.out.box (λw9 _ h9d=>⟨f.out.but.next h9d (λk hk h=>by omega),⟨p,c,45,0,none,0,0⟩,(if bad=true then i else p),true,rfl,v.but h9d (by omega),by simp[gy,h108,h115,h110,h120,h103,h112,h99]⟩)
theorem FD (p:Nat) (bad:Bool) (c:UInt8) (hc:c.toNat=108\/c.toNat=115) (hnc:SC.length<=4) (hng:ng<=3) (hnl:nl<=10) (hs:s.size<=2000)
  (hR:XrB w b s i bad (.slice a0 SC.length cap0) (.slice a1 ng cap1) v2) (hv:v2.hl= .slice al nl capl):
  Calls prog 223 #[.pointer (some ⟨b,0,none⟩),itV ⟨p,c,45,0,none,0,0⟩] w λen w'=>But (· =b) w w'/\ ∃x j bad',en= .returned (itV x)/\XrB w' b s j bad' (.slice a0 SC.length cap0) (.slice a1 ng cap1) v2/\gy s SC ng nl p c i bad=(x,j,bad'):=by
 have J:=hR.lt;obtain⟨nc,e⟩: ∃nc,SC.length=nc:=⟨_,rfl⟩;have a2:=hid hnc;have a3:=hid e;rw[e]at hR hnc;simp only[e];have d3:=hR.d3;rw[hv]at d3;have HK:=hid hc;obtain h|h:=hc
 all_goals
  first|have n:=aX (c:=c) 108 (by omega) |have n:=bA (c:=c) 108 (by omega)
  first|have t:=aX (c:=c) 115 (by omega) |have t:=bA (c:=c) 115 (by omega)
  first|have q:=aX (c:=c) 110 (by omega) |have q:=bA (c:=c) 110 (by omega)
  first|have v:=aX (c:=c) 120 (by omega) |have v:=bA (c:=c) 120 (by omega)
  first|have m:=aX (c:=c) 103 (by omega) |have m:=bA (c:=c) 103 (by omega)
  first|have r:=aX (c:=c) 112 (by omega) |have r:=bA (c:=c) 112 (by omega)
  first|have C:=aX (c:=c) 99 (by omega) |have C:=bA (c:=c) 99 (by omega)
  clear h;clear e;obtain⟨y,z,A⟩:=dU w b J #[.int .i64 p,.int .u8 c.toNat,.int .u8 45,.int .i64 0,S_] #[.int .i64 0,.int .u8 0,.int .u8 0,.int .i64 0,S_] 219;have E:=hR.but ((ag (λ_=>False) w (.cells #[.int .i64 p,.int .u8 c.toNat,.int .u8 45,.int .i64 0,S_] 219)).trans (ag _ _ (.cells #[.int .i64 0,.int .u8 0,.int .u8 0,.int .i64 0,S_] 219))) (λh=>h);have a:=hid (iU.mk y A z);clear y z A;unfold itV;dsimp only;simp only[show(UInt8.toNat 45)=45 from rfl]
  go_in
  go_wp2_with fail;revert a E;generalize ((w.alloc (.cells #[.int .i64 p,.int .u8 c.toNat,.int .u8 45,.int .i64 0,S_] 219)).alloc (.cells #[.int .i64 0,.int .u8 0,.int .u8 0,.int .i64 0,S_] 219))=W;intro F a;obtain⟨Y,q1,q2,q3,q4⟩:=bI a.out.item;obtain⟨L,M,O,P,Q⟩:=cI a.out.item;obtain⟨y0,y1,y2,y3,y4⟩:=bI a.out.box;obtain⟨S,g1,g2,T,X⟩:=cI a.out.box;refine(dQ b s i bad _ _ v2 _ nl (by omega) hs F).mono ?_;rintro en w5 ⟨rfl,D,g⟩;obtain⟨Z,B⟩: ∃Z,dgX s nl i bad=Z:=⟨_,rfl⟩;rw[B]at g;rw[B];have HZ:=hid B;clear B;obtain⟨d,j5,b5⟩:=Z;dsimp only at g⊢;clear d3 Y q1 q2 q3 q4 L M O P Q y0 y1 y2 y3 y4 S g1 g2 T X
  have f:=a.out.next (by omega) (by omega) D;obtain⟨Y,q1,q2,q3,q4⟩:=bI f.item;obtain⟨L,M,O,P,Q⟩:=cI f.item;obtain⟨y0,y1,y2,y3,y4⟩:=bI f.box;obtain⟨S,g1,g2,T,X⟩:=cI f.box;have I:=f.set3 (by omega) (by omega) (.int .i64 d);have G:=g.but (aq w5 w.heap.size 3 (.int .i64 d)) (by omega);have l:=hid (I);have H:=G;go_wp2_with fail;exact nS results223 rfl rfl l.out.box (λw9 _ h9d=>⟨l.out.but.next h9d (λk hk h=>by omega),⟨p,c,45,d,none,0,0⟩,j5,b5,rfl,H.but h9d (by omega),by unfold gy;rw[if_pos HK.out,HZ.out]⟩)
theorem FE (p:Nat) (bad:Bool) (c:UInt8) (hc:c.toNat=110\/c.toNat=120) (hnc:SC.length<=4) (hng:ng<=3) (hnl:nl<=10) (hs:s.size<=2000)
  (hR:XrB w b s i bad (.slice a0 SC.length cap0) (.slice a1 ng cap1) v2) (hv:v2.hl= .slice al nl capl):
  Calls prog 223 #[.pointer (some ⟨b,0,none⟩),itV ⟨p,c,45,0,none,0,0⟩] w λen w'=>But (· =b) w w'/\ ∃x j bad',en= .returned (itV x)/\XrB w' b s j bad' (.slice a0 SC.length cap0) (.slice a1 ng cap1) v2/\gy s SC ng nl p c i bad=(x,j,bad'):=by
 have J:=hR.lt;obtain⟨nc,d⟩: ∃nc,SC.length=nc:=⟨_,rfl⟩;have a2:=hid hnc;have B:=hid d;rw[d]at hR hnc;simp only[d];have L:=hid hc;obtain h|h:=hc
 all_goals
  first|have m:=aX (c:=c) 108 (by omega) |have m:=bA (c:=c) 108 (by omega)
  first|have r:=aX (c:=c) 115 (by omega) |have r:=bA (c:=c) 115 (by omega)
  first|have n:=aX (c:=c) 110 (by omega) |have n:=bA (c:=c) 110 (by omega)
  first|have t:=aX (c:=c) 120 (by omega) |have t:=bA (c:=c) 120 (by omega)
  first|have l:=aX (c:=c) 103 (by omega) |have l:=bA (c:=c) 103 (by omega)
  first|have q:=aX (c:=c) 112 (by omega) |have q:=bA (c:=c) 112 (by omega)
  first|have C:=aX (c:=c) 99 (by omega) |have C:=bA (c:=c) 99 (by omega)
  clear h;clear d;obtain⟨v,y,z⟩:=dU w b J #[.int .i64 p,.int .u8 c.toNat,.int .u8 45,.int .i64 0,S_] #[.int .i64 0,.int .u8 0,.int .u8 0,.int .i64 0,S_] 219;have E:=hR.but ((ag (λ_=>False) w (.cells #[.int .i64 p,.int .u8 c.toNat,.int .u8 45,.int .i64 0,S_] 219)).trans (ag _ _ (.cells #[.int .i64 0,.int .u8 0,.int .u8 0,.int .i64 0,S_] 219))) (λh=>h);have a:=hid (iU.mk v z y);clear v y z;unfold itV;dsimp only;simp only[show(UInt8.toNat 45)=45 from rfl]
  go_in
  go_wp2_with fail;revert a E;generalize ((w.alloc (.cells #[.int .i64 p,.int .u8 c.toNat,.int .u8 45,.int .i64 0,S_] 219)).alloc (.cells #[.int .i64 0,.int .u8 0,.int .u8 0,.int .i64 0,S_] 219))=W;intro F a;obtain⟨q0,q1,q2,q3,q4⟩:=bI a.out.item;obtain⟨M,O,P,Q,S⟩:=cI a.out.item;obtain⟨y0,y1,y2,y3,y4⟩:=bI a.out.box;obtain⟨T,g1,g2,X,Z⟩:=cI a.out.box;refine(ji b s i bad _ v2 _ nc cap0 a0 (by omega) hs F).mono ?_;rintro en w3 ⟨rfl,D,f⟩;obtain⟨Y,A⟩: ∃Y,ltX s nc i bad=Y:=⟨_,rfl⟩;rw[A]at f;rw[A];have HY:=hid (show ltX s SC.length i bad=Y by rw[B.out];exact A);clear A;obtain⟨kc,j3,b3⟩:=Y
  dsimp only at f⊢;clear q0 q1 q2 q3 q4 M O P Q S y0 y1 y2 y3 y4 T g1 g2 X Z;have e:=a.out.next (by omega) (by omega) D;obtain⟨q0,q1,q2,q3,q4⟩:=bI e.item;obtain⟨M,O,P,Q,S⟩:=cI e.item;obtain⟨y0,y1,y2,y3,y4⟩:=bI e.box;obtain⟨T,g1,g2,X,Z⟩:=cI e.box;have I:=e.set2 (by omega) (by omega) (.int .u8 kc.toNat);have G:=f.but (aq w3 w.heap.size 2 (.int .u8 kc.toNat)) (by omega);have g:=hid (I);have H:=G;go_wp2_with fail;exact nS results223 rfl rfl g.out.box (λw9 _ h9d=>⟨g.out.but.next h9d (λk hk h=>by omega),⟨p,c,kc,0,none,0,0⟩,j3,b3,rfl,H.but h9d (by omega),by unfold gy;rw[if_neg (by have:=L.out;omega),if_pos L.out,HY.out]⟩)
theorem FF (p:Nat) (bad:Bool) (c:UInt8) (hc:c.toNat=103\/c.toNat=112) (hnc:SC.length<=4) (hng:ng<=3) (hnl:nl<=10) (hs:s.size<=2000)
  (hR:XrB w b s i bad (.slice a0 SC.length cap0) (.slice a1 ng cap1) v2) (hv:v2.hl= .slice al nl capl) (hwf:WfC SC) (hC:TcV w base (.slice a0 SC.length cap0) (SC.map toX)) (hb:b<base):
  Calls prog 223 #[.pointer (some ⟨b,0,none⟩),itV ⟨p,c,45,0,none,0,0⟩] w λen w'=>But (· =b) w w'/\ ∃x j bad',en= .returned (itV x)/\XrB w' b s j bad' (.slice a0 SC.length cap0) (.slice a1 ng cap1) v2/\gy s SC ng nl p c i bad=(x,j,bad'):=by
 have T:=hR.lt;obtain⟨nc,f⟩: ∃nc,SC.length=nc:=⟨_,rfl⟩;have t:=hid hnc;have a8:=hid f;rw[f]at hR hnc;simp only[f];have HC:=hid (λ(w':World) (h:But (· =b) w w') (hr:w'.cell? ⟨b,0,none⟩=some (.slice a0 SC.length cap0))=>(hC.but h (λg e cur _ _ hg he=>by omega)).tx hr (aP T h.size));have E:=hid hwf;rw[f]at HC;clear hC hwf;have HK:=hid hc;obtain h|h:=hc
 all_goals
  first|have H:=aX (c:=c) 108 (by omega) |have H:=bA (c:=c) 108 (by omega)
  first|have L:=aX (c:=c) 115 (by omega) |have L:=bA (c:=c) 115 (by omega)
  first|have I:=aX (c:=c) 110 (by omega) |have I:=bA (c:=c) 110 (by omega)
  first|have M:=aX (c:=c) 120 (by omega) |have M:=bA (c:=c) 120 (by omega)
  first|have G:=aX (c:=c) 103 (by omega) |have G:=bA (c:=c) 103 (by omega)
  first|have J:=aX (c:=c) 112 (by omega) |have J:=bA (c:=c) 112 (by omega)
  first|have b0:=aX (c:=c) 99 (by omega) |have b0:=bA (c:=c) 99 (by omega)
  clear h;clear f;obtain⟨O,a3,a4⟩:=dU w b T #[.int .i64 p,.int .u8 c.toNat,.int .u8 45,.int .i64 0,S_] #[.int .i64 0,.int .u8 0,.int .u8 0,.int .i64 0,S_] 219;have b4:=hR.but ((ag (λ_=>False) w (.cells #[.int .i64 p,.int .u8 c.toNat,.int .u8 45,.int .i64 0,S_] 219)).trans (ag _ _ (.cells #[.int .i64 0,.int .u8 0,.int .u8 0,.int .i64 0,S_] 219))) (λh=>h);have l:=hid (iU.mk O a4 a3);clear O a3 a4;unfold itV;dsimp only;simp only[show(UInt8.toNat 45)=45 from rfl]
  go_in
  go_wp2_with fail;revert l b4;generalize ((w.alloc (.cells #[.int .i64 p,.int .u8 c.toNat,.int .u8 45,.int .i64 0,S_] 219)).alloc (.cells #[.int .i64 0,.int .u8 0,.int .u8 0,.int .i64 0,S_] 219))=W;intro b6 l;obtain⟨q0,q1,q2,q3,q4⟩:=bI l.out.item;obtain⟨f0,f1,f2,f3,f4⟩:=cI l.out.item;obtain⟨y0,y1,y2,y3,y4⟩:=bI l.out.box;obtain⟨g0,g1,g2,g3,g4⟩:=cI l.out.box;refine(ji b s i bad _ v2 _ nc cap0 a0 (by omega) hs b6).mono ?_;rintro en w3 ⟨rfl,b1,y⟩;obtain⟨Y,hY⟩: ∃Y,ltX s nc i bad=Y:=⟨_,rfl⟩;rw[hY]at y;rw[hY];have HY:=hid (show ltX s SC.length i bad=Y by rw[a8.out];exact hY)
  clear hY;obtain⟨kc,j3,b3⟩:=Y;dsimp only at y⊢;clear q0 q1 q2 q3 q4 f0 f1 f2 f3 f4 y0 y1 y2 y3 y4 g0 g1 g2 g3 g4;have n:=l.out.next (by omega) (by omega) b1;obtain⟨q0,q1,q2,q3,q4⟩:=bI n.item;obtain⟨f0,f1,f2,f3,f4⟩:=cI n.item;obtain⟨y0,y1,y2,y3,y4⟩:=bI n.box;obtain⟨g0,g1,g2,g3,g4⟩:=cI n.box;have Q:=n.set2 (by omega) (by omega) (.int .u8 kc.toNat);have m:=y.but (aq w3 w.heap.size 2 (.int .u8 kc.toNat)) (by omega);have a:=hid Q;clear n Q;go_wp2_with fail;revert a m;generalize (w3.setCell ⟨w.heap.size,2,none⟩ (.int .u8 kc.toNat))=X;intro m a;have S:=HC.out X a.out.but m.c0;have A:=nM b (SC.map toX) kc X.drew (by rw[bZ];have:=t.out;omega) (S.but (aD _ _))
  have a2:=lN E.out t.out kc;obtain⟨F,hF⟩: ∃F,(bV (SC.map toX) kc).length=F:=⟨_,rfl⟩;rw[hF]at A a2;have a7:=hid hF;have B:=hid A;have c6:F<=8:=by have:=t.out;omega
  clear hF A a2 S;obtain⟨x0,x1,x2,x3,x4⟩:=bI a.out.item;have a5:=ae a.out.item;have r:B_ X X.drew:=aD _ _;refine aF (B_ X) 6 ?_
  iterate 5 (refine aN (v:=?_) rfl r ?_ ?_;rotate_left;(focus (intro wS h;have q0:=(h.kc x2 a5);clear h;go_simp;try rfl));dsimp only[Act.put];try simp only[bW])
  refine au rfl ?_;intro KS hKS;go_simp;refine B.out.mono ?_;rintro en w4 ⟨rfl,a6⟩;rw[a6];clear a6 w4 B;refine hKS.out _ _ (λ_=>r) ?_;clear hKS KS;refine au rfl ?_;intro KS hKS;go_simp;refine hKS.out _ _ nofun ?_;clear hKS KS;refine aK rfl ?_;have C:=hid (a.out.next (by omega) (by omega) (aD _ _));have P:=m.but r (λh=>h);clear a m r x0 x1 x2 x3 x4 a5;revert C P;generalize X.drew=X';intro a m;go_wp2_with fail;refine(dQ b s j3 b3 _ _ v2 _ F (by omega) hs m).mono ?_;rintro en w5 ⟨rfl,b2,z⟩;obtain⟨Z,hZ⟩: ∃Z,dgX s F j3 b3=Z:=⟨_,rfl⟩;rw[hZ]at z;rw[hZ];have HZ:=hid hZ;clear hZ;obtain⟨d,j5,b5⟩:=Z
  dsimp only at z⊢;clear q0 q1 q2 q3 q4 f0 f1 f2 f3 f4 y0 y1 y2 y3 y4 g0 g1 g2 g3 g4;have q:=a.out.next (by omega) (by omega) b2;obtain⟨q0,q1,q2,q3,q4⟩:=bI q.item;obtain⟨f0,f1,f2,f3,f4⟩:=cI q.item;obtain⟨y0,y1,y2,y3,y4⟩:=bI q.box;obtain⟨g0,g1,g2,g3,g4⟩:=cI q.box;have b9:=q.set3 (by omega) (by omega) (.int .i64 d);have b7:=z.but (aq w5 w.heap.size 3 (.int .i64 d)) (by omega);have D:=hid (b9);have b8:=b7;go_wp2_with fail;exact nS results223 rfl rfl D.out.box (λw9 _ h9d=>⟨D.out.but.next h9d (λk hk h=>by omega),⟨p,c,kc,d,none,0,0⟩,j5,b5,rfl,b8.but h9d (by omega),zP HK.out HY.out a7.out HZ.out⟩)
theorem Dd (p:Nat) (bad:Bool) (hnc:SC.length<=4) (hng:ng<=3) (hnl:nl<=10) (hs:s.size<=2000)
  (hR:XrB w b s i bad (.slice a0 SC.length cap0) (.slice a1 ng cap1) v2) (hv:v2.hl= .slice al nl capl):
  Calls prog 223 #[.pointer (some ⟨b,0,none⟩),itV ⟨p,99,45,0,none,0,0⟩] w λen w'=>But (· =b) w w'/\ ∃x j bad',en= .returned (itV x)/\XrB w' b s j bad' (.slice a0 SC.length cap0) (.slice a1 ng cap1) v2/\gy s SC ng nl p 99 i bad=(x,j,bad'):=by
 have b2:=hR.lt;obtain⟨nc,c⟩: ∃nc,SC.length=nc:=⟨_,rfl⟩;have b4:=hid hnc;have a2:=hid c;rw[c]at hR hnc;simp only[c];clear c;obtain⟨n,t,v⟩:=dU w b b2 #[.int .i64 p,.int .u8 99,.int .u8 45,.int .i64 0,S_] #[.int .i64 0,.int .u8 0,.int .u8 0,.int .i64 0,S_] 219;have a6:=hR.but ((ag (λ_=>False) w (.cells #[.int .i64 p,.int .u8 99,.int .u8 45,.int .i64 0,S_] 219)).trans (ag _ _ (.cells #[.int .i64 0,.int .u8 0,.int .u8 0,.int .i64 0,S_] 219))) (λh=>h);have a:=hid (iU.mk n v t);clear n t v;unfold itV;dsimp only;simp only[show(UInt8.toNat 45)=45 from rfl,show(UInt8.toNat 99)=99 from rfl]
 go_in
 go_wp2_with fail;revert a a6;generalize ((w.alloc (.cells #[.int .i64 p,.int .u8 99,.int .u8 45,.int .i64 0,S_] 219)).alloc (.cells #[.int .i64 0,.int .u8 0,.int .u8 0,.int .i64 0,S_] 219))=W;intro a7 a;obtain⟨I,J,L,M,O⟩:=bI a.out.item;obtain⟨y,z,A,B,C⟩:=cI a.out.item;obtain⟨P,Q,S,T,X⟩:=bI a.out.box;obtain⟨D,g1,g2,E,F⟩:=cI a.out.box;refine(ji b s i bad _ v2 _ nc cap0 a0 (by omega) hs a7).mono ?_;rintro en w3 ⟨rfl,a4,g⟩;obtain⟨Y,G⟩: ∃Y,ltX s nc i bad=Y:=⟨_,rfl⟩;rw[G]at g;rw[G];have HY:=hid (show ltX s SC.length i bad=Y by rw[a2.out];exact G);clear G;obtain⟨kc,j3,b3⟩:=Y
 dsimp only at g⊢;clear I J L M O y z A B C P Q S T X D g1 g2 E F;have e:=a.out.next (by omega) (by omega) a4;obtain⟨I,J,L,M,O⟩:=bI e.item;obtain⟨y,z,A,B,C⟩:=cI e.item;obtain⟨P,Q,S,T,X⟩:=bI e.box;obtain⟨D,g1,g2,E,F⟩:=cI e.box;have r:=e.set2 (by omega) (by omega) (.int .u8 kc.toNat);have q:=g.but (aq w3 w.heap.size 2 (.int .u8 kc.toNat)) (by omega);have a3:=hid r;clear e r;have p1:=q.c1;go_wp2_with fail;refine(dQ b s j3 b3 _ _ v2 _ ng (by omega) hs q).mono ?_;rintro en w5 ⟨rfl,a5,l⟩;obtain⟨Z,H⟩: ∃Z,dgX s ng j3 b3=Z:=⟨_,rfl⟩;rw[H]at l;rw[H];have HZ:=hid H;clear H;obtain⟨d,j5,b5⟩:=Z;dsimp only at l⊢
 clear p1 I J L M O y z A B C P Q S T X D g1 g2 E F;have f:=a3.out.next (by omega) (by omega) a5;obtain⟨I,J,L,M,O⟩:=bI f.item;obtain⟨y,z,A,B,C⟩:=cI f.item;obtain⟨P,Q,S,T,X⟩:=bI f.box;obtain⟨D,g1,g2,E,F⟩:=cI f.box;have b1:=f.set3 (by omega) (by omega) (.int .i64 d);have a8:=l.but (aq w5 w.heap.size 3 (.int .i64 d)) (by omega);have m:=hid (b1);have b0:=a8;go_wp2_with fail;exact nS results223 rfl rfl m.out.box (λw9 _ h9d=>⟨m.out.but.next h9d (λk hk h=>by omega),⟨p,99,kc,d,none,0,0⟩,j5,b5,rfl,b0.but h9d (by omega),by unfold gy;rw[if_neg (by decide),if_neg (by decide),if_neg (by decide),if_pos (by decide),HY.out,HZ.out]⟩)
theorem rY (p:Nat) (bad:Bool) (c:UInt8) (hnc:SC.length<=4) (hng:ng<=3) (hnl:nl<=10) (hs:s.size<=2000)
  (hR:XrB w b s i bad (.slice a0 SC.length cap0) (.slice a1 ng cap1) v2) (hv:v2.hl= .slice al nl capl) (hG:c.toNat=103\/c.toNat=112->WfC SC/\TcV w base (.slice a0 SC.length cap0) (SC.map toX)) (hb:b<base):
  Calls prog 223 #[.pointer (some ⟨b,0,none⟩),itV ⟨p,c,45,0,none,0,0⟩] w λen w'=>But (· =b) w w'/\ ∃x j bad',en= .returned (itV x)/\XrB w' b s j bad' (.slice a0 SC.length cap0) (.slice a1 ng cap1) v2/\gy s SC ng nl p c i bad=(x,j,bad'):=by
 have e: ∀n:Nat,n<256->c.toNat=n->c=UInt8.ofNat n:=λn hn h=>(u8n hn).1 h
 by_cases hc:c.toNat=108\/c.toNat=115
 .exact FD b s i SC a0 a1 al ng nl cap0 cap1 capl v2 w p bad c hc hnc hng hnl hs hR hv
 obtain⟨d,k⟩:=not_or.1 hc;clear hc
 by_cases hc:c.toNat=110\/c.toNat=120
 .exact FE b s i SC a0 a1 al ng nl cap0 cap1 capl v2 w p bad c hc hnc hng hnl hs hR hv
 obtain⟨f,l⟩:=not_or.1 hc;clear hc
 by_cases hc:c.toNat=103\/c.toNat=112
 .exact FF b base s i SC a0 a1 al ng nl cap0 cap1 capl v2 w p bad c hc hnc hng hnl hs hR hv (hG hc).1 (hG hc).2 hb
 obtain⟨a,g⟩:=not_or.1 hc;clear hc
 by_cases h99:c.toNat=99
 .have hc:c=99:=e _ (by decide) h99;subst hc;exact Dd b s i SC a0 a1 al ng nl cap0 cap1 capl v2 w p bad hnc hng hnl hs hR hv
 exact Es b s i SC a0 a1 al ng nl cap0 cap1 capl v2 w p bad c d k f l a g h99 hnc hng hnl hs hR hv
end
theorem uW {s:ByteArray} {SC:List Cls} {ng nl i:Nat} {c:UInt8} {x:XIt} {j:Nat} {bad':Bool} (hnc:SC.length<=4) (hpc:pk s i=c) (hn: ¬(c.toNat=114\/c.toNat=119\/c.toNat=43\/c.toNat=45\/c.toNat=42\/c.toNat=47\/c.toNat=60\/c.toNat=61\/c.toNat=101\/c.toNat=122\/c.toNat=100\/c.toNat=116\/c.toNat=107\/c.toNat=106\/c.toNat=102))
  (h:gy s SC ng nl i c (i+1) false=(x,j,bad')):jm s SC ng nl i false x j bad':=by
 unfold gy at h
 by_cases h1:c.toNat=108\/c.toNat=115
 .rw[if_pos h1]at h;obtain⟨rfl,rfl,rfl⟩:=(by simpa using h:_/\_/\_);exact yD (n:=nl) hpc (Or.inr ⟨h1,rfl⟩) rfl
 rw[if_neg h1]at h
 by_cases h2:c.toNat=110\/c.toNat=120
 .rw[if_pos h2]at h;obtain⟨rfl,rfl,rfl⟩:=(by simpa using h:_/\_/\_);exact Da hnc hpc h2 rfl
 rw[if_neg h2]at h
 by_cases h3:c.toNat=103\/c.toNat=112
 .rw[if_pos h3]at h;obtain⟨rfl,rfl,rfl⟩:=(by simpa using h:_/\_/\_);exact Db hnc hpc h3 rfl rfl
 rw[if_neg h3]at h
 by_cases h4:c.toNat=99
 .rw[if_pos h4]at h;obtain⟨rfl,rfl,rfl⟩:=(by simpa using h:_/\_/\_);exact Bu hnc hpc h4 rfl rfl
 rw[if_neg h4]at h;obtain⟨rfl,rfl,rfl⟩:=(by simpa using h:_/\_/\_)
 try simp only[dx,if_false]
 refine Er ?_;rw[hpc];simp only[df,List.contains_eq_mem,List.mem_cons,List.not_mem_nil,or_false,decide_eq_false_iff_not];omega
theorem uX {s:ByteArray} {SC:List Cls} {ng nl i:Nat}:gy s SC ng nl i 0 i true=(⟨i,0,45,0,none,0,0⟩,i,true):=by
 unfold gy;simp
section
variable (b base:Nat) (s:ByteArray) (i:Nat) (SC:List Cls) (a0 a1 al:Option Addr) (ng nl cap0 cap1 capl:Nat) (v2:RdV) (w:World)
theorem Et (c:UInt8) (hlt:i<s.size) (hpc:pk s i=c) (hc:c.toNat=114\/c.toNat=119\/c.toNat=43\/c.toNat=45\/c.toNat=42\/c.toNat=47\/c.toNat=60\/c.toNat=61\/c.toNat=101\/c.toNat=122\/c.toNat=100\/c.toNat=116) (hnc:SC.length<=4) (hng:ng<=3) (hnl:nl<=10) (hs:s.size<=2000)
  (hR:XrB w b s i false (.slice a0 SC.length cap0) (.slice a1 ng cap1) v2) (hv:v2.hl= .slice al nl capl):
  Calls prog 169 #[.pointer (some ⟨b,0,none⟩)] w λen w'=>But (· =b) w w'/\ ∃x j bad',en= .returned (itV x)/\XrB w' b s j bad' (.slice a0 SC.length cap0) (.slice a1 ng cap1) v2/\jm s SC ng nl i false x j bad':=by
 have Q:=hR.lt;have T:=hR.c3;obtain⟨y,B,C⟩:=dU w b Q #[.int .i64 0,.int .u8 0,.int .u8 0,.int .i64 0,S_] #[.int .i64 i,.int .u8 0,.int .u8 45,.int .i64 0,S_] 219;have z:=hR.but ((ag (λ_=>False) w (.cells #[.int .i64 0,.int .u8 0,.int .u8 0,.int .i64 0,S_] 219)).trans (ag _ _ (.cells #[.int .i64 i,.int .u8 0,.int .u8 45,.int .i64 0,S_] 219))) (λh=>h);have e:=hid (iU.mk y B C);have d:=hid (bT b s i false _ _ v2 _ hs z);rw[jX hlt,hpc]at d;have S:=hid (zO (s:=s) (cs:=SC) (ns:=ng) (nl:=nl) hpc (by rcases hc with h|h|h|h|h|h|h|h|h|h|h|h<;>(rw[h];decide)) (by rcases hc with h|h|h|h|h|h|h|h|h|h|h|h<;>(rw[h];rfl)) (by omega))
 have X:=hid hc;obtain h|h|h|h|h|h|h|h|h|h|h|h:=hc
 all_goals
  first|have q:=aX (c:=c) 114 (by omega) |have q:=bA (c:=c) 114 (by omega)
  first|have t:=aX (c:=c) 119 (by omega) |have t:=bA (c:=c) 119 (by omega)
  first|have F:=aX (c:=c) 43 (by omega) |have F:=bA (c:=c) 43 (by omega)
  first|have G:=aX (c:=c) 45 (by omega) |have G:=bA (c:=c) 45 (by omega)
  first|have E:=aX (c:=c) 42 (by omega) |have E:=bA (c:=c) 42 (by omega)
  first|have H:=aX (c:=c) 47 (by omega) |have H:=bA (c:=c) 47 (by omega)
  first|have I:=aX (c:=c) 60 (by omega) |have I:=bA (c:=c) 60 (by omega)
  first|have J:=aX (c:=c) 61 (by omega) |have J:=bA (c:=c) 61 (by omega)
  first|have l:=aX (c:=c) 101 (by omega) |have l:=bA (c:=c) 101 (by omega)
  first|have v:=aX (c:=c) 122 (by omega) |have v:=bA (c:=c) 122 (by omega)
  first|have g:=aX (c:=c) 100 (by omega) |have g:=bA (c:=c) 100 (by omega)
  first|have r:=aX (c:=c) 116 (by omega) |have r:=bA (c:=c) 116 (by omega)
  first|have p:=aX (c:=c) 107 (by omega) |have p:=bA (c:=c) 107 (by omega)
  first|have n:=aX (c:=c) 106 (by omega) |have n:=bA (c:=c) 106 (by omega)
  first|have m:=aX (c:=c) 102 (by omega) |have m:=bA (c:=c) 102 (by omega)
  clear h;clear y z B C
  go_in
  go_wp2_with fail;refine d.out.mono ?_;rintro en w1 ⟨rfl,L,M⟩;have a:=e.out.next (by omega) (by omega) L;obtain⟨q0,q1,q2,q3,q4⟩:=bI a.item;obtain⟨Y,Z,f2,f3,f4⟩:=cI a.item;obtain⟨y0,y1,y2,y3,y4⟩:=bI a.box;obtain⟨g0,g1,g2,g3,g4⟩:=cI a.box;have A:=a.set1 (by omega) (by omega) (.int .u8 c.toNat);have O:=M.but (aq w1 (w.heap.size+1) 1 (.int .u8 c.toNat)) (by omega);have D:=hid A;clear a A e d T;have f:=hid (D.out);have P:=O;go_wp2_with fail;exact nS results169 rfl rfl f.out.box (λw9 _ h9d=>⟨f.out.but.next h9d (λk hk h=>by omega),⟨i,c,45,0,none,0,0⟩,i+1,false,rfl,P.but h9d (by omega),S.out⟩)
theorem Eu (c:UInt8) (hlt:i<s.size) (hpc:pk s i=c) (hc:c.toNat=107) (hnc:SC.length<=4) (hng:ng<=3) (hnl:nl<=10) (hs:s.size<=2000)
  (hR:XrB w b s i false (.slice a0 SC.length cap0) (.slice a1 ng cap1) v2) (hv:v2.hl= .slice al nl capl):
  Calls prog 169 #[.pointer (some ⟨b,0,none⟩)] w λen w'=>But (· =b) w w'/\ ∃x j bad',en= .returned (itV x)/\XrB w' b s j bad' (.slice a0 SC.length cap0) (.slice a1 ng cap1) v2/\jm s SC ng nl i false x j bad':=by
 have a5:=hR.lt;have p3:=hR.c3;obtain⟨C,F,G⟩:=dU w b a5 #[.int .i64 0,.int .u8 0,.int .u8 0,.int .i64 0,S_] #[.int .i64 i,.int .u8 0,.int .u8 45,.int .i64 0,S_] 219;have D:=hR.but ((ag (λ_=>False) w (.cells #[.int .i64 0,.int .u8 0,.int .u8 0,.int .i64 0,S_] 219)).trans (ag _ _ (.cells #[.int .i64 i,.int .u8 0,.int .u8 45,.int .i64 0,S_] 219))) (λh=>h);have l:=hid (iU.mk C F G);have f:=hid (bT b s i false _ _ v2 _ hs D);rw[jX hlt,hpc]at f;have HK:=hid hc;have h:=hc;clear hc
 all_goals
  first|have y:=aX (c:=c) 114 (by omega) |have y:=bA (c:=c) 114 (by omega)
  first|have A:=aX (c:=c) 119 (by omega) |have A:=bA (c:=c) 119 (by omega)
  first|have L:=aX (c:=c) 43 (by omega) |have L:=bA (c:=c) 43 (by omega)
  first|have M:=aX (c:=c) 45 (by omega) |have M:=bA (c:=c) 45 (by omega)
  first|have J:=aX (c:=c) 42 (by omega) |have J:=bA (c:=c) 42 (by omega)
  first|have O:=aX (c:=c) 47 (by omega) |have O:=bA (c:=c) 47 (by omega)
  first|have P:=aX (c:=c) 60 (by omega) |have P:=bA (c:=c) 60 (by omega)
  first|have Q:=aX (c:=c) 61 (by omega) |have Q:=bA (c:=c) 61 (by omega)
  first|have q:=aX (c:=c) 101 (by omega) |have q:=bA (c:=c) 101 (by omega)
  first|have B:=aX (c:=c) 122 (by omega) |have B:=bA (c:=c) 122 (by omega)
  first|have p:=aX (c:=c) 100 (by omega) |have p:=bA (c:=c) 100 (by omega)
  first|have z:=aX (c:=c) 116 (by omega) |have z:=bA (c:=c) 116 (by omega)
  first|have v:=aX (c:=c) 107 (by omega) |have v:=bA (c:=c) 107 (by omega)
  first|have t:=aX (c:=c) 106 (by omega) |have t:=bA (c:=c) 106 (by omega)
  first|have r:=aX (c:=c) 102 (by omega) |have r:=bA (c:=c) 102 (by omega)
  clear h;clear C D F G
  go_in
  go_wp2_with fail;refine f.out.mono ?_;rintro en w1 ⟨rfl,S,X⟩;have a:=l.out.next (by omega) (by omega) S;obtain⟨q0,q1,q2,q3,q4⟩:=bI a.item;obtain⟨f0,f1,f2,f3,f4⟩:=cI a.item;obtain⟨y0,y1,y2,y3,y4⟩:=bI a.box;obtain⟨g0,g1,g2,g3,g4⟩:=cI a.box;have E:=a.set1 (by omega) (by omega) (.int .u8 c.toNat);have Y:=X.but (aq w1 (w.heap.size+1) 1 (.int .u8 c.toNat)) (by omega);have I:=hid E;clear a E l f p3;go_wp2_with fail;refine(dQ b s (i+1) false _ _ v2 _ 10 (by omega) hs Y).mono ?_;rintro en w5 ⟨rfl,T,g⟩;obtain⟨Z,H⟩: ∃Z,dgX s 10 (i+1) false=Z:=⟨_,rfl⟩;rw[H]at g;rw[H];have HZ:=hid H;clear H;obtain⟨d,j5,b5⟩:=Z
  dsimp only at g⊢;clear q0 q1 q2 q3 q4 f0 f1 f2 f3 f4 y0 y1 y2 y3 y4 g0 g1 g2 g3 g4;have e:=I.out.next (by omega) (by omega) T;obtain⟨q0,q1,q2,q3,q4⟩:=bI e.item;obtain⟨f0,f1,f2,f3,f4⟩:=cI e.item;obtain⟨y0,y1,y2,y3,y4⟩:=bI e.box;obtain⟨g0,g1,g2,g3,g4⟩:=cI e.box;have a4:=e.set3 (by omega) (by omega) (.int .i64 d);have a2:=g.but (aq w5 (w.heap.size+1) 3 (.int .i64 d)) (by omega);have m:=hid (a4);have a3:=a2;go_wp2_with fail;exact nS results169 rfl rfl m.out.box (λw9 _ h9d=>⟨m.out.but.next h9d (λk hk h=>by omega),⟨i,c,45,d,none,0,0⟩,j5,b5,rfl,a3.but h9d (by omega),yD (n:=10) hpc (Or.inl ⟨HK.out,rfl⟩) HZ.out⟩)
theorem Ew (c:UInt8) (hlt:i<s.size) (hpc:pk s i=c) (hc:c.toNat=106\/c.toNat=102) (hnc:SC.length<=4) (hng:ng<=3) (hnl:nl<=10) (hs:s.size<=2000)
  (hR:XrB w b s i false (.slice a0 SC.length cap0) (.slice a1 ng cap1) v2) (hv:v2.hl= .slice al nl capl):
  Calls prog 169 #[.pointer (some ⟨b,0,none⟩)] w λen w'=>But (· =b) w w'/\ ∃x j bad',en= .returned (itV x)/\XrB w' b s j bad' (.slice a0 SC.length cap0) (.slice a1 ng cap1) v2/\jm s SC ng nl i false x j bad':=by
 have a4:=hR.lt;have p3:=hR.c3;obtain⟨B,E,F⟩:=dU w b a4 #[.int .i64 0,.int .u8 0,.int .u8 0,.int .i64 0,S_] #[.int .i64 i,.int .u8 0,.int .u8 45,.int .i64 0,S_] 219;have C:=hR.but ((ag (λ_=>False) w (.cells #[.int .i64 0,.int .u8 0,.int .u8 0,.int .i64 0,S_] 219)).trans (ag _ _ (.cells #[.int .i64 i,.int .u8 0,.int .u8 45,.int .i64 0,S_] 219))) (λh=>h);have l:=hid (iU.mk B E F);have f:=hid (bT b s i false _ _ v2 _ hs C);rw[jX hlt,hpc]at f;have HK:=hid hc;obtain h|h:=hc
 all_goals
  first|have v:=aX (c:=c) 114 (by omega) |have v:=bA (c:=c) 114 (by omega)
  first|have z:=aX (c:=c) 119 (by omega) |have z:=bA (c:=c) 119 (by omega)
  first|have J:=aX (c:=c) 43 (by omega) |have J:=bA (c:=c) 43 (by omega)
  first|have L:=aX (c:=c) 45 (by omega) |have L:=bA (c:=c) 45 (by omega)
  first|have I:=aX (c:=c) 42 (by omega) |have I:=bA (c:=c) 42 (by omega)
  first|have M:=aX (c:=c) 47 (by omega) |have M:=bA (c:=c) 47 (by omega)
  first|have O:=aX (c:=c) 60 (by omega) |have O:=bA (c:=c) 60 (by omega)
  first|have P:=aX (c:=c) 61 (by omega) |have P:=bA (c:=c) 61 (by omega)
  first|have p:=aX (c:=c) 101 (by omega) |have p:=bA (c:=c) 101 (by omega)
  first|have A:=aX (c:=c) 122 (by omega) |have A:=bA (c:=c) 122 (by omega)
  first|have n:=aX (c:=c) 100 (by omega) |have n:=bA (c:=c) 100 (by omega)
  first|have y:=aX (c:=c) 116 (by omega) |have y:=bA (c:=c) 116 (by omega)
  first|have t:=aX (c:=c) 107 (by omega) |have t:=bA (c:=c) 107 (by omega)
  first|have r:=aX (c:=c) 106 (by omega) |have r:=bA (c:=c) 106 (by omega)
  first|have q:=aX (c:=c) 102 (by omega) |have q:=bA (c:=c) 102 (by omega)
  clear h;clear B C E F
  go_in
  go_wp2_with fail;refine f.out.mono ?_;rintro en w1 ⟨rfl,Q,T⟩;have a:=l.out.next (by omega) (by omega) Q;obtain⟨q0,q1,q2,q3,q4⟩:=bI a.item;obtain⟨f0,f1,f2,f3,f4⟩:=cI a.item;obtain⟨y0,y1,y2,y3,y4⟩:=bI a.box;obtain⟨g0,g1,g2,g3,g4⟩:=cI a.box;have D:=a.set1 (by omega) (by omega) (.int .u8 c.toNat);have X:=T.but (aq w1 (w.heap.size+1) 1 (.int .u8 c.toNat)) (by omega);have H:=hid D;clear a D l f p3;go_wp2_with fail;refine(uV b s (i+1) false _ _ v2 _ hs X).mono ?_;rintro en w5 ⟨rfl,S,g⟩;obtain⟨Z,G⟩: ∃Z,tgX s (i+1) false=Z:=⟨_,rfl⟩;rw[G]at g;rw[G];have HZ:=hid G;clear G;obtain⟨d,j5,b5⟩:=Z;dsimp only at g⊢
  clear q0 q1 q2 q3 q4 f0 f1 f2 f3 f4 y0 y1 y2 y3 y4 g0 g1 g2 g3 g4;have e:=H.out.next (by omega) (by omega) S;obtain⟨q0,q1,q2,q3,q4⟩:=bI e.item;obtain⟨f0,f1,f2,f3,f4⟩:=cI e.item;obtain⟨y0,y1,y2,y3,y4⟩:=bI e.box;obtain⟨g0,g1,g2,g3,g4⟩:=cI e.box;have a3:=e.set3 (by omega) (by omega) (.int .i64 d);have Y:=g.but (aq w5 (w.heap.size+1) 3 (.int .i64 d)) (by omega);have m:=hid (a3);have a2:=Y;go_wp2_with fail;exact nS results169 rfl rfl m.out.box (λw9 _ h9d=>⟨m.out.but.next h9d (λk hk h=>by omega),⟨i,c,45,d,none,0,0⟩,j5,b5,rfl,a2.but h9d (by omega),Dc hpc HK.out HZ.out⟩)
theorem qt (bad:Bool) (c:UInt8) (j1:Nat) (bad1:Bool) (hT:tbP s i bad=(c,j1,bad1)) (hn: ¬(c.toNat=114\/c.toNat=119\/c.toNat=43\/c.toNat=45\/c.toNat=42\/c.toNat=47\/c.toNat=60\/c.toNat=61\/c.toNat=101\/c.toNat=122\/c.toNat=100\/c.toNat=116\/c.toNat=107\/c.toNat=106\/c.toNat=102)) (hI: ∀x j bad',gy s SC ng nl i c j1 bad1=(x,j,bad')->jm s SC ng nl i bad x j bad') (hnc:SC.length<=4) (hng:ng<=3) (hnl:nl<=10) (hs:s.size<=2000)
  (hR:XrB w b s i bad (.slice a0 SC.length cap0) (.slice a1 ng cap1) v2) (hv:v2.hl= .slice al nl capl) (hG:c.toNat=103\/c.toNat=112->WfC SC/\TcV w base (.slice a0 SC.length cap0) (SC.map toX)) (hb:b<base):
  Calls prog 169 #[.pointer (some ⟨b,0,none⟩)] w λen w'=>But (· =b) w w'/\ ∃x j bad',en= .returned (itV x)/\XrB w' b s j bad' (.slice a0 SC.length cap0) (.slice a1 ng cap1) v2/\jm s SC ng nl i bad x j bad':=by
 have J:=hR.lt;have p3:=hR.c3;obtain⟨r,y,z⟩:=dU w b J #[.int .i64 0,.int .u8 0,.int .u8 0,.int .i64 0,S_] #[.int .i64 i,.int .u8 0,.int .u8 45,.int .i64 0,S_] 219;have t:=hR.but ((ag (λ_=>False) w (.cells #[.int .i64 0,.int .u8 0,.int .u8 0,.int .i64 0,S_] 219)).trans (ag _ _ (.cells #[.int .i64 i,.int .u8 0,.int .u8 45,.int .i64 0,S_] 219))) (λh=>h);have n:=hid (iU.mk r y z);have f:=hid (bT b s i bad _ _ v2 _ hs t);rw[hT]at f;have S:=aX (c:=c) 114 (by omega);have X:=aX (c:=c) 119 (by omega);have a3:=aX (c:=c) 43 (by omega);have a4:=aX (c:=c) 45 (by omega)
 have a2:=aX (c:=c) 42 (by omega);have a5:=aX (c:=c) 47 (by omega);have a6:=aX (c:=c) 60 (by omega);have a7:=aX (c:=c) 61 (by omega);have M:=aX (c:=c) 101 (by omega);have Y:=aX (c:=c) 122 (by omega);have L:=aX (c:=c) 100 (by omega);have T:=aX (c:=c) 116 (by omega);have Q:=aX (c:=c) 107 (by omega);have P:=aX (c:=c) 106 (by omega);have O:=aX (c:=c) 102 (by omega);clear hn;clear r t y z
 go_in
 go_wp2_with fail;refine f.out.mono ?_;rintro en w1 ⟨rfl,C,F⟩;have a:=n.out.next (by omega) (by omega) C;obtain⟨q0,q1,q2,q3,q4⟩:=bI a.item;obtain⟨Z,f1,f2,f3,f4⟩:=cI a.item;obtain⟨y0,y1,y2,y3,y4⟩:=bI a.box;obtain⟨g0,g1,g2,g3,g4⟩:=cI a.box;have v:=a.set1 (by omega) (by omega) (.int .u8 c.toNat);have G:=F.but (aq w1 (w.heap.size+1) 1 (.int .u8 c.toNat)) (by omega);have p:=hid v;clear a v n f p3;have m:=hid (λh=>hG h);have A:=hid hI;clear hG hI;have l:=rY b base s j1 SC a0 a1 al ng nl cap0 cap1 capl v2 (w1.setCell ⟨w.heap.size+1,1,none⟩ (.int .u8 c.toNat)) i bad1 c hnc hng hnl hs G hv (λh=>⟨(m.out h).1,(m.out h).2.but p.out.but (λg e cur _ _ hg he=>by omega)⟩) hb
 unfold itV at l;have B:=hid l;clear l;go_wp2_with fail;refine B.out.mono ?_;rintro en w3 ⟨D,x,j3,b3,rfl,H,E⟩;clear q0 q1 q2 q3 q4 Z f1 f2 f3 f4 y0 y1 y2 y3 y4 g0 g1 g2 g3 g4;have d:=p.out.next (by omega) (by omega) D;obtain⟨q0,q1,q2,q3,q4⟩:=bI d.item;obtain⟨Z,f1,f2,f3,f4⟩:=cI d.item;obtain⟨y0,y1,y2,y3,y4⟩:=bI d.box;obtain⟨g0,g1,g2,g3,g4⟩:=cI d.box;have q:=hid (d);have I:=H;go_wp2_with fail;exact nS results169 rfl rfl q.out.box (λw9 _ h9d=>⟨q.out.but.next h9d (λk hk h=>by omega),x,j3,b3,rfl,I.but h9d (by omega),A.out _ _ _ E⟩)
theorem xp (bad:Bool) (hG:bad=true\/(WfC SC/\TcV w base (.slice a0 SC.length cap0) (SC.map toX))) (hnc:SC.length<=4) (hng:ng<=3) (hnl:nl<=10) (hs:s.size<=2000)
  (hR:XrB w b s i bad (.slice a0 SC.length cap0) (.slice a1 ng cap1) v2) (hv:v2.hl= .slice al nl capl) (hb:b<base):
  Calls prog 169 #[.pointer (some ⟨b,0,none⟩)] w λen w'=>But (· =b) w w'/\ ∃x j bad',en= .returned (itV x)/\XrB w' b s j bad' (.slice a0 SC.length cap0) (.slice a1 ng cap1) v2/\jm s SC ng nl i bad x j bad':=by
 by_cases hz:bad=true\/s.size<=i
 .refine qt b base s i SC a0 a1 al ng nl cap0 cap1 capl v2 w bad 0 i true (lM hz) (by decide) (λx j bad' h=> ?_) hnc hng hnl hs hR hv (λh=>by simp at h) hb;rw[uX]at h;obtain⟨rfl,rfl,rfl⟩:=(by simpa using h:_/\_/\_);exact C9 hz
 have f:=not_or.1 hz;have d:bad=false:=by simpa using f.1
 subst d;have a:i<s.size:=by omega
 have c:WfC SC/\TcV w base (.slice a0 SC.length cap0) (SC.map toX):=by rcases hG with h|h;cases h;exact h
 have e: ∀n:Nat,n<256->(pk s i).toNat=n->pk s i=UInt8.ofNat n:=λn hn h=>(u8n hn).1 h
 by_cases ha:(pk s i).toNat=114\/(pk s i).toNat=119\/(pk s i).toNat=43\/(pk s i).toNat=45\/(pk s i).toNat=42\/(pk s i).toNat=47\/(pk s i).toNat=60\/(pk s i).toNat=61\/(pk s i).toNat=101\/(pk s i).toNat=122\/(pk s i).toNat=100\/(pk s i).toNat=116
 .exact Et b s i SC a0 a1 al ng nl cap0 cap1 capl v2 w _ a rfl ha hnc hng hnl hs hR hv
 by_cases hd:(pk s i).toNat=107
 .exact Eu b s i SC a0 a1 al ng nl cap0 cap1 capl v2 w _ a rfl hd hnc hng hnl hs hR hv
 by_cases ht:(pk s i).toNat=106\/(pk s i).toNat=102
 .exact Ew b s i SC a0 a1 al ng nl cap0 cap1 capl v2 w _ a rfl ht hnc hng hnl hs hR hv
 exact qt b base s i SC a0 a1 al ng nl cap0 cap1 capl v2 w false (pk s i) (i+1) false (jX a) (by omega) (λx j bad' h=>uW hnc rfl (by omega) h) hnc hng hnl hs hR hv (λ_=>c) hb
end
end
end Go.Proofs.YtpfkkmacakjmbaaGreatDoor
