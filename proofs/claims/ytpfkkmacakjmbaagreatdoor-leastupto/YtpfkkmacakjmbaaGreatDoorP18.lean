import Derived.Test.YtpfkkmacakjmbaaGreatDoorP17
set_option maxRecDepth 100000
set_option maxHeartbeats 6400000
set_option linter.unusedSimpArgs false
set_option linter.unusedVariables false
namespace Go.Proofs.YtpfkkmacakjmbaaGreatDoor
section
open Go Go.RowKit Sp
def nN (s:ByteArray) (cs:List Cls) (ns nl i:Nat) (bad:Bool):Except Nat (Ins×Nat):=if bad=true then .error i else j6 s cs ns nl i
def fO (s:ByteArray) (cs:List Cls) (ns nl i:Nat) (bad:Bool) (x:XIt) (j:Nat) (bad':Bool):Prop:=
 (bad'=false∧ ∃y,nN s cs ns nl i bad= .ok (y,j)∧x=bj y)∨(bad'=true∧nN s cs ns nl i bad= .error j)
section
variable {s:ByteArray} {cs:List Cls} {ns nl i:Nat}
theorem zj {bad:Bool} {x:XIt} (h:bad=true∨s.size≤i):fO s cs ns nl i bad x i true:=by
 right
 refine⟨rfl,?_⟩;unfold nN
 cases bad with
 |true=>rfl
 |false=>
  rcases h with h|h
  ·cases h
  ·simp only[Bool.false_eq_true,if_false];unfold j6;rw[mG h]
   rfl
theorem An {x:XIt} (h:bZ.contains (pk s i).toNat=false):fO s cs ns nl i false x i true:=by
 right
 refine⟨rfl,?_⟩;simp only[nN,Bool.false_eq_true,if_false,j6,h]
theorem ld {c:UInt8} (hc:pk s i=c) (hl:bZ.contains c.toNat=true) {a n j:Nat} (h:aY s cs ns nl c.toNat (i+1)= .ok (a,n,j)):fO s cs ns nl i false (bj ⟨c,a,n,i⟩) j false:=by
 left
 refine⟨rfl,_,?_,rfl⟩;simp only[nN,Bool.false_eq_true,if_false,j6,hc,hl,if_true,h]
theorem gD {c:UInt8} (hc:pk s i=c) (hl:bZ.contains c.toNat=true) {x:XIt} {j:Nat} (h:aY s cs ns nl c.toNat (i+1)= .error j):fO s cs ns nl i false x j true:=by
 right
 refine⟨rfl,?_⟩;simp only[nN,Bool.false_eq_true,if_false,j6,hc,hl,if_true,h]
theorem u5 {c:UInt8} (hc:pk s i=c) (hl:bZ.contains c.toNat=true) (h:aY s cs ns nl c.toNat (i+1)= .ok (0,0,i+1)) (hn: ¬(c.toNat=110∨c.toNat=120∨c.toNat=103∨c.toNat=112∨c.toNat=99)):fO s cs ns nl i false ⟨i,c,45,0,none,0,0⟩ (i+1) false:=by
 have:=ld hc hl h;rw[bj]at this;simp only at this;rw[if_neg hn]at this;exact this
theorem ud {c:UInt8} {n:Nat} (hc:pk s i=c) (h:(c.toNat=107∧n=10)∨((c.toNat=108∨c.toNat=115)∧n=nl)) {Y:Nat×Nat×Bool} (hY:dgX s n (i+1) false=Y):fO s cs ns nl i false ⟨i,c,45,Y.1,none,0,0⟩ Y.2.1 Y.2.2:=by
 have hl:bZ.contains c.toNat=true:=by rcases h with⟨h,_⟩ | ⟨h|h,_⟩<;>(rw[h];decide)
 have ho:aY s cs ns nl c.toNat (i+1)=match de s n (i+1)with
  | .ok (b,j)=> .ok (0,b,j)
  | .error j=> .error j:=by
  unfold aY;rcases h with⟨h,rfl⟩ | ⟨h,rfl⟩
  ·rw[if_neg (by omega),if_pos h];rfl
  ·rw[if_pos h];rfl
 subst hY;unfold de at ho
 cases hd:dM n (pk s (i+1))with
 |true=>
  rw[kY hd];rw[hd]at ho;have:=ld hc hl ho;rw[bj]at this;simp only at this;rw[if_neg (by rcases h with⟨h,_⟩ | ⟨h|h,_⟩<;>omega)]at this;exact this
 |false=>
  rw[gH (Or.inr hd)];rw[hd]at ho;exact gD hc hl ho
theorem mO {n:Nat} {c:UInt8} (h:aI n c=true) (hn:n≤4):UInt8.ofNat (65+(c.toNat-65))=c:=by
 simp only[aI,Bool.and_eq_true,decide_eq_true_eq]at h
 apply UInt8.toNat_inj.1
 have:=c.toNat_lt;simp;omega
theorem zk {c:UInt8} (hnc:cs.length≤4) (hc:pk s i=c) (h:c.toNat=110∨c.toNat=120) {Y:UInt8×Nat×Bool} (hY:ltX s cs.length (i+1) false=Y):fO s cs ns nl i false ⟨i,c,Y.1,0,none,0,0⟩ Y.2.1 Y.2.2:=by
 have hl:bZ.contains c.toNat=true:=by rcases h with h|h<;>(rw[h];decide)
 have ho:aY s cs ns nl c.toNat (i+1)=match dH s cs.length (i+1)with
  | .ok (a,j)=> .ok (a,0,j)
  | .error j=> .error j:=by
  unfold aY;rw[if_neg (by omega),if_neg (by omega),if_pos h]
  rfl
 subst hY;unfold dH at ho
 cases hd:aI cs.length (pk s (i+1))with
 |true=>
  rw[pJ hd];rw[hd]at ho;have:=ld hc hl ho;rw[bj]at this;simp only at this;rw[if_pos (by omega),mO hd hnc]at this;exact this
 |false=>
  rw[pK (Or.inr hd)];rw[hd]at ho;exact gD hc hl ho
theorem iv {a:Nat} {c:UInt8} (hd:aI cs.length c=true):bU cs (c.toNat-65)=(bX (cs.map toX) c).length:=by
 unfold bU bX;rw[List.length_map,if_pos hd,List.getElem?_map]
 cases cs[c.toNat-65]?<;>rfl
theorem zl {c:UInt8} (hnc:cs.length≤4) (hc:pk s i=c) (h:c.toNat=103∨c.toNat=112) {Y:UInt8×Nat×Bool} (hY:ltX s cs.length (i+1) false=Y) {Z:Nat×Nat×Bool} (hZ:dgX s (bX (cs.map toX) Y.1).length Y.2.1 Y.2.2=Z):fO s cs ns nl i false ⟨i,c,Y.1,Z.1,none,0,0⟩ Z.2.1 Z.2.2:=by
 have hl:bZ.contains c.toNat=true:=by rcases h with h|h<;>(rw[h];decide)
 have ho:aY s cs ns nl c.toNat (i+1)=match dH s cs.length (i+1)with
  | .error j=> .error j
  | .ok (a,j)=>
   match de s (bU cs a) j with
   | .ok (b,l)=> .ok (a,b,l)
   | .error l=> .error l:=by
  unfold aY;rw[if_neg (by omega),if_neg (by omega),if_neg (by omega),if_pos h]
  rfl
 subst hY;subst hZ;unfold dH at ho
 cases hd:aI cs.length (pk s (i+1))with
 |true=>
  rw[pJ hd];rw[hd]at ho;simp only[if_true]at ho⊢;rw[iv (a:=0) hd]at ho;unfold de at ho
  cases he:dM (bX (cs.map toX) (pk s (i+1))).length (pk s (i+1+1))with
  |true=>
   rw[kY he];rw[he]at ho;have:=ld hc hl ho;rw[bj]at this;simp only at this;rw[if_pos (by omega),mO hd hnc]at this;exact this
  |false=>
   rw[gH (Or.inr he)];rw[he]at ho;exact gD hc hl ho
 |false=>
  rw[pK (Or.inr hd)];simp only;rw[gH (Or.inl rfl)];rw[hd]at ho;exact gD hc hl ho
theorem xD {c:UInt8} (hnc:cs.length≤4) (hc:pk s i=c) (h:c.toNat=99) {Y:UInt8×Nat×Bool} (hY:ltX s cs.length (i+1) false=Y) {Z:Nat×Nat×Bool} (hZ:dgX s ns Y.2.1 Y.2.2=Z):fO s cs ns nl i false ⟨i,c,Y.1,Z.1,none,0,0⟩ Z.2.1 Z.2.2:=by
 have hl:bZ.contains c.toNat=true:=by rw[h];decide
 have ho:aY s cs ns nl c.toNat (i+1)=match dH s cs.length (i+1)with
  | .error j=> .error j
  | .ok (a,j)=>
   match de s ns j with
   | .ok (b,l)=> .ok (a,b,l)
   | .error l=> .error l:=by
  unfold aY;rw[if_neg (by omega),if_neg (by omega),if_neg (by omega),if_neg (by omega),if_pos h]
  rfl
 subst hY;subst hZ;unfold dH at ho
 cases hd:aI cs.length (pk s (i+1))with
 |true=>
  rw[pJ hd];rw[hd]at ho;simp only[if_true]at ho⊢;unfold de at ho
  cases he:dM ns (pk s (i+1+1))with
  |true=>
   rw[kY he];rw[he]at ho;have:=ld hc hl ho;rw[bj]at this;simp only at this;rw[if_pos (by omega),mO hd hnc]at this;exact this
  |false=>
   rw[gH (Or.inr he)];rw[he]at ho;exact gD hc hl ho
 |false=>
  rw[pK (Or.inr hd)];simp only;rw[gH (Or.inl rfl)];rw[hd]at ho;exact gD hc hl ho
theorem zm {c:UInt8} (hc:pk s i=c) (h:c.toNat=106∨c.toNat=102) {Z:Nat×Nat×Bool} (hZ:tgX s (i+1) false=Z):fO s cs ns nl i false ⟨i,c,45,Z.1,none,0,0⟩ Z.2.1 Z.2.2:=by
 have hl:bZ.contains c.toNat=true:=by rcases h with h|h<;>(rw[h];decide)
 have ho:aY s cs ns nl c.toNat (i+1)=match de s 10 (i+1)with
  | .error j=> .error j
  | .ok (a,j)=>
   match de s 10 j with
   | .ok (b,l)=> .ok (0,10*a+b,l)
   | .error l=> .error l:=by
  unfold aY;rw[if_neg (by omega),if_neg (by omega),if_neg (by omega),if_neg (by omega),if_neg (by omega),if_pos h]
  rfl
 subst hZ;unfold tgX;unfold de at ho
 cases hd:dM 10 (pk s (i+1))with
 |true=>
  rw[kY hd];rw[hd]at ho;simp only[if_true]at ho⊢
  cases he:dM 10 (pk s (i+1+1))with
  |true=>
   rw[kY he];rw[he]at ho;have:=ld hc hl ho;rw[bj]at this;simp only at this;rw[if_neg (by omega)]at this;exact this
  |false=>
   rw[gH (Or.inr he)];rw[he]at ho;exact gD hc hl ho
 |false=>
  rw[gH (Or.inr hd)];simp only;rw[gH (Or.inl rfl)];rw[hd]at ho;exact gD hc hl ho
end
end
section
open Go Go.RowKit Sp
attribute [local go_sem ↓] Go.wp_at_zero Go.wp_at_succ
theorem kA {fn:Func} {R:Ending→World→Prop} {a:Act} {w:World} {c g:Nat} {a0 a1 a2 a3 a4 x0 x1 x2 x3 x4:Value} (hf:fn.results=#[.cell c 219]) (hd:a.defers=[]) (hc:a.tmps.getD c undef= .pointer (some ⟨g,0,none⟩)) (h:w.heap[g]?=some (.cells #[a0,a1,a2,a3,a4] 219)) (hR: ∀w9,w9.heap[g]?=some (.cells #[x0,x1,x2,x3,x4] 219)→But (· =g) w w9→R (.returned (.agg #[x0,x1,x2,x3,x4])) w9):bodyPost Tryz.prog fn R .ret a (((((w.setCell ⟨g,0,none⟩ x0).setCell ⟨g,1,none⟩ x1).setCell ⟨g,2,none⟩ x2).setCell ⟨g,3,none⟩ x3).setCell ⟨g,4,none⟩ x4):=by
 have h9:=eO h x0 x1 x2 x3 x4;have r0:=ce0 h9;have r1:=ce1 h9;have r2:=ce2 h9;have r3:=ce3 h9;have r4:=ce4 h9;refine bodyPost_ret (v:= .agg #[x0,x1,x2,x3,x4]) ?_ hd (hR _ h9 (fN w g x0 x1 x2 x3 x4));have a5:a.tmps[c]?.getD undef= .pointer (some ⟨g,0,none⟩):=by simpa using hc
 unfold pH at r0 r1 r2 r3 r4;simp[results,hf,a5,go_sem,r0,r1,r2,r3,r4]
structure fq (w w1:World) (b g h:Nat) (p o c n:Value):Prop where
 but:But (· =b) w w1
 box:w1.heap[g]?=some (.cells #[.int .i64 0,.int .u8 0,.int .u8 0,.int .i64 0,.slice none 0 0] 219)
 item:w1.heap[h]?=some (.cells #[p,o,c,n,.slice none 0 0] 219)
theorem fq.next {w w1 w2:World} {b g h:Nat} {p o c n:Value} (x:fq w w1 b g h p o c n) (hg:b<g) (hh:b<h) (h2:But (· =b) w1 w2):fq w w2 b g h p o c n:=
 ⟨x.but.trans h2,(h2.block _ (ae x.box) (by omega)).trans x.box,(h2.block _ (ae x.item) (by omega)).trans x.item⟩
theorem fq.set1 {w w1:World} {b g h:Nat} {p o c n:Value} (x:fq w w1 b g h p o c n) (hh:w.heap.size≤h) (hgh:g≠h) (v:Value):fq w (w1.setCell ⟨h,1,none⟩ v) b g h p v c n:=
 ⟨x.but.next (But.setB _ _ _ _) (fun j hj e=>by omega),((But.setB w1 h 1 v).block _ (ae x.box) (by omega)).trans x.box,heap_setCell_same w1 h 1 _ _ v x.item⟩
theorem fq.set2 {w w1:World} {b g h:Nat} {p o c n:Value} (x:fq w w1 b g h p o c n) (hh:w.heap.size≤h) (hgh:g≠h) (v:Value):fq w (w1.setCell ⟨h,2,none⟩ v) b g h p o v n:=
 ⟨x.but.next (But.setB _ _ _ _) (fun j hj e=>by omega),((But.setB w1 h 2 v).block _ (ae x.box) (by omega)).trans x.box,heap_setCell_same w1 h 2 _ _ v x.item⟩
theorem fq.set3 {w w1:World} {b g h:Nat} {p o c n:Value} (x:fq w w1 b g h p o c n) (hh:w.heap.size≤h) (hgh:g≠h) (v:Value):fq w (w1.setCell ⟨h,3,none⟩ v) b g h p o c v:=
 ⟨x.but.next (But.setB _ _ _ _) (fun j hj e=>by omega),((But.setB w1 h 3 v).block _ (ae x.box) (by omega)).trans x.box,heap_setCell_same w1 h 3 _ _ v x.item⟩
theorem cQ (w:World) (b:Nat) (hb:b<w.heap.size) (A B:Array Value) (t:Nat):But (· =b) w ((w.alloc (.cells A t)).alloc (.cells B t))∧((w.alloc (.cells A t)).alloc (.cells B t)).heap[w.heap.size]?=some (.cells A t)∧((w.alloc (.cells A t)).alloc (.cells B t)).heap[w.heap.size+1]?=some (.cells B t):=by
 refine⟨(But.alloc _ _ _).trans (But.alloc _ _ _),?_,CB (by simp) _⟩;rw[(But.alloc (fun _=>False) (w.alloc (.cells A t)) (.cells B t)).block w.heap.size (ae (heap_alloc_new w _)) (fun h=>h)];exact heap_alloc_new w _
theorem bK {w:World} {g t:Nat} {x0 x1 x2 x3 x4:Value} (h:w.heap[g]?=some (.cells #[x0,x1,x2,x3,x4] t)):
  w.frozen? ⟨g,0,none⟩=false∧w.frozen? ⟨g,1,none⟩=false∧w.frozen? ⟨g,2,none⟩=false∧w.frozen? ⟨g,3,none⟩=false∧w.frozen? ⟨g,4,none⟩=false:=
 ⟨frozen_of_row w g 0 _ _ h,frozen_of_row w g 1 _ _ h,frozen_of_row w g 2 _ _ h,frozen_of_row w g 3 _ _ h,frozen_of_row w g 4 _ _ h⟩
theorem aV {c:UInt8} (m:Int) (h:(c.toNat:Int)=m):((c.toNat:Int)==m)=true:=beq_iff_eq.2 h
theorem aM {c:UInt8} (m:Int) (h:(c.toNat:Int)≠m):((c.toNat:Int)==m)=false:=beq_eq_false_iff_ne.2 h
def ej (s:ByteArray) (SC:List Cls) (ng nl p:Nat) (c:UInt8) (j:Nat) (bad:Bool):XIt×Nat×Bool:=
 if c.toNat=108∨c.toNat=115 then(⟨p,c,45,(dgX s nl j bad).1,none,0,0⟩,(dgX s nl j bad).2.1,(dgX s nl j bad).2.2)
 else if c.toNat=110∨c.toNat=120 then(⟨p,c,(ltX s SC.length j bad).1,0,none,0,0⟩,(ltX s SC.length j bad).2.1,(ltX s SC.length j bad).2.2)
 else if c.toNat=103∨c.toNat=112 then(⟨p,c,(ltX s SC.length j bad).1,(dgX s (bX (SC.map toX) (ltX s SC.length j bad).1).length (ltX s SC.length j bad).2.1 (ltX s SC.length j bad).2.2).1,none,0,0⟩,(dgX s (bX (SC.map toX) (ltX s SC.length j bad).1).length (ltX s SC.length j bad).2.1 (ltX s SC.length j bad).2.2).2.1,(dgX s (bX (SC.map toX) (ltX s SC.length j bad).1).length (ltX s SC.length j bad).2.1 (ltX s SC.length j bad).2.2).2.2)
 else if c.toNat=99 then(⟨p,c,(ltX s SC.length j bad).1,(dgX s ng (ltX s SC.length j bad).2.1 (ltX s SC.length j bad).2.2).1,none,0,0⟩,(dgX s ng (ltX s SC.length j bad).2.1 (ltX s SC.length j bad).2.2).2.1,(dgX s ng (ltX s SC.length j bad).2.1 (ltX s SC.length j bad).2.2).2.2)
 else(⟨p,c,45,0,none,0,0⟩,if bad=true then j else p,true)
theorem u6 {s:ByteArray} {SC:List Cls} {ng nl p:Nat} {c:UInt8} {j:Nat} {bad:Bool} (hc:c.toNat=103∨c.toNat=112) {Y:UInt8×Nat×Bool} (hY:ltX s SC.length j bad=Y) {F:Nat} (hF:(bX (SC.map toX) Y.1).length=F) {Z:Nat×Nat×Bool} (hZ:dgX s F Y.2.1 Y.2.2=Z):ej s SC ng nl p c j bad=(⟨p,c,Y.1,Z.1,none,0,0⟩,Z.2.1,Z.2.2):=by
 unfold ej;rw[if_neg (by omega),if_neg (by omega),if_pos hc,hY,hF,hZ]
section
variable (b base:Nat) (s:ByteArray) (i:Nat) (SC:List Cls) (a0 a1 al:Option Addr) (ng nl cap0 cap1 capl:Nat) (v2:RdV) (w:World)
theorem Ao (p:Nat) (bad:Bool) (c:UInt8) (h108:c.toNat≠108) (h115:c.toNat≠115) (h110:c.toNat≠110) (h120:c.toNat≠120) (h103:c.toNat≠103) (h112:c.toNat≠112) (h99:c.toNat≠99) (hnc:SC.length≤4) (hng:ng≤3) (hnl:nl≤10) (hs:s.size≤2000)
  (hR:XrB w b s i bad (.slice a0 SC.length cap0) (.slice a1 ng cap1) v2) (hv:v2.hl= .slice al nl capl):
  Calls Tryz.prog 223 #[.pointer (some ⟨b,0,none⟩),itV ⟨p,c,45,0,none,0,0⟩] w fun en w'=>But (· =b) w w'∧ ∃x j bad',en= .returned (itV x)∧XrB w' b s j bad' (.slice a0 SC.length cap0) (.slice a1 ng cap1) v2∧ej s SC ng nl p c i bad=(x,j,bad'):=by
 have e2:=hR.lt;obtain⟨nc,a2⟩: ∃nc,SC.length=nc:=⟨_,rfl⟩;have e3:=hid hnc;have e4:=hid a2;rw[a2]at hR hnc;simp only[a2];have b1:=aM (c:=c) 108 (by omega);have b4:=aM (c:=c) 115 (by omega);have b2:=aM (c:=c) 110 (by omega);have b5:=aM (c:=c) 120 (by omega);have b0:=aM (c:=c) 103 (by omega);have b3:=aM (c:=c) 112 (by omega);have e5:=aM (c:=c) 99 (by omega);clear a2;obtain⟨a6,a7,a8⟩:=cQ w b e2 #[.int .i64 p,.int .u8 c.toNat,.int .u8 45,.int .i64 0,.slice none 0 0] #[.int .i64 0,.int .u8 0,.int .u8 0,.int .i64 0,.slice none 0 0] 219;have c7:=hR.but ((But.alloc (fun _=>False) w (.cells #[.int .i64 p,.int .u8 c.toNat,.int .u8 45,.int .i64 0,.slice none 0 0] 219)).trans (But.alloc _ _ (.cells #[.int .i64 0,.int .u8 0,.int .u8 0,.int .i64 0,.slice none 0 0] 219))) (fun h=>h)
 have a3:=hid (fq.mk a6 a8 a7);clear a6 a7 a8;unfold itV;dsimp only;simp only[show(UInt8.toNat 45)=45 from rfl]
 go_in
 go_wp2_with fail;revert a3 c7;generalize ((w.alloc (.cells #[.int .i64 p,.int .u8 c.toNat,.int .u8 45,.int .i64 0,.slice none 0 0] 219)).alloc (.cells #[.int .i64 0,.int .u8 0,.int .u8 0,.int .i64 0,.slice none 0 0] 219))=W;intro d6 a3;obtain⟨q0,q1,q2,q3,q4⟩:=bc a3.out.item;obtain⟨f0,f1,f2,f3,f4⟩:=bK a3.out.item;obtain⟨y0,y1,y2,y3,y4⟩:=bc a3.out.box;obtain⟨g0,g1,g2,g3,g4⟩:=bK a3.out.box;refine(gz b s i bad _ _ v2 _ p d6).mono ?_;rintro en w3 ⟨rfl,b6,e0⟩;clear q0 q1 q2 q3 q4 f0 f1 f2 f3 f4 y0 y1 y2 y3 y4 g0 g1 g2 g3 g4;have a4:=a3.out.next (by omega) (by omega) b6;obtain⟨q0,q1,q2,q3,q4⟩:=bc a4.item
 obtain⟨f0,f1,f2,f3,f4⟩:=bK a4.item;obtain⟨y0,y1,y2,y3,y4⟩:=bc a4.box;obtain⟨g0,g1,g2,g3,g4⟩:=bK a4.box;have a5:=hid (a4);have e1:=e0;go_wp2_with fail;exact kA Tryz.results223 rfl rfl a5.out.box (fun w9 _ h9d=>⟨a5.out.but.next h9d (fun k hk h=>by omega),⟨p,c,45,0,none,0,0⟩,(if bad=true then i else p),true,rfl,e1.but h9d (by omega),by simp[ej,h108,h115,h110,h120,h103,h112,h99]⟩)
theorem A1 (p:Nat) (bad:Bool) (c:UInt8) (hc:c.toNat=108∨c.toNat=115) (hnc:SC.length≤4) (hng:ng≤3) (hnl:nl≤10) (hs:s.size≤2000)
  (hR:XrB w b s i bad (.slice a0 SC.length cap0) (.slice a1 ng cap1) v2) (hv:v2.hl= .slice al nl capl):
  Calls Tryz.prog 223 #[.pointer (some ⟨b,0,none⟩),itV ⟨p,c,45,0,none,0,0⟩] w fun en w'=>But (· =b) w w'∧ ∃x j bad',en= .returned (itV x)∧XrB w' b s j bad' (.slice a0 SC.length cap0) (.slice a1 ng cap1) v2∧ej s SC ng nl p c i bad=(x,j,bad'):=by
 have e6:=hR.lt;obtain⟨nc,a2⟩: ∃nc,SC.length=nc:=⟨_,rfl⟩;have e7:=hid hnc;have e8:=hid a2;rw[a2]at hR hnc;simp only[a2];have d3:=hR.d3;rw[hv]at d3;have HK:=hid hc;rcases hc with h|h
 all_goals
  first|have a6:=aM (c:=c) 108 (by omega) |have a6:=aV (c:=c) 108 (by omega)
  first|have b0:=aM (c:=c) 115 (by omega) |have b0:=aV (c:=c) 115 (by omega)
  first|have a7:=aM (c:=c) 110 (by omega) |have a7:=aV (c:=c) 110 (by omega)
  first|have b1:=aM (c:=c) 120 (by omega) |have b1:=aV (c:=c) 120 (by omega)
  first|have a5:=aM (c:=c) 103 (by omega) |have a5:=aV (c:=c) 103 (by omega)
  first|have a8:=aM (c:=c) 112 (by omega) |have a8:=aV (c:=c) 112 (by omega)
  first|have d6:=aM (c:=c) 99 (by omega) |have d6:=aV (c:=c) 99 (by omega)
  clear h;clear a2;obtain⟨b4,b6,c7⟩:=cQ w b e6 #[.int .i64 p,.int .u8 c.toNat,.int .u8 45,.int .i64 0,.slice none 0 0] #[.int .i64 0,.int .u8 0,.int .u8 0,.int .i64 0,.slice none 0 0] 219;have e1:=hR.but ((But.alloc (fun _=>False) w (.cells #[.int .i64 p,.int .u8 c.toNat,.int .u8 45,.int .i64 0,.slice none 0 0] 219)).trans (But.alloc _ _ (.cells #[.int .i64 0,.int .u8 0,.int .u8 0,.int .i64 0,.slice none 0 0] 219))) (fun h=>h);have a3:=hid (fq.mk b4 c7 b6);clear b4 b6 c7;unfold itV;dsimp only;simp only[show(UInt8.toNat 45)=45 from rfl]
  go_in
  go_wp2_with fail;revert a3 e1;generalize ((w.alloc (.cells #[.int .i64 p,.int .u8 c.toNat,.int .u8 45,.int .i64 0,.slice none 0 0] 219)).alloc (.cells #[.int .i64 0,.int .u8 0,.int .u8 0,.int .i64 0,.slice none 0 0] 219))=W;intro e2 a3;obtain⟨q0,q1,q2,q3,q4⟩:=bc a3.out.item;obtain⟨f0,f1,f2,f3,f4⟩:=bK a3.out.item;obtain⟨y0,y1,y2,y3,y4⟩:=bc a3.out.box;obtain⟨g0,g1,g2,g3,g4⟩:=bK a3.out.box;refine(cM b s i bad _ _ v2 _ nl (by omega) hs e2).mono ?_;rintro en w5 ⟨rfl,e0,b2⟩;obtain⟨Z,hZ⟩: ∃Z,dgX s nl i bad=Z:=⟨_,rfl⟩;rw[hZ]at b2;rw[hZ];have HZ:=hid hZ;clear hZ;obtain⟨d,j5,b5⟩:=Z;dsimp only at b2⊢;clear d3 q0 q1 q2 q3 q4 f0 f1 f2 f3 f4 y0 y1 y2 y3 y4 g0 g1 g2 g3 g4
  have a4:=a3.out.next (by omega) (by omega) e0;obtain⟨q0,q1,q2,q3,q4⟩:=bc a4.item;obtain⟨f0,f1,f2,f3,f4⟩:=bK a4.item;obtain⟨y0,y1,y2,y3,y4⟩:=bc a4.box;obtain⟨g0,g1,g2,g3,g4⟩:=bK a4.box;have e5:=a4.set3 (by omega) (by omega) (.int .i64 d);have e3:=b2.but (But.setB w5 w.heap.size 3 (.int .i64 d)) (by omega);have b3:=hid (e5);have e4:=e3;go_wp2_with fail;exact kA Tryz.results223 rfl rfl b3.out.box (fun w9 _ h9d=>⟨b3.out.but.next h9d (fun k hk h=>by omega),⟨p,c,45,d,none,0,0⟩,j5,b5,rfl,e4.but h9d (by omega),by unfold ej;rw[if_pos HK.out,HZ.out]⟩)
theorem A2 (p:Nat) (bad:Bool) (c:UInt8) (hc:c.toNat=110∨c.toNat=120) (hnc:SC.length≤4) (hng:ng≤3) (hnl:nl≤10) (hs:s.size≤2000)
  (hR:XrB w b s i bad (.slice a0 SC.length cap0) (.slice a1 ng cap1) v2) (hv:v2.hl= .slice al nl capl):
  Calls Tryz.prog 223 #[.pointer (some ⟨b,0,none⟩),itV ⟨p,c,45,0,none,0,0⟩] w fun en w'=>But (· =b) w w'∧ ∃x j bad',en= .returned (itV x)∧XrB w' b s j bad' (.slice a0 SC.length cap0) (.slice a1 ng cap1) v2∧ej s SC ng nl p c i bad=(x,j,bad'):=by
 have e7:=hR.lt;obtain⟨nc,a2⟩: ∃nc,SC.length=nc:=⟨_,rfl⟩;have e8:=hid hnc;have d6:=hid a2;rw[a2]at hR hnc;simp only[a2];have HK:=hid hc;rcases hc with h|h
 all_goals
  first|have a6:=aM (c:=c) 108 (by omega) |have a6:=aV (c:=c) 108 (by omega)
  first|have b0:=aM (c:=c) 115 (by omega) |have b0:=aV (c:=c) 115 (by omega)
  first|have a7:=aM (c:=c) 110 (by omega) |have a7:=aV (c:=c) 110 (by omega)
  first|have b1:=aM (c:=c) 120 (by omega) |have b1:=aV (c:=c) 120 (by omega)
  first|have a5:=aM (c:=c) 103 (by omega) |have a5:=aV (c:=c) 103 (by omega)
  first|have a8:=aM (c:=c) 112 (by omega) |have a8:=aV (c:=c) 112 (by omega)
  first|have e0:=aM (c:=c) 99 (by omega) |have e0:=aV (c:=c) 99 (by omega)
  clear h;clear a2;obtain⟨b5,b6,c7⟩:=cQ w b e7 #[.int .i64 p,.int .u8 c.toNat,.int .u8 45,.int .i64 0,.slice none 0 0] #[.int .i64 0,.int .u8 0,.int .u8 0,.int .i64 0,.slice none 0 0] 219;have e2:=hR.but ((But.alloc (fun _=>False) w (.cells #[.int .i64 p,.int .u8 c.toNat,.int .u8 45,.int .i64 0,.slice none 0 0] 219)).trans (But.alloc _ _ (.cells #[.int .i64 0,.int .u8 0,.int .u8 0,.int .i64 0,.slice none 0 0] 219))) (fun h=>h);have a3:=hid (fq.mk b5 c7 b6);clear b5 b6 c7;unfold itV;dsimp only;simp only[show(UInt8.toNat 45)=45 from rfl]
  go_in
  go_wp2_with fail;revert a3 e2;generalize ((w.alloc (.cells #[.int .i64 p,.int .u8 c.toNat,.int .u8 45,.int .i64 0,.slice none 0 0] 219)).alloc (.cells #[.int .i64 0,.int .u8 0,.int .u8 0,.int .i64 0,.slice none 0 0] 219))=W;intro e3 a3;obtain⟨q0,q1,q2,q3,q4⟩:=bc a3.out.item;obtain⟨f0,f1,f2,f3,f4⟩:=bK a3.out.item;obtain⟨y0,y1,y2,y3,y4⟩:=bc a3.out.box;obtain⟨g0,g1,g2,g3,g4⟩:=bK a3.out.box;refine(fK b s i bad _ v2 _ nc cap0 a0 (by omega) hs e3).mono ?_;rintro en w3 ⟨rfl,e1,b2⟩;obtain⟨Y,hY⟩: ∃Y,ltX s nc i bad=Y:=⟨_,rfl⟩;rw[hY]at b2;rw[hY];have HY:=hid (show ltX s SC.length i bad=Y by rw[d6.out];exact hY)
  clear hY;obtain⟨kc,j3,b3⟩:=Y;dsimp only at b2⊢;clear q0 q1 q2 q3 q4 f0 f1 f2 f3 f4 y0 y1 y2 y3 y4 g0 g1 g2 g3 g4;have a4:=a3.out.next (by omega) (by omega) e1;obtain⟨q0,q1,q2,q3,q4⟩:=bc a4.item;obtain⟨f0,f1,f2,f3,f4⟩:=bK a4.item;obtain⟨y0,y1,y2,y3,y4⟩:=bc a4.box;obtain⟨g0,g1,g2,g3,g4⟩:=bK a4.box;have e6:=a4.set2 (by omega) (by omega) (.int .u8 kc.toNat);have e4:=b2.but (But.setB w3 w.heap.size 2 (.int .u8 kc.toNat)) (by omega);have b4:=hid (e6);have e5:=e4;go_wp2_with fail;exact kA Tryz.results223 rfl rfl b4.out.box (fun w9 _ h9d=>⟨b4.out.but.next h9d (fun k hk h=>by omega),⟨p,c,kc,0,none,0,0⟩,j3,b3,rfl,e5.but h9d (by omega),by unfold ej;rw[if_neg (by have:=HK.out;omega),if_pos HK.out,HY.out]⟩)
theorem A3 (p:Nat) (bad:Bool) (c:UInt8) (hc:c.toNat=103∨c.toNat=112) (hnc:SC.length≤4) (hng:ng≤3) (hnl:nl≤10) (hs:s.size≤2000)
  (hR:XrB w b s i bad (.slice a0 SC.length cap0) (.slice a1 ng cap1) v2) (hv:v2.hl= .slice al nl capl) (hwf:WfC SC) (hC:TcV w base (.slice a0 SC.length cap0) (SC.map toX)) (hb:b<base):
  Calls Tryz.prog 223 #[.pointer (some ⟨b,0,none⟩),itV ⟨p,c,45,0,none,0,0⟩] w fun en w'=>But (· =b) w w'∧ ∃x j bad',en= .returned (itV x)∧XrB w' b s j bad' (.slice a0 SC.length cap0) (.slice a1 ng cap1) v2∧ej s SC ng nl p c i bad=(x,j,bad'):=by
 have f6:=hR.lt;obtain⟨nc,a2⟩: ∃nc,SC.length=nc:=⟨_,rfl⟩;have b0:=hid hnc;have h1:=hid a2;rw[a2]at hR hnc;simp only[a2];have HC:=hid (fun(w':World) (h:But (· =b) w w') (hr:w'.cell? ⟨b,0,none⟩=some (.slice a0 SC.length cap0))=>(hC.but h (fun g e cur _ _ hg he=>by omega)).tx hr (Nat.lt_of_lt_of_le f6 h.size));have b2:=hid hwf;rw[a2]at HC;clear hC hwf;have HK:=hid hc;rcases hc with h|h
 all_goals
  first|have b6:=aM (c:=c) 108 (by omega) |have b6:=aV (c:=c) 108 (by omega)
  first|have e0:=aM (c:=c) 115 (by omega) |have e0:=aV (c:=c) 115 (by omega)
  first|have c7:=aM (c:=c) 110 (by omega) |have c7:=aV (c:=c) 110 (by omega)
  first|have e1:=aM (c:=c) 120 (by omega) |have e1:=aV (c:=c) 120 (by omega)
  first|have b4:=aM (c:=c) 103 (by omega) |have b4:=aV (c:=c) 103 (by omega)
  first|have d6:=aM (c:=c) 112 (by omega) |have d6:=aV (c:=c) 112 (by omega)
  first|have h2:=aM (c:=c) 99 (by omega) |have h2:=aV (c:=c) 99 (by omega)
  clear h;clear a2;obtain⟨e8,f8,g5⟩:=cQ w b f6 #[.int .i64 p,.int .u8 c.toNat,.int .u8 45,.int .i64 0,.slice none 0 0] #[.int .i64 0,.int .u8 0,.int .u8 0,.int .i64 0,.slice none 0 0] 219;have h5:=hR.but ((But.alloc (fun _=>False) w (.cells #[.int .i64 p,.int .u8 c.toNat,.int .u8 45,.int .i64 0,.slice none 0 0] 219)).trans (But.alloc _ _ (.cells #[.int .i64 0,.int .u8 0,.int .u8 0,.int .i64 0,.slice none 0 0] 219))) (fun h=>h);have a4:=hid (fq.mk e8 g5 f8);clear e8 f8 g5;unfold itV;dsimp only;simp only[show(UInt8.toNat 45)=45 from rfl]
  go_in
  go_wp2_with fail;revert a4 h5;generalize ((w.alloc (.cells #[.int .i64 p,.int .u8 c.toNat,.int .u8 45,.int .i64 0,.slice none 0 0] 219)).alloc (.cells #[.int .i64 0,.int .u8 0,.int .u8 0,.int .i64 0,.slice none 0 0] 219))=W;intro h6 a4;obtain⟨q0,q1,q2,q3,q4⟩:=bc a4.out.item;obtain⟨f0,f1,f2,f3,f4⟩:=bK a4.out.item;obtain⟨y0,y1,y2,y3,y4⟩:=bc a4.out.box;obtain⟨g0,g1,g2,g3,g4⟩:=bK a4.out.box;refine(fK b s i bad _ v2 _ nc cap0 a0 (by omega) hs h6).mono ?_;rintro en w3 ⟨rfl,h3,e2⟩;obtain⟨Y,hY⟩: ∃Y,ltX s nc i bad=Y:=⟨_,rfl⟩;rw[hY]at e2;rw[hY];have HY:=hid (show ltX s SC.length i bad=Y by rw[h1.out];exact hY)
  clear hY;obtain⟨kc,j3,b3⟩:=Y;dsimp only at e2⊢;clear q0 q1 q2 q3 q4 f0 f1 f2 f3 f4 y0 y1 y2 y3 y4 g0 g1 g2 g3 g4;have a6:=a4.out.next (by omega) (by omega) h3;obtain⟨q0,q1,q2,q3,q4⟩:=bc a6.item;obtain⟨f0,f1,f2,f3,f4⟩:=bK a6.item;obtain⟨y0,y1,y2,y3,y4⟩:=bc a6.box;obtain⟨g0,g1,g2,g3,g4⟩:=bK a6.box;have e9:=a6.set2 (by omega) (by omega) (.int .u8 kc.toNat);have a5:=e2.but (But.setB w3 w.heap.size 2 (.int .u8 kc.toNat)) (by omega);have a3:=hid e9;clear a6 e9;go_wp2_with fail;revert a3 a5;generalize (w3.setCell ⟨w.heap.size,2,none⟩ (.int .u8 kc.toNat))=X;intro a5 a3;have f5:=HC.out X a3.out.but a5.c0
  have e5:=pA b (SC.map toX) kc X.drew (by rw[List.length_map];have:=b0.out;omega) (f5.but (But.drew _ _));have f7:=rn b2.out b0.out kc;obtain⟨F,hF⟩: ∃F,(bX (SC.map toX) kc).length=F:=⟨_,rfl⟩;rw[hF]at e5 f7;have h0:=hid hF;have e6:=hid e5;have i0:F≤8:=by have:=b0.out;omega
  clear hF e5 f7 f5;obtain⟨x0,x1,x2,x3,x4⟩:=bc a3.out.item;have g6:=ae a3.out.item;have a8:But (fun _=>False) X X.drew:=But.drew _ _;refine aB (But (fun _=>False) X) 6 (by kernel_rfl) ?_
  iterate 5 (refine aG (v:=?_) rfl (by kernel_rfl) (fun _ _ _ h=>h) rfl a8 ?_ ?_;rotate_left;(focus (intro wS h;have q0:=(h.kc x2 g6);clear h;go_simp;try rfl));dsimp only[Act.put];try simp only[aK])
  refine ag rfl (by kernel_rfl) ?_;intro KS hKS;go_simp;refine e6.out.mono ?_;rintro en w4 ⟨rfl,g7⟩;rw[g7];clear g7 w4 e6;refine hKS.out _ _ (fun _=>a8) ?_;clear hKS KS;refine ag rfl (by kernel_rfl) ?_;intro KS hKS;go_simp;refine hKS.out _ _ nofun ?_;clear hKS KS;refine aF rfl (by kernel_rfl) ?_;have b1:=hid (a3.out.next (by omega) (by omega) (But.drew _ _));have e3:=a5.but a8 (fun h=>h);clear a3 a5 a8 x0 x1 x2 x3 x4 g6;revert b1 e3;generalize X.drew=X';intro a3 a5;go_wp2_with fail;refine(cM b s j3 b3 _ _ v2 _ F (by omega) hs a5).mono ?_;rintro en w5 ⟨rfl,h4,e4⟩;obtain⟨Z,hZ⟩: ∃Z,dgX s F j3 b3=Z:=⟨_,rfl⟩
  rw[hZ]at e4;rw[hZ];have HZ:=hid hZ;clear hZ;obtain⟨d,j5,b5⟩:=Z;dsimp only at e4⊢;clear q0 q1 q2 q3 q4 f0 f1 f2 f3 f4 y0 y1 y2 y3 y4 g0 g1 g2 g3 g4;have a7:=a3.out.next (by omega) (by omega) h4;obtain⟨q0,q1,q2,q3,q4⟩:=bc a7.item;obtain⟨f0,f1,f2,f3,f4⟩:=bK a7.item;obtain⟨y0,y1,y2,y3,y4⟩:=bc a7.box;obtain⟨g0,g1,g2,g3,g4⟩:=bK a7.box;have h9:=a7.set3 (by omega) (by omega) (.int .i64 d);have h7:=e4.but (But.setB w5 w.heap.size 3 (.int .i64 d)) (by omega);have e7:=hid (h9);have h8:=h7;go_wp2_with fail;exact kA Tryz.results223 rfl rfl e7.out.box (fun w9 _ h9d=>⟨e7.out.but.next h9d (fun k hk h=>by omega),⟨p,c,kc,d,none,0,0⟩,j5,b5,rfl,h8.but h9d (by omega),u6 HK.out HY.out h0.out HZ.out⟩)
theorem zn (p:Nat) (bad:Bool) (hnc:SC.length≤4) (hng:ng≤3) (hnl:nl≤10) (hs:s.size≤2000)
  (hR:XrB w b s i bad (.slice a0 SC.length cap0) (.slice a1 ng cap1) v2) (hv:v2.hl= .slice al nl capl):
  Calls Tryz.prog 223 #[.pointer (some ⟨b,0,none⟩),itV ⟨p,99,45,0,none,0,0⟩] w fun en w'=>But (· =b) w w'∧ ∃x j bad',en= .returned (itV x)∧XrB w' b s j bad' (.slice a0 SC.length cap0) (.slice a1 ng cap1) v2∧ej s SC ng nl p 99 i bad=(x,j,bad'):=by
 have e7:=hR.lt;obtain⟨nc,a2⟩: ∃nc,SC.length=nc:=⟨_,rfl⟩;have e8:=hid hnc;have c7:=hid a2;rw[a2]at hR hnc;simp only[a2];clear a2;obtain⟨b0,b4,b6⟩:=cQ w b e7 #[.int .i64 p,.int .u8 99,.int .u8 45,.int .i64 0,.slice none 0 0] #[.int .i64 0,.int .u8 0,.int .u8 0,.int .i64 0,.slice none 0 0] 219;have e2:=hR.but ((But.alloc (fun _=>False) w (.cells #[.int .i64 p,.int .u8 99,.int .u8 45,.int .i64 0,.slice none 0 0] 219)).trans (But.alloc _ _ (.cells #[.int .i64 0,.int .u8 0,.int .u8 0,.int .i64 0,.slice none 0 0] 219))) (fun h=>h);have a3:=hid (fq.mk b0 b6 b4);clear b0 b4 b6;unfold itV;dsimp only;simp only[show(UInt8.toNat 45)=45 from rfl,show(UInt8.toNat 99)=99 from rfl]
 go_in
 go_wp2_with fail;revert a3 e2;generalize ((w.alloc (.cells #[.int .i64 p,.int .u8 99,.int .u8 45,.int .i64 0,.slice none 0 0] 219)).alloc (.cells #[.int .i64 0,.int .u8 0,.int .u8 0,.int .i64 0,.slice none 0 0] 219))=W;intro e3 a3;obtain⟨q0,q1,q2,q3,q4⟩:=bc a3.out.item;obtain⟨f0,f1,f2,f3,f4⟩:=bK a3.out.item;obtain⟨y0,y1,y2,y3,y4⟩:=bc a3.out.box;obtain⟨g0,g1,g2,g3,g4⟩:=bK a3.out.box;refine(fK b s i bad _ v2 _ nc cap0 a0 (by omega) hs e3).mono ?_;rintro en w3 ⟨rfl,e0,a6⟩;obtain⟨Y,hY⟩: ∃Y,ltX s nc i bad=Y:=⟨_,rfl⟩;rw[hY]at a6;rw[hY];have HY:=hid (show ltX s SC.length i bad=Y by rw[c7.out];exact hY)
 clear hY;obtain⟨kc,j3,b3⟩:=Y;dsimp only at a6⊢;clear q0 q1 q2 q3 q4 f0 f1 f2 f3 f4 y0 y1 y2 y3 y4 g0 g1 g2 g3 g4;have a4:=a3.out.next (by omega) (by omega) e0;obtain⟨q0,q1,q2,q3,q4⟩:=bc a4.item;obtain⟨f0,f1,f2,f3,f4⟩:=bK a4.item;obtain⟨y0,y1,y2,y3,y4⟩:=bc a4.box;obtain⟨g0,g1,g2,g3,g4⟩:=bK a4.box;have b2:=a4.set2 (by omega) (by omega) (.int .u8 kc.toNat);have b1:=a6.but (But.setB w3 w.heap.size 2 (.int .u8 kc.toNat)) (by omega);have d6:=hid b2;clear a4 b2;have p1:=b1.c1;go_wp2_with fail;refine(cM b s j3 b3 _ _ v2 _ ng (by omega) hs b1).mono ?_;rintro en w5 ⟨rfl,e1,a7⟩;obtain⟨Z,hZ⟩: ∃Z,dgX s ng j3 b3=Z:=⟨_,rfl⟩
 rw[hZ]at a7;rw[hZ];have HZ:=hid hZ;clear hZ;obtain⟨d,j5,b5⟩:=Z;dsimp only at a7⊢;clear p1 q0 q1 q2 q3 q4 f0 f1 f2 f3 f4 y0 y1 y2 y3 y4 g0 g1 g2 g3 g4;have a5:=d6.out.next (by omega) (by omega) e1;obtain⟨q0,q1,q2,q3,q4⟩:=bc a5.item;obtain⟨f0,f1,f2,f3,f4⟩:=bK a5.item;obtain⟨y0,y1,y2,y3,y4⟩:=bc a5.box;obtain⟨g0,g1,g2,g3,g4⟩:=bK a5.box;have e6:=a5.set3 (by omega) (by omega) (.int .i64 d);have e4:=a7.but (But.setB w5 w.heap.size 3 (.int .i64 d)) (by omega);have a8:=hid (e6);have e5:=e4;go_wp2_with fail;exact kA Tryz.results223 rfl rfl a8.out.box (fun w9 _ h9d=>⟨a8.out.but.next h9d (fun k hk h=>by omega),⟨p,99,kc,d,none,0,0⟩,j5,b5,rfl,e5.but h9d (by omega),by unfold ej;rw[if_neg (by decide),if_neg (by decide),if_neg (by decide),if_pos (by decide),HY.out,HZ.out]⟩)
theorem oA (p:Nat) (bad:Bool) (c:UInt8) (hnc:SC.length≤4) (hng:ng≤3) (hnl:nl≤10) (hs:s.size≤2000)
  (hR:XrB w b s i bad (.slice a0 SC.length cap0) (.slice a1 ng cap1) v2) (hv:v2.hl= .slice al nl capl) (hG:c.toNat=103∨c.toNat=112→WfC SC∧TcV w base (.slice a0 SC.length cap0) (SC.map toX)) (hb:b<base):
  Calls Tryz.prog 223 #[.pointer (some ⟨b,0,none⟩),itV ⟨p,c,45,0,none,0,0⟩] w fun en w'=>But (· =b) w w'∧ ∃x j bad',en= .returned (itV x)∧XrB w' b s j bad' (.slice a0 SC.length cap0) (.slice a1 ng cap1) v2∧ej s SC ng nl p c i bad=(x,j,bad'):=by
 have e: ∀n:Nat,n<256→c.toNat=n→c=UInt8.ofNat n:=fun n hn h=>(u8n hn).1 h
 by_cases hc:c.toNat=108∨c.toNat=115
 ·exact A1 b s i SC a0 a1 al ng nl cap0 cap1 capl v2 w p bad c hc hnc hng hnl hs hR hv
 obtain⟨a3,a6⟩:=not_or.1 hc;clear hc
 by_cases hc:c.toNat=110∨c.toNat=120
 ·exact A2 b s i SC a0 a1 al ng nl cap0 cap1 capl v2 w p bad c hc hnc hng hnl hs hR hv
 obtain⟨a4,a7⟩:=not_or.1 hc;clear hc
 by_cases hc:c.toNat=103∨c.toNat=112
 ·exact A3 b base s i SC a0 a1 al ng nl cap0 cap1 capl v2 w p bad c hc hnc hng hnl hs hR hv (hG hc).1 (hG hc).2 hb
 obtain⟨a2,a5⟩:=not_or.1 hc;clear hc
 by_cases h99:c.toNat=99
 ·have hc:c=99:=e _ (by decide) h99;subst hc;exact zn b s i SC a0 a1 al ng nl cap0 cap1 capl v2 w p bad hnc hng hnl hs hR hv
 exact Ao b s i SC a0 a1 al ng nl cap0 cap1 capl v2 w p bad c a3 a6 a4 a7 a2 a5 h99 hnc hng hnl hs hR hv
end
theorem rq {s:ByteArray} {SC:List Cls} {ng nl i:Nat} {c:UInt8} {x:XIt} {j:Nat} {bad':Bool} (hnc:SC.length≤4) (hpc:pk s i=c) (hn: ¬(c.toNat=114∨c.toNat=119∨c.toNat=43∨c.toNat=45∨c.toNat=42∨c.toNat=47∨c.toNat=60∨c.toNat=61∨c.toNat=101∨c.toNat=122∨c.toNat=100∨c.toNat=116∨c.toNat=107∨c.toNat=106∨c.toNat=102))
  (h:ej s SC ng nl i c (i+1) false=(x,j,bad')):fO s SC ng nl i false x j bad':=by
 unfold ej at h
 by_cases h1:c.toNat=108∨c.toNat=115
 ·rw[if_pos h1]at h;obtain⟨rfl,rfl,rfl⟩:=(by simpa using h:_∧_∧_);exact ud (n:=nl) hpc (Or.inr ⟨h1,rfl⟩) rfl
 rw[if_neg h1]at h
 by_cases h2:c.toNat=110∨c.toNat=120
 ·rw[if_pos h2]at h;obtain⟨rfl,rfl,rfl⟩:=(by simpa using h:_∧_∧_);exact zk hnc hpc h2 rfl
 rw[if_neg h2]at h
 by_cases h3:c.toNat=103∨c.toNat=112
 ·rw[if_pos h3]at h;obtain⟨rfl,rfl,rfl⟩:=(by simpa using h:_∧_∧_);exact zl hnc hpc h3 rfl rfl
 rw[if_neg h3]at h
 by_cases h4:c.toNat=99
 ·rw[if_pos h4]at h;obtain⟨rfl,rfl,rfl⟩:=(by simpa using h:_∧_∧_);exact xD hnc hpc h4 rfl rfl
 rw[if_neg h4]at h;obtain⟨rfl,rfl,rfl⟩:=(by simpa using h:_∧_∧_)
 try simp only[Bool.false_eq_true,if_false]
 refine An ?_;rw[hpc];simp only[bZ,List.contains_eq_mem,List.mem_cons,List.not_mem_nil,or_false,decide_eq_false_iff_not];omega
theorem rt {s:ByteArray} {SC:List Cls} {ng nl i:Nat}:ej s SC ng nl i 0 i true=(⟨i,0,45,0,none,0,0⟩,i,true):=by
 unfold ej;simp
section
variable (b base:Nat) (s:ByteArray) (i:Nat) (SC:List Cls) (a0 a1 al:Option Addr) (ng nl cap0 cap1 capl:Nat) (v2:RdV) (w:World)
theorem Ap (c:UInt8) (hlt:i<s.size) (hpc:pk s i=c) (hc:c.toNat=114∨c.toNat=119∨c.toNat=43∨c.toNat=45∨c.toNat=42∨c.toNat=47∨c.toNat=60∨c.toNat=61∨c.toNat=101∨c.toNat=122∨c.toNat=100∨c.toNat=116) (hnc:SC.length≤4) (hng:ng≤3) (hnl:nl≤10) (hs:s.size≤2000)
  (hR:XrB w b s i false (.slice a0 SC.length cap0) (.slice a1 ng cap1) v2) (hv:v2.hl= .slice al nl capl):
  Calls Tryz.prog 169 #[.pointer (some ⟨b,0,none⟩)] w fun en w'=>But (· =b) w w'∧ ∃x j bad',en= .returned (itV x)∧XrB w' b s j bad' (.slice a0 SC.length cap0) (.slice a1 ng cap1) v2∧fO s SC ng nl i false x j bad':=by
 have f8:=hR.lt;have p3:=hR.c3;obtain⟨b6,e0,e1⟩:=cQ w b f8 #[.int .i64 0,.int .u8 0,.int .u8 0,.int .i64 0,.slice none 0 0] #[.int .i64 i,.int .u8 0,.int .u8 45,.int .i64 0,.slice none 0 0] 219;have c7:=hR.but ((But.alloc (fun _=>False) w (.cells #[.int .i64 0,.int .u8 0,.int .u8 0,.int .i64 0,.slice none 0 0] 219)).trans (But.alloc _ _ (.cells #[.int .i64 i,.int .u8 0,.int .u8 45,.int .i64 0,.slice none 0 0] 219))) (fun h=>h);have b4:=hid (fq.mk b6 e0 e1);have a3:=hid (a9 b s i false _ _ v2 _ hs c7);rw[gG hlt,hpc]at a3;have HI:=hid (u5 (s:=s) (cs:=SC) (ns:=ng) (nl:=nl) hpc (by rcases hc with h|h|h|h|h|h|h|h|h|h|h|h<;>(rw[h];decide)) (by rcases hc with h|h|h|h|h|h|h|h|h|h|h|h<;>(rw[h];rfl)) (by omega))
 have HK:=hid hc;rcases hc with h|h|h|h|h|h|h|h|h|h|h|h
 all_goals
  first|have b0:=aM (c:=c) 114 (by omega) |have b0:=aV (c:=c) 114 (by omega)
  first|have b2:=aM (c:=c) 119 (by omega) |have b2:=aV (c:=c) 119 (by omega)
  first|have e4:=aM (c:=c) 43 (by omega) |have e4:=aV (c:=c) 43 (by omega)
  first|have e5:=aM (c:=c) 45 (by omega) |have e5:=aV (c:=c) 45 (by omega)
  first|have e3:=aM (c:=c) 42 (by omega) |have e3:=aV (c:=c) 42 (by omega)
  first|have e6:=aM (c:=c) 47 (by omega) |have e6:=aV (c:=c) 47 (by omega)
  first|have e7:=aM (c:=c) 60 (by omega) |have e7:=aV (c:=c) 60 (by omega)
  first|have e8:=aM (c:=c) 61 (by omega) |have e8:=aV (c:=c) 61 (by omega)
  first|have a5:=aM (c:=c) 101 (by omega) |have a5:=aV (c:=c) 101 (by omega)
  first|have b3:=aM (c:=c) 122 (by omega) |have b3:=aV (c:=c) 122 (by omega)
  first|have a4:=aM (c:=c) 100 (by omega) |have a4:=aV (c:=c) 100 (by omega)
  first|have b1:=aM (c:=c) 116 (by omega) |have b1:=aV (c:=c) 116 (by omega)
  first|have a8:=aM (c:=c) 107 (by omega) |have a8:=aV (c:=c) 107 (by omega)
  first|have a7:=aM (c:=c) 106 (by omega) |have a7:=aV (c:=c) 106 (by omega)
  first|have a6:=aM (c:=c) 102 (by omega) |have a6:=aV (c:=c) 102 (by omega)
  clear h;clear b6 c7 e0 e1
  go_in
  go_wp2_with fail;refine a3.out.mono ?_;rintro en w1 ⟨rfl,e9,f5⟩;have a2:=b4.out.next (by omega) (by omega) e9;obtain⟨q0,q1,q2,q3,q4⟩:=bc a2.item;obtain⟨f0,f1,f2,f3,f4⟩:=bK a2.item;obtain⟨y0,y1,y2,y3,y4⟩:=bc a2.box;obtain⟨g0,g1,g2,g3,g4⟩:=bK a2.box;have d6:=a2.set1 (by omega) (by omega) (.int .u8 c.toNat);have f6:=f5.but (But.setB w1 (w.heap.size+1) 1 (.int .u8 c.toNat)) (by omega);have e2:=hid d6;clear a2 d6 b4 a3 p3;have b5:=hid (e2.out);have f7:=f6;go_wp2_with fail;exact kA Tryz.results169 rfl rfl b5.out.box (fun w9 _ h9d=>⟨b5.out.but.next h9d (fun k hk h=>by omega),⟨i,c,45,0,none,0,0⟩,i+1,false,rfl,f7.but h9d (by omega),HI.out⟩)
theorem Aq (c:UInt8) (hlt:i<s.size) (hpc:pk s i=c) (hc:c.toNat=107) (hnc:SC.length≤4) (hng:ng≤3) (hnl:nl≤10) (hs:s.size≤2000)
  (hR:XrB w b s i false (.slice a0 SC.length cap0) (.slice a1 ng cap1) v2) (hv:v2.hl= .slice al nl capl):
  Calls Tryz.prog 169 #[.pointer (some ⟨b,0,none⟩)] w fun en w'=>But (· =b) w w'∧ ∃x j bad',en= .returned (itV x)∧XrB w' b s j bad' (.slice a0 SC.length cap0) (.slice a1 ng cap1) v2∧fO s SC ng nl i false x j bad':=by
 have h2:=hR.lt;have p3:=hR.c3;obtain⟨e0,e3,e4⟩:=cQ w b h2 #[.int .i64 0,.int .u8 0,.int .u8 0,.int .i64 0,.slice none 0 0] #[.int .i64 i,.int .u8 0,.int .u8 45,.int .i64 0,.slice none 0 0] 219;have e1:=hR.but ((But.alloc (fun _=>False) w (.cells #[.int .i64 0,.int .u8 0,.int .u8 0,.int .i64 0,.slice none 0 0] 219)).trans (But.alloc _ _ (.cells #[.int .i64 i,.int .u8 0,.int .u8 45,.int .i64 0,.slice none 0 0] 219))) (fun h=>h);have c7:=hid (fq.mk e0 e3 e4);have a4:=hid (a9 b s i false _ _ v2 _ hs e1);rw[gG hlt,hpc]at a4;have HK:=hid hc;have h:=hc;clear hc
 all_goals
  first|have b1:=aM (c:=c) 114 (by omega) |have b1:=aV (c:=c) 114 (by omega)
  first|have b3:=aM (c:=c) 119 (by omega) |have b3:=aV (c:=c) 119 (by omega)
  first|have e7:=aM (c:=c) 43 (by omega) |have e7:=aV (c:=c) 43 (by omega)
  first|have e8:=aM (c:=c) 45 (by omega) |have e8:=aV (c:=c) 45 (by omega)
  first|have e6:=aM (c:=c) 42 (by omega) |have e6:=aV (c:=c) 42 (by omega)
  first|have e9:=aM (c:=c) 47 (by omega) |have e9:=aV (c:=c) 47 (by omega)
  first|have f5:=aM (c:=c) 60 (by omega) |have f5:=aV (c:=c) 60 (by omega)
  first|have f6:=aM (c:=c) 61 (by omega) |have f6:=aV (c:=c) 61 (by omega)
  first|have a6:=aM (c:=c) 101 (by omega) |have a6:=aV (c:=c) 101 (by omega)
  first|have b4:=aM (c:=c) 122 (by omega) |have b4:=aV (c:=c) 122 (by omega)
  first|have a5:=aM (c:=c) 100 (by omega) |have a5:=aV (c:=c) 100 (by omega)
  first|have b2:=aM (c:=c) 116 (by omega) |have b2:=aV (c:=c) 116 (by omega)
  first|have b0:=aM (c:=c) 107 (by omega) |have b0:=aV (c:=c) 107 (by omega)
  first|have a8:=aM (c:=c) 106 (by omega) |have a8:=aV (c:=c) 106 (by omega)
  first|have a7:=aM (c:=c) 102 (by omega) |have a7:=aV (c:=c) 102 (by omega)
  clear h;clear e0 e1 e3 e4
  go_in
  go_wp2_with fail;refine a4.out.mono ?_;rintro en w1 ⟨rfl,f7,g5⟩;have a2:=c7.out.next (by omega) (by omega) f7;obtain⟨q0,q1,q2,q3,q4⟩:=bc a2.item;obtain⟨f0,f1,f2,f3,f4⟩:=bK a2.item;obtain⟨y0,y1,y2,y3,y4⟩:=bc a2.box;obtain⟨g0,g1,g2,g3,g4⟩:=bK a2.box;have e2:=a2.set1 (by omega) (by omega) (.int .u8 c.toNat);have g6:=g5.but (But.setB w1 (w.heap.size+1) 1 (.int .u8 c.toNat)) (by omega);have e5:=hid e2;clear a2 e2 c7 a4 p3;go_wp2_with fail;refine(cM b s (i+1) false _ _ v2 _ 10 (by omega) hs g6).mono ?_;rintro en w5 ⟨rfl,f8,b6⟩;obtain⟨Z,hZ⟩: ∃Z,dgX s 10 (i+1) false=Z:=⟨_,rfl⟩;rw[hZ]at b6;rw[hZ];have HZ:=hid hZ
  clear hZ;obtain⟨d,j5,b5⟩:=Z;dsimp only at b6⊢;clear q0 q1 q2 q3 q4 f0 f1 f2 f3 f4 y0 y1 y2 y3 y4 g0 g1 g2 g3 g4;have a3:=e5.out.next (by omega) (by omega) f8;obtain⟨q0,q1,q2,q3,q4⟩:=bc a3.item;obtain⟨f0,f1,f2,f3,f4⟩:=bK a3.item;obtain⟨y0,y1,y2,y3,y4⟩:=bc a3.box;obtain⟨g0,g1,g2,g3,g4⟩:=bK a3.box;have h1:=a3.set3 (by omega) (by omega) (.int .i64 d);have g7:=b6.but (But.setB w5 (w.heap.size+1) 3 (.int .i64 d)) (by omega);have d6:=hid (h1);have h0:=g7;go_wp2_with fail;exact kA Tryz.results169 rfl rfl d6.out.box (fun w9 _ h9d=>⟨d6.out.but.next h9d (fun k hk h=>by omega),⟨i,c,45,d,none,0,0⟩,j5,b5,rfl,h0.but h9d (by omega),ud (n:=10) hpc (Or.inl ⟨HK.out,rfl⟩) HZ.out⟩)
theorem Ar (c:UInt8) (hlt:i<s.size) (hpc:pk s i=c) (hc:c.toNat=106∨c.toNat=102) (hnc:SC.length≤4) (hng:ng≤3) (hnl:nl≤10) (hs:s.size≤2000)
  (hR:XrB w b s i false (.slice a0 SC.length cap0) (.slice a1 ng cap1) v2) (hv:v2.hl= .slice al nl capl):
  Calls Tryz.prog 169 #[.pointer (some ⟨b,0,none⟩)] w fun en w'=>But (· =b) w w'∧ ∃x j bad',en= .returned (itV x)∧XrB w' b s j bad' (.slice a0 SC.length cap0) (.slice a1 ng cap1) v2∧fO s SC ng nl i false x j bad':=by
 have h2:=hR.lt;have p3:=hR.c3;obtain⟨e0,e3,e4⟩:=cQ w b h2 #[.int .i64 0,.int .u8 0,.int .u8 0,.int .i64 0,.slice none 0 0] #[.int .i64 i,.int .u8 0,.int .u8 45,.int .i64 0,.slice none 0 0] 219;have e1:=hR.but ((But.alloc (fun _=>False) w (.cells #[.int .i64 0,.int .u8 0,.int .u8 0,.int .i64 0,.slice none 0 0] 219)).trans (But.alloc _ _ (.cells #[.int .i64 i,.int .u8 0,.int .u8 45,.int .i64 0,.slice none 0 0] 219))) (fun h=>h);have c7:=hid (fq.mk e0 e3 e4);have a4:=hid (a9 b s i false _ _ v2 _ hs e1);rw[gG hlt,hpc]at a4;have HK:=hid hc;rcases hc with h|h
 all_goals
  first|have b1:=aM (c:=c) 114 (by omega) |have b1:=aV (c:=c) 114 (by omega)
  first|have b3:=aM (c:=c) 119 (by omega) |have b3:=aV (c:=c) 119 (by omega)
  first|have e7:=aM (c:=c) 43 (by omega) |have e7:=aV (c:=c) 43 (by omega)
  first|have e8:=aM (c:=c) 45 (by omega) |have e8:=aV (c:=c) 45 (by omega)
  first|have e6:=aM (c:=c) 42 (by omega) |have e6:=aV (c:=c) 42 (by omega)
  first|have e9:=aM (c:=c) 47 (by omega) |have e9:=aV (c:=c) 47 (by omega)
  first|have f5:=aM (c:=c) 60 (by omega) |have f5:=aV (c:=c) 60 (by omega)
  first|have f6:=aM (c:=c) 61 (by omega) |have f6:=aV (c:=c) 61 (by omega)
  first|have a6:=aM (c:=c) 101 (by omega) |have a6:=aV (c:=c) 101 (by omega)
  first|have b4:=aM (c:=c) 122 (by omega) |have b4:=aV (c:=c) 122 (by omega)
  first|have a5:=aM (c:=c) 100 (by omega) |have a5:=aV (c:=c) 100 (by omega)
  first|have b2:=aM (c:=c) 116 (by omega) |have b2:=aV (c:=c) 116 (by omega)
  first|have b0:=aM (c:=c) 107 (by omega) |have b0:=aV (c:=c) 107 (by omega)
  first|have a8:=aM (c:=c) 106 (by omega) |have a8:=aV (c:=c) 106 (by omega)
  first|have a7:=aM (c:=c) 102 (by omega) |have a7:=aV (c:=c) 102 (by omega)
  clear h;clear e0 e1 e3 e4
  go_in
  go_wp2_with fail;refine a4.out.mono ?_;rintro en w1 ⟨rfl,f7,g5⟩;have a2:=c7.out.next (by omega) (by omega) f7;obtain⟨q0,q1,q2,q3,q4⟩:=bc a2.item;obtain⟨f0,f1,f2,f3,f4⟩:=bK a2.item;obtain⟨y0,y1,y2,y3,y4⟩:=bc a2.box;obtain⟨g0,g1,g2,g3,g4⟩:=bK a2.box;have e2:=a2.set1 (by omega) (by omega) (.int .u8 c.toNat);have g6:=g5.but (But.setB w1 (w.heap.size+1) 1 (.int .u8 c.toNat)) (by omega);have e5:=hid e2;clear a2 e2 c7 a4 p3;go_wp2_with fail;refine(rp b s (i+1) false _ _ v2 _ hs g6).mono ?_;rintro en w5 ⟨rfl,f8,b6⟩;obtain⟨Z,hZ⟩: ∃Z,tgX s (i+1) false=Z:=⟨_,rfl⟩;rw[hZ]at b6;rw[hZ];have HZ:=hid hZ;clear hZ
  obtain⟨d,j5,b5⟩:=Z;dsimp only at b6⊢;clear q0 q1 q2 q3 q4 f0 f1 f2 f3 f4 y0 y1 y2 y3 y4 g0 g1 g2 g3 g4;have a3:=e5.out.next (by omega) (by omega) f8;obtain⟨q0,q1,q2,q3,q4⟩:=bc a3.item;obtain⟨f0,f1,f2,f3,f4⟩:=bK a3.item;obtain⟨y0,y1,y2,y3,y4⟩:=bc a3.box;obtain⟨g0,g1,g2,g3,g4⟩:=bK a3.box;have h1:=a3.set3 (by omega) (by omega) (.int .i64 d);have g7:=b6.but (But.setB w5 (w.heap.size+1) 3 (.int .i64 d)) (by omega);have d6:=hid (h1);have h0:=g7;go_wp2_with fail;exact kA Tryz.results169 rfl rfl d6.out.box (fun w9 _ h9d=>⟨d6.out.but.next h9d (fun k hk h=>by omega),⟨i,c,45,d,none,0,0⟩,j5,b5,rfl,h0.but h9d (by omega),zm hpc HK.out HZ.out⟩)
theorem mP (bad:Bool) (c:UInt8) (j1:Nat) (bad1:Bool) (hT:tbP s i bad=(c,j1,bad1)) (hn: ¬(c.toNat=114∨c.toNat=119∨c.toNat=43∨c.toNat=45∨c.toNat=42∨c.toNat=47∨c.toNat=60∨c.toNat=61∨c.toNat=101∨c.toNat=122∨c.toNat=100∨c.toNat=116∨c.toNat=107∨c.toNat=106∨c.toNat=102)) (hI: ∀x j bad',ej s SC ng nl i c j1 bad1=(x,j,bad')→fO s SC ng nl i bad x j bad') (hnc:SC.length≤4) (hng:ng≤3) (hnl:nl≤10) (hs:s.size≤2000)
  (hR:XrB w b s i bad (.slice a0 SC.length cap0) (.slice a1 ng cap1) v2) (hv:v2.hl= .slice al nl capl) (hG:c.toNat=103∨c.toNat=112→WfC SC∧TcV w base (.slice a0 SC.length cap0) (SC.map toX)) (hb:b<base):
  Calls Tryz.prog 169 #[.pointer (some ⟨b,0,none⟩)] w fun en w'=>But (· =b) w w'∧ ∃x j bad',en= .returned (itV x)∧XrB w' b s j bad' (.slice a0 SC.length cap0) (.slice a1 ng cap1) v2∧fO s SC ng nl i bad x j bad':=by
 have g7:=hR.lt;have p3:=hR.c3;obtain⟨b1,b5,b6⟩:=cQ w b g7 #[.int .i64 0,.int .u8 0,.int .u8 0,.int .i64 0,.slice none 0 0] #[.int .i64 i,.int .u8 0,.int .u8 45,.int .i64 0,.slice none 0 0] 219;have b2:=hR.but ((But.alloc (fun _=>False) w (.cells #[.int .i64 0,.int .u8 0,.int .u8 0,.int .i64 0,.slice none 0 0] 219)).trans (But.alloc _ _ (.cells #[.int .i64 i,.int .u8 0,.int .u8 45,.int .i64 0,.slice none 0 0] 219))) (fun h=>h);have a7:=hid (fq.mk b1 b5 b6);have a4:=hid (a9 b s i bad _ _ v2 _ hs b2);rw[hT]at a4;have e5:=aM (c:=c) 114 (by omega);have e7:=aM (c:=c) 119 (by omega);have h1:=aM (c:=c) 43 (by omega)
 have h2:=aM (c:=c) 45 (by omega);have h0:=aM (c:=c) 42 (by omega);have h3:=aM (c:=c) 47 (by omega);have h4:=aM (c:=c) 60 (by omega);have h5:=aM (c:=c) 61 (by omega);have e1:=aM (c:=c) 101 (by omega);have e8:=aM (c:=c) 122 (by omega);have e0:=aM (c:=c) 100 (by omega);have e6:=aM (c:=c) 116 (by omega);have e4:=aM (c:=c) 107 (by omega);have e3:=aM (c:=c) 106 (by omega);have e2:=aM (c:=c) 102 (by omega);clear hn;clear b1 b2 b5 b6
 go_in
 go_wp2_with fail;refine a4.out.mono ?_;rintro en w1 ⟨rfl,e9,f7⟩;have a2:=a7.out.next (by omega) (by omega) e9;obtain⟨q0,q1,q2,q3,q4⟩:=bc a2.item;obtain⟨f0,f1,f2,f3,f4⟩:=bK a2.item;obtain⟨y0,y1,y2,y3,y4⟩:=bc a2.box;obtain⟨g0,g1,g2,g3,g4⟩:=bK a2.box;have b4:=a2.set1 (by omega) (by omega) (.int .u8 c.toNat);have f8:=f7.but (But.setB w1 (w.heap.size+1) 1 (.int .u8 c.toNat)) (by omega);have a8:=hid b4;clear a2 b4 a7 a4 p3;have a6:=hid (fun h=>hG h);have c7:=hid hI;clear hG hI;have a5:=oA b base s j1 SC a0 a1 al ng nl cap0 cap1 capl v2 (w1.setCell ⟨w.heap.size+1,1,none⟩ (.int .u8 c.toNat)) i bad1 c hnc hng hnl hs f8 hv (fun h=>⟨(a6.out h).1,(a6.out h).2.but a8.out.but (fun g e cur _ _ hg he=>by omega)⟩) hb
 unfold itV at a5;have d6:=hid a5;clear a5;go_wp2_with fail;refine d6.out.mono ?_;rintro en w3 ⟨f5,x,j3,b3,rfl,g5,f6⟩;clear q0 q1 q2 q3 q4 f0 f1 f2 f3 f4 y0 y1 y2 y3 y4 g0 g1 g2 g3 g4;have a3:=a8.out.next (by omega) (by omega) f5;obtain⟨q0,q1,q2,q3,q4⟩:=bc a3.item;obtain⟨f0,f1,f2,f3,f4⟩:=bK a3.item;obtain⟨y0,y1,y2,y3,y4⟩:=bc a3.box;obtain⟨g0,g1,g2,g3,g4⟩:=bK a3.box;have b0:=hid (a3);have g6:=g5;go_wp2_with fail;exact kA Tryz.results169 rfl rfl b0.out.box (fun w9 _ h9d=>⟨b0.out.but.next h9d (fun k hk h=>by omega),x,j3,b3,rfl,g6.but h9d (by omega),c7.out _ _ _ f6⟩)
theorem s7 (bad:Bool) (hG:bad=true∨(WfC SC∧TcV w base (.slice a0 SC.length cap0) (SC.map toX))) (hnc:SC.length≤4) (hng:ng≤3) (hnl:nl≤10) (hs:s.size≤2000)
  (hR:XrB w b s i bad (.slice a0 SC.length cap0) (.slice a1 ng cap1) v2) (hv:v2.hl= .slice al nl capl) (hb:b<base):
  Calls Tryz.prog 169 #[.pointer (some ⟨b,0,none⟩)] w fun en w'=>But (· =b) w w'∧ ∃x j bad',en= .returned (itV x)∧XrB w' b s j bad' (.slice a0 SC.length cap0) (.slice a1 ng cap1) v2∧fO s SC ng nl i bad x j bad':=by
 by_cases hz:bad=true∨s.size≤i
 ·refine mP b base s i SC a0 a1 al ng nl cap0 cap1 capl v2 w bad 0 i true (i8 hz) (by decide) (fun x j bad' h=> ?_) hnc hng hnl hs hR hv (fun h=>by simp at h) hb;rw[rt]at h;obtain⟨rfl,rfl,rfl⟩:=(by simpa using h:_∧_∧_);exact zj hz
 have a5:=not_or.1 hz;have a4:bad=false:=by simpa using a5.1
 subst a4;have a2:i<s.size:=by omega
 have a3:WfC SC∧TcV w base (.slice a0 SC.length cap0) (SC.map toX):=by rcases hG with h|h;cases h;exact h
 have e: ∀n:Nat,n<256→(pk s i).toNat=n→pk s i=UInt8.ofNat n:=fun n hn h=>(u8n hn).1 h
 by_cases ha:(pk s i).toNat=114∨(pk s i).toNat=119∨(pk s i).toNat=43∨(pk s i).toNat=45∨(pk s i).toNat=42∨(pk s i).toNat=47∨(pk s i).toNat=60∨(pk s i).toNat=61∨(pk s i).toNat=101∨(pk s i).toNat=122∨(pk s i).toNat=100∨(pk s i).toNat=116
 ·exact Ap b s i SC a0 a1 al ng nl cap0 cap1 capl v2 w _ a2 rfl ha hnc hng hnl hs hR hv
 by_cases hd:(pk s i).toNat=107
 ·exact Aq b s i SC a0 a1 al ng nl cap0 cap1 capl v2 w _ a2 rfl hd hnc hng hnl hs hR hv
 by_cases ht:(pk s i).toNat=106∨(pk s i).toNat=102
 ·exact Ar b s i SC a0 a1 al ng nl cap0 cap1 capl v2 w _ a2 rfl ht hnc hng hnl hs hR hv
 exact mP b base s i SC a0 a1 al ng nl cap0 cap1 capl v2 w false (pk s i) (i+1) false (gG a2) (by omega) (fun x j bad' h=>rq hnc rfl (by omega) h) hnc hng hnl hs hR hv (fun _=>a3) hb
end
end
end Go.Proofs.YtpfkkmacakjmbaaGreatDoor
