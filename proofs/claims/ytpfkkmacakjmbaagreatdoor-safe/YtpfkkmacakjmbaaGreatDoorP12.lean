import Derived.Test.YtpfkkmacakjmbaaGreatDoorP11
set_option maxRecDepth 100000
set_option maxHeartbeats 6400000
set_option linter.all false
namespace Go.Proofs.YtpfkkmacakjmbaaGreatDoor
open Proofs.Tryz
section
open Go Go.RowKit Sp
def qE (s:ByteArray) (cs:List Cls) (ns nl i:Nat) (bad:Bool):Except Nat (Ins×Nat):=if bad=true then .error i else mz s cs ns nl i
def iW (s:ByteArray) (cs:List Cls) (ns nl i:Nat) (bad:Bool) (x:XIt) (j:Nat) (bad':Bool):Prop:=
 (bad'=false/\ ∃y,qE s cs ns nl i bad= .ok (y,j)/\x=bP y)\/(bad'=true/\qE s cs ns nl i bad= .error j)
section
variable {s:ByteArray} {cs:List Cls} {ns nl i:Nat}
theorem B6 {bad:Bool} {x:XIt} (h:bad=true\/s.size<=i):iW s cs ns nl i bad x i true:=by
 right
 refine⟨rfl,?_⟩;unfold qE
 cases bad with
 |true=>rfl
 |false=>
  obtain h|h:=h
  .cases h
  .simp only[dj,if_false];unfold mz;rw[pu h]
   rfl
theorem Dh {x:XIt} (h:cV.contains (pk s i).toNat=false):iW s cs ns nl i false x i true:=by
 right
 refine⟨rfl,?_⟩;simp only[qE,dj,if_false,mz,h]
theorem nQ {c:UInt8} (hc:pk s i=c) (hl:cV.contains c.toNat=true) {a n j:Nat} (h:bA s cs ns nl c.toNat (i+1)= .ok (a,n,j)):iW s cs ns nl i false (bP ⟨c,a,n,i⟩) j false:=by
 left
 refine⟨rfl,_,?_,rfl⟩;simp only[qE,dj,if_false,mz,hc,hl,if_true,h]
theorem jq {c:UInt8} (hc:pk s i=c) (hl:cV.contains c.toNat=true) {x:XIt} {j:Nat} (h:bA s cs ns nl c.toNat (i+1)= .error j):iW s cs ns nl i false x j true:=by
 right
 refine⟨rfl,?_⟩;simp only[qE,dj,if_false,mz,hc,hl,if_true,h]
theorem yx {c:UInt8} (hc:pk s i=c) (hl:cV.contains c.toNat=true) (h:bA s cs ns nl c.toNat (i+1)= .ok (0,0,i+1)) (hn: ¬(c.toNat=110\/c.toNat=120\/c.toNat=103\/c.toNat=112\/c.toNat=99)):iW s cs ns nl i false ⟨i,c,45,0,none,0,0⟩ (i+1) false:=by
 have:=nQ hc hl h;rw[bP]at this;simp only at this;rw[if_neg hn]at this;exact this
theorem xo {c:UInt8} {n:Nat} (hc:pk s i=c) (h:(c.toNat=107/\n=10)\/((c.toNat=108\/c.toNat=115)/\n=nl)) {Y:Nat×Nat×Bool} (hY:dgX s n (i+1) false=Y):iW s cs ns nl i false ⟨i,c,45,Y.1,none,0,0⟩ Y.2.1 Y.2.2:=by
 have hl:cV.contains c.toNat=true:=by rcases h with⟨h,_⟩ | ⟨h|h,_⟩<;>(rw[h];decide)
 have ho:bA s cs ns nl c.toNat (i+1)=match ej s n (i+1)with
  | .ok (b,j)=> .ok (0,b,j)
  | .error j=> .error j:=by
  unfold bA;obtain⟨h,rfl⟩ | ⟨h,rfl⟩:=h
  .rw[if_neg (by omega),if_pos h];rfl
  .rw[if_pos h];rfl
 subst hY;unfold ej at ho
 cases hd:fd n (pk s (i+1))with
 |true=>
  rw[nO hd];rw[hd]at ho;have:=nQ hc hl ho;rw[bP]at this;simp only at this;rw[if_neg (by rcases h with⟨h,_⟩ | ⟨h|h,_⟩<;>omega)]at this;exact this
 |false=>
  rw[jy (Or.inr hd)];rw[hd]at ho;exact jq hc hl ho
theorem pE {n:Nat} {c:UInt8} (h:aN n c=true) (hn:n<=4):UInt8.ofNat (65+(c.toNat-65))=c:=by
 simp only[aN,et,ed]at h
 apply bS
 have:=c.toNat_lt;simp;omega
theorem B7 {c:UInt8} (hnc:cs.length<=4) (hc:pk s i=c) (h:c.toNat=110\/c.toNat=120) {Y:UInt8×Nat×Bool} (hY:ltX s cs.length (i+1) false=Y):iW s cs ns nl i false ⟨i,c,Y.1,0,none,0,0⟩ Y.2.1 Y.2.2:=by
 have hl:cV.contains c.toNat=true:=by rcases h with h|h<;>(rw[h];decide)
 have ho:bA s cs ns nl c.toNat (i+1)=match eX s cs.length (i+1)with
  | .ok (a,j)=> .ok (a,0,j)
  | .error j=> .error j:=by
  unfold bA;rw[if_neg (by omega),if_neg (by omega),if_pos h]
  rfl
 subst hY;unfold eX at ho
 cases hd:aN cs.length (pk s (i+1))with
 |true=>
  rw[si hd];rw[hd]at ho;have:=nQ hc hl ho;rw[bP]at this;simp only at this;rw[if_pos (by omega),pE hd hnc]at this;exact this
 |false=>
  rw[sj (Or.inr hd)];rw[hd]at ho;exact jq hc hl ho
theorem km {a:Nat} {c:UInt8} (hd:aN cs.length c=true):bH cs (c.toNat-65)=(cQ (cs.map toX) c).length:=by
 unfold bH cQ;rw[cP,if_pos hd,cg]
 cases cs[c.toNat-65]?<;>rfl
theorem B8 {c:UInt8} (hnc:cs.length<=4) (hc:pk s i=c) (h:c.toNat=103\/c.toNat=112) {Y:UInt8×Nat×Bool} (hY:ltX s cs.length (i+1) false=Y) {Z:Nat×Nat×Bool} (hZ:dgX s (cQ (cs.map toX) Y.1).length Y.2.1 Y.2.2=Z):iW s cs ns nl i false ⟨i,c,Y.1,Z.1,none,0,0⟩ Z.2.1 Z.2.2:=by
 have hl:cV.contains c.toNat=true:=by rcases h with h|h<;>(rw[h];decide)
 have ho:bA s cs ns nl c.toNat (i+1)=match eX s cs.length (i+1)with
  | .error j=> .error j
  | .ok (a,j)=>
   match ej s (bH cs a) j with
   | .ok (b,l)=> .ok (a,b,l)
   | .error l=> .error l:=by
  unfold bA;rw[if_neg (by omega),if_neg (by omega),if_neg (by omega),if_pos h]
  rfl
 subst hY;subst hZ;unfold eX at ho
 cases hd:aN cs.length (pk s (i+1))with
 |true=>
  rw[si hd];rw[hd]at ho;simp only[if_true]at ho⊢;rw[km (a:=0) hd]at ho;unfold ej at ho
  cases he:fd (cQ (cs.map toX) (pk s (i+1))).length (pk s (i+1+1))with
  |true=>
   rw[nO he];rw[he]at ho;have:=nQ hc hl ho;rw[bP]at this;simp only at this;rw[if_pos (by omega),pE hd hnc]at this;exact this
  |false=>
   rw[jy (Or.inr he)];rw[he]at ho;exact jq hc hl ho
 |false=>
  rw[sj (Or.inr hd)];simp only;rw[jy (Or.inl rfl)];rw[hd]at ho;exact jq hc hl ho
theorem AF {c:UInt8} (hnc:cs.length<=4) (hc:pk s i=c) (h:c.toNat=99) {Y:UInt8×Nat×Bool} (hY:ltX s cs.length (i+1) false=Y) {Z:Nat×Nat×Bool} (hZ:dgX s ns Y.2.1 Y.2.2=Z):iW s cs ns nl i false ⟨i,c,Y.1,Z.1,none,0,0⟩ Z.2.1 Z.2.2:=by
 have hl:cV.contains c.toNat=true:=by rw[h];decide
 have ho:bA s cs ns nl c.toNat (i+1)=match eX s cs.length (i+1)with
  | .error j=> .error j
  | .ok (a,j)=>
   match ej s ns j with
   | .ok (b,l)=> .ok (a,b,l)
   | .error l=> .error l:=by
  unfold bA;rw[if_neg (by omega),if_neg (by omega),if_neg (by omega),if_neg (by omega),if_pos h]
  rfl
 subst hY;subst hZ;unfold eX at ho
 cases hd:aN cs.length (pk s (i+1))with
 |true=>
  rw[si hd];rw[hd]at ho;simp only[if_true]at ho⊢;unfold ej at ho
  cases he:fd ns (pk s (i+1+1))with
  |true=>
   rw[nO he];rw[he]at ho;have:=nQ hc hl ho;rw[bP]at this;simp only at this;rw[if_pos (by omega),pE hd hnc]at this;exact this
  |false=>
   rw[jy (Or.inr he)];rw[he]at ho;exact jq hc hl ho
 |false=>
  rw[sj (Or.inr hd)];simp only;rw[jy (Or.inl rfl)];rw[hd]at ho;exact jq hc hl ho
theorem B9 {c:UInt8} (hc:pk s i=c) (h:c.toNat=106\/c.toNat=102) {Z:Nat×Nat×Bool} (hZ:tgX s (i+1) false=Z):iW s cs ns nl i false ⟨i,c,45,Z.1,none,0,0⟩ Z.2.1 Z.2.2:=by
 have hl:cV.contains c.toNat=true:=by rcases h with h|h<;>(rw[h];decide)
 have ho:bA s cs ns nl c.toNat (i+1)=match ej s 10 (i+1)with
  | .error j=> .error j
  | .ok (a,j)=>
   match ej s 10 j with
   | .ok (b,l)=> .ok (0,10*a+b,l)
   | .error l=> .error l:=by
  unfold bA;rw[if_neg (by omega),if_neg (by omega),if_neg (by omega),if_neg (by omega),if_neg (by omega),if_pos h]
  rfl
 subst hZ;unfold tgX;unfold ej at ho
 cases hd:fd 10 (pk s (i+1))with
 |true=>
  rw[nO hd];rw[hd]at ho;simp only[if_true]at ho⊢
  cases he:fd 10 (pk s (i+1+1))with
  |true=>
   rw[nO he];rw[he]at ho;have:=nQ hc hl ho;rw[bP]at this;simp only at this;rw[if_neg (by omega)]at this;exact this
  |false=>
   rw[jy (Or.inr he)];rw[he]at ho;exact jq hc hl ho
 |false=>
  rw[jy (Or.inr hd)];simp only;rw[jy (Or.inl rfl)];rw[hd]at ho;exact jq hc hl ho
end
end
section
open Go Go.RowKit Sp
attribute [local go_sem ↓] dG dH
theorem mX {fn:Func} {R:Ending->World->Prop} {a:Act} {w:World} {c g:Nat} {a0 a1 a2 a3 a4 x0 x1 x2 x3 x4:Value} (hf:fn.results=#[.cell c 219]) (hd:a.defers=[]) (hc:a.tmps.getD c undef= .pointer (some ⟨g,0,none⟩)) (h:w.heap[g]?=some (.cells #[a0,a1,a2,a3,a4] 219)) (hR: ∀w9,w9.heap[g]?=some (.cells #[x0,x1,x2,x3,x4] 219)->But (· =g) w w9->R (.returned (.agg #[x0,x1,x2,x3,x4])) w9):bodyPost prog fn R .ret a (((((w.setCell ⟨g,0,none⟩ x0).setCell ⟨g,1,none⟩ x1).setCell ⟨g,2,none⟩ x2).setCell ⟨g,3,none⟩ x3).setCell ⟨g,4,none⟩ x4):=by
 have h9:=gP h x0 x1 x2 x3 x4;have r0:=ce0 h9;have r1:=ce1 h9;have r2:=ce2 h9;have r3:=ce3 h9;have r4:=ce4 h9;refine cW (v:= .agg #[x0,x1,x2,x3,x4]) ?_ hd (hR _ h9 (iV w g x0 x1 x2 x3 x4));have a5:a.tmps[c]?.getD undef= .pointer (some ⟨g,0,none⟩):=by simpa using hc
 unfold sh at r0 r1 r2 r3 r4;simp[results,hf,a5,go_sem,r0,r1,r2,r3,r4]
structure iA (w w1:World) (b g h:Nat) (p o c n:Value):Prop where
 but:But (· =b) w w1
 box:w1.heap[g]?=some (.cells #[.int .i64 0,.int .u8 0,.int .u8 0,.int .i64 0,S_] 219)
 item:w1.heap[h]?=some (.cells #[p,o,c,n,S_] 219)
theorem iA.next {w w1 w2:World} {b g h:Nat} {p o c n:Value} (x:iA w w1 b g h p o c n) (hg:b<g) (hh:b<h) (h2:But (· =b) w1 w2):iA w w2 b g h p o c n:=
 ⟨x.but.trans h2,(h2.block _ (ae x.box) (by omega)).trans x.box,(h2.block _ (ae x.item) (by omega)).trans x.item⟩
theorem iA.set1 {w w1:World} {b g h:Nat} {p o c n:Value} (x:iA w w1 b g h p o c n) (hh:w.heap.size<=h) (hgh:g≠h) (v:Value):iA w (w1.setCell ⟨h,1,none⟩ v) b g h p v c n:=
 ⟨x.but.next (au _ _ _ _) (λj hj e=>by omega),((au w1 h 1 v).block _ (ae x.box) (by omega)).trans x.box,bG w1 h 1 _ _ v x.item⟩
theorem iA.set2 {w w1:World} {b g h:Nat} {p o c n:Value} (x:iA w w1 b g h p o c n) (hh:w.heap.size<=h) (hgh:g≠h) (v:Value):iA w (w1.setCell ⟨h,2,none⟩ v) b g h p o v n:=
 ⟨x.but.next (au _ _ _ _) (λj hj e=>by omega),((au w1 h 2 v).block _ (ae x.box) (by omega)).trans x.box,bG w1 h 2 _ _ v x.item⟩
theorem iA.set3 {w w1:World} {b g h:Nat} {p o c n:Value} (x:iA w w1 b g h p o c n) (hh:w.heap.size<=h) (hgh:g≠h) (v:Value):iA w (w1.setCell ⟨h,3,none⟩ v) b g h p o c v:=
 ⟨x.but.next (au _ _ _ _) (λj hj e=>by omega),((au w1 h 3 v).block _ (ae x.box) (by omega)).trans x.box,bG w1 h 3 _ _ v x.item⟩
theorem dS (w:World) (b:Nat) (hb:b<w.heap.size) (A B:Array Value) (t:Nat):But (· =b) w ((w.alloc (.cells A t)).alloc (.cells B t))/\((w.alloc (.cells A t)).alloc (.cells B t)).heap[w.heap.size]?=some (.cells A t)/\((w.alloc (.cells A t)).alloc (.cells B t)).heap[w.heap.size+1]?=some (.cells B t):=by
 refine⟨(ag _ _ _).trans (ag _ _ _),?_,aB (by simp) _⟩;rw[(ag (λ_=>False) (w.alloc (.cells A t)) (.cells B t)).block w.heap.size (ae (aO w _)) (λh=>h)];exact aO w _
theorem cG {w:World} {g t:Nat} {x0 x1 x2 x3 x4:Value} (h:w.heap[g]?=some (.cells #[x0,x1,x2,x3,x4] t)):
  w.frozen? ⟨g,0,none⟩=false/\w.frozen? ⟨g,1,none⟩=false/\w.frozen? ⟨g,2,none⟩=false/\w.frozen? ⟨g,3,none⟩=false/\w.frozen? ⟨g,4,none⟩=false:=
 ⟨b7 w g 0 _ _ h,b7 w g 1 _ _ h,b7 w g 2 _ _ h,b7 w g 3 _ _ h,b7 w g 4 _ _ h⟩
theorem bk {c:UInt8} (m:Int) (h:(c.toNat:Int)=m):((c.toNat:Int)==m)=true:=beq_iff_eq.2 h
theorem aU {c:UInt8} (m:Int) (h:(c.toNat:Int)≠m):((c.toNat:Int)==m)=false:=beq_eq_false_iff_ne.2 h
def fQ (s:ByteArray) (SC:List Cls) (ng nl p:Nat) (c:UInt8) (j:Nat) (bad:Bool):XIt×Nat×Bool:=
 if c.toNat=108\/c.toNat=115 then(⟨p,c,45,(dgX s nl j bad).1,none,0,0⟩,(dgX s nl j bad).2.1,(dgX s nl j bad).2.2)
 else if c.toNat=110\/c.toNat=120 then(⟨p,c,(ltX s SC.length j bad).1,0,none,0,0⟩,(ltX s SC.length j bad).2.1,(ltX s SC.length j bad).2.2)
 else if c.toNat=103\/c.toNat=112 then(⟨p,c,(ltX s SC.length j bad).1,(dgX s (cQ (SC.map toX) (ltX s SC.length j bad).1).length (ltX s SC.length j bad).2.1 (ltX s SC.length j bad).2.2).1,none,0,0⟩,(dgX s (cQ (SC.map toX) (ltX s SC.length j bad).1).length (ltX s SC.length j bad).2.1 (ltX s SC.length j bad).2.2).2.1,(dgX s (cQ (SC.map toX) (ltX s SC.length j bad).1).length (ltX s SC.length j bad).2.1 (ltX s SC.length j bad).2.2).2.2)
 else if c.toNat=99 then(⟨p,c,(ltX s SC.length j bad).1,(dgX s ng (ltX s SC.length j bad).2.1 (ltX s SC.length j bad).2.2).1,none,0,0⟩,(dgX s ng (ltX s SC.length j bad).2.1 (ltX s SC.length j bad).2.2).2.1,(dgX s ng (ltX s SC.length j bad).2.1 (ltX s SC.length j bad).2.2).2.2)
 else(⟨p,c,45,0,none,0,0⟩,if bad=true then j else p,true)
theorem yy {s:ByteArray} {SC:List Cls} {ng nl p:Nat} {c:UInt8} {j:Nat} {bad:Bool} (hc:c.toNat=103\/c.toNat=112) {Y:UInt8×Nat×Bool} (hY:ltX s SC.length j bad=Y) {F:Nat} (hF:(cQ (SC.map toX) Y.1).length=F) {Z:Nat×Nat×Bool} (hZ:dgX s F Y.2.1 Y.2.2=Z):fQ s SC ng nl p c j bad=(⟨p,c,Y.1,Z.1,none,0,0⟩,Z.2.1,Z.2.2):=by
 unfold fQ;rw[if_neg (by omega),if_neg (by omega),if_pos hc,hY,hF,hZ]
section
variable (b base:Nat) (s:ByteArray) (i:Nat) (SC:List Cls) (a0 a1 al:Option Addr) (ng nl cap0 cap1 capl:Nat) (v2:RdV) (w:World)
theorem Di (p:Nat) (bad:Bool) (c:UInt8) (h108:c.toNat≠108) (h115:c.toNat≠115) (h110:c.toNat≠110) (h120:c.toNat≠120) (h103:c.toNat≠103) (h112:c.toNat≠112) (h99:c.toNat≠99) (hnc:SC.length<=4) (hng:ng<=3) (hnl:nl<=10) (hs:s.size<=2000)
  (hR:XrB w b s i bad (.slice a0 SC.length cap0) (.slice a1 ng cap1) v2) (hv:v2.hl= .slice al nl capl):
  Calls prog 223 #[.pointer (some ⟨b,0,none⟩),itV ⟨p,c,45,0,none,0,0⟩] w λen w'=>But (· =b) w w'/\ ∃x j bad',en= .returned (itV x)/\XrB w' b s j bad' (.slice a0 SC.length cap0) (.slice a1 ng cap1) v2/\fQ s SC ng nl p c i bad=(x,j,bad'):=by
 have e0:=hR.lt;obtain⟨nc,a2⟩: ∃nc,SC.length=nc:=⟨_,rfl⟩;have e1:=hid hnc;have e2:=hid a2;rw[a2]at hR hnc;simp only[a2];have b1:=aU (c:=c) 108 (by omega);have b4:=aU (c:=c) 115 (by omega);have b2:=aU (c:=c) 110 (by omega);have b5:=aU (c:=c) 120 (by omega);have b0:=aU (c:=c) 103 (by omega);have b3:=aU (c:=c) 112 (by omega);have e3:=aU (c:=c) 99 (by omega);clear a2;obtain⟨a6,a7,a8⟩:=dS w b e0 #[.int .i64 p,.int .u8 c.toNat,.int .u8 45,.int .i64 0,S_] #[.int .i64 0,.int .u8 0,.int .u8 0,.int .i64 0,S_] 219;have b9:=hR.but ((ag (λ_=>False) w (.cells #[.int .i64 p,.int .u8 c.toNat,.int .u8 45,.int .i64 0,S_] 219)).trans (ag _ _ (.cells #[.int .i64 0,.int .u8 0,.int .u8 0,.int .i64 0,S_] 219))) (λh=>h)
 have a3:=hid (iA.mk a6 a8 a7);clear a6 a7 a8;unfold itV;dsimp only;simp only[show(UInt8.toNat 45)=45 from rfl]
 go_in
 go_wp2_with fail;revert a3 b9;generalize ((w.alloc (.cells #[.int .i64 p,.int .u8 c.toNat,.int .u8 45,.int .i64 0,S_] 219)).alloc (.cells #[.int .i64 0,.int .u8 0,.int .u8 0,.int .i64 0,S_] 219))=W;intro c7 a3;obtain⟨q0,q1,q2,q3,q4⟩:=bN a3.out.item;obtain⟨f0,f1,f2,f3,f4⟩:=cG a3.out.item;obtain⟨y0,y1,y2,y3,y4⟩:=bN a3.out.box;obtain⟨g0,g1,g2,g3,g4⟩:=cG a3.out.box;refine(jo b s i bad _ _ v2 _ p c7).mono ?_;rintro en w3 ⟨rfl,b6,c9⟩;clear q0 q1 q2 q3 q4 f0 f1 f2 f3 f4 y0 y1 y2 y3 y4 g0 g1 g2 g3 g4;have a4:=a3.out.next (by omega) (by omega) b6;obtain⟨q0,q1,q2,q3,q4⟩:=bN a4.item
 obtain⟨f0,f1,f2,f3,f4⟩:=cG a4.item;obtain⟨y0,y1,y2,y3,y4⟩:=bN a4.box;obtain⟨g0,g1,g2,g3,g4⟩:=cG a4.box;have a5:=hid (a4);have d6:=c9;go_wp2_with fail;exact mX results223 rfl rfl a5.out.box (λw9 _ h9d=>⟨a5.out.but.next h9d (λk hk h=>by omega),⟨p,c,45,0,none,0,0⟩,(if bad=true then i else p),true,rfl,d6.but h9d (by omega),by simp[fQ,h108,h115,h110,h120,h103,h112,h99]⟩)
theorem Eb (p:Nat) (bad:Bool) (c:UInt8) (hc:c.toNat=108\/c.toNat=115) (hnc:SC.length<=4) (hng:ng<=3) (hnl:nl<=10) (hs:s.size<=2000)
  (hR:XrB w b s i bad (.slice a0 SC.length cap0) (.slice a1 ng cap1) v2) (hv:v2.hl= .slice al nl capl):
  Calls prog 223 #[.pointer (some ⟨b,0,none⟩),itV ⟨p,c,45,0,none,0,0⟩] w λen w'=>But (· =b) w w'/\ ∃x j bad',en= .returned (itV x)/\XrB w' b s j bad' (.slice a0 SC.length cap0) (.slice a1 ng cap1) v2/\fQ s SC ng nl p c i bad=(x,j,bad'):=by
 have e4:=hR.lt;obtain⟨nc,a2⟩: ∃nc,SC.length=nc:=⟨_,rfl⟩;have e5:=hid hnc;have e6:=hid a2;rw[a2]at hR hnc;simp only[a2];have d3:=hR.d3;rw[hv]at d3;have HK:=hid hc;obtain h|h:=hc
 all_goals
  first|have a6:=aU (c:=c) 108 (by omega) |have a6:=bk (c:=c) 108 (by omega)
  first|have b0:=aU (c:=c) 115 (by omega) |have b0:=bk (c:=c) 115 (by omega)
  first|have a7:=aU (c:=c) 110 (by omega) |have a7:=bk (c:=c) 110 (by omega)
  first|have b1:=aU (c:=c) 120 (by omega) |have b1:=bk (c:=c) 120 (by omega)
  first|have a5:=aU (c:=c) 103 (by omega) |have a5:=bk (c:=c) 103 (by omega)
  first|have a8:=aU (c:=c) 112 (by omega) |have a8:=bk (c:=c) 112 (by omega)
  first|have c7:=aU (c:=c) 99 (by omega) |have c7:=bk (c:=c) 99 (by omega)
  clear h;clear a2;obtain⟨b4,b6,b9⟩:=dS w b e4 #[.int .i64 p,.int .u8 c.toNat,.int .u8 45,.int .i64 0,S_] #[.int .i64 0,.int .u8 0,.int .u8 0,.int .i64 0,S_] 219;have d6:=hR.but ((ag (λ_=>False) w (.cells #[.int .i64 p,.int .u8 c.toNat,.int .u8 45,.int .i64 0,S_] 219)).trans (ag _ _ (.cells #[.int .i64 0,.int .u8 0,.int .u8 0,.int .i64 0,S_] 219))) (λh=>h);have a3:=hid (iA.mk b4 b9 b6);clear b4 b6 b9;unfold itV;dsimp only;simp only[show(UInt8.toNat 45)=45 from rfl]
  go_in
  go_wp2_with fail;revert a3 d6;generalize ((w.alloc (.cells #[.int .i64 p,.int .u8 c.toNat,.int .u8 45,.int .i64 0,S_] 219)).alloc (.cells #[.int .i64 0,.int .u8 0,.int .u8 0,.int .i64 0,S_] 219))=W;intro e0 a3;obtain⟨q0,q1,q2,q3,q4⟩:=bN a3.out.item;obtain⟨f0,f1,f2,f3,f4⟩:=cG a3.out.item;obtain⟨y0,y1,y2,y3,y4⟩:=bN a3.out.box;obtain⟨g0,g1,g2,g3,g4⟩:=cG a3.out.box;refine(dO b s i bad _ _ v2 _ nl (by omega) hs e0).mono ?_;rintro en w5 ⟨rfl,c9,b2⟩;obtain⟨Z,hZ⟩: ∃Z,dgX s nl i bad=Z:=⟨_,rfl⟩;rw[hZ]at b2;rw[hZ];have HZ:=hid hZ;clear hZ;obtain⟨d,j5,b5⟩:=Z;dsimp only at b2⊢;clear d3 q0 q1 q2 q3 q4 f0 f1 f2 f3 f4 y0 y1 y2 y3 y4 g0 g1 g2 g3 g4
  have a4:=a3.out.next (by omega) (by omega) c9;obtain⟨q0,q1,q2,q3,q4⟩:=bN a4.item;obtain⟨f0,f1,f2,f3,f4⟩:=cG a4.item;obtain⟨y0,y1,y2,y3,y4⟩:=bN a4.box;obtain⟨g0,g1,g2,g3,g4⟩:=cG a4.box;have e3:=a4.set3 (by omega) (by omega) (.int .i64 d);have e1:=b2.but (au w5 w.heap.size 3 (.int .i64 d)) (by omega);have b3:=hid (e3);have e2:=e1;go_wp2_with fail;exact mX results223 rfl rfl b3.out.box (λw9 _ h9d=>⟨b3.out.but.next h9d (λk hk h=>by omega),⟨p,c,45,d,none,0,0⟩,j5,b5,rfl,e2.but h9d (by omega),by unfold fQ;rw[if_pos HK.out,HZ.out]⟩)
theorem Ec (p:Nat) (bad:Bool) (c:UInt8) (hc:c.toNat=110\/c.toNat=120) (hnc:SC.length<=4) (hng:ng<=3) (hnl:nl<=10) (hs:s.size<=2000)
  (hR:XrB w b s i bad (.slice a0 SC.length cap0) (.slice a1 ng cap1) v2) (hv:v2.hl= .slice al nl capl):
  Calls prog 223 #[.pointer (some ⟨b,0,none⟩),itV ⟨p,c,45,0,none,0,0⟩] w λen w'=>But (· =b) w w'/\ ∃x j bad',en= .returned (itV x)/\XrB w' b s j bad' (.slice a0 SC.length cap0) (.slice a1 ng cap1) v2/\fQ s SC ng nl p c i bad=(x,j,bad'):=by
 have e5:=hR.lt;obtain⟨nc,a2⟩: ∃nc,SC.length=nc:=⟨_,rfl⟩;have e6:=hid hnc;have c7:=hid a2;rw[a2]at hR hnc;simp only[a2];have HK:=hid hc;obtain h|h:=hc
 all_goals
  first|have a6:=aU (c:=c) 108 (by omega) |have a6:=bk (c:=c) 108 (by omega)
  first|have b0:=aU (c:=c) 115 (by omega) |have b0:=bk (c:=c) 115 (by omega)
  first|have a7:=aU (c:=c) 110 (by omega) |have a7:=bk (c:=c) 110 (by omega)
  first|have b1:=aU (c:=c) 120 (by omega) |have b1:=bk (c:=c) 120 (by omega)
  first|have a5:=aU (c:=c) 103 (by omega) |have a5:=bk (c:=c) 103 (by omega)
  first|have a8:=aU (c:=c) 112 (by omega) |have a8:=bk (c:=c) 112 (by omega)
  first|have c9:=aU (c:=c) 99 (by omega) |have c9:=bk (c:=c) 99 (by omega)
  clear h;clear a2;obtain⟨b5,b6,b9⟩:=dS w b e5 #[.int .i64 p,.int .u8 c.toNat,.int .u8 45,.int .i64 0,S_] #[.int .i64 0,.int .u8 0,.int .u8 0,.int .i64 0,S_] 219;have e0:=hR.but ((ag (λ_=>False) w (.cells #[.int .i64 p,.int .u8 c.toNat,.int .u8 45,.int .i64 0,S_] 219)).trans (ag _ _ (.cells #[.int .i64 0,.int .u8 0,.int .u8 0,.int .i64 0,S_] 219))) (λh=>h);have a3:=hid (iA.mk b5 b9 b6);clear b5 b6 b9;unfold itV;dsimp only;simp only[show(UInt8.toNat 45)=45 from rfl]
  go_in
  go_wp2_with fail;revert a3 e0;generalize ((w.alloc (.cells #[.int .i64 p,.int .u8 c.toNat,.int .u8 45,.int .i64 0,S_] 219)).alloc (.cells #[.int .i64 0,.int .u8 0,.int .u8 0,.int .i64 0,S_] 219))=W;intro e1 a3;obtain⟨q0,q1,q2,q3,q4⟩:=bN a3.out.item;obtain⟨f0,f1,f2,f3,f4⟩:=cG a3.out.item;obtain⟨y0,y1,y2,y3,y4⟩:=bN a3.out.box;obtain⟨g0,g1,g2,g3,g4⟩:=cG a3.out.box;refine(iS b s i bad _ v2 _ nc cap0 a0 (by omega) hs e1).mono ?_;rintro en w3 ⟨rfl,d6,b2⟩;obtain⟨Y,hY⟩: ∃Y,ltX s nc i bad=Y:=⟨_,rfl⟩;rw[hY]at b2;rw[hY];have HY:=hid (show ltX s SC.length i bad=Y by rw[c7.out];exact hY)
  clear hY;obtain⟨kc,j3,b3⟩:=Y;dsimp only at b2⊢;clear q0 q1 q2 q3 q4 f0 f1 f2 f3 f4 y0 y1 y2 y3 y4 g0 g1 g2 g3 g4;have a4:=a3.out.next (by omega) (by omega) d6;obtain⟨q0,q1,q2,q3,q4⟩:=bN a4.item;obtain⟨f0,f1,f2,f3,f4⟩:=cG a4.item;obtain⟨y0,y1,y2,y3,y4⟩:=bN a4.box;obtain⟨g0,g1,g2,g3,g4⟩:=cG a4.box;have e4:=a4.set2 (by omega) (by omega) (.int .u8 kc.toNat);have e2:=b2.but (au w3 w.heap.size 2 (.int .u8 kc.toNat)) (by omega);have b4:=hid (e4);have e3:=e2;go_wp2_with fail;exact mX results223 rfl rfl b4.out.box (λw9 _ h9d=>⟨b4.out.but.next h9d (λk hk h=>by omega),⟨p,c,kc,0,none,0,0⟩,j3,b3,rfl,e3.but h9d (by omega),by unfold fQ;rw[if_neg (by have:=HK.out;omega),if_pos HK.out,HY.out]⟩)
theorem Ed (p:Nat) (bad:Bool) (c:UInt8) (hc:c.toNat=103\/c.toNat=112) (hnc:SC.length<=4) (hng:ng<=3) (hnl:nl<=10) (hs:s.size<=2000)
  (hR:XrB w b s i bad (.slice a0 SC.length cap0) (.slice a1 ng cap1) v2) (hv:v2.hl= .slice al nl capl) (hwf:WfC SC) (hC:TcV w base (.slice a0 SC.length cap0) (SC.map toX)) (hb:b<base):
  Calls prog 223 #[.pointer (some ⟨b,0,none⟩),itV ⟨p,c,45,0,none,0,0⟩] w λen w'=>But (· =b) w w'/\ ∃x j bad',en= .returned (itV x)/\XrB w' b s j bad' (.slice a0 SC.length cap0) (.slice a1 ng cap1) v2/\fQ s SC ng nl p c i bad=(x,j,bad'):=by
 have e9:=hR.lt;obtain⟨nc,a2⟩: ∃nc,SC.length=nc:=⟨_,rfl⟩;have b0:=hid hnc;have g7:=hid a2;rw[a2]at hR hnc;simp only[a2];have HC:=hid (λ(w':World) (h:But (· =b) w w') (hr:w'.cell? ⟨b,0,none⟩=some (.slice a0 SC.length cap0))=>(hC.but h (λg e cur _ _ hg he=>by omega)).tx hr (bq e9 h.size));have b2:=hid hwf;rw[a2]at HC;clear hC hwf;have HK:=hid hc;obtain h|h:=hc
 all_goals
  first|have b6:=aU (c:=c) 108 (by omega) |have b6:=bk (c:=c) 108 (by omega)
  first|have c9:=aU (c:=c) 115 (by omega) |have c9:=bk (c:=c) 115 (by omega)
  first|have b9:=aU (c:=c) 110 (by omega) |have b9:=bk (c:=c) 110 (by omega)
  first|have d6:=aU (c:=c) 120 (by omega) |have d6:=bk (c:=c) 120 (by omega)
  first|have b4:=aU (c:=c) 103 (by omega) |have b4:=bk (c:=c) 103 (by omega)
  first|have c7:=aU (c:=c) 112 (by omega) |have c7:=bk (c:=c) 112 (by omega)
  first|have h0:=aU (c:=c) 99 (by omega) |have h0:=bk (c:=c) 99 (by omega)
  clear h;clear a2;obtain⟨e6,f6,f7⟩:=dS w b e9 #[.int .i64 p,.int .u8 c.toNat,.int .u8 45,.int .i64 0,S_] #[.int .i64 0,.int .u8 0,.int .u8 0,.int .i64 0,S_] 219;have h3:=hR.but ((ag (λ_=>False) w (.cells #[.int .i64 p,.int .u8 c.toNat,.int .u8 45,.int .i64 0,S_] 219)).trans (ag _ _ (.cells #[.int .i64 0,.int .u8 0,.int .u8 0,.int .i64 0,S_] 219))) (λh=>h);have a4:=hid (iA.mk e6 f7 f6);clear e6 f6 f7;unfold itV;dsimp only;simp only[show(UInt8.toNat 45)=45 from rfl]
  go_in
  go_wp2_with fail;revert a4 h3;generalize ((w.alloc (.cells #[.int .i64 p,.int .u8 c.toNat,.int .u8 45,.int .i64 0,S_] 219)).alloc (.cells #[.int .i64 0,.int .u8 0,.int .u8 0,.int .i64 0,S_] 219))=W;intro h4 a4;obtain⟨q0,q1,q2,q3,q4⟩:=bN a4.out.item;obtain⟨f0,f1,f2,f3,f4⟩:=cG a4.out.item;obtain⟨y0,y1,y2,y3,y4⟩:=bN a4.out.box;obtain⟨g0,g1,g2,g3,g4⟩:=cG a4.out.box;refine(iS b s i bad _ v2 _ nc cap0 a0 (by omega) hs h4).mono ?_;rintro en w3 ⟨rfl,h1,e0⟩;obtain⟨Y,hY⟩: ∃Y,ltX s nc i bad=Y:=⟨_,rfl⟩;rw[hY]at e0;rw[hY];have HY:=hid (show ltX s SC.length i bad=Y by rw[g7.out];exact hY)
  clear hY;obtain⟨kc,j3,b3⟩:=Y;dsimp only at e0⊢;clear q0 q1 q2 q3 q4 f0 f1 f2 f3 f4 y0 y1 y2 y3 y4 g0 g1 g2 g3 g4;have a6:=a4.out.next (by omega) (by omega) h1;obtain⟨q0,q1,q2,q3,q4⟩:=bN a6.item;obtain⟨f0,f1,f2,f3,f4⟩:=cG a6.item;obtain⟨y0,y1,y2,y3,y4⟩:=bN a6.box;obtain⟨g0,g1,g2,g3,g4⟩:=cG a6.box;have e7:=a6.set2 (by omega) (by omega) (.int .u8 kc.toNat);have a5:=e0.but (au w3 w.heap.size 2 (.int .u8 kc.toNat)) (by omega);have a3:=hid e7;clear a6 e7;go_wp2_with fail;revert a3 a5;generalize (w3.setCell ⟨w.heap.size,2,none⟩ (.int .u8 kc.toNat))=X;intro a5 a3;have e8:=HC.out X a3.out.but a5.c0;have e3:=rY b (SC.map toX) kc X.drew (by rw[cP];have:=b0.out;omega) (e8.but (aD _ _))
  have f5:=mT b2.out b0.out kc;obtain⟨F,hF⟩: ∃F,(cQ (SC.map toX) kc).length=F:=⟨_,rfl⟩;rw[hF]at e3 f5;have g6:=hid hF;have e4:=hid e3;have h8:F<=8:=by have:=b0.out;omega
  clear hF e3 f5 e8;obtain⟨x0,x1,x2,x3,x4⟩:=bN a3.out.item;have f8:=ae a3.out.item;have a8:B_ X X.drew:=aD _ _;refine aI (B_ X) 6 ?_
  iterate 5 (refine aQ (v:=?_) rfl a8 ?_ ?_;rotate_left;(focus (intro wS h;have q0:=(h.kc x2 f8);clear h;go_simp;try rfl));dsimp only[Act.put];try simp only[cH])
  refine az rfl ?_;intro KS hKS;go_simp;refine e4.out.mono ?_;rintro en w4 ⟨rfl,g5⟩;rw[g5];clear g5 w4 e4;refine hKS.out _ _ (λ_=>a8) ?_;clear hKS KS;refine az rfl ?_;intro KS hKS;go_simp;refine hKS.out _ _ nofun ?_;clear hKS KS;refine aR rfl ?_;have b1:=hid (a3.out.next (by omega) (by omega) (aD _ _));have e1:=a5.but a8 (λh=>h);clear a3 a5 a8 x0 x1 x2 x3 x4 f8;revert b1 e1;generalize X.drew=X';intro a3 a5;go_wp2_with fail;refine(dO b s j3 b3 _ _ v2 _ F (by omega) hs a5).mono ?_;rintro en w5 ⟨rfl,h2,e2⟩;obtain⟨Z,hZ⟩: ∃Z,dgX s F j3 b3=Z:=⟨_,rfl⟩;rw[hZ]at e2;rw[hZ];have HZ:=hid hZ;clear hZ
  obtain⟨d,j5,b5⟩:=Z;dsimp only at e2⊢;clear q0 q1 q2 q3 q4 f0 f1 f2 f3 f4 y0 y1 y2 y3 y4 g0 g1 g2 g3 g4;have a7:=a3.out.next (by omega) (by omega) h2;obtain⟨q0,q1,q2,q3,q4⟩:=bN a7.item;obtain⟨f0,f1,f2,f3,f4⟩:=cG a7.item;obtain⟨y0,y1,y2,y3,y4⟩:=bN a7.box;obtain⟨g0,g1,g2,g3,g4⟩:=cG a7.box;have h7:=a7.set3 (by omega) (by omega) (.int .i64 d);have h5:=e2.but (au w5 w.heap.size 3 (.int .i64 d)) (by omega);have e5:=hid (h7);have h6:=h5;go_wp2_with fail;exact mX results223 rfl rfl e5.out.box (λw9 _ h9d=>⟨e5.out.but.next h9d (λk hk h=>by omega),⟨p,c,kc,d,none,0,0⟩,j5,b5,rfl,h6.but h9d (by omega),yy HK.out HY.out g6.out HZ.out⟩)
theorem Ca (p:Nat) (bad:Bool) (hnc:SC.length<=4) (hng:ng<=3) (hnl:nl<=10) (hs:s.size<=2000)
  (hR:XrB w b s i bad (.slice a0 SC.length cap0) (.slice a1 ng cap1) v2) (hv:v2.hl= .slice al nl capl):
  Calls prog 223 #[.pointer (some ⟨b,0,none⟩),itV ⟨p,99,45,0,none,0,0⟩] w λen w'=>But (· =b) w w'/\ ∃x j bad',en= .returned (itV x)/\XrB w' b s j bad' (.slice a0 SC.length cap0) (.slice a1 ng cap1) v2/\fQ s SC ng nl p 99 i bad=(x,j,bad'):=by
 have e5:=hR.lt;obtain⟨nc,a2⟩: ∃nc,SC.length=nc:=⟨_,rfl⟩;have e6:=hid hnc;have b9:=hid a2;rw[a2]at hR hnc;simp only[a2];clear a2;obtain⟨b0,b4,b6⟩:=dS w b e5 #[.int .i64 p,.int .u8 99,.int .u8 45,.int .i64 0,S_] #[.int .i64 0,.int .u8 0,.int .u8 0,.int .i64 0,S_] 219;have e0:=hR.but ((ag (λ_=>False) w (.cells #[.int .i64 p,.int .u8 99,.int .u8 45,.int .i64 0,S_] 219)).trans (ag _ _ (.cells #[.int .i64 0,.int .u8 0,.int .u8 0,.int .i64 0,S_] 219))) (λh=>h);have a3:=hid (iA.mk b0 b6 b4);clear b0 b4 b6;unfold itV;dsimp only;simp only[show(UInt8.toNat 45)=45 from rfl,show(UInt8.toNat 99)=99 from rfl]
 go_in
 go_wp2_with fail;revert a3 e0;generalize ((w.alloc (.cells #[.int .i64 p,.int .u8 99,.int .u8 45,.int .i64 0,S_] 219)).alloc (.cells #[.int .i64 0,.int .u8 0,.int .u8 0,.int .i64 0,S_] 219))=W;intro e1 a3;obtain⟨q0,q1,q2,q3,q4⟩:=bN a3.out.item;obtain⟨f0,f1,f2,f3,f4⟩:=cG a3.out.item;obtain⟨y0,y1,y2,y3,y4⟩:=bN a3.out.box;obtain⟨g0,g1,g2,g3,g4⟩:=cG a3.out.box;refine(iS b s i bad _ v2 _ nc cap0 a0 (by omega) hs e1).mono ?_;rintro en w3 ⟨rfl,c9,a6⟩;obtain⟨Y,hY⟩: ∃Y,ltX s nc i bad=Y:=⟨_,rfl⟩;rw[hY]at a6;rw[hY];have HY:=hid (show ltX s SC.length i bad=Y by rw[b9.out];exact hY)
 clear hY;obtain⟨kc,j3,b3⟩:=Y;dsimp only at a6⊢;clear q0 q1 q2 q3 q4 f0 f1 f2 f3 f4 y0 y1 y2 y3 y4 g0 g1 g2 g3 g4;have a4:=a3.out.next (by omega) (by omega) c9;obtain⟨q0,q1,q2,q3,q4⟩:=bN a4.item;obtain⟨f0,f1,f2,f3,f4⟩:=cG a4.item;obtain⟨y0,y1,y2,y3,y4⟩:=bN a4.box;obtain⟨g0,g1,g2,g3,g4⟩:=cG a4.box;have b2:=a4.set2 (by omega) (by omega) (.int .u8 kc.toNat);have b1:=a6.but (au w3 w.heap.size 2 (.int .u8 kc.toNat)) (by omega);have c7:=hid b2;clear a4 b2;have p1:=b1.c1;go_wp2_with fail;refine(dO b s j3 b3 _ _ v2 _ ng (by omega) hs b1).mono ?_;rintro en w5 ⟨rfl,d6,a7⟩;obtain⟨Z,hZ⟩: ∃Z,dgX s ng j3 b3=Z:=⟨_,rfl⟩
 rw[hZ]at a7;rw[hZ];have HZ:=hid hZ;clear hZ;obtain⟨d,j5,b5⟩:=Z;dsimp only at a7⊢;clear p1 q0 q1 q2 q3 q4 f0 f1 f2 f3 f4 y0 y1 y2 y3 y4 g0 g1 g2 g3 g4;have a5:=c7.out.next (by omega) (by omega) d6;obtain⟨q0,q1,q2,q3,q4⟩:=bN a5.item;obtain⟨f0,f1,f2,f3,f4⟩:=cG a5.item;obtain⟨y0,y1,y2,y3,y4⟩:=bN a5.box;obtain⟨g0,g1,g2,g3,g4⟩:=cG a5.box;have e4:=a5.set3 (by omega) (by omega) (.int .i64 d);have e2:=a7.but (au w5 w.heap.size 3 (.int .i64 d)) (by omega);have a8:=hid (e4);have e3:=e2;go_wp2_with fail;exact mX results223 rfl rfl a8.out.box (λw9 _ h9d=>⟨a8.out.but.next h9d (λk hk h=>by omega),⟨p,99,kc,d,none,0,0⟩,j5,b5,rfl,e3.but h9d (by omega),by unfold fQ;rw[if_neg (by decide),if_neg (by decide),if_neg (by decide),if_pos (by decide),HY.out,HZ.out]⟩)
theorem qZ (p:Nat) (bad:Bool) (c:UInt8) (hnc:SC.length<=4) (hng:ng<=3) (hnl:nl<=10) (hs:s.size<=2000)
  (hR:XrB w b s i bad (.slice a0 SC.length cap0) (.slice a1 ng cap1) v2) (hv:v2.hl= .slice al nl capl) (hG:c.toNat=103\/c.toNat=112->WfC SC/\TcV w base (.slice a0 SC.length cap0) (SC.map toX)) (hb:b<base):
  Calls prog 223 #[.pointer (some ⟨b,0,none⟩),itV ⟨p,c,45,0,none,0,0⟩] w λen w'=>But (· =b) w w'/\ ∃x j bad',en= .returned (itV x)/\XrB w' b s j bad' (.slice a0 SC.length cap0) (.slice a1 ng cap1) v2/\fQ s SC ng nl p c i bad=(x,j,bad'):=by
 have e: ∀n:Nat,n<256->c.toNat=n->c=UInt8.ofNat n:=λn hn h=>(u8n hn).1 h
 by_cases hc:c.toNat=108\/c.toNat=115
 .exact Eb b s i SC a0 a1 al ng nl cap0 cap1 capl v2 w p bad c hc hnc hng hnl hs hR hv
 obtain⟨a3,a6⟩:=not_or.1 hc;clear hc
 by_cases hc:c.toNat=110\/c.toNat=120
 .exact Ec b s i SC a0 a1 al ng nl cap0 cap1 capl v2 w p bad c hc hnc hng hnl hs hR hv
 obtain⟨a4,a7⟩:=not_or.1 hc;clear hc
 by_cases hc:c.toNat=103\/c.toNat=112
 .exact Ed b base s i SC a0 a1 al ng nl cap0 cap1 capl v2 w p bad c hc hnc hng hnl hs hR hv (hG hc).1 (hG hc).2 hb
 obtain⟨a2,a5⟩:=not_or.1 hc;clear hc
 by_cases h99:c.toNat=99
 .have hc:c=99:=e _ (by decide) h99;subst hc;exact Ca b s i SC a0 a1 al ng nl cap0 cap1 capl v2 w p bad hnc hng hnl hs hR hv
 exact Di b s i SC a0 a1 al ng nl cap0 cap1 capl v2 w p bad c a3 a6 a4 a7 a2 a5 h99 hnc hng hnl hs hR hv
end
theorem ud {s:ByteArray} {SC:List Cls} {ng nl i:Nat} {c:UInt8} {x:XIt} {j:Nat} {bad':Bool} (hnc:SC.length<=4) (hpc:pk s i=c) (hn: ¬(c.toNat=114\/c.toNat=119\/c.toNat=43\/c.toNat=45\/c.toNat=42\/c.toNat=47\/c.toNat=60\/c.toNat=61\/c.toNat=101\/c.toNat=122\/c.toNat=100\/c.toNat=116\/c.toNat=107\/c.toNat=106\/c.toNat=102))
  (h:fQ s SC ng nl i c (i+1) false=(x,j,bad')):iW s SC ng nl i false x j bad':=by
 unfold fQ at h
 by_cases h1:c.toNat=108\/c.toNat=115
 .rw[if_pos h1]at h;obtain⟨rfl,rfl,rfl⟩:=(by simpa using h:_/\_/\_);exact xo (n:=nl) hpc (Or.inr ⟨h1,rfl⟩) rfl
 rw[if_neg h1]at h
 by_cases h2:c.toNat=110\/c.toNat=120
 .rw[if_pos h2]at h;obtain⟨rfl,rfl,rfl⟩:=(by simpa using h:_/\_/\_);exact B7 hnc hpc h2 rfl
 rw[if_neg h2]at h
 by_cases h3:c.toNat=103\/c.toNat=112
 .rw[if_pos h3]at h;obtain⟨rfl,rfl,rfl⟩:=(by simpa using h:_/\_/\_);exact B8 hnc hpc h3 rfl rfl
 rw[if_neg h3]at h
 by_cases h4:c.toNat=99
 .rw[if_pos h4]at h;obtain⟨rfl,rfl,rfl⟩:=(by simpa using h:_/\_/\_);exact AF hnc hpc h4 rfl rfl
 rw[if_neg h4]at h;obtain⟨rfl,rfl,rfl⟩:=(by simpa using h:_/\_/\_)
 try simp only[dj,if_false]
 refine Dh ?_;rw[hpc];simp only[cV,List.contains_eq_mem,List.mem_cons,List.not_mem_nil,or_false,decide_eq_false_iff_not];omega
theorem ue {s:ByteArray} {SC:List Cls} {ng nl i:Nat}:fQ s SC ng nl i 0 i true=(⟨i,0,45,0,none,0,0⟩,i,true):=by
 unfold fQ;simp
section
variable (b base:Nat) (s:ByteArray) (i:Nat) (SC:List Cls) (a0 a1 al:Option Addr) (ng nl cap0 cap1 capl:Nat) (v2:RdV) (w:World)
theorem Dj (c:UInt8) (hlt:i<s.size) (hpc:pk s i=c) (hc:c.toNat=114\/c.toNat=119\/c.toNat=43\/c.toNat=45\/c.toNat=42\/c.toNat=47\/c.toNat=60\/c.toNat=61\/c.toNat=101\/c.toNat=122\/c.toNat=100\/c.toNat=116) (hnc:SC.length<=4) (hng:ng<=3) (hnl:nl<=10) (hs:s.size<=2000)
  (hR:XrB w b s i false (.slice a0 SC.length cap0) (.slice a1 ng cap1) v2) (hv:v2.hl= .slice al nl capl):
  Calls prog 169 #[.pointer (some ⟨b,0,none⟩)] w λen w'=>But (· =b) w w'/\ ∃x j bad',en= .returned (itV x)/\XrB w' b s j bad' (.slice a0 SC.length cap0) (.slice a1 ng cap1) v2/\iW s SC ng nl i false x j bad':=by
 have f6:=hR.lt;have p3:=hR.c3;obtain⟨b6,c9,d6⟩:=dS w b f6 #[.int .i64 0,.int .u8 0,.int .u8 0,.int .i64 0,S_] #[.int .i64 i,.int .u8 0,.int .u8 45,.int .i64 0,S_] 219;have b9:=hR.but ((ag (λ_=>False) w (.cells #[.int .i64 0,.int .u8 0,.int .u8 0,.int .i64 0,S_] 219)).trans (ag _ _ (.cells #[.int .i64 i,.int .u8 0,.int .u8 45,.int .i64 0,S_] 219))) (λh=>h);have b4:=hid (iA.mk b6 c9 d6);have a3:=hid (bL b s i false _ _ v2 _ hs b9);rw[jx hlt,hpc]at a3;have HI:=hid (yx (s:=s) (cs:=SC) (ns:=ng) (nl:=nl) hpc (by rcases hc with h|h|h|h|h|h|h|h|h|h|h|h<;>(rw[h];decide)) (by rcases hc with h|h|h|h|h|h|h|h|h|h|h|h<;>(rw[h];rfl)) (by omega))
 have HK:=hid hc;obtain h|h|h|h|h|h|h|h|h|h|h|h:=hc
 all_goals
  first|have b0:=aU (c:=c) 114 (by omega) |have b0:=bk (c:=c) 114 (by omega)
  first|have b2:=aU (c:=c) 119 (by omega) |have b2:=bk (c:=c) 119 (by omega)
  first|have e2:=aU (c:=c) 43 (by omega) |have e2:=bk (c:=c) 43 (by omega)
  first|have e3:=aU (c:=c) 45 (by omega) |have e3:=bk (c:=c) 45 (by omega)
  first|have e1:=aU (c:=c) 42 (by omega) |have e1:=bk (c:=c) 42 (by omega)
  first|have e4:=aU (c:=c) 47 (by omega) |have e4:=bk (c:=c) 47 (by omega)
  first|have e5:=aU (c:=c) 60 (by omega) |have e5:=bk (c:=c) 60 (by omega)
  first|have e6:=aU (c:=c) 61 (by omega) |have e6:=bk (c:=c) 61 (by omega)
  first|have a5:=aU (c:=c) 101 (by omega) |have a5:=bk (c:=c) 101 (by omega)
  first|have b3:=aU (c:=c) 122 (by omega) |have b3:=bk (c:=c) 122 (by omega)
  first|have a4:=aU (c:=c) 100 (by omega) |have a4:=bk (c:=c) 100 (by omega)
  first|have b1:=aU (c:=c) 116 (by omega) |have b1:=bk (c:=c) 116 (by omega)
  first|have a8:=aU (c:=c) 107 (by omega) |have a8:=bk (c:=c) 107 (by omega)
  first|have a7:=aU (c:=c) 106 (by omega) |have a7:=bk (c:=c) 106 (by omega)
  first|have a6:=aU (c:=c) 102 (by omega) |have a6:=bk (c:=c) 102 (by omega)
  clear h;clear b6 b9 c9 d6
  go_in
  go_wp2_with fail;refine a3.out.mono ?_;rintro en w1 ⟨rfl,e7,e8⟩;have a2:=b4.out.next (by omega) (by omega) e7;obtain⟨q0,q1,q2,q3,q4⟩:=bN a2.item;obtain⟨f0,f1,f2,f3,f4⟩:=cG a2.item;obtain⟨y0,y1,y2,y3,y4⟩:=bN a2.box;obtain⟨g0,g1,g2,g3,g4⟩:=cG a2.box;have c7:=a2.set1 (by omega) (by omega) (.int .u8 c.toNat);have e9:=e8.but (au w1 (w.heap.size+1) 1 (.int .u8 c.toNat)) (by omega);have e0:=hid c7;clear a2 c7 b4 a3 p3;have b5:=hid (e0.out);have f5:=e9;go_wp2_with fail;exact mX results169 rfl rfl b5.out.box (λw9 _ h9d=>⟨b5.out.but.next h9d (λk hk h=>by omega),⟨i,c,45,0,none,0,0⟩,i+1,false,rfl,f5.but h9d (by omega),HI.out⟩)
theorem Dl (c:UInt8) (hlt:i<s.size) (hpc:pk s i=c) (hc:c.toNat=107) (hnc:SC.length<=4) (hng:ng<=3) (hnl:nl<=10) (hs:s.size<=2000)
  (hR:XrB w b s i false (.slice a0 SC.length cap0) (.slice a1 ng cap1) v2) (hv:v2.hl= .slice al nl capl):
  Calls prog 169 #[.pointer (some ⟨b,0,none⟩)] w λen w'=>But (· =b) w w'/\ ∃x j bad',en= .returned (itV x)/\XrB w' b s j bad' (.slice a0 SC.length cap0) (.slice a1 ng cap1) v2/\iW s SC ng nl i false x j bad':=by
 have h0:=hR.lt;have p3:=hR.c3;obtain⟨c9,e1,e2⟩:=dS w b h0 #[.int .i64 0,.int .u8 0,.int .u8 0,.int .i64 0,S_] #[.int .i64 i,.int .u8 0,.int .u8 45,.int .i64 0,S_] 219;have d6:=hR.but ((ag (λ_=>False) w (.cells #[.int .i64 0,.int .u8 0,.int .u8 0,.int .i64 0,S_] 219)).trans (ag _ _ (.cells #[.int .i64 i,.int .u8 0,.int .u8 45,.int .i64 0,S_] 219))) (λh=>h);have b9:=hid (iA.mk c9 e1 e2);have a4:=hid (bL b s i false _ _ v2 _ hs d6);rw[jx hlt,hpc]at a4;have HK:=hid hc;have h:=hc;clear hc
 all_goals
  first|have b1:=aU (c:=c) 114 (by omega) |have b1:=bk (c:=c) 114 (by omega)
  first|have b3:=aU (c:=c) 119 (by omega) |have b3:=bk (c:=c) 119 (by omega)
  first|have e5:=aU (c:=c) 43 (by omega) |have e5:=bk (c:=c) 43 (by omega)
  first|have e6:=aU (c:=c) 45 (by omega) |have e6:=bk (c:=c) 45 (by omega)
  first|have e4:=aU (c:=c) 42 (by omega) |have e4:=bk (c:=c) 42 (by omega)
  first|have e7:=aU (c:=c) 47 (by omega) |have e7:=bk (c:=c) 47 (by omega)
  first|have e8:=aU (c:=c) 60 (by omega) |have e8:=bk (c:=c) 60 (by omega)
  first|have e9:=aU (c:=c) 61 (by omega) |have e9:=bk (c:=c) 61 (by omega)
  first|have a6:=aU (c:=c) 101 (by omega) |have a6:=bk (c:=c) 101 (by omega)
  first|have b4:=aU (c:=c) 122 (by omega) |have b4:=bk (c:=c) 122 (by omega)
  first|have a5:=aU (c:=c) 100 (by omega) |have a5:=bk (c:=c) 100 (by omega)
  first|have b2:=aU (c:=c) 116 (by omega) |have b2:=bk (c:=c) 116 (by omega)
  first|have b0:=aU (c:=c) 107 (by omega) |have b0:=bk (c:=c) 107 (by omega)
  first|have a8:=aU (c:=c) 106 (by omega) |have a8:=bk (c:=c) 106 (by omega)
  first|have a7:=aU (c:=c) 102 (by omega) |have a7:=bk (c:=c) 102 (by omega)
  clear h;clear c9 d6 e1 e2
  go_in
  go_wp2_with fail;refine a4.out.mono ?_;rintro en w1 ⟨rfl,f5,f7⟩;have a2:=b9.out.next (by omega) (by omega) f5;obtain⟨q0,q1,q2,q3,q4⟩:=bN a2.item;obtain⟨f0,f1,f2,f3,f4⟩:=cG a2.item;obtain⟨y0,y1,y2,y3,y4⟩:=bN a2.box;obtain⟨g0,g1,g2,g3,g4⟩:=cG a2.box;have e0:=a2.set1 (by omega) (by omega) (.int .u8 c.toNat);have f8:=f7.but (au w1 (w.heap.size+1) 1 (.int .u8 c.toNat)) (by omega);have e3:=hid e0;clear a2 e0 b9 a4 p3;go_wp2_with fail;refine(dO b s (i+1) false _ _ v2 _ 10 (by omega) hs f8).mono ?_;rintro en w5 ⟨rfl,f6,b6⟩;obtain⟨Z,hZ⟩: ∃Z,dgX s 10 (i+1) false=Z:=⟨_,rfl⟩;rw[hZ]at b6;rw[hZ];have HZ:=hid hZ
  clear hZ;obtain⟨d,j5,b5⟩:=Z;dsimp only at b6⊢;clear q0 q1 q2 q3 q4 f0 f1 f2 f3 f4 y0 y1 y2 y3 y4 g0 g1 g2 g3 g4;have a3:=e3.out.next (by omega) (by omega) f6;obtain⟨q0,q1,q2,q3,q4⟩:=bN a3.item;obtain⟨f0,f1,f2,f3,f4⟩:=cG a3.item;obtain⟨y0,y1,y2,y3,y4⟩:=bN a3.box;obtain⟨g0,g1,g2,g3,g4⟩:=cG a3.box;have g7:=a3.set3 (by omega) (by omega) (.int .i64 d);have g5:=b6.but (au w5 (w.heap.size+1) 3 (.int .i64 d)) (by omega);have c7:=hid (g7);have g6:=g5;go_wp2_with fail;exact mX results169 rfl rfl c7.out.box (λw9 _ h9d=>⟨c7.out.but.next h9d (λk hk h=>by omega),⟨i,c,45,d,none,0,0⟩,j5,b5,rfl,g6.but h9d (by omega),xo (n:=10) hpc (Or.inl ⟨HK.out,rfl⟩) HZ.out⟩)
theorem Dm (c:UInt8) (hlt:i<s.size) (hpc:pk s i=c) (hc:c.toNat=106\/c.toNat=102) (hnc:SC.length<=4) (hng:ng<=3) (hnl:nl<=10) (hs:s.size<=2000)
  (hR:XrB w b s i false (.slice a0 SC.length cap0) (.slice a1 ng cap1) v2) (hv:v2.hl= .slice al nl capl):
  Calls prog 169 #[.pointer (some ⟨b,0,none⟩)] w λen w'=>But (· =b) w w'/\ ∃x j bad',en= .returned (itV x)/\XrB w' b s j bad' (.slice a0 SC.length cap0) (.slice a1 ng cap1) v2/\iW s SC ng nl i false x j bad':=by
 have h0:=hR.lt;have p3:=hR.c3;obtain⟨c9,e1,e2⟩:=dS w b h0 #[.int .i64 0,.int .u8 0,.int .u8 0,.int .i64 0,S_] #[.int .i64 i,.int .u8 0,.int .u8 45,.int .i64 0,S_] 219;have d6:=hR.but ((ag (λ_=>False) w (.cells #[.int .i64 0,.int .u8 0,.int .u8 0,.int .i64 0,S_] 219)).trans (ag _ _ (.cells #[.int .i64 i,.int .u8 0,.int .u8 45,.int .i64 0,S_] 219))) (λh=>h);have b9:=hid (iA.mk c9 e1 e2);have a4:=hid (bL b s i false _ _ v2 _ hs d6);rw[jx hlt,hpc]at a4;have HK:=hid hc;obtain h|h:=hc
 all_goals
  first|have b1:=aU (c:=c) 114 (by omega) |have b1:=bk (c:=c) 114 (by omega)
  first|have b3:=aU (c:=c) 119 (by omega) |have b3:=bk (c:=c) 119 (by omega)
  first|have e5:=aU (c:=c) 43 (by omega) |have e5:=bk (c:=c) 43 (by omega)
  first|have e6:=aU (c:=c) 45 (by omega) |have e6:=bk (c:=c) 45 (by omega)
  first|have e4:=aU (c:=c) 42 (by omega) |have e4:=bk (c:=c) 42 (by omega)
  first|have e7:=aU (c:=c) 47 (by omega) |have e7:=bk (c:=c) 47 (by omega)
  first|have e8:=aU (c:=c) 60 (by omega) |have e8:=bk (c:=c) 60 (by omega)
  first|have e9:=aU (c:=c) 61 (by omega) |have e9:=bk (c:=c) 61 (by omega)
  first|have a6:=aU (c:=c) 101 (by omega) |have a6:=bk (c:=c) 101 (by omega)
  first|have b4:=aU (c:=c) 122 (by omega) |have b4:=bk (c:=c) 122 (by omega)
  first|have a5:=aU (c:=c) 100 (by omega) |have a5:=bk (c:=c) 100 (by omega)
  first|have b2:=aU (c:=c) 116 (by omega) |have b2:=bk (c:=c) 116 (by omega)
  first|have b0:=aU (c:=c) 107 (by omega) |have b0:=bk (c:=c) 107 (by omega)
  first|have a8:=aU (c:=c) 106 (by omega) |have a8:=bk (c:=c) 106 (by omega)
  first|have a7:=aU (c:=c) 102 (by omega) |have a7:=bk (c:=c) 102 (by omega)
  clear h;clear c9 d6 e1 e2
  go_in
  go_wp2_with fail;refine a4.out.mono ?_;rintro en w1 ⟨rfl,f5,f7⟩;have a2:=b9.out.next (by omega) (by omega) f5;obtain⟨q0,q1,q2,q3,q4⟩:=bN a2.item;obtain⟨f0,f1,f2,f3,f4⟩:=cG a2.item;obtain⟨y0,y1,y2,y3,y4⟩:=bN a2.box;obtain⟨g0,g1,g2,g3,g4⟩:=cG a2.box;have e0:=a2.set1 (by omega) (by omega) (.int .u8 c.toNat);have f8:=f7.but (au w1 (w.heap.size+1) 1 (.int .u8 c.toNat)) (by omega);have e3:=hid e0;clear a2 e0 b9 a4 p3;go_wp2_with fail;refine(uc b s (i+1) false _ _ v2 _ hs f8).mono ?_;rintro en w5 ⟨rfl,f6,b6⟩;obtain⟨Z,hZ⟩: ∃Z,tgX s (i+1) false=Z:=⟨_,rfl⟩;rw[hZ]at b6;rw[hZ];have HZ:=hid hZ;clear hZ;obtain⟨d,j5,b5⟩:=Z
  dsimp only at b6⊢;clear q0 q1 q2 q3 q4 f0 f1 f2 f3 f4 y0 y1 y2 y3 y4 g0 g1 g2 g3 g4;have a3:=e3.out.next (by omega) (by omega) f6;obtain⟨q0,q1,q2,q3,q4⟩:=bN a3.item;obtain⟨f0,f1,f2,f3,f4⟩:=cG a3.item;obtain⟨y0,y1,y2,y3,y4⟩:=bN a3.box;obtain⟨g0,g1,g2,g3,g4⟩:=cG a3.box;have g7:=a3.set3 (by omega) (by omega) (.int .i64 d);have g5:=b6.but (au w5 (w.heap.size+1) 3 (.int .i64 d)) (by omega);have c7:=hid (g7);have g6:=g5;go_wp2_with fail;exact mX results169 rfl rfl c7.out.box (λw9 _ h9d=>⟨c7.out.but.next h9d (λk hk h=>by omega),⟨i,c,45,d,none,0,0⟩,j5,b5,rfl,g6.but h9d (by omega),B9 hpc HK.out HZ.out⟩)
theorem pG (bad:Bool) (c:UInt8) (j1:Nat) (bad1:Bool) (hT:tbP s i bad=(c,j1,bad1)) (hn: ¬(c.toNat=114\/c.toNat=119\/c.toNat=43\/c.toNat=45\/c.toNat=42\/c.toNat=47\/c.toNat=60\/c.toNat=61\/c.toNat=101\/c.toNat=122\/c.toNat=100\/c.toNat=116\/c.toNat=107\/c.toNat=106\/c.toNat=102)) (hI: ∀x j bad',fQ s SC ng nl i c j1 bad1=(x,j,bad')->iW s SC ng nl i bad x j bad') (hnc:SC.length<=4) (hng:ng<=3) (hnl:nl<=10) (hs:s.size<=2000)
  (hR:XrB w b s i bad (.slice a0 SC.length cap0) (.slice a1 ng cap1) v2) (hv:v2.hl= .slice al nl capl) (hG:c.toNat=103\/c.toNat=112->WfC SC/\TcV w base (.slice a0 SC.length cap0) (SC.map toX)) (hb:b<base):
  Calls prog 169 #[.pointer (some ⟨b,0,none⟩)] w λen w'=>But (· =b) w w'/\ ∃x j bad',en= .returned (itV x)/\XrB w' b s j bad' (.slice a0 SC.length cap0) (.slice a1 ng cap1) v2/\iW s SC ng nl i bad x j bad':=by
 have g5:=hR.lt;have p3:=hR.c3;obtain⟨b1,b5,b6⟩:=dS w b g5 #[.int .i64 0,.int .u8 0,.int .u8 0,.int .i64 0,S_] #[.int .i64 i,.int .u8 0,.int .u8 45,.int .i64 0,S_] 219;have b2:=hR.but ((ag (λ_=>False) w (.cells #[.int .i64 0,.int .u8 0,.int .u8 0,.int .i64 0,S_] 219)).trans (ag _ _ (.cells #[.int .i64 i,.int .u8 0,.int .u8 45,.int .i64 0,S_] 219))) (λh=>h);have a7:=hid (iA.mk b1 b5 b6);have a4:=hid (bL b s i bad _ _ v2 _ hs b2);rw[hT]at a4;have e3:=aU (c:=c) 114 (by omega);have e5:=aU (c:=c) 119 (by omega);have g7:=aU (c:=c) 43 (by omega)
 have h0:=aU (c:=c) 45 (by omega);have g6:=aU (c:=c) 42 (by omega);have h1:=aU (c:=c) 47 (by omega);have h2:=aU (c:=c) 60 (by omega);have h3:=aU (c:=c) 61 (by omega);have d6:=aU (c:=c) 101 (by omega);have e6:=aU (c:=c) 122 (by omega);have c9:=aU (c:=c) 100 (by omega);have e4:=aU (c:=c) 116 (by omega);have e2:=aU (c:=c) 107 (by omega);have e1:=aU (c:=c) 106 (by omega);have e0:=aU (c:=c) 102 (by omega);clear hn;clear b1 b2 b5 b6
 go_in
 go_wp2_with fail;refine a4.out.mono ?_;rintro en w1 ⟨rfl,e7,f5⟩;have a2:=a7.out.next (by omega) (by omega) e7;obtain⟨q0,q1,q2,q3,q4⟩:=bN a2.item;obtain⟨f0,f1,f2,f3,f4⟩:=cG a2.item;obtain⟨y0,y1,y2,y3,y4⟩:=bN a2.box;obtain⟨g0,g1,g2,g3,g4⟩:=cG a2.box;have b4:=a2.set1 (by omega) (by omega) (.int .u8 c.toNat);have f6:=f5.but (au w1 (w.heap.size+1) 1 (.int .u8 c.toNat)) (by omega);have a8:=hid b4;clear a2 b4 a7 a4 p3;have a6:=hid (λh=>hG h);have b9:=hid hI;clear hG hI;have a5:=qZ b base s j1 SC a0 a1 al ng nl cap0 cap1 capl v2 (w1.setCell ⟨w.heap.size+1,1,none⟩ (.int .u8 c.toNat)) i bad1 c hnc hng hnl hs f6 hv (λh=>⟨(a6.out h).1,(a6.out h).2.but a8.out.but (λg e cur _ _ hg he=>by omega)⟩) hb
 unfold itV at a5;have c7:=hid a5;clear a5;go_wp2_with fail;refine c7.out.mono ?_;rintro en w3 ⟨e8,x,j3,b3,rfl,f7,e9⟩;clear q0 q1 q2 q3 q4 f0 f1 f2 f3 f4 y0 y1 y2 y3 y4 g0 g1 g2 g3 g4;have a3:=a8.out.next (by omega) (by omega) e8;obtain⟨q0,q1,q2,q3,q4⟩:=bN a3.item;obtain⟨f0,f1,f2,f3,f4⟩:=cG a3.item;obtain⟨y0,y1,y2,y3,y4⟩:=bN a3.box;obtain⟨g0,g1,g2,g3,g4⟩:=cG a3.box;have b0:=hid (a3);have f8:=f7;go_wp2_with fail;exact mX results169 rfl rfl b0.out.box (λw9 _ h9d=>⟨b0.out.but.next h9d (λk hk h=>by omega),x,j3,b3,rfl,f8.but h9d (by omega),b9.out _ _ _ e9⟩)
theorem vW (bad:Bool) (hG:bad=true\/(WfC SC/\TcV w base (.slice a0 SC.length cap0) (SC.map toX))) (hnc:SC.length<=4) (hng:ng<=3) (hnl:nl<=10) (hs:s.size<=2000)
  (hR:XrB w b s i bad (.slice a0 SC.length cap0) (.slice a1 ng cap1) v2) (hv:v2.hl= .slice al nl capl) (hb:b<base):
  Calls prog 169 #[.pointer (some ⟨b,0,none⟩)] w λen w'=>But (· =b) w w'/\ ∃x j bad',en= .returned (itV x)/\XrB w' b s j bad' (.slice a0 SC.length cap0) (.slice a1 ng cap1) v2/\iW s SC ng nl i bad x j bad':=by
 by_cases hz:bad=true\/s.size<=i
 .refine pG b base s i SC a0 a1 al ng nl cap0 cap1 capl v2 w bad 0 i true (kX hz) (by decide) (λx j bad' h=> ?_) hnc hng hnl hs hR hv (λh=>by simp at h) hb;rw[ue]at h;obtain⟨rfl,rfl,rfl⟩:=(by simpa using h:_/\_/\_);exact B6 hz
 have a5:=not_or.1 hz;have a4:bad=false:=by simpa using a5.1
 subst a4;have a2:i<s.size:=by omega
 have a3:WfC SC/\TcV w base (.slice a0 SC.length cap0) (SC.map toX):=by rcases hG with h|h;cases h;exact h
 have e: ∀n:Nat,n<256->(pk s i).toNat=n->pk s i=UInt8.ofNat n:=λn hn h=>(u8n hn).1 h
 by_cases ha:(pk s i).toNat=114\/(pk s i).toNat=119\/(pk s i).toNat=43\/(pk s i).toNat=45\/(pk s i).toNat=42\/(pk s i).toNat=47\/(pk s i).toNat=60\/(pk s i).toNat=61\/(pk s i).toNat=101\/(pk s i).toNat=122\/(pk s i).toNat=100\/(pk s i).toNat=116
 .exact Dj b s i SC a0 a1 al ng nl cap0 cap1 capl v2 w _ a2 rfl ha hnc hng hnl hs hR hv
 by_cases hd:(pk s i).toNat=107
 .exact Dl b s i SC a0 a1 al ng nl cap0 cap1 capl v2 w _ a2 rfl hd hnc hng hnl hs hR hv
 by_cases ht:(pk s i).toNat=106\/(pk s i).toNat=102
 .exact Dm b s i SC a0 a1 al ng nl cap0 cap1 capl v2 w _ a2 rfl ht hnc hng hnl hs hR hv
 exact pG b base s i SC a0 a1 al ng nl cap0 cap1 capl v2 w false (pk s i) (i+1) false (jx a2) (by omega) (λx j bad' h=>ud hnc rfl (by omega) h) hnc hng hnl hs hR hv (λ_=>a3) hb
end
end
end Go.Proofs.YtpfkkmacakjmbaaGreatDoor
