import Derived.Test.YtpfkkmacakjmbaaGreatDoorP16
set_option maxRecDepth 100000
set_option maxHeartbeats 6400000
set_option linter.unusedSimpArgs false
set_option linter.unusedVariables false
namespace Go.Proofs.YtpfkkmacakjmbaaGreatDoor
section
open Go Go.RowKit Sp
attribute [local go_sem ↓] Go.wp_at_zero Go.wp_at_succ
def ky (cs:List bz) (bs:List ba) (is:List XIt):Option Nat:=(is.find? (eu cs bs is.length)).map (·.place)
def jT:Option Nat→Int
 |some p=>p
 |none=> -1
theorem iG (b:Nat) (cs:List bz) (bs:List ba) (w:World) (hn:cs.length≤100) (hnb:bs.length≤100) (hlen: ∀x∈bs,x.items.length≤1000) (hC:TxC w b cs) (hT:TxB w b bs):
  Calls Tryz.prog 104 #[.pointer (some ⟨b,0,none⟩)] w fun e w'=>e= .returned (.int .i64 (jT (bs.findSome? fun x=>ky cs bs x.items)))∧But (fun _=>False) w w':=by
 obtain⟨R,a6⟩: ∃R,(bs.findSome? fun x=>ky cs bs x.items)=R:=⟨_,rfl⟩;rw[a6];have HT:=hid hT;obtain⟨v2,h0,hl,l,hO,hm,hf⟩:=hT;obtain⟨ao,cap,rfl⟩:=aq hO;have b5:l.length=bs.length:=by rw[←hm];simp
 have b2:=hid a6;have HM:=hid hm;have d6:=hid b5;have f6:l.length≤100:=by omega
 clear a6 hm b5
 go_in
 go_wp2_with fail
 go_loopg [3] l.length (fun mm is wr=> ∃(k:Nat),is= .int .i64 k∧k≤l.length∧k+mm≤l.length∧l.length≤k+mm∧But (fun _=>False) w wr∧Hid (((bs.drop k).findSome? fun x=>ky cs bs x.items)=R))
 case atStart=>exact⟨0,rfl,by omega,by omega,by omega,But.refl _ _,b2.out⟩
 case round=>
  obtain⟨k,rfl,f3,e5,f4,hB,HA⟩:=hrel;clear e5 b2;have e0:=hB.kc h0 hl
  by_cases hlt:k<l.length
  ·have e6:(k:Int)<(l.length:Int):=by omega
   have hx:=List.getElem?_eq_getElem hlt;have a7:bs[k]?=some l[k].1:=by rw[←HM.out,List.getElem?_map,hx];rfl
   have b4:bs.drop k=l[k].1::bs.drop (k+1):=by
    obtain⟨h1,h2⟩:=List.getElem?_eq_some_iff.1 a7;rw[List.drop_eq_getElem_cons h1,h2]
   have a3:Hid ((ky cs bs l[k].1.items=none→((bs.drop (k+1)).findSome? fun x=>ky cs bs x.items)=R)∧ ∀p,ky cs bs l[k].1.items=some p→R=some p):=by
    have h:=HA.out;rw[b4,List.findSome?_cons]at h;refine hid ⟨fun h0=> ?_,fun p h0=> ?_⟩
    ·rw[h0]at h;exact h
    ·rw[h0]at h;exact h.symm
   have b1:=hlen l[k].1 (List.mem_of_getElem? a7);have hI:=(hf l[k] (List.getElem_mem hlt)).2;obtain⟨g,hg,e9,f0,a2⟩:=aD (ah hO hB (fun _ _ h=>h)) (by omega);have q4:wr.cell? ⟨g,k*5+4,none⟩=some l[k].2.2:=a2 _ _ (aR (k:=4) hx (by omega));clear a7 b4 a2 HA hx;revert q4 a3 hI b1;generalize l[k]=X;intro a3 b1 hI q4;obtain⟨X,vl,vi⟩:=X;simp only at hI q4;obtain⟨ai,capi,e7⟩:=aq hI;subst e7 hg;dsimp only at a3 b1;go_wp2_with fail
   go_loopg [5] X.items.length (fun mm is wr=> ∃(j:Nat),is= .int .i64 j∧j≤X.items.length∧j+mm≤X.items.length∧X.items.length≤j+mm∧But (fun _=>False) w wr∧Hid (((X.items.drop j).find? (eu cs bs X.items.length)).map (·.place)=ky cs bs X.items))
   case atStart=>exact⟨0,rfl,by omega,by omega,by omega,hB,rfl⟩
   case round=>
    rename_i wr0 _
    obtain⟨j,rfl,f1,e3,f2,a5,HJ⟩:=hrel;clear e3 q4 e0
    by_cases hjt:j<X.items.length
    ·have e4:(j:Int)<(X.items.length:Int):=by omega
     have hy:=List.getElem?_eq_getElem hjt;obtain⟨gi,e1,a8,e2,a0⟩:=aD (ah hI a5 (fun _ _ h=>h)) (by omega);have p0:=a0 _ _ (aL (k:=0) hy (by omega));have p1:=a0 _ _ (aL (k:=1) hy (by omega));have p2:=a0 _ _ (aL (k:=2) hy (by omega));have p3:=a0 _ _ (aL (k:=3) hy (by omega));have p5:=a0 _ _ (aL (k:=4) hy (by omega))
     have a1:Hid ((eu cs bs X.items.length X.items[j]=true→ky cs bs X.items=some X.items[j].place)∧(eu cs bs X.items.length X.items[j]=false→((X.items.drop (j+1)).find? (eu cs bs X.items.length)).map (·.place)=ky cs bs X.items)):=by
      have h:=HJ.out;rw[List.drop_eq_getElem_cons hjt,List.find?_cons]at h;refine hid ⟨fun h0=> ?_,fun h0=> ?_⟩
      ·rw[h0]at h;exact h.symm
      ·rw[h0]at h;exact h
     subst e1;clear a0 HJ hy;revert p0 p1 p2 p3 p5 a1;generalize X.items[j]=Y;intro p0 p1 p2 p3 p5 a1;simp only[Nat.add_zero]at p0;have e8:_=some (Value.int .i64 Y.place):=p0;have f7:_=some (Value.int .u8 Y.op.toNat):=p1;have f8:_=some (Value.int .u8 Y.cls.toNat):=p2;have g0:_=some (Value.int .i64 Y.num):=p3;have g2:_=some (Value.slice Y.pa Y.pn Y.pc):=p5;clear p0 p1 p2 p3 p5;have b0:=fun(wx:World) (h:But (fun _=>False) w wx)=>nM b cs bs Y X.items.length wx hn hnb (hC.but h) (HT.out.but h)
     unfold itV at b0;have b6:=hid b0;clear b0;go_wp2_with fail;refine(b6.out _ a5).mono ?_;rintro en w1 ⟨rfl,b3⟩;have a4:=a5.trans b3;have g1:=b3.kc e8 a8;revert a1
     cases eu cs bs X.items.length Y with
     |true=>
      intro a1;have hR:=a3.out.2 _ (a1.out.1 rfl);subst hR;clear a3 a1;go_wp2_with fail;go_ret;exact⟨rfl,a4⟩
     |false=>
      intro a1;have c7:=hid (a1.out.2 rfl);clear a1;go_wp2_with fail
      go_roundg (X.items.length-(j+1))
      case measure=>omega
      case rel=>exact⟨j+1,by simp,by omega,by omega,by omega,a4,c7.out⟩
    ·have e4: ¬(j:Int)<(X.items.length:Int):=by omega
     have hR:=HJ.out;rw[List.drop_of_length_le (by omega)]at hR;have HR:=hid (a3.out.1 hR.symm);clear hR a3 HJ;go_wp2_with fail
     go_roundg (l.length-(k+1))
     case measure=>omega
     case rel=>exact⟨k+1,by simp,by omega,by omega,by omega,a5,HR.out⟩
  ·have e6: ¬(k:Int)<(l.length:Int):=by omega
   have hA:=HA.out;have f5:=d6.out;rw[List.drop_of_length_le (by omega)]at hA;have hA:none=R:=hA;subst hA;clear HA;go_wp2_with fail;go_ret;exact⟨rfl,hB⟩
theorem gz (b:Nat) (s:ByteArray) (i:Nat) (bad:Bool) (v0 v1:Value) (v2:RdV) (w:World) (j:Nat) (hR:XrB w b s i bad v0 v1 v2):
  Calls Tryz.prog 201 #[.pointer (some ⟨b,0,none⟩),.int .i64 j] w fun e w'=>e= .returned (.tuple #[])∧But (· =b) w w'∧XrB w' b s (if bad=true then i else j) true v0 v1 v2:=by
 cases bad with
 |true=>exact gn b s i v0 v1 v2 w j hR
 |false=>exact d9 b s i v0 v1 v2 w j hR
def pH (w:World) (g:Nat) (x0 x1 x2 x3 x4:Value):World:=((((w.setCell ⟨g,0,none⟩ x0).setCell ⟨g,1,none⟩ x1).setCell ⟨g,2,none⟩ x2).setCell ⟨g,3,none⟩ x3).setCell ⟨g,4,none⟩ x4
theorem eO {w:World} {g t:Nat} {a0 a1 a2 a3 a4:Value} (h:w.heap[g]?=some (.cells #[a0,a1,a2,a3,a4] t)) (x0 x1 x2 x3 x4:Value):(pH w g x0 x1 x2 x3 x4).heap[g]?=some (.cells #[x0,x1,x2,x3,x4] t):=by
 have h1:=heap_setCell_same w g 0 _ _ x0 h;have h2:=heap_setCell_same _ g 1 _ _ x1 h1;have h3:=heap_setCell_same _ g 2 _ _ x2 h2;have h4:=heap_setCell_same _ g 3 _ _ x3 h3;exact heap_setCell_same _ g 4 _ _ x4 h4
theorem fN (w:World) (g:Nat) (x0 x1 x2 x3 x4:Value):But (· =g) w (pH w g x0 x1 x2 x3 x4):=
 ((((But.setB w g 0 x0).trans (But.setB _ g 1 x1)).trans (But.setB _ g 2 x2)).trans (But.setB _ g 3 x3)).trans (But.setB _ g 4 x4)
theorem bc {w:World} {g t:Nat} {x0 x1 x2 x3 x4:Value} (h:w.heap[g]?=some (.cells #[x0,x1,x2,x3,x4] t)):
  w.cell? ⟨g,0,none⟩=some x0∧w.cell? ⟨g,1,none⟩=some x1∧w.cell? ⟨g,2,none⟩=some x2∧w.cell? ⟨g,3,none⟩=some x3∧w.cell? ⟨g,4,none⟩=some x4:=by
 refine⟨?_,?_,?_,?_,?_⟩
 ·rw[cell_of_row w g 0 _ _ (0,0) h];rfl
 ·rw[cell_of_row w g 1 _ _ (0,0) h];rfl
 ·rw[cell_of_row w g 2 _ _ (0,0) h];rfl
 ·rw[cell_of_row w g 3 _ _ (0,0) h];rfl
 ·rw[cell_of_row w g 4 _ _ (0,0) h];rfl
def hdV (c:UInt8) (m:Nat) (r:UInt8) (vl vi:Value):Value:= .agg #[.int .u8 c.toNat,.int .i64 m,.int .u8 r.toNat,vl,vi]
theorem jG (b:Nat) (s:ByteArray) (i:Nat) (bad:Bool) (a0:Option Addr) (n cap0:Nat) (v1:Value) (v2:RdV) (w:World) (hn:n≤4) (hs:s.size≤2000) (hR:XrB w b s i bad (.slice a0 n cap0) v1 v2):
  Calls Tryz.prog 168 #[.pointer (some ⟨b,0,none⟩)] w fun en w'=>But (· =b) w w'∧ ∃ao cap l j bad',en= .returned (hdV 45 0 105 (.slice ao (List.length l) cap) (.slice none 0 0))∧XrB w' b s j bad' (.slice a0 n cap0) v1 v2∧BtB w' w.heap.size (.slice ao l.length cap) l∧l.length≤3∧
   ((bad'=false∧dU s n 58 3 i bad= .ok (l,j))∨(bad'=true∧dU s n 58 3 i bad= .error j)):=by
 have d6:=hR.lt
 go_in
 have h0:=hR.c0;go_wp2_with fail;have a7:But (· =b) w (w.alloc (Obj.cells #[Value.int IntKind.u8 0,Value.int IntKind.i64 0,Value.int IntKind.u8 0,Value.slice none 0 0,Value.slice none 0 0] 115)):=But.alloc _ _ _;have b0:XrB (w.alloc (Obj.cells #[Value.int IntKind.u8 0,Value.int IntKind.i64 0,Value.int IntKind.u8 0,Value.slice none 0 0,Value.slice none 0 0] 115)) b s i bad (.slice a0 n cap0) v1 v2:=hR.but (But.alloc (fun _=>False) _ _) (fun h=>h);have a5:=heap_alloc_new w (Obj.cells #[Value.int IntKind.u8 0,Value.int IntKind.i64 0,Value.int IntKind.u8 0,Value.slice none 0 0,Value.slice none 0 0] 115)
 clear h0;revert a7 b0 a5;generalize (w.alloc (Obj.cells #[Value.int IntKind.u8 0,Value.int IntKind.i64 0,Value.int IntKind.u8 0,Value.slice none 0 0,Value.slice none 0 0] 115))=W0;intro a7 b0 a5;refine(iu b s i bad _ v1 v2 W0 3 n 58 (by decide) (by omega) hn hs b0).mono ?_;rintro en w2 ⟨b1,a4,a1,l,j2,a8,rfl,b6,b2,c7,b3⟩;have b5:=hid b3;have e1:=a7.size;have e0:=ae a5;have a2:=(b1.block w.heap.size (by omega) (by omega)).trans a5;obtain⟨q0,q1,q2,q3,q4⟩:=bc a2;have f0:w2.frozen? ⟨w.heap.size,0,none⟩=false:=frozen_of_row w2 w.heap.size 0 _ _ a2;have f1:w2.frozen? ⟨w.heap.size,1,none⟩=false:=frozen_of_row w2 w.heap.size 1 _ _ a2
 have f2:w2.frozen? ⟨w.heap.size,2,none⟩=false:=frozen_of_row w2 w.heap.size 2 _ _ a2;have f3:w2.frozen? ⟨w.heap.size,3,none⟩=false:=frozen_of_row w2 w.heap.size 3 _ _ a2;have f4:w2.frozen? ⟨w.heap.size,4,none⟩=false:=frozen_of_row w2 w.heap.size 4 _ _ a2;have b4:=hid a2;clear b3 a2 a5;go_wp2_with fail;have a6:=eO b4.out (.int .u8 45) (.int .i64 0) (.int .u8 105) (.slice a4 l.length a1) (.slice none 0 0);have a3:=fN w2 w.heap.size (.int .u8 45) (.int .i64 0) (.int .u8 105) (.slice a4 l.length a1) (.slice none 0 0);unfold pH at a6 a3;revert a6 a3;generalize ((((w2.setCell ⟨w.heap.size,0,none⟩ (.int .u8 45)).setCell ⟨w.heap.size,1,none⟩ (.int .i64 0)).setCell ⟨w.heap.size,2,none⟩ (.int .u8 105)).setCell ⟨w.heap.size,3,none⟩ (.slice a4 l.length a1)).setCell ⟨w.heap.size,4,none⟩ (.slice none 0 0)=w6
 intro a6 a3;obtain⟨r0,r1,r2,r3,r4⟩:=bc a6
 exact bodyPost_ret (v:=hdV 45 0 105 (.slice a4 l.length a1) (.slice none 0 0)) (by simp[hdV,results,Tryz.results168,go_sem,r0,r1,r2,r3,r4]) rfl
  ⟨((a7.trans b1).next a3 (fun k hk h=>by omega)),a4,a1,l,j2,a8,rfl,b6.but a3 (by omega),BtB.but (World.ownsRow.mono b2 (by omega)) a3 (fun g hg h=>by have:=aj b2 g hg;omega),c7,b5.out⟩
def bj (x:Ins):XIt:=⟨x.pos,x.op,if x.op.toNat=110∨x.op.toNat=120∨x.op.toNat=103∨x.op.toNat=112∨x.op.toNat=99 then UInt8.ofNat (65+x.a)else 45,x.b,none,0,0⟩
def aW (gs:List Sig) (b:Bod):ba:=⟨if b.cls<0 then 45 else UInt8.ofNat (65+b.cls.toNat),b.meth.toNat,if b.cls<0 then 105 else(cC gs b.meth.toNat).ret,b.locals,b.code.map bj⟩
def eD (b:Bod):Prop:=0≤b.cls∧b.cls<4∧0≤b.meth
theorem xA {bs:List ba} {c:UInt8} {m:Nat}: ∀(f k:Nat),k+f=bs.length→i9 bs c m f k=match(bs.drop k).findIdx? (fun x=>decide (x.cls=c∧x.meth=m))with
  |some j=>((k+j:Nat):Int)
  |none=> -1:=by
 intro f
 induction f with
 |zero=>intro k hk;rw[List.drop_of_length_le (by omega)];rfl
 |succ f ih=>
  intro k hk;have a0:k<bs.length:=by omega
  rw[List.drop_eq_getElem_cons a0,List.findIdx?_cons];simp only[i9,List.getElem?_eq_getElem a0]
  by_cases h:bs[k].cls=c∧bs[k].meth=m
  ·simp[h]
  ·rw[if_neg h,ih (k+1) (by omega)];simp only[h,decide_false,Bool.false_eq_true,if_false]
   cases List.findIdx? (fun x=>decide (x.cls=c∧x.meth=m)) (bs.drop (k+1))with
   |none=>rfl
   |some j=>simp only[Option.map_some];congr 1;omega
theorem findIdx?_map' {α β:Type} (f:α→β) (p:β→Bool): ∀l:List α,(l.map f).findIdx? p=l.findIdx? (fun x=>p (f x)):=by
 intro l
 induction l with
 |nil=>rfl
 |cons x l ih=>simp only[List.map_cons,List.findIdx?_cons,ih]
theorem findIdx?_congr' {α:Type} {p q:α→Bool}: ∀{l:List α},(∀x∈l,p x=q x)→l.findIdx? p=l.findIdx? q:=by
 intro l
 induction l with
 |nil=>intro _;rfl
 |cons x l ih=>
  intro h;rw[List.findIdx?_cons,List.findIdx?_cons,h x (by simp),ih (fun y hy=>h y (by simp[hy]))]
theorem oz {gs:List Sig} {BS:List Bod} (hB: ∀b∈BS,(b.cls= -1)∨eD b) {x m:Nat} (hx:x<4):i9 (BS.map (aW gs)) (UInt8.ofNat (65+x)) m (BS.map (aW gs)).length 0=eI BS x m:=by
 rw[xA _ 0 (by simp),List.drop_zero]
 have he:(BS.map (aW gs)).findIdx? (fun y=>decide (y.cls=UInt8.ofNat (65+x)∧y.meth=m))=gL BS x m:=by
  unfold gL;rw[findIdx?_map'];refine findIdx?_congr' (fun b hb=> ?_);have hv:(UInt8.ofNat (65+x)).toNat=65+x:=by simp;omega
  rcases hB b hb with h| ⟨h1,h2,h3⟩
  ·have e1:(aW gs b).cls=45:=by simp[aW,h]
   have e2: ¬(45:UInt8)=UInt8.ofNat (65+x):=fun h=>by
    have:=congrArg UInt8.toNat h;rw[hv]at this;simp at this;omega
   have e3:(b.cls==(x:Int))=false:=by rw[beq_eq_false_iff_ne];omega
   rw[e1,e3,Bool.false_and,decide_eq_false_iff_not];exact fun h=>e2 h.1
  ·have e1:(aW gs b).cls=UInt8.ofNat (65+b.cls.toNat):=by simp[aW];omega
   have hw:(UInt8.ofNat (65+b.cls.toNat)).toNat=65+b.cls.toNat:=by simp;omega
   have e2:(UInt8.ofNat (65+b.cls.toNat)=UInt8.ofNat (65+x))↔b.cls=x:=by
    rw[←UInt8.toNat_inj,hv,hw];omega
   have e3:(aW gs b).meth=b.meth.toNat:=rfl;rw[Bool.eq_iff_iff];simp only[e1,e2,e3,decide_eq_true_eq,Bool.and_eq_true,beq_iff_eq];omega
 rw[he];unfold eI
 cases gL BS x m with
 |none=>rfl
 |some j=>simp
def ew (s:ByteArray) (nc:Nat) (gs:List Sig) (BS:List Bod) (i:Nat):Except Nat ((Nat×Nat×List UInt8)×Nat):=
 match dH s nc i with
 | .error j=> .error j
 | .ok (x,j)=>
  match de s gs.length j with
  | .error l=> .error l
  | .ok (m,l)=>
   if(gL BS x m).isSome=true then .error j else
   match tys s nc 58 3 [] l with
   | .error p=> .error p
   | .ok (t,p)=> .ok ((x,m,t),p)
theorem pJ {s:ByteArray} {n i:Nat} (h:aI n (pk s i)=true):ltX s n i false=(pk s i,i+1,false):=by unfold ltX;rw[if_pos ⟨rfl,h⟩]
theorem pK {s:ByteArray} {n i:Nat} {bad:Bool} (h:bad=true∨aI n (pk s i)=false):ltX s n i bad=(45,i,true):=by
 unfold ltX;rw[if_neg];rintro⟨h1,h2⟩;rcases h with h|h
 ·rw[h]at h1;cases h1
 ·rw[h]at h2;cases h2
theorem kY {s:ByteArray} {n i:Nat} (h:dM n (pk s i)=true):dgX s n i false=((pk s i).toNat-48,i+1,false):=by unfold dgX;rw[if_pos ⟨rfl,h⟩]
theorem gH {s:ByteArray} {n i:Nat} {bad:Bool} (h:bad=true∨dM n (pk s i)=false):dgX s n i bad=(0,i,true):=by
 unfold dgX;rw[if_neg];rintro⟨h1,h2⟩;rcases h with h|h
 ·rw[h]at h1;cases h1
 ·rw[h]at h2;cases h2
def lx (o:Int) (j1 j2:Nat) (b2:Bool):Nat×Bool:=if 0≤o then(if b2=true then j2 else j1,true)else(j2,b2)
theorem xB {s:ByteArray} {nc:Nat} {gs:List Sig} {BS:List Bod} {i:Nat} (hB: ∀b∈BS,(b.cls= -1)∨eD b) (hnc:nc≤4)
  {c:UInt8} {j1 d j2:Nat} {b1 b2:Bool} (h1:ltX s nc i false=(c,j1,b1)) (h2:dgX s gs.length j1 b1=(d,j2,b2)) {t:List UInt8} {j:Nat} {bad':Bool} {J:Nat×Bool} (hJ:lx (i9 (BS.map (aW gs)) c d (BS.map (aW gs)).length 0) j1 j2 b2=J)
  (hT:(bad'=false∧dU s nc 58 3 J.1 J.2= .ok (t,j))∨(bad'=true∧dU s nc 58 3 J.1 J.2= .error j)):
  (bad'=false∧ ∃x,ew s nc gs BS i= .ok ((x,d,t),j)∧c=UInt8.ofNat (65+x)∧x<nc∧d<gs.length)∨(bad'=true∧ew s nc gs BS i= .error j):=by
 unfold ew dH
 cases hl:aI nc (pk s i)with
 |false=>
  rw[pK (Or.inr hl)]at h1;simp only[Prod.mk.injEq]at h1;obtain⟨rfl,rfl,rfl⟩:=h1;rw[gH (Or.inl rfl)]at h2;simp only[Prod.mk.injEq]at h2;obtain⟨rfl,rfl,rfl⟩:=h2
  have a0:J=(i,true):=by
   rw[←hJ];unfold lx
   split<;>rfl
  subst a0;simp only[dU,if_true]at hT
  right
  rcases hT with⟨_,h⟩ | ⟨h,h'⟩
  ·cases h
  ·cases h'
   exact⟨h,by simp⟩
 |true=>
  rw[pJ hl]at h1;simp only[Prod.mk.injEq]at h1;obtain⟨rfl,rfl,rfl⟩:=h1;simp only[if_true];have a4:=hl;simp only[aI,Bool.and_eq_true,decide_eq_true_eq]at a4;unfold de
  cases hd:dM gs.length (pk s (i+1))with
  |false=>
   rw[gH (Or.inr hd)]at h2;simp only[Prod.mk.injEq]at h2;obtain⟨rfl,rfl,rfl⟩:=h2
   have a0:J=(i+1,true):=by
    rw[←hJ];unfold lx
    split<;>rfl
   subst a0;simp only[dU,if_true]at hT
   right
   rcases hT with⟨_,h⟩ | ⟨h,h'⟩
   ·cases h
   ·cases h'
    exact⟨h,by simp⟩
  |true=>
   rw[kY hd]at h2;simp only[Prod.mk.injEq]at h2;obtain⟨a3,rfl,rfl⟩:=h2;simp only[if_true];have a2:=hd;simp only[dM,Bool.and_eq_true,decide_eq_true_eq]at a2;rw[a3]
   have hc:pk s i=UInt8.ofNat (65+((pk s i).toNat-65)):=by
    apply UInt8.toNat_inj.1
    have:=(pk s i).toNat_lt;simp;omega
   have a1:=oz (gs:=gs) (m:=d) hB (x:=(pk s i).toNat-65) (by omega);rw[←hc]at a1;rw[a1]at hJ
   by_cases ho:(gL BS (((pk s i).toNat-65:Nat):Int) d).isSome=true
   ·rw[if_pos ho]
    have h0:0≤eI BS (((pk s i).toNat-65:Nat):Int) d:=by
     unfold eI;obtain⟨k,hk⟩:=Option.isSome_iff_exists.1 ho;rw[hk];exact Int.natCast_nonneg k
    rw[lx,if_pos h0]at hJ;subst hJ;simp only[dU,if_true]at hT
    right
    rcases hT with⟨_,h⟩ | ⟨h,h'⟩
    ·cases h
    ·cases h'
     exact⟨h,rfl⟩
   ·rw[if_neg ho]
    have h0: ¬0≤eI BS (((pk s i).toNat-65:Nat):Int) d:=by
     unfold eI
     cases hk:gL BS (((pk s i).toNat-65:Nat):Int) d with
     |none=>simp
     |some k=>rw[hk]at ho;simp at ho
    rw[lx,if_neg h0]at hJ;subst hJ;simp only[dU,Bool.false_eq_true,if_false]at hT;rcases hT with⟨h,h'⟩ | ⟨h,h'⟩
    ·left
     rw[h'];exact⟨h,_,rfl,hc,by omega,by omega⟩
    ·right
     rw[h'];exact⟨h,rfl⟩
theorem aZ {w:World} {ops:Array Oper} {rest:List Oper} {o:Oper} {a:Act} {Q:Exit→Act→World→Prop} (hgd:o.guard=none) (s x:Operand)
  (ho:o.op= .call {callee:= .builtin .append,args:=#[s,x],argTypes:=#[112,112]}) (base bx:Nat) (v xv:Value) (l m LM:List UInt8) (a0:Hid (l++m=LM)) (hs:a.eval s=v) (hx:a.eval x=xv) (hown:BtB w base v l) (hxo:BtB w bx xv m) (hlen:LM.length≤100000) (hbase:base≤w.heap.size)
  (h: ∀ao cap w',BtB w' base (.slice ao LM.length cap) LM→But (fun k=>v.ownBlock=some k) w w'→((Value.slice ao LM.length cap).ownBlock=v.ownBlock∨(Value.slice ao LM.length cap).ownBlock=some w.heap.size)→wpList Tryz.prog ops Q rest (a.put o.dst (.slice ao LM.length cap)) w'):wpList Tryz.prog ops Q (o::rest) a w:=by
 have a0:=a0.out;subst a0;exact gv hgd s x ho base bx v xv l m hs hx hown hxo (by rw[←List.length_append];exact hlen) hbase h
def iL (x:ba):UInt8×Nat:=(x.cls,x.meth)
theorem mM {xs ys:List ba} (h:xs.map iL=ys.map iL) (c:UInt8) (m:Nat): ∀f k:Nat,i9 xs c m f k=i9 ys c m f k:=by
 intro f
 induction f with
 |zero=>intro k;rfl
 |succ f ih=>
  intro k;have h1:(xs.map iL)[k]?=(ys.map iL)[k]?:=by rw[h]
  rw[List.getElem?_map,List.getElem?_map]at h1;unfold i9
  cases hx:xs[k]? with
  |none=>
   rw[hx]at h1
   cases hy:ys[k]? with
   |none=>rfl
   |some y=>rw[hy]at h1;cases h1
  |some x=>
   rw[hx]at h1
   cases hy:ys[k]? with
   |none=>rw[hy]at h1;cases h1
   |some y=>
    rw[hy]at h1;simp only[Option.map_some,Option.some.injEq,iL,Prod.mk.injEq]at h1;simp only[h1.1,h1.2,ih]
theorem kZ {xs ys:List ba} (h:xs.map iL=ys.map iL):xs.length=ys.length:=by have:=congrArg List.length h;simpa using this
theorem u4 (b base:Nat) (s:ByteArray) (i:Nat) (a0:Option Addr) (nc cap0:Nat) (v1:Value) (v2:RdV) (w:World) (gs:List Sig) (BS:List Bod) (xs:List ba) (hxs:xs.map iL=(BS.map (aW gs)).map iL) (hnc:nc≤4) (hgs:gs.length≤3) (hBS:BS.length≤6) (hsb: ∀b∈BS,(b.cls= -1)∨eD b) (hs:s.size≤2000)
  (hR:XrB w b s i false (.slice a0 nc cap0) v1 v2) (hM:TmV w base v1 gs) (hBd:TbV w base v2.bods xs) (hb:b<base):
  Calls Tryz.prog 167 #[.pointer (some ⟨b,0,none⟩)] w fun en w'=>But (· =b) w w'∧ ∃c m r ao cap l j bad',en= .returned (hdV c m r (.slice ao (List.length l) cap) (.slice none 0 0))∧XrB w' b s j bad' (.slice a0 nc cap0) v1 v2∧BtB w' w.heap.size (.slice ao l.length cap) l∧l.length≤5∧
   ((bad'=false∧ ∃x t,ew s nc gs BS i= .ok ((x,m,t),j)∧c=UInt8.ofNat (65+x)∧x<nc∧m<gs.length∧r=(cC gs m).ret∧l=c::(cC gs m).arg::t)∨(bad'=true∧ew s nc gs BS i= .error j)):=by
 obtain⟨a1,cap1,o5⟩:=aq hM;subst o5;have n7:=hR.lt;have HM:=hid (fun(w':World) (h:But (· =b) w w') (hr:w'.cell? ⟨b,1,none⟩=some (.slice a1 gs.length cap1))=>(hM.but h (fun g e cur _ _ hg he=>by omega)).tx hr (Nat.lt_of_lt_of_le n7 h.size));have HB:=hid (fun(w':World) (h:But (· =b) w w') (hr:w'.cell? ⟨b,2,none⟩=some v2.bods)=>(hBd.but h (fun g e cur _ _ hg he=>by omega)).tx hr (Nat.lt_of_lt_of_le n7 h.size));have n6:xs.length≤100:=by rw[kZ hxs,List.length_map];omega
 have o1:=hid n6;have n2:=hid (fun(c:UInt8) (j1 d j2:Nat) (b1 b2:Bool) (t:List UInt8) (j:Nat) (bad':Bool) (J:Nat×Bool) (h1:ltX s nc i false=(c,j1,b1)) (h2:dgX s gs.length j1 b1=(d,j2,b2)) (hJ:lx (i9 xs c d xs.length 0) j1 j2 b2=J)=>xB (t:=t) (j:=j) (bad':=bad') (J:=J) hsb hnc h1 h2 (by rw[←hJ,mM hxs,kZ hxs]));clear hM hBd n6 hsb hBS hxs
 go_in
 go_wp2_with fail;have l3:But (· =b) w (w.alloc (Obj.cells #[Value.int IntKind.u8 0,Value.int IntKind.i64 0,Value.int IntKind.u8 0,Value.slice none 0 0,Value.slice none 0 0] 115)):=But.alloc _ _ _;have m1:XrB (w.alloc (Obj.cells #[Value.int IntKind.u8 0,Value.int IntKind.i64 0,Value.int IntKind.u8 0,Value.slice none 0 0,Value.slice none 0 0] 115)) b s i false (.slice a0 nc cap0) (.slice a1 gs.length cap1) v2:=hR.but (But.alloc (fun _=>False) _ _) (fun h=>h);have i7:=heap_alloc_new w (Obj.cells #[Value.int IntKind.u8 0,Value.int IntKind.i64 0,Value.int IntKind.u8 0,Value.slice none 0 0,Value.slice none 0 0] 115)
 revert l3 m1 i7;generalize (w.alloc (Obj.cells #[Value.int IntKind.u8 0,Value.int IntKind.i64 0,Value.int IntKind.u8 0,Value.slice none 0 0,Value.slice none 0 0] 115))=W0;intro l3 m1 i7;have o0:=ae i7;have n1:=hid i7;clear i7;refine(fK b s i false _ v2 W0 nc cap0 a0 (by omega) hs m1).mono ?_;rintro en w1 ⟨rfl,l4,h0⟩;obtain⟨Y1,k0⟩: ∃Y,ltX s nc i false=Y:=⟨_,rfl⟩;rw[k0]at h0;rw[k0];have n3:=hid k0;clear k0;obtain⟨c,j1,b1⟩:=Y1;dsimp only at h0⊢;have p1:=h0.c3;have p2:=h0.c1;go_wp2_with fail;refine(cM b s j1 b1 _ _ v2 w1 gs.length (by omega) hs h0).mono ?_;rintro en w2 ⟨rfl,l5,i4⟩;obtain⟨Y2,k3⟩: ∃Y,dgX s gs.length j1 b1=Y:=⟨_,rfl⟩
 rw[k3]at i4;rw[k3];have n4:=hid k3;clear k3;obtain⟨d,j2,b2⟩:=Y2;dsimp only at i4⊢;clear p1 p2;have f8:But (· =b) w w2:=(l3.trans l4).trans l5;have i3:But (· =b) W0 w2:=l4.trans l5;have g7:=hid (fun t j bad' J=>n2.out c j1 d j2 b1 b2 t j bad' J n3.out n4.out);clear n2 n3 n4 l4 l5 h0;go_wp2_with fail;refine(kx b xs c d w2 o1.out (HB.out w2 f8 i4.c2)).mono ?_;rintro en w3 ⟨rfl,j4⟩;have j5:=i4.but j4 (fun h=>h);have e7:But (· =b) w w3:=f8.next j4 (fun _ _ h=>h.elim);have e4:But (· =b) W0 w3:=i3.next j4 (fun _ _ h=>h.elim);revert g7;generalize i9 xs c d xs.length 0=o;intro g7;clear HB j4 i4 f8 i3
 by_cases ho:0≤o
 ·obtain⟨J,hJ⟩: ∃J:Nat×Bool,(if b2=true then j2 else j1,true)=J:=⟨_,rfl⟩;have h6:=hid (fun(t:List UInt8) (j:Nat) (bad':Bool)=>g7.out t j bad' J (by rw[lx,if_pos ho];exact hJ));have HJ:=hid hJ;clear g7 hJ;go_wp2_with fail;refine(gz b s j2 b2 _ _ v2 w3 j1 j5).mono ?_;rintro en w4 ⟨rfl,n5,i5⟩;have e8:XrB w4 b s J.1 J.2 (.slice a0 nc cap0) (.slice a1 gs.length cap1) v2:=by rw[←HJ.out];exact i5
  have a7:=e7.trans n5;have b0:=e4.trans n5;clear e7 e4 j5 i5 HJ;obtain⟨j3,b3⟩:=J;dsimp only at e8;go_wp2_with fail;refine(eS b gs d w4 (by omega) (HM.out w4 a7 e8.c1)).mono ?_;rintro en w5 ⟨rfl,e5⟩;have e9:=e8.but e5 (fun h=>h);have c7:But (· =b) w w5:=a7.next e5 (fun _ _ h=>h.elim);have b4:But (· =b) W0 w5:=b0.next e5 (fun _ _ h=>h.elim);obtain⟨mt,g4⟩: ∃mt,cC gs d=mt:=⟨_,rfl⟩;rw[g4];have i1:=hid g4;clear g4 e8 e5 a7 b0 HM;obtain⟨ma,mr⟩:=mt;dsimp only;have p0:=e9.c0;have m4:=e9.lt;go_wp2_with fail;have b5:But (fun _=>False) w5 ((w5.alloc (Obj.cells #[Value.int IntKind.u8 ma.toNat,Value.int IntKind.u8 mr.toNat] 243)).alloc (Obj.cells #[Value.int IntKind.u8 c.toNat,Value.int IntKind.u8 ma.toNat] 5)):=(But.alloc _ _ _).trans (But.alloc _ _ _)
  have f6:((w5.alloc (Obj.cells #[Value.int IntKind.u8 ma.toNat,Value.int IntKind.u8 mr.toNat] 243)).alloc (Obj.cells #[Value.int IntKind.u8 c.toNat,Value.int IntKind.u8 ma.toNat] 5)).heap[w5.heap.size]?=some (Obj.cells #[Value.int IntKind.u8 ma.toNat,Value.int IntKind.u8 mr.toNat] 243):=by
   rw[(But.alloc (fun _=>False) (w5.alloc (Obj.cells #[Value.int IntKind.u8 ma.toNat,Value.int IntKind.u8 mr.toNat] 243)) (Obj.cells #[Value.int IntKind.u8 c.toNat,Value.int IntKind.u8 ma.toNat] 5)).block w5.heap.size (ae (heap_alloc_new w5 _)) (fun h=>h)];exact heap_alloc_new w5 _
  have d6:BtB ((w5.alloc (Obj.cells #[Value.int IntKind.u8 ma.toNat,Value.int IntKind.u8 mr.toNat] 243)).alloc (Obj.cells #[Value.int IntKind.u8 c.toNat,Value.int IntKind.u8 ma.toNat] 5)) w5.heap.size (.slice (some ⟨w5.heap.size+1,0,none⟩) 2 2) [c,ma]:=BtB.lit2 w5 _ [c,ma] (by simp);have f5:=e9.but b5 (fun h=>h);have g5:((w5.alloc (Obj.cells #[Value.int IntKind.u8 ma.toNat,Value.int IntKind.u8 mr.toNat] 243)).alloc (Obj.cells #[Value.int IntKind.u8 c.toNat,Value.int IntKind.u8 ma.toNat] 5)).heap.size=w5.heap.size+2:=by simp
  have g6:w5.heap.size+2≤((w5.alloc (Obj.cells #[Value.int IntKind.u8 ma.toNat,Value.int IntKind.u8 mr.toNat] 243)).alloc (Obj.cells #[Value.int IntKind.u8 c.toNat,Value.int IntKind.u8 ma.toNat] 5)).heap.size:=Nat.le_of_eq g5.symm;clear g5 p0;revert b5 f6 d6 f5 g6;generalize ((w5.alloc (Obj.cells #[Value.int IntKind.u8 ma.toNat,Value.int IntKind.u8 mr.toNat] 243)).alloc (Obj.cells #[Value.int IntKind.u8 c.toNat,Value.int IntKind.u8 ma.toNat] 5))=w6;intro b5 f6 d6 f5 g5;have i0:=hid f6;clear f6;refine(iu b s j3 b3 _ _ v2 w6 3 nc 58 (by decide) (by omega) hnc hs f5).mono ?_;rintro en w7 ⟨b6,o2,l2,l,j7,a8,rfl,m2,m0,o3,i6⟩
  have l0:=hid (h6.out l j7 a8 i6);have e0:=d6.but b6 (fun g hg h=>by have:=aj d6 g hg;omega);have g0:But (· =b) w w7:=(c7.next b5 (fun _ _ h=>h.elim)).trans b6;have f7:But (· =b) W0 w7:=(b4.next b5 (fun _ _ h=>h.elim)).trans b6;have g3:=(b6.block w5.heap.size (by omega) (by omega)).trans i0.out;have p3:=b6.size;have o6:=c7.size;have n0:=b4.size;have m5:w5.heap.size≤w7.heap.size:=by omega
  clear i6 h6 d6 f5 e9 i0;obtain⟨LL,g2⟩: ∃LL,[c,ma]++l=LL:=⟨_,rfl⟩;have l6:LL.length≤5:=by rw[←g2];simp;omega
  have h7:=hid g2;clear g2;go_wp2_with (at_builtin;refine aZ rfl _ _ rfl w5.heap.size w6.heap.size _ _ [c,ma] l LL h7 rfl rfl e0 m0 (by omega) m5 ?_);intro a6 a2 w8 h8 e6 o4;have a3:=aj e0;have g1:But (· =b) w w8:=g0.next e6 (fun k hk h=>by have:=a3 k h;omega);have m3:=m2.but e6 (fun h=>by have:=a3 _ h;omega);have e1:(Value.slice (some ⟨w5.heap.size+1,0,none⟩) 2 2).ownBlock=some (w5.heap.size+1):=rfl;have j0:=(e6.block w5.heap.size (ae g3) (fun h=>by rw[e1]at h;injection h with h;omega)).trans g3;have a4:=(e6.block w.heap.size (by omega) (fun h=>by have:=a3 _ h;omega)).trans ((f7.block w.heap.size o0 (by omega)).trans n1.out)
  have k1:=ce1 j0;obtain⟨q0,q1,q2,q3,q4⟩:=bc a4;have f0:w8.frozen? ⟨w.heap.size,0,none⟩=false:=frozen_of_row w8 w.heap.size 0 _ _ a4;have f1:w8.frozen? ⟨w.heap.size,1,none⟩=false:=frozen_of_row w8 w.heap.size 1 _ _ a4;have f2:w8.frozen? ⟨w.heap.size,2,none⟩=false:=frozen_of_row w8 w.heap.size 2 _ _ a4;have f3:w8.frozen? ⟨w.heap.size,3,none⟩=false:=frozen_of_row w8 w.heap.size 3 _ _ a4;have f4:w8.frozen? ⟨w.heap.size,4,none⟩=false:=frozen_of_row w8 w.heap.size 4 _ _ a4;have l1:=hid a4;have i2:BtB w8 w.heap.size (.slice a6 LL.length a2) LL:=World.ownsRow.mono h8 (by omega);have H8:=hid i2;have k9:=hid (aj h8)
  clear a4 j0 g3 h8 i2 e1
  have a5: ∀w9,But (· =w.heap.size) w8 w9→But (· =b) w w9∧ ∃c' m r ao cap l j bad',Ending.returned (hdV c d mr (.slice a6 LL.length a2) (.slice none 0 0))= .returned (hdV c' m r (.slice ao (List.length l) cap) (.slice none 0 0))∧XrB w9 b s j bad' (.slice a0 nc cap0) (.slice a1 gs.length cap1) v2∧BtB w9 w.heap.size (.slice ao l.length cap) l∧l.length≤5∧
    ((bad'=false∧ ∃x t,ew s nc gs BS i= .ok ((x,m,t),j)∧c'=UInt8.ofNat (65+x)∧x<nc∧m<gs.length∧r=(cC gs m).ret∧l=c'::(cC gs m).arg::t)∨(bad'=true∧ew s nc gs BS i= .error j)):=by
   intro w9 h9;refine⟨g1.next h9 (fun k hk h=>by omega),c,d,mr,a6,a2,LL,j7,a8,rfl,m3.but h9 (by omega),H8.out.but h9 (fun g hg h=>by have:=k9.out g hg;omega),l6,?_⟩;rcases l0.out with⟨h1,x,h2,h3,h4,h5⟩ |h
   ·exact Or.inl ⟨h1,x,l,h2,h3,h4,h5,by rw[i1.out],by rw[i1.out,←h7.out];rfl⟩
   ·exact Or.inr h
  have HP:=hid a5;clear a5;go_wp2_with fail;have e2:=eO l1.out (.int .u8 c.toNat) (.int .i64 d) (.int .u8 mr.toNat) (.slice a6 LL.length a2) (.slice none 0 0);have e3:=HP.out _ (fN w8 w.heap.size (.int .u8 c.toNat) (.int .i64 d) (.int .u8 mr.toNat) (.slice a6 LL.length a2) (.slice none 0 0));unfold pH at e2 e3;revert e2 e3;generalize ((((w8.setCell ⟨w.heap.size,0,none⟩ (.int .u8 c.toNat)).setCell ⟨w.heap.size,1,none⟩ (.int .i64 d)).setCell ⟨w.heap.size,2,none⟩ (.int .u8 mr.toNat)).setCell ⟨w.heap.size,3,none⟩ (.slice a6 LL.length a2)).setCell ⟨w.heap.size,4,none⟩ (.slice none 0 0)=w9;intro e2 e3
  obtain⟨r0,r1,r2,r3,r4⟩:=bc e2;exact bodyPost_ret (v:=hdV c d mr (.slice a6 LL.length a2) (.slice none 0 0)) (by simp[hdV,results,Tryz.results167,go_sem,r0,r1,r2,r3,r4]) rfl e3
 ·obtain⟨J,hJ⟩: ∃J:Nat×Bool,(j2,b2)=J:=⟨_,rfl⟩;have h6:=hid (fun(t:List UInt8) (j:Nat) (bad':Bool)=>g7.out t j bad' J (by rw[lx,if_neg ho];exact hJ));have HJ:=hid hJ;clear g7 hJ;have e8:XrB w3 b s J.1 J.2 (.slice a0 nc cap0) (.slice a1 gs.length cap1) v2:=by rw[←HJ.out];exact j5
  have a7:=e7;have b0:=e4;clear e7 e4 j5 HJ;obtain⟨j3,b3⟩:=J;dsimp only at e8;go_wp2_with fail;refine(eS b gs d w3 (by omega) (HM.out w3 a7 e8.c1)).mono ?_;rintro en w5 ⟨rfl,e5⟩;have e9:=e8.but e5 (fun h=>h);have c7:But (· =b) w w5:=a7.next e5 (fun _ _ h=>h.elim);have b4:But (· =b) W0 w5:=b0.next e5 (fun _ _ h=>h.elim);obtain⟨mt,g4⟩: ∃mt,cC gs d=mt:=⟨_,rfl⟩;rw[g4];have i1:=hid g4;clear g4 e8 e5 a7 b0 HM;obtain⟨ma,mr⟩:=mt;dsimp only;have p0:=e9.c0;have m4:=e9.lt;go_wp2_with fail;have b5:But (fun _=>False) w5 ((w5.alloc (Obj.cells #[Value.int IntKind.u8 ma.toNat,Value.int IntKind.u8 mr.toNat] 243)).alloc (Obj.cells #[Value.int IntKind.u8 c.toNat,Value.int IntKind.u8 ma.toNat] 5)):=(But.alloc _ _ _).trans (But.alloc _ _ _)
  have f6:((w5.alloc (Obj.cells #[Value.int IntKind.u8 ma.toNat,Value.int IntKind.u8 mr.toNat] 243)).alloc (Obj.cells #[Value.int IntKind.u8 c.toNat,Value.int IntKind.u8 ma.toNat] 5)).heap[w5.heap.size]?=some (Obj.cells #[Value.int IntKind.u8 ma.toNat,Value.int IntKind.u8 mr.toNat] 243):=by
   rw[(But.alloc (fun _=>False) (w5.alloc (Obj.cells #[Value.int IntKind.u8 ma.toNat,Value.int IntKind.u8 mr.toNat] 243)) (Obj.cells #[Value.int IntKind.u8 c.toNat,Value.int IntKind.u8 ma.toNat] 5)).block w5.heap.size (ae (heap_alloc_new w5 _)) (fun h=>h)];exact heap_alloc_new w5 _
  have d6:BtB ((w5.alloc (Obj.cells #[Value.int IntKind.u8 ma.toNat,Value.int IntKind.u8 mr.toNat] 243)).alloc (Obj.cells #[Value.int IntKind.u8 c.toNat,Value.int IntKind.u8 ma.toNat] 5)) w5.heap.size (.slice (some ⟨w5.heap.size+1,0,none⟩) 2 2) [c,ma]:=BtB.lit2 w5 _ [c,ma] (by simp);have f5:=e9.but b5 (fun h=>h);have g5:((w5.alloc (Obj.cells #[Value.int IntKind.u8 ma.toNat,Value.int IntKind.u8 mr.toNat] 243)).alloc (Obj.cells #[Value.int IntKind.u8 c.toNat,Value.int IntKind.u8 ma.toNat] 5)).heap.size=w5.heap.size+2:=by simp
  have g6:w5.heap.size+2≤((w5.alloc (Obj.cells #[Value.int IntKind.u8 ma.toNat,Value.int IntKind.u8 mr.toNat] 243)).alloc (Obj.cells #[Value.int IntKind.u8 c.toNat,Value.int IntKind.u8 ma.toNat] 5)).heap.size:=Nat.le_of_eq g5.symm;clear g5 p0;revert b5 f6 d6 f5 g6;generalize ((w5.alloc (Obj.cells #[Value.int IntKind.u8 ma.toNat,Value.int IntKind.u8 mr.toNat] 243)).alloc (Obj.cells #[Value.int IntKind.u8 c.toNat,Value.int IntKind.u8 ma.toNat] 5))=w6;intro b5 f6 d6 f5 g5;have i0:=hid f6;clear f6;refine(iu b s j3 b3 _ _ v2 w6 3 nc 58 (by decide) (by omega) hnc hs f5).mono ?_;rintro en w7 ⟨b6,o2,l2,l,j7,a8,rfl,m2,m0,o3,i6⟩
  have l0:=hid (h6.out l j7 a8 i6);have e0:=d6.but b6 (fun g hg h=>by have:=aj d6 g hg;omega);have g0:But (· =b) w w7:=(c7.next b5 (fun _ _ h=>h.elim)).trans b6;have f7:But (· =b) W0 w7:=(b4.next b5 (fun _ _ h=>h.elim)).trans b6;have g3:=(b6.block w5.heap.size (by omega) (by omega)).trans i0.out;have p3:=b6.size;have o6:=c7.size;have n0:=b4.size;have m5:w5.heap.size≤w7.heap.size:=by omega
  clear i6 h6 d6 f5 e9 i0;obtain⟨LL,g2⟩: ∃LL,[c,ma]++l=LL:=⟨_,rfl⟩;have l6:LL.length≤5:=by rw[←g2];simp;omega
  have h7:=hid g2;clear g2;go_wp2_with (at_builtin;refine aZ rfl _ _ rfl w5.heap.size w6.heap.size _ _ [c,ma] l LL h7 rfl rfl e0 m0 (by omega) m5 ?_);intro a6 a2 w8 h8 e6 o4;have a3:=aj e0;have g1:But (· =b) w w8:=g0.next e6 (fun k hk h=>by have:=a3 k h;omega);have m3:=m2.but e6 (fun h=>by have:=a3 _ h;omega);have e1:(Value.slice (some ⟨w5.heap.size+1,0,none⟩) 2 2).ownBlock=some (w5.heap.size+1):=rfl;have j0:=(e6.block w5.heap.size (ae g3) (fun h=>by rw[e1]at h;injection h with h;omega)).trans g3;have a4:=(e6.block w.heap.size (by omega) (fun h=>by have:=a3 _ h;omega)).trans ((f7.block w.heap.size o0 (by omega)).trans n1.out)
  have k1:=ce1 j0;obtain⟨q0,q1,q2,q3,q4⟩:=bc a4;have f0:w8.frozen? ⟨w.heap.size,0,none⟩=false:=frozen_of_row w8 w.heap.size 0 _ _ a4;have f1:w8.frozen? ⟨w.heap.size,1,none⟩=false:=frozen_of_row w8 w.heap.size 1 _ _ a4;have f2:w8.frozen? ⟨w.heap.size,2,none⟩=false:=frozen_of_row w8 w.heap.size 2 _ _ a4;have f3:w8.frozen? ⟨w.heap.size,3,none⟩=false:=frozen_of_row w8 w.heap.size 3 _ _ a4;have f4:w8.frozen? ⟨w.heap.size,4,none⟩=false:=frozen_of_row w8 w.heap.size 4 _ _ a4;have l1:=hid a4;have i2:BtB w8 w.heap.size (.slice a6 LL.length a2) LL:=World.ownsRow.mono h8 (by omega);have H8:=hid i2;have k9:=hid (aj h8)
  clear a4 j0 g3 h8 i2 e1
  have a5: ∀w9,But (· =w.heap.size) w8 w9→But (· =b) w w9∧ ∃c' m r ao cap l j bad',Ending.returned (hdV c d mr (.slice a6 LL.length a2) (.slice none 0 0))= .returned (hdV c' m r (.slice ao (List.length l) cap) (.slice none 0 0))∧XrB w9 b s j bad' (.slice a0 nc cap0) (.slice a1 gs.length cap1) v2∧BtB w9 w.heap.size (.slice ao l.length cap) l∧l.length≤5∧
    ((bad'=false∧ ∃x t,ew s nc gs BS i= .ok ((x,m,t),j)∧c'=UInt8.ofNat (65+x)∧x<nc∧m<gs.length∧r=(cC gs m).ret∧l=c'::(cC gs m).arg::t)∨(bad'=true∧ew s nc gs BS i= .error j)):=by
   intro w9 h9;refine⟨g1.next h9 (fun k hk h=>by omega),c,d,mr,a6,a2,LL,j7,a8,rfl,m3.but h9 (by omega),H8.out.but h9 (fun g hg h=>by have:=k9.out g hg;omega),l6,?_⟩;rcases l0.out with⟨h1,x,h2,h3,h4,h5⟩ |h
   ·exact Or.inl ⟨h1,x,l,h2,h3,h4,h5,by rw[i1.out],by rw[i1.out,←h7.out];rfl⟩
   ·exact Or.inr h
  have HP:=hid a5;clear a5;go_wp2_with fail;have e2:=eO l1.out (.int .u8 c.toNat) (.int .i64 d) (.int .u8 mr.toNat) (.slice a6 LL.length a2) (.slice none 0 0);have e3:=HP.out _ (fN w8 w.heap.size (.int .u8 c.toNat) (.int .i64 d) (.int .u8 mr.toNat) (.slice a6 LL.length a2) (.slice none 0 0));unfold pH at e2 e3;revert e2 e3;generalize ((((w8.setCell ⟨w.heap.size,0,none⟩ (.int .u8 c.toNat)).setCell ⟨w.heap.size,1,none⟩ (.int .i64 d)).setCell ⟨w.heap.size,2,none⟩ (.int .u8 mr.toNat)).setCell ⟨w.heap.size,3,none⟩ (.slice a6 LL.length a2)).setCell ⟨w.heap.size,4,none⟩ (.slice none 0 0)=w9;intro e2 e3
  obtain⟨r0,r1,r2,r3,r4⟩:=bc e2;exact bodyPost_ret (v:=hdV c d mr (.slice a6 LL.length a2) (.slice none 0 0)) (by simp[hdV,results,Tryz.results167,go_sem,r0,r1,r2,r3,r4]) rfl e3
def mN (w:World) (g:Nat) (x0 x1 x2 x3:Value):World:=(((w.setCell ⟨g,0,none⟩ x0).setCell ⟨g,1,none⟩ x1).setCell ⟨g,2,none⟩ x2).setCell ⟨g,3,none⟩ x3
theorem dJ {w:World} {g t:Nat} {a0 a1 a2 a3:Value} (h:w.heap[g]?=some (.cells #[a0,a1,a2,a3] t)) (x0 x1 x2 x3:Value):(mN w g x0 x1 x2 x3).heap[g]?=some (.cells #[x0,x1,x2,x3] t):=by
 have h1:=heap_setCell_same w g 0 _ _ x0 h;have h2:=heap_setCell_same _ g 1 _ _ x1 h1;have h3:=heap_setCell_same _ g 2 _ _ x2 h2;exact heap_setCell_same _ g 3 _ _ x3 h3
theorem ex (w:World) (g:Nat) (x0 x1 x2 x3:Value):But (· =g) w (mN w g x0 x1 x2 x3):=
 (((But.setB w g 0 x0).trans (But.setB _ g 1 x1)).trans (But.setB _ g 2 x2)).trans (But.setB _ g 3 x3)
theorem dD {w:World} {g t:Nat} {x0 x1 x2 x3:Value} (h:w.heap[g]?=some (.cells #[x0,x1,x2,x3] t)):
  w.cell? ⟨g,0,none⟩=some x0∧w.cell? ⟨g,1,none⟩=some x1∧w.cell? ⟨g,2,none⟩=some x2∧w.cell? ⟨g,3,none⟩=some x3:=by
 refine⟨?_,?_,?_,?_⟩
 ·rw[cell_of_row w g 0 _ _ (0,0) h];rfl
 ·rw[cell_of_row w g 1 _ _ (0,0) h];rfl
 ·rw[cell_of_row w g 2 _ _ (0,0) h];rfl
 ·rw[cell_of_row w g 3 _ _ (0,0) h];rfl
theorem gC {w:World} {g t:Nat} {x0 x1 x2 x3:Value} (h:w.heap[g]?=some (.cells #[x0,x1,x2,x3] t)):
  w.frozen? ⟨g,0,none⟩=false∧w.frozen? ⟨g,1,none⟩=false∧w.frozen? ⟨g,2,none⟩=false∧w.frozen? ⟨g,3,none⟩=false:=
 ⟨frozen_of_row w g 0 _ _ h,frozen_of_row w g 1 _ _ h,frozen_of_row w g 2 _ _ h,frozen_of_row w g 3 _ _ h⟩
def tgX (s:ByteArray) (i:Nat) (bad:Bool):Nat×Nat×Bool:=
 (10*(dgX s 10 i bad).1+(dgX s 10 (dgX s 10 i bad).2.1 (dgX s 10 i bad).2.2).1,(dgX s 10 (dgX s 10 i bad).2.1 (dgX s 10 i bad).2.2).2.1,(dgX s 10 (dgX s 10 i bad).2.1 (dgX s 10 i bad).2.2).2.2)
theorem xC (s:ByteArray) (n i:Nat) (bad:Bool):(dgX s n i bad).1<10:=by
 unfold dgX
 split
 ·rename_i h
  have:=h.2;simp only[dM,Bool.and_eq_true,decide_eq_true_eq]at this;simp only;omega
 ·simp
theorem rp (b:Nat) (s:ByteArray) (i:Nat) (bad:Bool) (v0 v1:Value) (v2:RdV) (w:World) (hs:s.size≤2000) (hR:XrB w b s i bad v0 v1 v2):
  Calls Tryz.prog 222 #[.pointer (some ⟨b,0,none⟩)] w fun e w'=>e= .returned (.int .i64 (tgX s i bad).1)∧But (· =b) w w'∧XrB w' b s (tgX s i bad).2.1 (tgX s i bad).2.2 v0 v1 v2:=by
 unfold tgX;have a2:=xC s 10 i bad;have a3:=xC s 10 (dgX s 10 i bad).2.1 (dgX s 10 i bad).2.2;have a0:=cM b s i bad v0 v1 v2 w 10 (by omega) hs hR;have a1:=fun w1 h=>cM b s (dgX s 10 i bad).2.1 (dgX s 10 i bad).2.2 v0 v1 v2 w1 10 (by omega) hs h
 revert a2 a3 a0 a1;generalize dgX s 10 (dgX s 10 i bad).2.1 (dgX s 10 i bad).2.2=Y2;generalize dgX s 10 i bad=Y1;obtain⟨d1,j1,b1⟩:=Y1;obtain⟨d2,j2,b2⟩:=Y2;dsimp only;intro a2 a3 a0 a1;have a4:=hid a0;have a5:=hid a1;clear a0 a1
 go_in
 go_wp2_with fail;refine a4.out.mono ?_;rintro en w1 ⟨rfl,a6,a8⟩;go_wp2_with fail;refine(a5.out w1 a8).mono ?_;rintro en w2 ⟨rfl,a7,b0⟩;go_wp2_with fail;go_ret;refine⟨?_,a6.trans a7,b0⟩;simp[go_sem]
end
end Go.Proofs.YtpfkkmacakjmbaaGreatDoor
