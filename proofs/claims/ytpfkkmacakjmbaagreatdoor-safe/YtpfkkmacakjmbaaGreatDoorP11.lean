import Derived.Test.YtpfkkmacakjmbaaGreatDoorP10
set_option maxRecDepth 100000
set_option maxHeartbeats 6400000
set_option linter.all false
namespace Go.Proofs.YtpfkkmacakjmbaaGreatDoor
open Proofs.Tryz
section
open Go Go.RowKit Sp
attribute [local go_sem ↓] dG dH
def mW (cs:List bV) (bs:List bM) (is:List XIt):Option Nat:=(is.find? (gd cs bs is.length)).map (·.place)
def ml:Option Nat->Int
 |some p=>p
 |none=> -1
theorem kE (b:Nat) (cs:List bV) (bs:List bM) (w:World) (hn:cs.length<=100) (hnb:bs.length<=100) (hlen: ∀x∈bs,x.items.length<=1000) (hC:TxC w b cs) (hT:TxB w b bs):
  Calls prog 104 #[.pointer (some ⟨b,0,none⟩)] w λe w'=>e= .returned (.int .i64 (ml (bs.findSome? λx=>mW cs bs x.items)))/\B_ w w':=by
 obtain⟨R,a6⟩: ∃R,(bs.findSome? λx=>mW cs bs x.items)=R:=⟨_,rfl⟩;rw[a6];have HT:=hid hT;obtain⟨v2,h0,hl,l,hO,hm,hf⟩:=hT;obtain⟨ao,cap,rfl⟩:=aw hO;have b5:l.length=bs.length:=by rw[<-hm];simp
 have b2:=hid a6;have HM:=hid hm;have c7:=hid b5;have f4:l.length<=100:=by omega
 clear a6 hm b5
 go_in
 go_wp2_with fail
 go_loopg [3] l.length (λmm is wr=> ∃(k:Nat),is= .int .i64 k/\k<=l.length/\k+mm<=l.length/\l.length<=k+mm/\B_ w wr/\Hid (((bs.drop k).findSome? λx=>mW cs bs x.items)=R))
 case atStart=>exact⟨0,rfl,by omega,by omega,by omega,But.refl _ _,b2.out⟩
 case round=>
  obtain⟨k,rfl,f1,e3,f2,hB,HA⟩:=hrel;clear e3 b2;have c9:=hB.kc h0 hl
  by_cases hlt:k<l.length
  .have e4:(k:Int)<(l.length:Int):=by omega
   have hx:=aH hlt;have a7:bs[k]?=some l[k].1:=by rw[<-HM.out,cg,hx];rfl
   have b4:bs.drop k=l[k].1::bs.drop (k+1):=by
    obtain⟨h1,h2⟩:=bC a7;rw[List.drop_eq_getElem_cons h1,h2]
   have a3:Hid ((mW cs bs l[k].1.items=none->((bs.drop (k+1)).findSome? λx=>mW cs bs x.items)=R)/\ ∀p,mW cs bs l[k].1.items=some p->R=some p):=by
    have h:=HA.out;rw[b4,List.findSome?_cons]at h;refine hid ⟨λh0=> ?_,λp h0=> ?_⟩
    .rw[h0]at h;exact h
    .rw[h0]at h;exact h.symm
   have b1:=hlen l[k].1 (bp a7);have hI:=(hf l[k] (cN hlt)).2;obtain⟨g,hg,e7,e8,a2⟩:=aF (aj hO hB (λ_ _ h=>h)) (by omega);have q4:wr.cell? ⟨g,k*5+4,none⟩=some l[k].2.2:=a2 _ _ (ba (k:=4) hx (by omega));clear a7 b4 a2 HA hx;revert q4 a3 hI b1;generalize l[k]=X;intro a3 b1 hI q4;obtain⟨X,vl,vi⟩:=X;simp only at hI q4;obtain⟨ai,capi,e5⟩:=aw hI;subst e5 hg;dsimp only at a3 b1;go_wp2_with fail
   go_loopg [5] X.items.length (λmm is wr=> ∃(j:Nat),is= .int .i64 j/\j<=X.items.length/\j+mm<=X.items.length/\X.items.length<=j+mm/\B_ w wr/\Hid (((X.items.drop j).find? (gd cs bs X.items.length)).map (·.place)=mW cs bs X.items))
   case atStart=>exact⟨0,rfl,by omega,by omega,by omega,hB,rfl⟩
   case round=>
    rename_i wr0 _
    obtain⟨j,rfl,e9,e1,f0,a5,HJ⟩:=hrel;clear e1 q4 c9
    by_cases hjt:j<X.items.length
    .have e2:(j:Int)<(X.items.length:Int):=by omega
     have hy:=aH hjt;obtain⟨gi,d6,a8,e0,a0⟩:=aF (aj hI a5 (λ_ _ h=>h)) (by omega);have p0:=a0 _ _ (aS (k:=0) hy (by omega));have p1:=a0 _ _ (aS (k:=1) hy (by omega));have p2:=a0 _ _ (aS (k:=2) hy (by omega));have p3:=a0 _ _ (aS (k:=3) hy (by omega));have p5:=a0 _ _ (aS (k:=4) hy (by omega))
     have a1:Hid ((gd cs bs X.items.length X.items[j]=true->mW cs bs X.items=some X.items[j].place)/\(gd cs bs X.items.length X.items[j]=false->((X.items.drop (j+1)).find? (gd cs bs X.items.length)).map (·.place)=mW cs bs X.items)):=by
      have h:=HJ.out;rw[List.drop_eq_getElem_cons hjt,List.find?_cons]at h;refine hid ⟨λh0=> ?_,λh0=> ?_⟩
      .rw[h0]at h;exact h.symm
      .rw[h0]at h;exact h
     subst d6;clear a0 HJ hy;revert p0 p1 p2 p3 p5 a1;generalize X.items[j]=Y;intro p0 p1 p2 p3 p5 a1;simp only[Nat.add_zero]at p0;have e6:_=some (Value.int .i64 Y.place):=p0;have f5:_=some (Value.int .u8 Y.op.toNat):=p1;have f6:_=some (Value.int .u8 Y.cls.toNat):=p2;have f7:_=some (Value.int .i64 Y.num):=p3;have g0:_=some (Value.slice Y.pa Y.pn Y.pc):=p5;clear p0 p1 p2 p3 p5;have b0:=λ(wx:World) (h:B_ w wx)=>qD b cs bs Y X.items.length wx hn hnb (hC.but h) (HT.out.but h)
     unfold itV at b0;have b6:=hid b0;clear b0;go_wp2_with fail;refine(b6.out _ a5).mono ?_;rintro en w1 ⟨rfl,b3⟩;have a4:=a5.trans b3;have f8:=b3.kc e6 a8;revert a1
     cases gd cs bs X.items.length Y with
     |true=>
      intro a1;have hR:=a3.out.2 _ (a1.out.1 rfl);subst hR;clear a3 a1;go_wp2_with fail;go_ret;exact⟨rfl,a4⟩
     |false=>
      intro a1;have b9:=hid (a1.out.2 rfl);clear a1;go_wp2_with fail
      go_roundg (X.items.length-(j+1))
      case measure=>omega
      case rel=>exact⟨j+1,by simp,by omega,by omega,by omega,a4,b9.out⟩
    .have e2: ¬(j:Int)<(X.items.length:Int):=by omega
     have hR:=HJ.out;rw[List.drop_of_length_le (by omega)]at hR;have HR:=hid (a3.out.1 hR.symm);clear hR a3 HJ;go_wp2_with fail
     go_roundg (l.length-(k+1))
     case measure=>omega
     case rel=>exact⟨k+1,by simp,by omega,by omega,by omega,a5,HR.out⟩
  .have e4: ¬(k:Int)<(l.length:Int):=by omega
   have hA:=HA.out;have f3:=c7.out;rw[List.drop_of_length_le (by omega)]at hA;have hA:none=R:=hA;subst hA;clear HA;go_wp2_with fail;go_ret;exact⟨rfl,hB⟩
theorem jo (b:Nat) (s:ByteArray) (i:Nat) (bad:Bool) (v0 v1:Value) (v2:RdV) (w:World) (j:Nat) (hR:XrB w b s i bad v0 v1 v2):
  Calls prog 201 #[.pointer (some ⟨b,0,none⟩),.int .i64 j] w λe w'=>e= .returned (.tuple #[])/\But (· =b) w w'/\XrB w' b s (if bad=true then i else j) true v0 v1 v2:=by
 cases bad with
 |true=>exact ji b s i v0 v1 v2 w j hR
 |false=>exact fF b s i v0 v1 v2 w j hR
def sh (w:World) (g:Nat) (x0 x1 x2 x3 x4:Value):World:=((((w.setCell ⟨g,0,none⟩ x0).setCell ⟨g,1,none⟩ x1).setCell ⟨g,2,none⟩ x2).setCell ⟨g,3,none⟩ x3).setCell ⟨g,4,none⟩ x4
theorem gP {w:World} {g t:Nat} {a0 a1 a2 a3 a4:Value} (h:w.heap[g]?=some (.cells #[a0,a1,a2,a3,a4] t)) (x0 x1 x2 x3 x4:Value):(sh w g x0 x1 x2 x3 x4).heap[g]?=some (.cells #[x0,x1,x2,x3,x4] t):=by
 have h1:=bG w g 0 _ _ x0 h;have h2:=bG _ g 1 _ _ x1 h1;have h3:=bG _ g 2 _ _ x2 h2;have h4:=bG _ g 3 _ _ x3 h3;exact bG _ g 4 _ _ x4 h4
theorem iV (w:World) (g:Nat) (x0 x1 x2 x3 x4:Value):But (· =g) w (sh w g x0 x1 x2 x3 x4):=
 ((((au w g 0 x0).trans (au _ g 1 x1)).trans (au _ g 2 x2)).trans (au _ g 3 x3)).trans (au _ g 4 x4)
theorem bN {w:World} {g t:Nat} {x0 x1 x2 x3 x4:Value} (h:w.heap[g]?=some (.cells #[x0,x1,x2,x3,x4] t)):
  w.cell? ⟨g,0,none⟩=some x0/\w.cell? ⟨g,1,none⟩=some x1/\w.cell? ⟨g,2,none⟩=some x2/\w.cell? ⟨g,3,none⟩=some x3/\w.cell? ⟨g,4,none⟩=some x4:=by
 refine⟨?_,?_,?_,?_,?_⟩
 .rw[aX w g 0 _ _ (0,0) h];rfl
 .rw[aX w g 1 _ _ (0,0) h];rfl
 .rw[aX w g 2 _ _ (0,0) h];rfl
 .rw[aX w g 3 _ _ (0,0) h];rfl
 .rw[aX w g 4 _ _ (0,0) h];rfl
def hdV (c:UInt8) (m:Nat) (r:UInt8) (vl vi:Value):Value:= .agg #[.int .u8 c.toNat,.int .i64 m,.int .u8 r.toNat,vl,vi]
theorem lT (b:Nat) (s:ByteArray) (i:Nat) (bad:Bool) (a0:Option Addr) (n cap0:Nat) (v1:Value) (v2:RdV) (w:World) (hn:n<=4) (hs:s.size<=2000) (hR:XrB w b s i bad (.slice a0 n cap0) v1 v2):
  Calls prog 168 #[.pointer (some ⟨b,0,none⟩)] w λen w'=>But (· =b) w w'/\ ∃ao cap l j bad',en= .returned (hdV 45 0 105 (.slice ao (List.length l) cap) S_)/\XrB w' b s j bad' (.slice a0 n cap0) v1 v2/\BtB w' w.heap.size (.slice ao l.length cap) l/\l.length<=3/\
   ((bad'=false/\fw s n 58 3 i bad= .ok (l,j))\/(bad'=true/\fw s n 58 3 i bad= .error j)):=by
 have c7:=hR.lt
 go_in
 have h0:=hR.c0;go_wp2_with fail;have a7:But (· =b) w (w.alloc (Obj.cells #[Value.int IntKind.u8 0,Value.int IntKind.i64 0,Value.int IntKind.u8 0,Value.slice none 0 0,Value.slice none 0 0] 115)):=ag _ _ _;have b0:XrB (w.alloc (Obj.cells #[Value.int IntKind.u8 0,Value.int IntKind.i64 0,Value.int IntKind.u8 0,Value.slice none 0 0,Value.slice none 0 0] 115)) b s i bad (.slice a0 n cap0) v1 v2:=hR.but (ag (λ_=>False) _ _) (λh=>h);have a5:=aO w (Obj.cells #[Value.int IntKind.u8 0,Value.int IntKind.i64 0,Value.int IntKind.u8 0,Value.slice none 0 0,Value.slice none 0 0] 115);clear h0;revert a7 b0 a5
 generalize (w.alloc (Obj.cells #[Value.int IntKind.u8 0,Value.int IntKind.i64 0,Value.int IntKind.u8 0,Value.slice none 0 0,Value.slice none 0 0] 115))=W0;intro a7 b0 a5;refine(kj b s i bad _ v1 v2 W0 3 n 58 (by decide) (by omega) hn hs b0).mono ?_;rintro en w2 ⟨b1,a4,a1,l,j2,a8,rfl,b6,b2,b9,b3⟩;have b5:=hid b3;have d6:=a7.size;have c9:=ae a5;have a2:=(b1.block w.heap.size (by omega) (by omega)).trans a5;obtain⟨q0,q1,q2,q3,q4⟩:=bN a2;have f0:w2.frozen? ⟨w.heap.size,0,none⟩=false:=b7 w2 w.heap.size 0 _ _ a2;have f1:w2.frozen? ⟨w.heap.size,1,none⟩=false:=b7 w2 w.heap.size 1 _ _ a2;have f2:w2.frozen? ⟨w.heap.size,2,none⟩=false:=b7 w2 w.heap.size 2 _ _ a2
 have f3:w2.frozen? ⟨w.heap.size,3,none⟩=false:=b7 w2 w.heap.size 3 _ _ a2;have f4:w2.frozen? ⟨w.heap.size,4,none⟩=false:=b7 w2 w.heap.size 4 _ _ a2;have b4:=hid a2;clear b3 a2 a5;go_wp2_with fail;have a6:=gP b4.out (.int .u8 45) (.int .i64 0) (.int .u8 105) (.slice a4 l.length a1) S_;have a3:=iV w2 w.heap.size (.int .u8 45) (.int .i64 0) (.int .u8 105) (.slice a4 l.length a1) S_;unfold sh at a6 a3;revert a6 a3;generalize ((((w2.setCell ⟨w.heap.size,0,none⟩ (.int .u8 45)).setCell ⟨w.heap.size,1,none⟩ (.int .i64 0)).setCell ⟨w.heap.size,2,none⟩ (.int .u8 105)).setCell ⟨w.heap.size,3,none⟩ (.slice a4 l.length a1)).setCell ⟨w.heap.size,4,none⟩ S_=w6
 intro a6 a3;obtain⟨r0,r1,r2,r3,r4⟩:=bN a6
 exact cW (v:=hdV 45 0 105 (.slice a4 l.length a1) S_) (by simp[hdV,results,results168,go_sem,r0,r1,r2,r3,r4]) rfl
  ⟨((a7.trans b1).next a3 (λk hk h=>by omega)),a4,a1,l,j2,a8,rfl,b6.but a3 (by omega),BtB.but (dn b2 (by omega)) a3 (λg hg h=>by have:=ay b2 g hg;omega),b9,b5.out⟩
def bP (x:Ins):XIt:=⟨x.pos,x.op,if x.op.toNat=110\/x.op.toNat=120\/x.op.toNat=103\/x.op.toNat=112\/x.op.toNat=99 then UInt8.ofNat (65+x.a)else 45,x.b,none,0,0⟩
def bu (gs:List Sig) (b:Bod):bM:=⟨if b.cls<0 then 45 else UInt8.ofNat (65+b.cls.toNat),b.meth.toNat,if b.cls<0 then 105 else(dx gs b.meth.toNat).ret,b.locals,b.code.map bP⟩
def gF (b:Bod):Prop:=0<=b.cls/\b.cls<4/\0<=b.meth
theorem AC {bs:List bM} {c:UInt8} {m:Nat}: ∀(f k:Nat),k+f=bs.length->kY bs c m f k=match(bs.drop k).findIdx? (λx=>decide (x.cls=c/\x.meth=m))with
  |some j=>((k+j:Nat):Int)
  |none=> -1:=by
 intro f
 induction f with
 |zero=>intro k hk;rw[List.drop_of_length_le (by omega)];rfl
 |succ f ih=>
  intro k hk;have a0:k<bs.length:=by omega
  rw[List.drop_eq_getElem_cons a0,List.findIdx?_cons];simp only[kY,aH a0]
  by_cases h:bs[k].cls=c/\bs[k].meth=m
  .simp[h]
  .rw[if_neg h,ih (k+1) (by omega)];simp only[h,decide_false,dj,if_false]
   cases List.findIdx? (λx=>decide (x.cls=c/\x.meth=m)) (bs.drop (k+1))with
   |none=>rfl
   |some j=>simp only[Option.map_some];congr 1;omega
theorem findIdx?_map' {α β:Type} (f:α->β) (p:β->Bool): ∀l:List α,(l.map f).findIdx? p=l.findIdx? (λx=>p (f x)):=by
 intro l
 induction l with
 |nil=>rfl
 |cons x l ih=>simp only[List.map_cons,List.findIdx?_cons,ih]
theorem findIdx?_congr' {α:Type} {p q:α->Bool}: ∀{l:List α},(∀x∈l,p x=q x)->l.findIdx? p=l.findIdx? q:=by
 intro l
 induction l with
 |nil=>intro _;rfl
 |cons x l ih=>
  intro h;rw[List.findIdx?_cons,List.findIdx?_cons,h x (by simp),ih (λy hy=>h y (by simp[hy]))]
theorem qY {gs:List Sig} {BS:List Bod} (hB: ∀b∈BS,(b.cls= -1)\/gF b) {x m:Nat} (hx:x<4):kY (BS.map (bu gs)) (UInt8.ofNat (65+x)) m (BS.map (bu gs)).length 0=gI BS x m:=by
 rw[AC _ 0 (by simp),List.drop_zero]
 have he:(BS.map (bu gs)).findIdx? (λy=>decide (y.cls=UInt8.ofNat (65+x)/\y.meth=m))=jC BS x m:=by
  unfold jC;rw[findIdx?_map'];refine findIdx?_congr' (λb hb=> ?_);have hv:(UInt8.ofNat (65+x)).toNat=65+x:=by simp;omega
  obtain h| ⟨h1,h2,h3⟩:=hB b hb
  .have e1:(bu gs b).cls=45:=by simp[bu,h]
   have e2: ¬(45:UInt8)=UInt8.ofNat (65+x):=λh=>by
    have:=congrArg UInt8.toNat h;rw[hv]at this;simp at this;omega
   have e3:(b.cls==(x:Int))=false:=by rw[eA];omega
   rw[e1,e3,Bool.false_and,decide_eq_false_iff_not];exact λh=>e2 h.1
  .have e1:(bu gs b).cls=UInt8.ofNat (65+b.cls.toNat):=by simp[bu];omega
   have hw:(UInt8.ofNat (65+b.cls.toNat)).toNat=65+b.cls.toNat:=by simp;omega
   have e2:(UInt8.ofNat (65+b.cls.toNat)=UInt8.ofNat (65+x))↔b.cls=x:=by
    rw[<-UInt8.toNat_inj,hv,hw];omega
   have e3:(bu gs b).meth=b.meth.toNat:=rfl;rw[Bool.eq_iff_iff];simp only[e1,e2,e3,ed,et,beq_iff_eq];omega
 rw[he];unfold gI
 cases jC BS x m with
 |none=>rfl
 |some j=>simp
def gj (s:ByteArray) (nc:Nat) (gs:List Sig) (BS:List Bod) (i:Nat):Except Nat ((Nat×Nat×L_)×Nat):=
 match eX s nc i with
 | .error j=> .error j
 | .ok (x,j)=>
  match ej s gs.length j with
  | .error l=> .error l
  | .ok (m,l)=>
   if(jC BS x m).isSome=true then .error j else
   match tys s nc 58 3 [] l with
   | .error p=> .error p
   | .ok (t,p)=> .ok ((x,m,t),p)
theorem si {s:ByteArray} {n i:Nat} (h:aN n (pk s i)=true):ltX s n i false=(pk s i,i+1,false):=by unfold ltX;rw[if_pos ⟨rfl,h⟩]
theorem sj {s:ByteArray} {n i:Nat} {bad:Bool} (h:bad=true\/aN n (pk s i)=false):ltX s n i bad=(45,i,true):=by
 unfold ltX;rw[if_neg];rintro⟨h1,h2⟩;obtain h|h:=h
 .rw[h]at h1;cases h1
 .rw[h]at h2;cases h2
theorem nO {s:ByteArray} {n i:Nat} (h:fd n (pk s i)=true):dgX s n i false=((pk s i).toNat-48,i+1,false):=by unfold dgX;rw[if_pos ⟨rfl,h⟩]
theorem jy {s:ByteArray} {n i:Nat} {bad:Bool} (h:bad=true\/fd n (pk s i)=false):dgX s n i bad=(0,i,true):=by
 unfold dgX;rw[if_neg];rintro⟨h1,h2⟩;obtain h|h:=h
 .rw[h]at h1;cases h1
 .rw[h]at h2;cases h2
def ot (o:Int) (j1 j2:Nat) (b2:Bool):Nat×Bool:=if 0<=o then(if b2=true then j2 else j1,true)else(j2,b2)
theorem AD {s:ByteArray} {nc:Nat} {gs:List Sig} {BS:List Bod} {i:Nat} (hB: ∀b∈BS,(b.cls= -1)\/gF b) (hnc:nc<=4)
  {c:UInt8} {j1 d j2:Nat} {b1 b2:Bool} (h1:ltX s nc i false=(c,j1,b1)) (h2:dgX s gs.length j1 b1=(d,j2,b2)) {t:L_} {j:Nat} {bad':Bool} {J:Nat×Bool} (hJ:ot (kY (BS.map (bu gs)) c d (BS.map (bu gs)).length 0) j1 j2 b2=J)
  (hT:(bad'=false/\fw s nc 58 3 J.1 J.2= .ok (t,j))\/(bad'=true/\fw s nc 58 3 J.1 J.2= .error j)):
  (bad'=false/\ ∃x,gj s nc gs BS i= .ok ((x,d,t),j)/\c=UInt8.ofNat (65+x)/\x<nc/\d<gs.length)\/(bad'=true/\gj s nc gs BS i= .error j):=by
 unfold gj eX
 cases hl:aN nc (pk s i)with
 |false=>
  rw[sj (Or.inr hl)]at h1;simp only[Prod.mk.injEq]at h1;obtain⟨rfl,rfl,rfl⟩:=h1;rw[jy (Or.inl rfl)]at h2;simp only[Prod.mk.injEq]at h2;obtain⟨rfl,rfl,rfl⟩:=h2
  have a0:J=(i,true):=by
   rw[<-hJ];unfold ot
   split<;>rfl
  subst a0;simp only[fw,if_true]at hT
  right
  obtain⟨_,h⟩ | ⟨h,h'⟩:=hT
  .cases h
  .cases h'
   exact⟨h,by simp⟩
 |true=>
  rw[si hl]at h1;simp only[Prod.mk.injEq]at h1;obtain⟨rfl,rfl,rfl⟩:=h1;simp only[if_true];have a4:=hl;simp only[aN,et,ed]at a4;unfold ej
  cases hd:fd gs.length (pk s (i+1))with
  |false=>
   rw[jy (Or.inr hd)]at h2;simp only[Prod.mk.injEq]at h2;obtain⟨rfl,rfl,rfl⟩:=h2
   have a0:J=(i+1,true):=by
    rw[<-hJ];unfold ot
    split<;>rfl
   subst a0;simp only[fw,if_true]at hT
   right
   obtain⟨_,h⟩ | ⟨h,h'⟩:=hT
   .cases h
   .cases h'
    exact⟨h,by simp⟩
  |true=>
   rw[nO hd]at h2;simp only[Prod.mk.injEq]at h2;obtain⟨a3,rfl,rfl⟩:=h2;simp only[if_true];have a2:=hd;simp only[fd,et,ed]at a2;rw[a3]
   have hc:pk s i=UInt8.ofNat (65+((pk s i).toNat-65)):=by
    apply bS
    have:=(pk s i).toNat_lt;simp;omega
   have a1:=qY (gs:=gs) (m:=d) hB (x:=(pk s i).toNat-65) (by omega);rw[<-hc]at a1;rw[a1]at hJ
   by_cases ho:(jC BS (((pk s i).toNat-65:Nat):Int) d).isSome=true
   .rw[if_pos ho]
    have h0:0<=gI BS (((pk s i).toNat-65:Nat):Int) d:=by
     unfold gI;obtain⟨k,hk⟩:=Option.isSome_iff_exists.1 ho;rw[hk];exact Int.natCast_nonneg k
    rw[ot,if_pos h0]at hJ;subst hJ;simp only[fw,if_true]at hT
    right
    obtain⟨_,h⟩ | ⟨h,h'⟩:=hT
    .cases h
    .cases h'
     exact⟨h,rfl⟩
   .rw[if_neg ho]
    have h0: ¬0<=gI BS (((pk s i).toNat-65:Nat):Int) d:=by
     unfold gI
     cases hk:jC BS (((pk s i).toNat-65:Nat):Int) d with
     |none=>simp
     |some k=>rw[hk]at ho;simp at ho
    rw[ot,if_neg h0]at hJ;subst hJ;simp only[fw,dj,if_false]at hT;obtain⟨h,h'⟩ | ⟨h,h'⟩:=hT
    .left
     rw[h'];exact⟨h,_,rfl,hc,by omega,by omega⟩
    .right
     rw[h'];exact⟨h,rfl⟩
theorem bD {w:World} {ops:Array Oper} {rest:List Oper} {o:Oper} {a:Act} {Q:Exit->Act->World->Prop} (hgd:o.guard=none) (s x:Operand)
  (ho:o.op= .call {callee:= .builtin .append,args:=#[s,x],argTypes:=#[112,112]}) (base bx:Nat) (v xv:Value) (l m LM:L_) (a0:Hid (l++m=LM)) (hs:a.eval s=v) (hx:a.eval x=xv) (hown:BtB w base v l) (hxo:BtB w bx xv m) (hlen:LM.length<=100000) (hbase:base<=w.heap.size)
  (h: ∀ao cap w',BtB w' base (.slice ao LM.length cap) LM->But (λk=>v.ownBlock=some k) w w'->((Value.slice ao LM.length cap).ownBlock=v.ownBlock\/(Value.slice ao LM.length cap).ownBlock=some w.heap.size)->wpList prog ops Q rest (a.put o.dst (.slice ao LM.length cap)) w'):wpList prog ops Q (o::rest) a w:=by
 have a0:=a0.out;subst a0;exact jm hgd s x ho base bx v xv l m hs hx hown hxo (by rw[<-aZ];exact hlen) hbase h
def kK (x:bM):UInt8×Nat:=(x.cls,x.meth)
theorem pC {xs ys:List bM} (h:xs.map kK=ys.map kK) (c:UInt8) (m:Nat): ∀f k:Nat,kY xs c m f k=kY ys c m f k:=by
 intro f
 induction f with
 |zero=>intro k;rfl
 |succ f ih=>
  intro k;have h1:(xs.map kK)[k]?=(ys.map kK)[k]?:=by rw[h]
  rw[cg,cg]at h1;unfold kY
  cases hx:xs[k]? with
  |none=>
   rw[hx]at h1
   cases hy:ys[k]? with
   |none=>rfl
   |some y=>rw[hy]at h1;cases h1
  |some x=>
   rw[hx]at h1
   cases hy:ys[k]? with
   |none=>rw[hy]at h1;cases h1
   |some y=>
    rw[hy]at h1;simp only[Option.map_some,Option.some.injEq,kK,Prod.mk.injEq]at h1;simp only[h1.1,h1.2,ih]
theorem nP {xs ys:List bM} (h:xs.map kK=ys.map kK):xs.length=ys.length:=by have:=congrArg List.length h;simpa using this
theorem yw (b base:Nat) (s:ByteArray) (i:Nat) (a0:Option Addr) (nc cap0:Nat) (v1:Value) (v2:RdV) (w:World) (gs:List Sig) (BS:List Bod) (xs:List bM) (hxs:xs.map kK=(BS.map (bu gs)).map kK) (hnc:nc<=4) (hgs:gs.length<=3) (hBS:BS.length<=6) (hsb: ∀b∈BS,(b.cls= -1)\/gF b) (hs:s.size<=2000)
  (hR:XrB w b s i false (.slice a0 nc cap0) v1 v2) (hM:TmV w base v1 gs) (hBd:TbV w base v2.bods xs) (hb:b<base):
  Calls prog 167 #[.pointer (some ⟨b,0,none⟩)] w λen w'=>But (· =b) w w'/\ ∃c m r ao cap l j bad',en= .returned (hdV c m r (.slice ao (List.length l) cap) S_)/\XrB w' b s j bad' (.slice a0 nc cap0) v1 v2/\BtB w' w.heap.size (.slice ao l.length cap) l/\l.length<=5/\
   ((bad'=false/\ ∃x t,gj s nc gs BS i= .ok ((x,m,t),j)/\c=UInt8.ofNat (65+x)/\x<nc/\m<gs.length/\r=(dx gs m).ret/\l=c::(dx gs m).arg::t)\/(bad'=true/\gj s nc gs BS i= .error j)):=by
 obtain⟨a1,cap1,o3⟩:=aw hM;subst o3;have n7:=hR.lt;have HM:=hid (λ(w':World) (h:But (· =b) w w') (hr:w'.cell? ⟨b,1,none⟩=some (.slice a1 gs.length cap1))=>(hM.but h (λg e cur _ _ hg he=>by omega)).tx hr (bq n7 h.size));have HB:=hid (λ(w':World) (h:But (· =b) w w') (hr:w'.cell? ⟨b,2,none⟩=some v2.bods)=>(hBd.but h (λg e cur _ _ hg he=>by omega)).tx hr (bq n7 h.size));have n6:xs.length<=100:=by rw[nP hxs,cP];omega
 have n9:=hid n6;have n2:=hid (λ(c:UInt8) (j1 d j2:Nat) (b1 b2:Bool) (t:L_) (j:Nat) (bad':Bool) (J:Nat×Bool) (h1:ltX s nc i false=(c,j1,b1)) (h2:dgX s gs.length j1 b1=(d,j2,b2)) (hJ:ot (kY xs c d xs.length 0) j1 j2 b2=J)=>AD (t:=t) (j:=j) (bad':=bad') (J:=J) hsb hnc h1 h2 (by rw[<-hJ,pC hxs,nP hxs]));clear hM hBd n6 hsb hBS hxs
 go_in
 go_wp2_with fail;have l3:But (· =b) w (w.alloc (Obj.cells #[Value.int IntKind.u8 0,Value.int IntKind.i64 0,Value.int IntKind.u8 0,Value.slice none 0 0,Value.slice none 0 0] 115)):=ag _ _ _;have m1:XrB (w.alloc (Obj.cells #[Value.int IntKind.u8 0,Value.int IntKind.i64 0,Value.int IntKind.u8 0,Value.slice none 0 0,Value.slice none 0 0] 115)) b s i false (.slice a0 nc cap0) (.slice a1 gs.length cap1) v2:=hR.but (ag (λ_=>False) _ _) (λh=>h);have i5:=aO w (Obj.cells #[Value.int IntKind.u8 0,Value.int IntKind.i64 0,Value.int IntKind.u8 0,Value.slice none 0 0,Value.slice none 0 0] 115);revert l3 m1 i5
 generalize (w.alloc (Obj.cells #[Value.int IntKind.u8 0,Value.int IntKind.i64 0,Value.int IntKind.u8 0,Value.slice none 0 0,Value.slice none 0 0] 115))=W0;intro l3 m1 i5;have n8:=ae i5;have n1:=hid i5;clear i5;refine(iS b s i false _ v2 W0 nc cap0 a0 (by omega) hs m1).mono ?_;rintro en w1 ⟨rfl,l4,g6⟩;obtain⟨Y1,j4⟩: ∃Y,ltX s nc i false=Y:=⟨_,rfl⟩;rw[j4]at g6;rw[j4];have n3:=hid j4;clear j4;obtain⟨c,j1,b1⟩:=Y1;dsimp only at g6⊢;have p1:=g6.c3;have p2:=g6.c1;go_wp2_with fail;refine(dO b s j1 b1 _ _ v2 w1 gs.length (by omega) hs g6).mono ?_;rintro en w2 ⟨rfl,l5,i2⟩;obtain⟨Y2,j5⟩: ∃Y,dgX s gs.length j1 b1=Y:=⟨_,rfl⟩
 rw[j5]at i2;rw[j5];have n4:=hid j5;clear j5;obtain⟨d,j2,b2⟩:=Y2;dsimp only at i2⊢;clear p1 p2;have f6:But (· =b) w w2:=(l3.trans l4).trans l5;have i1:But (· =b) W0 w2:=l4.trans l5;have g5:=hid (λt j bad' J=>n2.out c j1 d j2 b1 b2 t j bad' J n3.out n4.out);clear n2 n3 n4 l4 l5 g6;go_wp2_with fail;refine(mV b xs c d w2 n9.out (HB.out w2 f6 i2.c2)).mono ?_;rintro en w3 ⟨rfl,i7⟩;have j0:=i2.but i7 (λh=>h);have e5:But (· =b) w w3:=f6.next i7 (λ_ _ h=>h.elim);have e2:But (· =b) W0 w3:=i1.next i7 (λ_ _ h=>h.elim);revert g5;generalize kY xs c d xs.length 0=o;intro g5;clear HB i7 i2 f6 i1
 by_cases ho:0<=o
 .obtain⟨J,hJ⟩: ∃J:Nat×Bool,(if b2=true then j2 else j1,true)=J:=⟨_,rfl⟩;have g7:=hid (λ(t:L_) (j:Nat) (bad':Bool)=>g5.out t j bad' J (by rw[ot,if_pos ho];exact hJ));have HJ:=hid hJ;clear g5 hJ;go_wp2_with fail;refine(jo b s j2 b2 _ _ v2 w3 j1 j0).mono ?_;rintro en w4 ⟨rfl,n5,i3⟩;have e6:XrB w4 b s J.1 J.2 (.slice a0 nc cap0) (.slice a1 gs.length cap1) v2:=by rw[<-HJ.out];exact i3
  have a7:=e5.trans n5;have b0:=e2.trans n5;clear e5 e2 j0 i3 HJ;obtain⟨j3,b3⟩:=J;dsimp only at e6;go_wp2_with fail;refine(gV b gs d w4 (by omega) (HM.out w4 a7 e6.c1)).mono ?_;rintro en w5 ⟨rfl,e3⟩;have e7:=e6.but e3 (λh=>h);have b9:But (· =b) w w5:=a7.next e3 (λ_ _ h=>h.elim);have b4:But (· =b) W0 w5:=b0.next e3 (λ_ _ h=>h.elim);obtain⟨mt,g2⟩: ∃mt,dx gs d=mt:=⟨_,rfl⟩;rw[g2];have h7:=hid g2;clear g2 e6 e3 a7 b0 HM;obtain⟨ma,mr⟩:=mt;dsimp only;have p0:=e7.c0;have m4:=e7.lt;go_wp2_with fail;have b5:B_ w5 ((w5.alloc (Obj.cells #[Value.int IntKind.u8 ma.toNat,Value.int IntKind.u8 mr.toNat] 243)).alloc (Obj.cells #[Value.int IntKind.u8 c.toNat,Value.int IntKind.u8 ma.toNat] 5)):=(ag _ _ _).trans (ag _ _ _)
  have e9:((w5.alloc (Obj.cells #[Value.int IntKind.u8 ma.toNat,Value.int IntKind.u8 mr.toNat] 243)).alloc (Obj.cells #[Value.int IntKind.u8 c.toNat,Value.int IntKind.u8 ma.toNat] 5)).heap[w5.heap.size]?=some (Obj.cells #[Value.int IntKind.u8 ma.toNat,Value.int IntKind.u8 mr.toNat] 243):=by
   rw[(ag (λ_=>False) (w5.alloc (Obj.cells #[Value.int IntKind.u8 ma.toNat,Value.int IntKind.u8 mr.toNat] 243)) (Obj.cells #[Value.int IntKind.u8 c.toNat,Value.int IntKind.u8 ma.toNat] 5)).block w5.heap.size (ae (aO w5 _)) (λh=>h)];exact aO w5 _
  have c7:BtB ((w5.alloc (Obj.cells #[Value.int IntKind.u8 ma.toNat,Value.int IntKind.u8 mr.toNat] 243)).alloc (Obj.cells #[Value.int IntKind.u8 c.toNat,Value.int IntKind.u8 ma.toNat] 5)) w5.heap.size (.slice (some ⟨w5.heap.size+1,0,none⟩) 2 2) [c,ma]:=BtB.lit2 w5 _ [c,ma] (by simp);have e8:=e7.but b5 (λh=>h);have g3:((w5.alloc (Obj.cells #[Value.int IntKind.u8 ma.toNat,Value.int IntKind.u8 mr.toNat] 243)).alloc (Obj.cells #[Value.int IntKind.u8 c.toNat,Value.int IntKind.u8 ma.toNat] 5)).heap.size=w5.heap.size+2:=by simp
  have g4:w5.heap.size+2<=((w5.alloc (Obj.cells #[Value.int IntKind.u8 ma.toNat,Value.int IntKind.u8 mr.toNat] 243)).alloc (Obj.cells #[Value.int IntKind.u8 c.toNat,Value.int IntKind.u8 ma.toNat] 5)).heap.size:=Nat.le_of_eq g3.symm;clear g3 p0;revert b5 e9 c7 e8 g4;generalize ((w5.alloc (Obj.cells #[Value.int IntKind.u8 ma.toNat,Value.int IntKind.u8 mr.toNat] 243)).alloc (Obj.cells #[Value.int IntKind.u8 c.toNat,Value.int IntKind.u8 ma.toNat] 5))=w6;intro b5 e9 c7 e8 g3;have h6:=hid e9;clear e9;refine(kj b s j3 b3 _ _ v2 w6 3 nc 58 (by decide) (by omega) hnc hs e8).mono ?_;rintro en w7 ⟨b6,o0,l0,l,j7,a8,rfl,m2,m0,o1,i4⟩
  have k3:=hid (g7.out l j7 a8 i4);have c9:=c7.but b6 (λg hg h=>by have:=ay c7 g hg;omega);have f7:But (· =b) w w7:=(b9.next b5 (λ_ _ h=>h.elim)).trans b6;have f5:But (· =b) W0 w7:=(b4.next b5 (λ_ _ h=>h.elim)).trans b6;have g1:=(b6.block w5.heap.size (by omega) (by omega)).trans h6.out;have o5:=b6.size;have o4:=b9.size;have n0:=b4.size;have m5:w5.heap.size<=w7.heap.size:=by omega
  clear i4 g7 c7 e8 e7 h6;obtain⟨LL,g0⟩: ∃LL,[c,ma]++l=LL:=⟨_,rfl⟩;have l6:LL.length<=5:=by rw[<-g0];simp;omega
  have h0:=hid g0;clear g0;go_wp2_with (at_builtin;refine bD rfl _ _ rfl w5.heap.size w6.heap.size _ _ [c,ma] l LL h0 rfl rfl c9 m0 (by omega) m5 ?_);intro a6 a2 w8 h8 e4 o2;have a3:=ay c9;have f8:But (· =b) w w8:=f7.next e4 (λk hk h=>by have:=a3 k h;omega);have m3:=m2.but e4 (λh=>by have:=a3 _ h;omega);have d6:(Value.slice (some ⟨w5.heap.size+1,0,none⟩) 2 2).ownBlock=some (w5.heap.size+1):=rfl;have i6:=(e4.block w5.heap.size (ae g1) (λh=>by rw[d6]at h;injection h with h;omega)).trans g1;have a4:=(e4.block w.heap.size (by omega) (λh=>by have:=a3 _ h;omega)).trans ((f5.block w.heap.size n8 (by omega)).trans n1.out)
  have k1:=ce1 i6;obtain⟨q0,q1,q2,q3,q4⟩:=bN a4;have f0:w8.frozen? ⟨w.heap.size,0,none⟩=false:=b7 w8 w.heap.size 0 _ _ a4;have f1:w8.frozen? ⟨w.heap.size,1,none⟩=false:=b7 w8 w.heap.size 1 _ _ a4;have f2:w8.frozen? ⟨w.heap.size,2,none⟩=false:=b7 w8 w.heap.size 2 _ _ a4;have f3:w8.frozen? ⟨w.heap.size,3,none⟩=false:=b7 w8 w.heap.size 3 _ _ a4;have f4:w8.frozen? ⟨w.heap.size,4,none⟩=false:=b7 w8 w.heap.size 4 _ _ a4;have k9:=hid a4;have i0:BtB w8 w.heap.size (.slice a6 LL.length a2) LL:=dn h8 (by omega);have H8:=hid i0;have k0:=hid (ay h8);clear a4 i6 g1 h8 i0 d6
  have a5: ∀w9,But (· =w.heap.size) w8 w9->But (· =b) w w9/\ ∃c' m r ao cap l j bad',Ending.returned (hdV c d mr (.slice a6 LL.length a2) S_)= .returned (hdV c' m r (.slice ao (List.length l) cap) S_)/\XrB w9 b s j bad' (.slice a0 nc cap0) (.slice a1 gs.length cap1) v2/\BtB w9 w.heap.size (.slice ao l.length cap) l/\l.length<=5/\
    ((bad'=false/\ ∃x t,gj s nc gs BS i= .ok ((x,m,t),j)/\c'=UInt8.ofNat (65+x)/\x<nc/\m<gs.length/\r=(dx gs m).ret/\l=c'::(dx gs m).arg::t)\/(bad'=true/\gj s nc gs BS i= .error j)):=by
   intro w9 h9;refine⟨f8.next h9 (λk hk h=>by omega),c,d,mr,a6,a2,LL,j7,a8,rfl,m3.but h9 (by omega),H8.out.but h9 (λg hg h=>by have:=k0.out g hg;omega),l6,?_⟩;obtain⟨h1,x,h2,h3,h4,h5⟩ |h:=k3.out
   .exact Or.inl ⟨h1,x,l,h2,h3,h4,h5,by rw[h7.out],by rw[h7.out,<-h0.out];rfl⟩
   .exact Or.inr h
  have HP:=hid a5;clear a5;go_wp2_with fail;have e0:=gP k9.out (.int .u8 c.toNat) (.int .i64 d) (.int .u8 mr.toNat) (.slice a6 LL.length a2) S_;have e1:=HP.out _ (iV w8 w.heap.size (.int .u8 c.toNat) (.int .i64 d) (.int .u8 mr.toNat) (.slice a6 LL.length a2) S_);unfold sh at e0 e1;revert e0 e1;generalize ((((w8.setCell ⟨w.heap.size,0,none⟩ (.int .u8 c.toNat)).setCell ⟨w.heap.size,1,none⟩ (.int .i64 d)).setCell ⟨w.heap.size,2,none⟩ (.int .u8 mr.toNat)).setCell ⟨w.heap.size,3,none⟩ (.slice a6 LL.length a2)).setCell ⟨w.heap.size,4,none⟩ S_=w9;intro e0 e1
  obtain⟨r0,r1,r2,r3,r4⟩:=bN e0;exact cW (v:=hdV c d mr (.slice a6 LL.length a2) S_) (by simp[hdV,results,results167,go_sem,r0,r1,r2,r3,r4]) rfl e1
 .obtain⟨J,hJ⟩: ∃J:Nat×Bool,(j2,b2)=J:=⟨_,rfl⟩;have g7:=hid (λ(t:L_) (j:Nat) (bad':Bool)=>g5.out t j bad' J (by rw[ot,if_neg ho];exact hJ));have HJ:=hid hJ;clear g5 hJ;have e6:XrB w3 b s J.1 J.2 (.slice a0 nc cap0) (.slice a1 gs.length cap1) v2:=by rw[<-HJ.out];exact j0
  have a7:=e5;have b0:=e2;clear e5 e2 j0 HJ;obtain⟨j3,b3⟩:=J;dsimp only at e6;go_wp2_with fail;refine(gV b gs d w3 (by omega) (HM.out w3 a7 e6.c1)).mono ?_;rintro en w5 ⟨rfl,e3⟩;have e7:=e6.but e3 (λh=>h);have b9:But (· =b) w w5:=a7.next e3 (λ_ _ h=>h.elim);have b4:But (· =b) W0 w5:=b0.next e3 (λ_ _ h=>h.elim);obtain⟨mt,g2⟩: ∃mt,dx gs d=mt:=⟨_,rfl⟩;rw[g2];have h7:=hid g2;clear g2 e6 e3 a7 b0 HM;obtain⟨ma,mr⟩:=mt;dsimp only;have p0:=e7.c0;have m4:=e7.lt;go_wp2_with fail;have b5:B_ w5 ((w5.alloc (Obj.cells #[Value.int IntKind.u8 ma.toNat,Value.int IntKind.u8 mr.toNat] 243)).alloc (Obj.cells #[Value.int IntKind.u8 c.toNat,Value.int IntKind.u8 ma.toNat] 5)):=(ag _ _ _).trans (ag _ _ _)
  have e9:((w5.alloc (Obj.cells #[Value.int IntKind.u8 ma.toNat,Value.int IntKind.u8 mr.toNat] 243)).alloc (Obj.cells #[Value.int IntKind.u8 c.toNat,Value.int IntKind.u8 ma.toNat] 5)).heap[w5.heap.size]?=some (Obj.cells #[Value.int IntKind.u8 ma.toNat,Value.int IntKind.u8 mr.toNat] 243):=by
   rw[(ag (λ_=>False) (w5.alloc (Obj.cells #[Value.int IntKind.u8 ma.toNat,Value.int IntKind.u8 mr.toNat] 243)) (Obj.cells #[Value.int IntKind.u8 c.toNat,Value.int IntKind.u8 ma.toNat] 5)).block w5.heap.size (ae (aO w5 _)) (λh=>h)];exact aO w5 _
  have c7:BtB ((w5.alloc (Obj.cells #[Value.int IntKind.u8 ma.toNat,Value.int IntKind.u8 mr.toNat] 243)).alloc (Obj.cells #[Value.int IntKind.u8 c.toNat,Value.int IntKind.u8 ma.toNat] 5)) w5.heap.size (.slice (some ⟨w5.heap.size+1,0,none⟩) 2 2) [c,ma]:=BtB.lit2 w5 _ [c,ma] (by simp);have e8:=e7.but b5 (λh=>h);have g3:((w5.alloc (Obj.cells #[Value.int IntKind.u8 ma.toNat,Value.int IntKind.u8 mr.toNat] 243)).alloc (Obj.cells #[Value.int IntKind.u8 c.toNat,Value.int IntKind.u8 ma.toNat] 5)).heap.size=w5.heap.size+2:=by simp
  have g4:w5.heap.size+2<=((w5.alloc (Obj.cells #[Value.int IntKind.u8 ma.toNat,Value.int IntKind.u8 mr.toNat] 243)).alloc (Obj.cells #[Value.int IntKind.u8 c.toNat,Value.int IntKind.u8 ma.toNat] 5)).heap.size:=Nat.le_of_eq g3.symm;clear g3 p0;revert b5 e9 c7 e8 g4;generalize ((w5.alloc (Obj.cells #[Value.int IntKind.u8 ma.toNat,Value.int IntKind.u8 mr.toNat] 243)).alloc (Obj.cells #[Value.int IntKind.u8 c.toNat,Value.int IntKind.u8 ma.toNat] 5))=w6;intro b5 e9 c7 e8 g3;have h6:=hid e9;clear e9;refine(kj b s j3 b3 _ _ v2 w6 3 nc 58 (by decide) (by omega) hnc hs e8).mono ?_;rintro en w7 ⟨b6,o0,l0,l,j7,a8,rfl,m2,m0,o1,i4⟩
  have k3:=hid (g7.out l j7 a8 i4);have c9:=c7.but b6 (λg hg h=>by have:=ay c7 g hg;omega);have f7:But (· =b) w w7:=(b9.next b5 (λ_ _ h=>h.elim)).trans b6;have f5:But (· =b) W0 w7:=(b4.next b5 (λ_ _ h=>h.elim)).trans b6;have g1:=(b6.block w5.heap.size (by omega) (by omega)).trans h6.out;have o5:=b6.size;have o4:=b9.size;have n0:=b4.size;have m5:w5.heap.size<=w7.heap.size:=by omega
  clear i4 g7 c7 e8 e7 h6;obtain⟨LL,g0⟩: ∃LL,[c,ma]++l=LL:=⟨_,rfl⟩;have l6:LL.length<=5:=by rw[<-g0];simp;omega
  have h0:=hid g0;clear g0;go_wp2_with (at_builtin;refine bD rfl _ _ rfl w5.heap.size w6.heap.size _ _ [c,ma] l LL h0 rfl rfl c9 m0 (by omega) m5 ?_);intro a6 a2 w8 h8 e4 o2;have a3:=ay c9;have f8:But (· =b) w w8:=f7.next e4 (λk hk h=>by have:=a3 k h;omega);have m3:=m2.but e4 (λh=>by have:=a3 _ h;omega);have d6:(Value.slice (some ⟨w5.heap.size+1,0,none⟩) 2 2).ownBlock=some (w5.heap.size+1):=rfl;have i6:=(e4.block w5.heap.size (ae g1) (λh=>by rw[d6]at h;injection h with h;omega)).trans g1;have a4:=(e4.block w.heap.size (by omega) (λh=>by have:=a3 _ h;omega)).trans ((f5.block w.heap.size n8 (by omega)).trans n1.out)
  have k1:=ce1 i6;obtain⟨q0,q1,q2,q3,q4⟩:=bN a4;have f0:w8.frozen? ⟨w.heap.size,0,none⟩=false:=b7 w8 w.heap.size 0 _ _ a4;have f1:w8.frozen? ⟨w.heap.size,1,none⟩=false:=b7 w8 w.heap.size 1 _ _ a4;have f2:w8.frozen? ⟨w.heap.size,2,none⟩=false:=b7 w8 w.heap.size 2 _ _ a4;have f3:w8.frozen? ⟨w.heap.size,3,none⟩=false:=b7 w8 w.heap.size 3 _ _ a4;have f4:w8.frozen? ⟨w.heap.size,4,none⟩=false:=b7 w8 w.heap.size 4 _ _ a4;have k9:=hid a4;have i0:BtB w8 w.heap.size (.slice a6 LL.length a2) LL:=dn h8 (by omega);have H8:=hid i0;have k0:=hid (ay h8);clear a4 i6 g1 h8 i0 d6
  have a5: ∀w9,But (· =w.heap.size) w8 w9->But (· =b) w w9/\ ∃c' m r ao cap l j bad',Ending.returned (hdV c d mr (.slice a6 LL.length a2) S_)= .returned (hdV c' m r (.slice ao (List.length l) cap) S_)/\XrB w9 b s j bad' (.slice a0 nc cap0) (.slice a1 gs.length cap1) v2/\BtB w9 w.heap.size (.slice ao l.length cap) l/\l.length<=5/\
    ((bad'=false/\ ∃x t,gj s nc gs BS i= .ok ((x,m,t),j)/\c'=UInt8.ofNat (65+x)/\x<nc/\m<gs.length/\r=(dx gs m).ret/\l=c'::(dx gs m).arg::t)\/(bad'=true/\gj s nc gs BS i= .error j)):=by
   intro w9 h9;refine⟨f8.next h9 (λk hk h=>by omega),c,d,mr,a6,a2,LL,j7,a8,rfl,m3.but h9 (by omega),H8.out.but h9 (λg hg h=>by have:=k0.out g hg;omega),l6,?_⟩;obtain⟨h1,x,h2,h3,h4,h5⟩ |h:=k3.out
   .exact Or.inl ⟨h1,x,l,h2,h3,h4,h5,by rw[h7.out],by rw[h7.out,<-h0.out];rfl⟩
   .exact Or.inr h
  have HP:=hid a5;clear a5;go_wp2_with fail;have e0:=gP k9.out (.int .u8 c.toNat) (.int .i64 d) (.int .u8 mr.toNat) (.slice a6 LL.length a2) S_;have e1:=HP.out _ (iV w8 w.heap.size (.int .u8 c.toNat) (.int .i64 d) (.int .u8 mr.toNat) (.slice a6 LL.length a2) S_);unfold sh at e0 e1;revert e0 e1;generalize ((((w8.setCell ⟨w.heap.size,0,none⟩ (.int .u8 c.toNat)).setCell ⟨w.heap.size,1,none⟩ (.int .i64 d)).setCell ⟨w.heap.size,2,none⟩ (.int .u8 mr.toNat)).setCell ⟨w.heap.size,3,none⟩ (.slice a6 LL.length a2)).setCell ⟨w.heap.size,4,none⟩ S_=w9;intro e0 e1
  obtain⟨r0,r1,r2,r3,r4⟩:=bN e0;exact cW (v:=hdV c d mr (.slice a6 LL.length a2) S_) (by simp[hdV,results,results167,go_sem,r0,r1,r2,r3,r4]) rfl e1
def pD (w:World) (g:Nat) (x0 x1 x2 x3:Value):World:=(((w.setCell ⟨g,0,none⟩ x0).setCell ⟨g,1,none⟩ x1).setCell ⟨g,2,none⟩ x2).setCell ⟨g,3,none⟩ x3
theorem eZ {w:World} {g t:Nat} {a0 a1 a2 a3:Value} (h:w.heap[g]?=some (.cells #[a0,a1,a2,a3] t)) (x0 x1 x2 x3:Value):(pD w g x0 x1 x2 x3).heap[g]?=some (.cells #[x0,x1,x2,x3] t):=by
 have h1:=bG w g 0 _ _ x0 h;have h2:=bG _ g 1 _ _ x1 h1;have h3:=bG _ g 2 _ _ x2 h2;exact bG _ g 3 _ _ x3 h3
theorem gn (w:World) (g:Nat) (x0 x1 x2 x3:Value):But (· =g) w (pD w g x0 x1 x2 x3):=
 (((au w g 0 x0).trans (au _ g 1 x1)).trans (au _ g 2 x2)).trans (au _ g 3 x3)
theorem eR {w:World} {g t:Nat} {x0 x1 x2 x3:Value} (h:w.heap[g]?=some (.cells #[x0,x1,x2,x3] t)):
  w.cell? ⟨g,0,none⟩=some x0/\w.cell? ⟨g,1,none⟩=some x1/\w.cell? ⟨g,2,none⟩=some x2/\w.cell? ⟨g,3,none⟩=some x3:=by
 refine⟨?_,?_,?_,?_⟩
 .rw[aX w g 0 _ _ (0,0) h];rfl
 .rw[aX w g 1 _ _ (0,0) h];rfl
 .rw[aX w g 2 _ _ (0,0) h];rfl
 .rw[aX w g 3 _ _ (0,0) h];rfl
theorem jp {w:World} {g t:Nat} {x0 x1 x2 x3:Value} (h:w.heap[g]?=some (.cells #[x0,x1,x2,x3] t)):
  w.frozen? ⟨g,0,none⟩=false/\w.frozen? ⟨g,1,none⟩=false/\w.frozen? ⟨g,2,none⟩=false/\w.frozen? ⟨g,3,none⟩=false:=
 ⟨b7 w g 0 _ _ h,b7 w g 1 _ _ h,b7 w g 2 _ _ h,b7 w g 3 _ _ h⟩
def tgX (s:ByteArray) (i:Nat) (bad:Bool):Nat×Nat×Bool:=
 (10*(dgX s 10 i bad).1+(dgX s 10 (dgX s 10 i bad).2.1 (dgX s 10 i bad).2.2).1,(dgX s 10 (dgX s 10 i bad).2.1 (dgX s 10 i bad).2.2).2.1,(dgX s 10 (dgX s 10 i bad).2.1 (dgX s 10 i bad).2.2).2.2)
theorem AE (s:ByteArray) (n i:Nat) (bad:Bool):(dgX s n i bad).1<10:=by
 unfold dgX
 split
 .rename_i h
  have:=h.2;simp only[fd,et,ed]at this;simp only;omega
 .simp
theorem uc (b:Nat) (s:ByteArray) (i:Nat) (bad:Bool) (v0 v1:Value) (v2:RdV) (w:World) (hs:s.size<=2000) (hR:XrB w b s i bad v0 v1 v2):
  Calls prog 222 #[.pointer (some ⟨b,0,none⟩)] w λe w'=>e= .returned (.int .i64 (tgX s i bad).1)/\But (· =b) w w'/\XrB w' b s (tgX s i bad).2.1 (tgX s i bad).2.2 v0 v1 v2:=by
 unfold tgX;have a2:=AE s 10 i bad;have a3:=AE s 10 (dgX s 10 i bad).2.1 (dgX s 10 i bad).2.2;have a0:=dO b s i bad v0 v1 v2 w 10 (by omega) hs hR;have a1:=λw1 h=>dO b s (dgX s 10 i bad).2.1 (dgX s 10 i bad).2.2 v0 v1 v2 w1 10 (by omega) hs h
 revert a2 a3 a0 a1;generalize dgX s 10 (dgX s 10 i bad).2.1 (dgX s 10 i bad).2.2=Y2;generalize dgX s 10 i bad=Y1;obtain⟨d1,j1,b1⟩:=Y1;obtain⟨d2,j2,b2⟩:=Y2;dsimp only;intro a2 a3 a0 a1;have a4:=hid a0;have a5:=hid a1;clear a0 a1
 go_in
 go_wp2_with fail;refine a4.out.mono ?_;rintro en w1 ⟨rfl,a6,a8⟩;go_wp2_with fail;refine(a5.out w1 a8).mono ?_;rintro en w2 ⟨rfl,a7,b0⟩;go_wp2_with fail;go_ret;refine⟨?_,a6.trans a7,b0⟩;simp[go_sem]
end
end Go.Proofs.YtpfkkmacakjmbaaGreatDoor
