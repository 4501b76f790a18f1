import Derived.Test.YtpfkkmacakjmbaaGreatDoorP07
set_option maxRecDepth 100000
set_option maxHeartbeats 6400000
set_option linter.all false
namespace Go.Proofs.YtpfkkmacakjmbaaGreatDoor
open Proofs.Tryz
section
open Go Go.RowKit Sp
attribute [local go_sem ↓] eF eG
def nR (cs:List bP) (bs:List bK) (is:List XIt):Option Nat:=(is.find? (gO cs bs is.length)).map (·.place)
def mW:Option Nat->Int
 |some p=>p
 |none=> -1
theorem li (b:Nat) (cs:List bP) (bs:List bK) (w:World) (hn:cs.length<=100) (hnb:bs.length<=100) (hlen: ∀x∈bs,x.items.length<=1000) (hC:TxC w b cs) (hT:TxB w b bs):
  Calls prog 104 #[.pointer (some ⟨b,0,none⟩)] w λe w'=>e= .returned (.int .i64 (mW (bs.findSome? λx=>nR cs bs x.items)))/\B_ w w':=by
 obtain⟨R,q⟩: ∃R,(bs.findSome? λx=>nR cs bs x.items)=R:=⟨_,rfl⟩;rw[q];have HT:=hid hT;obtain⟨v2,i,hl,l,hO,hm,hf⟩:=hT;obtain⟨ao,cap,rfl⟩:=aA hO;have E:l.length=bs.length:=by rw[<-hm];simp
 have y:=hid q;have HM:=hid hm;have T:=hid E;have b6:l.length<=100:=by omega
 clear q hm E
 go_in
 go_wp2_with fail
 go_loopg [3] l.length (λmm is wr=> ∃(k:Nat),is= .int .i64 k/\k<=l.length/\k+mm<=l.length/\l.length<=k+mm/\B_ w wr/\Hid (((bs.drop k).findSome? λx=>nR cs bs x.items)=R))
 case atStart=>exact⟨0,rfl,by omega,by omega,by omega,cq _ _,y.out⟩
 case round=>
  obtain⟨k,rfl,b3,a4,b4,J,G⟩:=hrel;clear a4 y;have Z:=J.kc i hl
  by_cases hlt:k<l.length
  .have a5:(k:Int)<(l.length:Int):=by omega
   have hx:=aM hlt;have r:bs[k]?=some l[k].1:=by rw[<-HM.out,cg,hx];rfl
   have C:bs.drop k=l[k].1::bs.drop (k+1):=by
    obtain⟨h1,h2⟩:=bn r;rw[List.drop_eq_getElem_cons h1,h2]
   have d:Hid ((nR cs bs l[k].1.items=none->((bs.drop (k+1)).findSome? λx=>nR cs bs x.items)=R)/\ ∀p,nR cs bs l[k].1.items=some p->R=some p):=by
    have h:=G.out;rw[C,List.findSome?_cons]at h;refine hid ⟨λi=> ?_,λp i=> ?_⟩
    .rw[i]at h;exact h
    .rw[i]at h;exact h.symm
   have t:=hlen l[k].1 (a9 r);have A:=(hf l[k] (cS hlt)).2;obtain⟨g,hg,a8,b0,f⟩:=aL (ah hO J (λ_ _ h=>h)) (by omega);have P:wr.cell? ⟨g,k*5+4,none⟩=some l[k].2.2:=f _ _ (br (k:=4) hx (by omega));clear r C f G hx;revert P d A t;generalize l[k]=X;intro d t A P;obtain⟨X,vl,vi⟩:=X;simp only at A P;obtain⟨ai,capi,a6⟩:=aA A;subst a6 hg;dsimp only at d t;go_wp2_with fail
   go_loopg [5] X.items.length (λmm is wr=> ∃(j:Nat),is= .int .i64 j/\j<=X.items.length/\j+mm<=X.items.length/\X.items.length<=j+mm/\B_ w wr/\Hid (((X.items.drop j).find? (gO cs bs X.items.length)).map (·.place)=nR cs bs X.items))
   case atStart=>exact⟨0,rfl,by omega,by omega,by omega,J,rfl⟩
   case round=>
    rename_i wr0 _
    obtain⟨j,rfl,b1,a2,b2,m,H⟩:=hrel;clear a2 P Z
    by_cases hjt:j<X.items.length
    .have a3:(j:Int)<(X.items.length:Int):=by omega
     have v:=aM hjt;obtain⟨gi,a0,D,a1,a⟩:=aL (ah A m (λ_ _ h=>h)) (by omega);have F:=a _ _ (aW (k:=0) v (by omega));have L:=a _ _ (aW (k:=1) v (by omega));have p2:=a _ _ (aW (k:=2) v (by omega));have M:=a _ _ (aW (k:=3) v (by omega));have O:=a _ _ (aW (k:=4) v (by omega))
     have c:Hid ((gO cs bs X.items.length X.items[j]=true->nR cs bs X.items=some X.items[j].place)/\(gO cs bs X.items.length X.items[j]=false->((X.items.drop (j+1)).find? (gO cs bs X.items.length)).map (·.place)=nR cs bs X.items)):=by
      have h:=H.out;rw[List.drop_eq_getElem_cons hjt,List.find?_cons]at h;refine hid ⟨λi=> ?_,λi=> ?_⟩
      .rw[i]at h;exact h.symm
      .rw[i]at h;exact h
     subst a0;clear a H v;revert F L p2 M O c;generalize X.items[j]=Y;intro F L p2 M O c;simp only[Nat.add_zero]at F;have a7:_=some (Value.int .i64 Y.place):=F;have b7:_=some (Value.int .u8 Y.op.toNat):=L;have b8:_=some (Value.int .u8 Y.cls.toNat):=p2;have b9:_=some (Value.int .i64 Y.num):=M;have d6:_=some (Value.slice Y.pa Y.pn Y.pc):=O;clear F L p2 M O;have s:=λ(wx:World) (h:B_ w wx)=>rv b cs bs Y X.items.length wx hn hnb (hC.but h) (HT.out.but h)
     unfold itV at s;have Q:=hid s;clear s;go_wp2_with fail;refine(Q.out _ m).mono ?_;rintro en w1 ⟨rfl,z⟩;have n:=m.trans z;have c6:=z.kc a7 D;revert c
     cases gO cs bs X.items.length Y with
     |true=>
      intro c;have B:=d.out.2 _ (c.out.1 rfl);subst B;clear d c;go_wp2_with fail;go_ret;exact⟨rfl,n⟩
     |false=>
      intro c;have S:=hid (c.out.2 rfl);clear c;go_wp2_with fail
      go_roundg (X.items.length-(j+1))
      case measure=>omega
      case rel=>exact⟨j+1,by simp,by omega,by omega,by omega,n,S.out⟩
    .have a3: ¬(j:Int)<(X.items.length:Int):=by omega
     have B:=H.out;rw[List.drop_of_length_le (by omega)]at B;have HR:=hid (d.out.1 B.symm);clear B d H;go_wp2_with fail
     go_roundg (l.length-(k+1))
     case measure=>omega
     case rel=>exact⟨k+1,by simp,by omega,by omega,by omega,m,HR.out⟩
  .have a5: ¬(k:Int)<(l.length:Int):=by omega
   have I:=G.out;have b5:=T.out;rw[List.drop_of_length_le (by omega)]at I;have I:none=R:=I;subst I;clear G;go_wp2_with fail;go_ret;exact⟨rfl,J⟩
theorem jH (b:Nat) (s:ByteArray) (i:Nat) (bad:Bool) (v0 v1:Value) (v2:RdV) (w:World) (j:Nat) (hR:XrB w b s i bad v0 v1 v2):
  Calls prog 201 #[.pointer (some ⟨b,0,none⟩),.int .i64 j] w λe w'=>e= .returned (.tuple #[])/\But (· =b) w w'/\XrB w' b s (if bad=true then i else j) true v0 v1 v2:=by
 cases bad with
 |true=>exact jC b s i v0 v1 v2 w j hR
 |false=>exact gc b s i v0 v1 v2 w j hR
def tr (w:World) (g:Nat) (x0 x1 x2 x3 x4:Value):World:=((((w.setCell ⟨g,0,none⟩ x0).setCell ⟨g,1,none⟩ x1).setCell ⟨g,2,none⟩ x2).setCell ⟨g,3,none⟩ x3).setCell ⟨g,4,none⟩ x4
theorem il {w:World} {g t:Nat} {a0 a1 a2 a3 a4:Value} (h:w.heap[g]?=some (.cells #[a0,a1,a2,a3,a4] t)) (x0 x1 x2 x3 x4:Value):(tr w g x0 x1 x2 x3 x4).heap[g]?=some (.cells #[x0,x1,x2,x3,x4] t):=by
 have a:=bS w g 0 _ _ x0 h;have b:=bS _ g 1 _ _ x1 a;have c:=bS _ g 2 _ _ x2 b;have d:=bS _ g 3 _ _ x3 c;exact bS _ g 4 _ _ x4 d
theorem jl (w:World) (g:Nat) (x0 x1 x2 x3 x4:Value):But (· =g) w (tr w g x0 x1 x2 x3 x4):=
 ((((aq w g 0 x0).trans (aq _ g 1 x1)).trans (aq _ g 2 x2)).trans (aq _ g 3 x3)).trans (aq _ g 4 x4)
theorem bI {w:World} {g t:Nat} {x0 x1 x2 x3 x4:Value} (h:w.heap[g]?=some (.cells #[x0,x1,x2,x3,x4] t)):
  w.cell? ⟨g,0,none⟩=some x0/\w.cell? ⟨g,1,none⟩=some x1/\w.cell? ⟨g,2,none⟩=some x2/\w.cell? ⟨g,3,none⟩=some x3/\w.cell? ⟨g,4,none⟩=some x4:=by
 refine⟨?_,?_,?_,?_,?_⟩
 .rw[bU w g 0 _ _ (0,0) h];rfl
 .rw[bU w g 1 _ _ (0,0) h];rfl
 .rw[bU w g 2 _ _ (0,0) h];rfl
 .rw[bU w g 3 _ _ (0,0) h];rfl
 .rw[bU w g 4 _ _ (0,0) h];rfl
def hdV (c:UInt8) (m:Nat) (r:UInt8) (vl vi:Value):Value:= .agg #[.int .u8 c.toNat,.int .i64 m,.int .u8 r.toNat,vl,vi]
theorem mF (b:Nat) (s:ByteArray) (i:Nat) (bad:Bool) (a0:Option Addr) (n cap0:Nat) (v1:Value) (v2:RdV) (w:World) (hn:n<=4) (hs:s.size<=2000) (hR:XrB w b s i bad (.slice a0 n cap0) v1 v2):
  Calls prog 168 #[.pointer (some ⟨b,0,none⟩)] w λen w'=>But (· =b) w w'/\ ∃ao cap l j bad',en= .returned (hdV 45 0 105 (.slice ao (List.length l) cap) S_)/\XrB w' b s j bad' (.slice a0 n cap0) v1 v2/\BtB w' w.heap.size (.slice ao l.length cap) l/\l.length<=3/\
   ((bad'=false/\fR s n 58 3 i bad= .ok (l,j))\/(bad'=true/\fR s n 58 3 i bad= .error j)):=by
 have E:=hR.lt
 go_in
 have D:=hR.c0;go_wp2_with fail;have p:But (· =b) w (w.alloc (Obj.cells #[Value.int IntKind.u8 0,Value.int IntKind.i64 0,Value.int IntKind.u8 0,Value.slice none 0 0,Value.slice none 0 0] 115)):=ag _ _ _;have q:XrB (w.alloc (Obj.cells #[Value.int IntKind.u8 0,Value.int IntKind.i64 0,Value.int IntKind.u8 0,Value.slice none 0 0,Value.slice none 0 0] 115)) b s i bad (.slice a0 n cap0) v1 v2:=hR.but (ag (λ_=>False) _ _) (λh=>h);have f:=bj w (Obj.cells #[Value.int IntKind.u8 0,Value.int IntKind.i64 0,Value.int IntKind.u8 0,Value.slice none 0 0,Value.slice none 0 0] 115);clear D;revert p q f;generalize (w.alloc (Obj.cells #[Value.int IntKind.u8 0,Value.int IntKind.i64 0,Value.int IntKind.u8 0,Value.slice none 0 0,Value.slice none 0 0] 115))=W0
 intro p q f;refine(kP b s i bad _ v1 v2 W0 3 n 58 (by decide) (by omega) hn hs q).mono ?_;rintro en w2 ⟨t,e,a,l,j2,r,rfl,B,x,C,y⟩;have A:=hid y;have G:=p.size;have F:=ae f;have c:=(t.block w.heap.size (by omega) (by omega)).trans f;obtain⟨T,X,Y,Z,q4⟩:=bI c;have M:w2.frozen? ⟨w.heap.size,0,none⟩=false:=cw w2 w.heap.size 0 _ _ c;have O:w2.frozen? ⟨w.heap.size,1,none⟩=false:=cw w2 w.heap.size 1 _ _ c;have P:w2.frozen? ⟨w.heap.size,2,none⟩=false:=cw w2 w.heap.size 2 _ _ c;have Q:w2.frozen? ⟨w.heap.size,3,none⟩=false:=cw w2 w.heap.size 3 _ _ c;have S:w2.frozen? ⟨w.heap.size,4,none⟩=false:=cw w2 w.heap.size 4 _ _ c
 have z:=hid c;clear y c f;go_wp2_with fail;have m:=il z.out (.int .u8 45) (.int .i64 0) (.int .u8 105) (.slice e l.length a) S_;have d:=jl w2 w.heap.size (.int .u8 45) (.int .i64 0) (.int .u8 105) (.slice e l.length a) S_;unfold tr at m d;revert m d;generalize ((((w2.setCell ⟨w.heap.size,0,none⟩ (.int .u8 45)).setCell ⟨w.heap.size,1,none⟩ (.int .i64 0)).setCell ⟨w.heap.size,2,none⟩ (.int .u8 105)).setCell ⟨w.heap.size,3,none⟩ (.slice e l.length a)).setCell ⟨w.heap.size,4,none⟩ S_=w6;intro m d;obtain⟨r0,H,I,J,L⟩:=bI m
 exact cU (v:=hdV 45 0 105 (.slice e l.length a) S_) (by simp[hdV,results,results168,go_sem,r0,H,I,J,L]) rfl
  ⟨((p.trans t).next d (λk hk h=>by omega)),e,a,l,j2,r,rfl,B.but d (by omega),BtB.but (dh x (by omega)) d (λg hg h=>by have:=aC x g hg;omega),C,A.out⟩
def aJ (x:Ins):XIt:=⟨x.pos,x.op,if x.op.toNat=110\/x.op.toNat=120\/x.op.toNat=103\/x.op.toNat=112\/x.op.toNat=99 then UInt8.ofNat (65+x.a)else 45,x.b,none,0,0⟩
def aR (gs:List Sig) (b:Bod):bK:=⟨if b.cls<0 then 45 else UInt8.ofNat (65+b.cls.toNat),b.meth.toNat,if b.cls<0 then 105 else(dC gs b.meth.toNat).ret,b.zy,b.code.map aJ⟩
def hU (b:Bod):Prop:=0<=b.cls/\b.cls<4/\0<=b.meth
theorem Bq {bs:List bK} {c:UInt8} {m:Nat}: ∀(f k:Nat),k+f=bs.length->lO bs c m f k=match(bs.drop k).findIdx? (λx=>decide (x.cls=c/\x.meth=m))with
  |some j=>((k+j:Nat):Int)
  |none=> -1:=by
 intro f
 induction f with
 |zero=>intro k b;rw[List.drop_of_length_le (by omega)];rfl
 |succ f ih=>
  intro k b;have a:k<bs.length:=by omega
  rw[List.drop_eq_getElem_cons a,List.findIdx?_cons];simp only[lO,aM a]
  by_cases h:bs[k].cls=c/\bs[k].meth=m
  .simp[h]
  .rw[if_neg h,ih (k+1) (by omega)];simp only[h,decide_false,dx,if_false]
   cases List.findIdx? (λx=>decide (x.cls=c/\x.meth=m)) (bs.drop (k+1))with
   |none=>rfl
   |some j=>simp only[Option.map_some];congr 1;omega
theorem findIdx?_map' {α β:Type} (f:α->β) (p:β->Bool): ∀l:List α,(l.map f).findIdx? p=l.findIdx? (λx=>p (f x)):=by
 intro l
 induction l with
 |nil=>rfl
 |cons x l ih=>simp only[List.map_cons,List.findIdx?_cons,ih]
theorem findIdx?_congr' {α:Type} {p q:α->Bool}: ∀{l:List α},(∀x∈l,p x=q x)->l.findIdx? p=l.findIdx? q:=by
 intro l
 induction l with
 |nil=>intro _;rfl
 |cons x l ih=>
  intro h;rw[List.findIdx?_cons,List.findIdx?_cons,h x (by simp),ih (λy hy=>h y (by simp[hy]))]
theorem rX {gs:List Sig} {BS:List Bod} (hB: ∀b∈BS,(b.cls= -1)\/hU b) {x m:Nat} (hx:x<4):lO (BS.map (aR gs)) (UInt8.ofNat (65+x)) m (BS.map (aR gs)).length 0=mN BS x m:=by
 rw[Bq _ 0 (by simp),List.drop_zero]
 have f:(BS.map (aR gs)).findIdx? (λy=>decide (y.cls=UInt8.ofNat (65+x)/\y.meth=m))=lA BS x m:=by
  unfold lA;rw[findIdx?_map'];refine findIdx?_congr' (λb hb=> ?_);have e:(UInt8.ofNat (65+x)).toNat=65+x:=by simp;omega
  obtain h| ⟨h1,h2,h3⟩:=hB b hb
  .have a:(aR gs b).cls=45:=by simp[aR,h]
   have c: ¬(45:UInt8)=UInt8.ofNat (65+x):=λh=>by
    have:=congrArg UInt8.toNat h;rw[e]at this;simp at this;omega
   have d:(b.cls==(x:Int))=false:=by rw[fh];omega
   rw[a,d,Bool.false_and,decide_eq_false_iff_not];exact λh=>c h.1
  .have a:(aR gs b).cls=UInt8.ofNat (65+b.cls.toNat):=by simp[aR];omega
   have g:(UInt8.ofNat (65+b.cls.toNat)).toNat=65+b.cls.toNat:=by simp;omega
   have c:(UInt8.ofNat (65+b.cls.toNat)=UInt8.ofNat (65+x))↔b.cls=x:=by
    rw[<-UInt8.toNat_inj,e,g];omega
   have d:(aR gs b).meth=b.meth.toNat:=rfl;rw[Bool.eq_iff_iff];simp only[a,c,d,dk,dl,dS];omega
 rw[f];unfold mN
 cases lA BS x m with
 |none=>rfl
 |some j=>simp
def gP (s:ByteArray) (nc:Nat) (gs:List Sig) (BS:List Bod) (i:Nat):Except Nat ((Nat×Nat×L_)×Nat):=
 match jb s nc i with
 | .error j=> .error j
 | .ok (x,j)=>
  match gE s gs.length j with
  | .error l=> .error l
  | .ok (m,l)=>
   if(lA BS x m).isSome=true then .error j else
   match tys s nc 58 3 [] l with
   | .error p=> .error p
   | .ok (t,p)=> .ok ((x,m,t),p)
theorem tu {s:ByteArray} {n i:Nat} (h:aQ n (pk s i)=true):ltX s n i false=(pk s i,i+1,false):=by unfold ltX;rw[if_pos ⟨rfl,h⟩]
theorem tw {s:ByteArray} {n i:Nat} {bad:Bool} (h:bad=true\/aQ n (pk s i)=false):ltX s n i bad=(45,i,true):=by
 unfold ltX;rw[if_neg];rintro⟨a,b⟩;obtain h|h:=h
 .rw[h]at a;cases a
 .rw[h]at b;cases b
theorem oM {s:ByteArray} {n i:Nat} (h:gY n (pk s i)=true):dgX s n i false=((pk s i).toNat-48,i+1,false):=by unfold dgX;rw[if_pos ⟨rfl,h⟩]
theorem jY {s:ByteArray} {n i:Nat} {bad:Bool} (h:bad=true\/gY n (pk s i)=false):dgX s n i bad=(0,i,true):=by
 unfold dgX;rw[if_neg];rintro⟨a,b⟩;obtain h|h:=h
 .rw[h]at a;cases a
 .rw[h]at b;cases b
def pe (o:Int) (j1 j2:Nat) (b2:Bool):Nat×Bool:=if 0<=o then(if b2=true then j2 else j1,true)else(j2,b2)
theorem Br {s:ByteArray} {nc:Nat} {gs:List Sig} {BS:List Bod} {i:Nat} (hB: ∀b∈BS,(b.cls= -1)\/hU b) (hnc:nc<=4)
  {c:UInt8} {j1 d j2:Nat} {b1 b2:Bool} (h1:ltX s nc i false=(c,j1,b1)) (h2:dgX s gs.length j1 b1=(d,j2,b2)) {t:L_} {j:Nat} {bad':Bool} {J:Nat×Bool} (hJ:pe (lO (BS.map (aR gs)) c d (BS.map (aR gs)).length 0) j1 j2 b2=J)
  (hT:(bad'=false/\fR s nc 58 3 J.1 J.2= .ok (t,j))\/(bad'=true/\fR s nc 58 3 J.1 J.2= .error j)):
  (bad'=false/\ ∃x,gP s nc gs BS i= .ok ((x,d,t),j)/\c=UInt8.ofNat (65+x)/\x<nc/\d<gs.length)\/(bad'=true/\gP s nc gs BS i= .error j):=by
 unfold gP jb
 cases hl:aQ nc (pk s i)with
 |false=>
  rw[tw (Or.inr hl)]at h1;simp only[Prod.mk.injEq]at h1;obtain⟨rfl,rfl,rfl⟩:=h1;rw[jY (Or.inl rfl)]at h2;simp only[Prod.mk.injEq]at h2;obtain⟨rfl,rfl,rfl⟩:=h2
  have a:J=(i,true):=by
   rw[<-hJ];unfold pe
   split<;>rfl
  subst a;simp only[fR,if_true]at hT
  right
  obtain⟨_,h⟩ | ⟨h,h'⟩:=hT
  .cases h
  .cases h'
   exact⟨h,by simp⟩
 |true=>
  rw[tu hl]at h1;simp only[Prod.mk.injEq]at h1;obtain⟨rfl,rfl,rfl⟩:=h1;simp only[if_true];have p:=hl;simp only[aQ,dl,dk]at p;unfold gE
  cases hd:gY gs.length (pk s (i+1))with
  |false=>
   rw[jY (Or.inr hd)]at h2;simp only[Prod.mk.injEq]at h2;obtain⟨rfl,rfl,rfl⟩:=h2
   have a:J=(i+1,true):=by
    rw[<-hJ];unfold pe
    split<;>rfl
   subst a;simp only[fR,if_true]at hT
   right
   obtain⟨_,h⟩ | ⟨h,h'⟩:=hT
   .cases h
   .cases h'
    exact⟨h,by simp⟩
  |true=>
   rw[oM hd]at h2;simp only[Prod.mk.injEq]at h2;obtain⟨l,rfl,rfl⟩:=h2;simp only[if_true];have g:=hd;simp only[gY,dl,dk]at g;rw[l]
   have hc:pk s i=UInt8.ofNat (65+((pk s i).toNat-65)):=by
    apply ck
    have:=(pk s i).toNat_lt;simp;omega
   have e:=rX (gs:=gs) (m:=d) hB (x:=(pk s i).toNat-65) (by omega);rw[<-hc]at e;rw[e]at hJ
   by_cases ho:(lA BS (((pk s i).toNat-65:Nat):Int) d).isSome=true
   .rw[if_pos ho]
    have f:0<=mN BS (((pk s i).toNat-65:Nat):Int) d:=by
     unfold mN;obtain⟨k,n⟩:=Option.isSome_iff_exists.1 ho;rw[n];exact Int.natCast_nonneg k
    rw[pe,if_pos f]at hJ;subst hJ;simp only[fR,if_true]at hT
    right
    obtain⟨_,h⟩ | ⟨h,h'⟩:=hT
    .cases h
    .cases h'
     exact⟨h,rfl⟩
   .rw[if_neg ho]
    have f: ¬0<=mN BS (((pk s i).toNat-65:Nat):Int) d:=by
     unfold mN
     cases n:lA BS (((pk s i).toNat-65:Nat):Int) d with
     |none=>simp
     |some k=>rw[n]at ho;simp at ho
    rw[pe,if_neg f]at hJ;subst hJ;simp only[fR,dx,if_false]at hT;obtain⟨h,h'⟩ | ⟨h,h'⟩:=hT
    .left
     rw[h'];exact⟨h,_,rfl,hc,by omega,by omega⟩
    .right
     rw[h'];exact⟨h,rfl⟩
theorem bH {w:World} {ops:Array Oper} {rest:List Oper} {o:Oper} {a:Act} {Q:Exit->Act->World->Prop} (hgd:o.guard=none) (s x:Operand)
  (ho:o.op= .call {callee:= .builtin .append,args:=#[s,x],argTypes:=#[112,112]}) (base bx:Nat) (v xv:Value) (l m LM:L_) (b:Hid (l++m=LM)) (hs:a.eval s=v) (hx:a.eval x=xv) (hown:BtB w base v l) (hxo:BtB w bx xv m) (hlen:LM.length<=100000) (hbase:base<=w.heap.size)
  (h: ∀ao cap w',BtB w' base (.slice ao LM.length cap) LM->But (λk=>v.ownBlock=some k) w w'->((Value.slice ao LM.length cap).ownBlock=v.ownBlock\/(Value.slice ao LM.length cap).ownBlock=some w.heap.size)->wpList prog ops Q rest (a.put o.dst (.slice ao LM.length cap)) w'):wpList prog ops Q (o::rest) a w:=by
 have b:=b.out;subst b;exact jF hgd s x ho base bx v xv l m hs hx hown hxo (by rw[<-aV];exact hlen) hbase h
def lw (x:bK):UInt8×Nat:=(x.cls,x.meth)
theorem qq {xs ys:List bK} (h:xs.map lw=ys.map lw) (c:UInt8) (m:Nat): ∀f k:Nat,lO xs c m f k=lO ys c m f k:=by
 intro f
 induction f with
 |zero=>intro k;rfl
 |succ f ih=>
  intro k;have a:(xs.map lw)[k]?=(ys.map lw)[k]?:=by rw[h]
  rw[cg,cg]at a;unfold lO
  cases hx:xs[k]? with
  |none=>
   rw[hx]at a
   cases hy:ys[k]? with
   |none=>rfl
   |some y=>rw[hy]at a;cases a
  |some x=>
   rw[hx]at a
   cases hy:ys[k]? with
   |none=>rw[hy]at a;cases a
   |some y=>
    rw[hy]at a;simp only[Option.map_some,Option.some.injEq,lw,Prod.mk.injEq]at a;simp only[a.1,a.2,ih]
theorem oN {xs ys:List bK} (h:xs.map lw=ys.map lw):xs.length=ys.length:=by have:=congrArg List.length h;simpa using this
theorem zN (b base:Nat) (s:ByteArray) (i:Nat) (a0:Option Addr) (nc cap0:Nat) (v1:Value) (v2:RdV) (w:World) (gs:List Sig) (BS:List Bod) (xs:List bK) (hxs:xs.map lw=(BS.map (aR gs)).map lw) (hnc:nc<=4) (hgs:gs.length<=3) (hBS:BS.length<=6) (hsb: ∀b∈BS,(b.cls= -1)\/hU b) (hs:s.size<=2000)
  (hR:XrB w b s i false (.slice a0 nc cap0) v1 v2) (hM:TmV w base v1 gs) (hBd:TbV w base v2.bods xs) (hb:b<base):
  Calls prog 167 #[.pointer (some ⟨b,0,none⟩)] w λen w'=>But (· =b) w w'/\ ∃c m r ao cap l j bad',en= .returned (hdV c m r (.slice ao (List.length l) cap) S_)/\XrB w' b s j bad' (.slice a0 nc cap0) v1 v2/\BtB w' w.heap.size (.slice ao l.length cap) l/\l.length<=5/\
   ((bad'=false/\ ∃x t,gP s nc gs BS i= .ok ((x,m,t),j)/\c=UInt8.ofNat (65+x)/\x<nc/\m<gs.length/\r=(dC gs m).ret/\l=c::(dC gs m).arg::t)\/(bad'=true/\gP s nc gs BS i= .error j)):=by
 obtain⟨a1,cap1,l3⟩:=aA hM;subst l3;have j0:=hR.lt;have HM:=hid (λ(w':World) (h:But (· =b) w w') (hr:w'.cell? ⟨b,1,none⟩=some (.slice a1 gs.length cap1))=>(hM.but h (λg e cur _ _ hg he=>by omega)).tx hr (aP j0 h.size));have HB:=hid (λ(w':World) (h:But (· =b) w w') (hr:w'.cell? ⟨b,2,none⟩=some v2.bods)=>(hBd.but h (λg e cur _ _ hg he=>by omega)).tx hr (aP j0 h.size));have i7:xs.length<=100:=by rw[oN hxs,bZ];omega
 have j5:=hid i7;have i3:=hid (λ(c:UInt8) (j1 d j2:Nat) (b1 b2:Bool) (t:L_) (j:Nat) (bad':Bool) (J:Nat×Bool) (h1:ltX s nc i false=(c,j1,b1)) (h2:dgX s gs.length j1 b1=(d,j2,b2)) (hJ:pe (lO xs c d xs.length 0) j1 j2 b2=J)=>Br (t:=t) (j:=j) (bad':=bad') (J:=J) hsb hnc h1 h2 (by rw[<-hJ,qq hxs,oN hxs]));clear hM hBd i7 hsb hBS hxs
 go_in
 go_wp2_with fail;have g2:But (· =b) w (w.alloc (Obj.cells #[Value.int IntKind.u8 0,Value.int IntKind.i64 0,Value.int IntKind.u8 0,Value.slice none 0 0,Value.slice none 0 0] 115)):=ag _ _ _;have g7:XrB (w.alloc (Obj.cells #[Value.int IntKind.u8 0,Value.int IntKind.i64 0,Value.int IntKind.u8 0,Value.slice none 0 0,Value.slice none 0 0] 115)) b s i false (.slice a0 nc cap0) (.slice a1 gs.length cap1) v2:=hR.but (ag (λ_=>False) _ _) (λh=>h);have e6:=bj w (Obj.cells #[Value.int IntKind.u8 0,Value.int IntKind.i64 0,Value.int IntKind.u8 0,Value.slice none 0 0,Value.slice none 0 0] 115);revert g2 g7 e6
 generalize (w.alloc (Obj.cells #[Value.int IntKind.u8 0,Value.int IntKind.i64 0,Value.int IntKind.u8 0,Value.slice none 0 0,Value.slice none 0 0] 115))=W0;intro g2 g7 e6;have j4:=ae e6;have i2:=hid e6;clear e6;refine(ji b s i false _ v2 W0 nc cap0 a0 (by omega) hs g7).mono ?_;rintro en w1 ⟨rfl,g3,b8⟩;obtain⟨Y1,f5⟩: ∃Y,ltX s nc i false=Y:=⟨_,rfl⟩;rw[f5]at b8;rw[f5];have i4:=hid f5;clear f5;obtain⟨c,j1,b1⟩:=Y1;dsimp only at b8⊢;have p1:=b8.c3;have p2:=b8.c1;go_wp2_with fail;refine(dQ b s j1 b1 _ _ v2 w1 gs.length (by omega) hs b8).mono ?_;rintro en w2 ⟨rfl,g4,e3⟩;obtain⟨Y2,f6⟩: ∃Y,dgX s gs.length j1 b1=Y:=⟨_,rfl⟩
 rw[f6]at e3;rw[f6];have i5:=hid f6;clear f6;obtain⟨d,j2,b2⟩:=Y2;dsimp only at e3⊢;clear p1 p2;have a5:But (· =b) w w2:=(g2.trans g3).trans g4;have e2:But (· =b) W0 w2:=g3.trans g4;have b7:=hid (λt j bad' J=>i3.out c j1 d j2 b1 b2 t j bad' J i4.out i5.out);clear i3 i4 i5 g3 g4 b8;go_wp2_with fail;refine(nQ b xs c d w2 j5.out (HB.out w2 a5 e3.c2)).mono ?_;rintro en w3 ⟨rfl,e8⟩;have e9:=e3.but e8 (λh=>h);have a3:But (· =b) w w3:=a5.next e8 (λ_ _ h=>h.elim);have a2:But (· =b) W0 w3:=e2.next e8 (λ_ _ h=>h.elim);revert b7;generalize lO xs c d xs.length 0=o;intro b7;clear HB e8 e3 a5 e2
 by_cases ho:0<=o
 .obtain⟨J,hJ⟩: ∃J:Nat×Bool,(if b2=true then j2 else j1,true)=J:=⟨_,rfl⟩;have b9:=hid (λ(t:L_) (j:Nat) (bad':Bool)=>b7.out t j bad' J (by rw[pe,if_pos ho];exact hJ));have HJ:=hid hJ;clear b7 hJ;go_wp2_with fail;refine(jH b s j2 b2 _ _ v2 w3 j1 e9).mono ?_;rintro en w4 ⟨rfl,i6,e4⟩;have I:XrB w4 b s J.1 J.2 (.slice a0 nc cap0) (.slice a1 gs.length cap1) v2:=by rw[<-HJ.out];exact e4
  have B:=a3.trans i6;have Q:=a2.trans i6;clear a3 a2 e9 e4 HJ;obtain⟨j3,b3⟩:=J;dsimp only at I;go_wp2_with fail;refine(ir b gs d w4 (by omega) (HM.out w4 B I.c1)).mono ?_;rintro en a ⟨rfl,G⟩;have L:=I.but G (λh=>h);have T:But (· =b) w a:=B.next G (λ_ _ h=>h.elim);have S:But (· =b) W0 a:=Q.next G (λ_ _ h=>h.elim);obtain⟨mt,b4⟩: ∃mt,dC gs d=mt:=⟨_,rfl⟩;rw[b4];have e0:=hid b4;clear b4 I G B Q HM;obtain⟨ma,mr⟩:=mt;dsimp only;have p0:=L.c0;have h7:=L.lt;go_wp2_with fail;have z:B_ a ((a.alloc (Obj.cells #[Value.int IntKind.u8 ma.toNat,Value.int IntKind.u8 mr.toNat] 243)).alloc (Obj.cells #[Value.int IntKind.u8 c.toNat,Value.int IntKind.u8 ma.toNat] 5)):=(ag _ _ _).trans (ag _ _ _)
  have O:((a.alloc (Obj.cells #[Value.int IntKind.u8 ma.toNat,Value.int IntKind.u8 mr.toNat] 243)).alloc (Obj.cells #[Value.int IntKind.u8 c.toNat,Value.int IntKind.u8 ma.toNat] 5)).heap[a.heap.size]?=some (Obj.cells #[Value.int IntKind.u8 ma.toNat,Value.int IntKind.u8 mr.toNat] 243):=by
   rw[(ag (λ_=>False) (a.alloc (Obj.cells #[Value.int IntKind.u8 ma.toNat,Value.int IntKind.u8 mr.toNat] 243)) (Obj.cells #[Value.int IntKind.u8 c.toNat,Value.int IntKind.u8 ma.toNat] 5)).block a.heap.size (ae (bj a _)) (λh=>h)];exact bj a _
  have C:BtB ((a.alloc (Obj.cells #[Value.int IntKind.u8 ma.toNat,Value.int IntKind.u8 mr.toNat] 243)).alloc (Obj.cells #[Value.int IntKind.u8 c.toNat,Value.int IntKind.u8 ma.toNat] 5)) a.heap.size (.slice (some ⟨a.heap.size+1,0,none⟩) 2 2) [c,ma]:=BtB.lit2 a _ [c,ma] (by simp);have M:=L.but z (λh=>h);have b5:((a.alloc (Obj.cells #[Value.int IntKind.u8 ma.toNat,Value.int IntKind.u8 mr.toNat] 243)).alloc (Obj.cells #[Value.int IntKind.u8 c.toNat,Value.int IntKind.u8 ma.toNat] 5)).heap.size=a.heap.size+2:=by simp
  have b6:a.heap.size+2<=((a.alloc (Obj.cells #[Value.int IntKind.u8 ma.toNat,Value.int IntKind.u8 mr.toNat] 243)).alloc (Obj.cells #[Value.int IntKind.u8 c.toNat,Value.int IntKind.u8 ma.toNat] 5)).heap.size:=Nat.le_of_eq b5.symm;clear b5 p0;revert z O C M b6;generalize ((a.alloc (Obj.cells #[Value.int IntKind.u8 ma.toNat,Value.int IntKind.u8 mr.toNat] 243)).alloc (Obj.cells #[Value.int IntKind.u8 c.toNat,Value.int IntKind.u8 ma.toNat] 5))=w6;intro z O C M b5;have d6:=hid O;clear O;refine(kP b s j3 b3 _ _ v2 w6 3 nc 58 (by decide) (by omega) hnc hs M).mono ?_;rintro en w7 ⟨A,k0,g1,l,j7,P,rfl,h0,g6,k9,e5⟩
  have f8:=hid (b9.out l j7 P e5);have X:=C.but A (λg hg h=>by have:=aC C g hg;omega);have a6:But (· =b) w w7:=(T.next z (λ_ _ h=>h.elim)).trans A;have a4:But (· =b) W0 w7:=(S.next z (λ_ _ h=>h.elim)).trans A;have b0:=(A.block a.heap.size (by omega) (by omega)).trans d6.out;have l5:=A.size;have l4:=T.size;have i1:=S.size;have i0:a.heap.size<=w7.heap.size:=by omega
  clear e5 b9 C M L d6;obtain⟨LL,a8⟩: ∃LL,[c,ma]++l=LL:=⟨_,rfl⟩;have g5:LL.length<=5:=by rw[<-a8];simp;omega
  have c6:=hid a8;clear a8;go_wp2_with (at_builtin;refine bH rfl _ _ rfl a.heap.size w6.heap.size _ _ [c,ma] l LL c6 rfl rfl X g6 (by omega) i0 ?_);intro p f y h8 H l0;have q:=aC X;have a7:But (· =b) w y:=a6.next H (λk hk h=>by have:=q k h;omega);have h6:=h0.but H (λh=>by have:=q _ h;omega);have Z:(Value.slice (some ⟨a.heap.size+1,0,none⟩) 2 2).ownBlock=some (a.heap.size+1):=rfl;have e7:=(H.block a.heap.size (ae b0) (λh=>by rw[Z]at h;injection h with h;omega)).trans b0;have n:=(H.block w.heap.size (by omega) (λh=>by have:=q _ h;omega)).trans ((a4.block w.heap.size j4 (by omega)).trans i2.out)
  have k1:=ce1 e7;obtain⟨q0,q1,q2,q3,q4⟩:=bI n;have f0:y.frozen? ⟨w.heap.size,0,none⟩=false:=cw y w.heap.size 0 _ _ n;have f1:y.frozen? ⟨w.heap.size,1,none⟩=false:=cw y w.heap.size 1 _ _ n;have f2:y.frozen? ⟨w.heap.size,2,none⟩=false:=cw y w.heap.size 2 _ _ n;have f3:y.frozen? ⟨w.heap.size,3,none⟩=false:=cw y w.heap.size 3 _ _ n;have f4:y.frozen? ⟨w.heap.size,4,none⟩=false:=cw y w.heap.size 4 _ _ n;have g0:=hid n;have e1:BtB y w.heap.size (.slice p LL.length f) LL:=dh h8 (by omega);have H8:=hid e1;have f7:=hid (aC h8);clear n e7 b0 h8 e1 Z
  have D: ∀w9,But (· =w.heap.size) y w9->But (· =b) w w9/\ ∃c' m r ao cap l j bad',Ending.returned (hdV c d mr (.slice p LL.length f) S_)= .returned (hdV c' m r (.slice ao (List.length l) cap) S_)/\XrB w9 b s j bad' (.slice a0 nc cap0) (.slice a1 gs.length cap1) v2/\BtB w9 w.heap.size (.slice ao l.length cap) l/\l.length<=5/\
    ((bad'=false/\ ∃x t,gP s nc gs BS i= .ok ((x,m,t),j)/\c'=UInt8.ofNat (65+x)/\x<nc/\m<gs.length/\r=(dC gs m).ret/\l=c'::(dC gs m).arg::t)\/(bad'=true/\gP s nc gs BS i= .error j)):=by
   intro w9 h9;refine⟨a7.next h9 (λk hk h=>by omega),c,d,mr,p,f,LL,j7,P,rfl,h6.but h9 (by omega),H8.out.but h9 (λg hg h=>by have:=f7.out g hg;omega),g5,?_⟩;obtain⟨h1,x,h2,h3,h4,h5⟩ |h:=f8.out
   .exact Or.inl ⟨h1,x,l,h2,h3,h4,h5,by rw[e0.out],by rw[e0.out,<-c6.out];rfl⟩
   .exact Or.inr h
  have HP:=hid D;clear D;go_wp2_with fail;have E:=il g0.out (.int .u8 c.toNat) (.int .i64 d) (.int .u8 mr.toNat) (.slice p LL.length f) S_;have F:=HP.out _ (jl y w.heap.size (.int .u8 c.toNat) (.int .i64 d) (.int .u8 mr.toNat) (.slice p LL.length f) S_);unfold tr at E F;revert E F;generalize ((((y.setCell ⟨w.heap.size,0,none⟩ (.int .u8 c.toNat)).setCell ⟨w.heap.size,1,none⟩ (.int .i64 d)).setCell ⟨w.heap.size,2,none⟩ (.int .u8 mr.toNat)).setCell ⟨w.heap.size,3,none⟩ (.slice p LL.length f)).setCell ⟨w.heap.size,4,none⟩ S_=w9;intro E F;obtain⟨r0,r1,r2,r3,r4⟩:=bI E
  exact cU (v:=hdV c d mr (.slice p LL.length f) S_) (by simp[hdV,results,results167,go_sem,r0,r1,r2,r3,r4]) rfl F
 .obtain⟨J,hJ⟩: ∃J:Nat×Bool,(j2,b2)=J:=⟨_,rfl⟩;have b9:=hid (λ(t:L_) (j:Nat) (bad':Bool)=>b7.out t j bad' J (by rw[pe,if_neg ho];exact hJ));have HJ:=hid hJ;clear b7 hJ;have I:XrB w3 b s J.1 J.2 (.slice a0 nc cap0) (.slice a1 gs.length cap1) v2:=by rw[<-HJ.out];exact e9
  have B:=a3;have Q:=a2;clear a3 a2 e9 HJ;obtain⟨j3,b3⟩:=J;dsimp only at I;go_wp2_with fail;refine(ir b gs d w3 (by omega) (HM.out w3 B I.c1)).mono ?_;rintro en a ⟨rfl,G⟩;have L:=I.but G (λh=>h);have T:But (· =b) w a:=B.next G (λ_ _ h=>h.elim);have S:But (· =b) W0 a:=Q.next G (λ_ _ h=>h.elim);obtain⟨mt,b4⟩: ∃mt,dC gs d=mt:=⟨_,rfl⟩;rw[b4];have e0:=hid b4;clear b4 I G B Q HM;obtain⟨ma,mr⟩:=mt;dsimp only;have p0:=L.c0;have h7:=L.lt;go_wp2_with fail;have z:B_ a ((a.alloc (Obj.cells #[Value.int IntKind.u8 ma.toNat,Value.int IntKind.u8 mr.toNat] 243)).alloc (Obj.cells #[Value.int IntKind.u8 c.toNat,Value.int IntKind.u8 ma.toNat] 5)):=(ag _ _ _).trans (ag _ _ _)
  have O:((a.alloc (Obj.cells #[Value.int IntKind.u8 ma.toNat,Value.int IntKind.u8 mr.toNat] 243)).alloc (Obj.cells #[Value.int IntKind.u8 c.toNat,Value.int IntKind.u8 ma.toNat] 5)).heap[a.heap.size]?=some (Obj.cells #[Value.int IntKind.u8 ma.toNat,Value.int IntKind.u8 mr.toNat] 243):=by
   rw[(ag (λ_=>False) (a.alloc (Obj.cells #[Value.int IntKind.u8 ma.toNat,Value.int IntKind.u8 mr.toNat] 243)) (Obj.cells #[Value.int IntKind.u8 c.toNat,Value.int IntKind.u8 ma.toNat] 5)).block a.heap.size (ae (bj a _)) (λh=>h)];exact bj a _
  have C:BtB ((a.alloc (Obj.cells #[Value.int IntKind.u8 ma.toNat,Value.int IntKind.u8 mr.toNat] 243)).alloc (Obj.cells #[Value.int IntKind.u8 c.toNat,Value.int IntKind.u8 ma.toNat] 5)) a.heap.size (.slice (some ⟨a.heap.size+1,0,none⟩) 2 2) [c,ma]:=BtB.lit2 a _ [c,ma] (by simp);have M:=L.but z (λh=>h);have b5:((a.alloc (Obj.cells #[Value.int IntKind.u8 ma.toNat,Value.int IntKind.u8 mr.toNat] 243)).alloc (Obj.cells #[Value.int IntKind.u8 c.toNat,Value.int IntKind.u8 ma.toNat] 5)).heap.size=a.heap.size+2:=by simp
  have b6:a.heap.size+2<=((a.alloc (Obj.cells #[Value.int IntKind.u8 ma.toNat,Value.int IntKind.u8 mr.toNat] 243)).alloc (Obj.cells #[Value.int IntKind.u8 c.toNat,Value.int IntKind.u8 ma.toNat] 5)).heap.size:=Nat.le_of_eq b5.symm;clear b5 p0;revert z O C M b6;generalize ((a.alloc (Obj.cells #[Value.int IntKind.u8 ma.toNat,Value.int IntKind.u8 mr.toNat] 243)).alloc (Obj.cells #[Value.int IntKind.u8 c.toNat,Value.int IntKind.u8 ma.toNat] 5))=w6;intro z O C M b5;have d6:=hid O;clear O;refine(kP b s j3 b3 _ _ v2 w6 3 nc 58 (by decide) (by omega) hnc hs M).mono ?_;rintro en w7 ⟨A,k0,g1,l,j7,P,rfl,h0,g6,k9,e5⟩
  have f8:=hid (b9.out l j7 P e5);have X:=C.but A (λg hg h=>by have:=aC C g hg;omega);have a6:But (· =b) w w7:=(T.next z (λ_ _ h=>h.elim)).trans A;have a4:But (· =b) W0 w7:=(S.next z (λ_ _ h=>h.elim)).trans A;have b0:=(A.block a.heap.size (by omega) (by omega)).trans d6.out;have l5:=A.size;have l4:=T.size;have i1:=S.size;have i0:a.heap.size<=w7.heap.size:=by omega
  clear e5 b9 C M L d6;obtain⟨LL,a8⟩: ∃LL,[c,ma]++l=LL:=⟨_,rfl⟩;have g5:LL.length<=5:=by rw[<-a8];simp;omega
  have c6:=hid a8;clear a8;go_wp2_with (at_builtin;refine bH rfl _ _ rfl a.heap.size w6.heap.size _ _ [c,ma] l LL c6 rfl rfl X g6 (by omega) i0 ?_);intro p f y h8 H l0;have q:=aC X;have a7:But (· =b) w y:=a6.next H (λk hk h=>by have:=q k h;omega);have h6:=h0.but H (λh=>by have:=q _ h;omega);have Z:(Value.slice (some ⟨a.heap.size+1,0,none⟩) 2 2).ownBlock=some (a.heap.size+1):=rfl;have e7:=(H.block a.heap.size (ae b0) (λh=>by rw[Z]at h;injection h with h;omega)).trans b0;have n:=(H.block w.heap.size (by omega) (λh=>by have:=q _ h;omega)).trans ((a4.block w.heap.size j4 (by omega)).trans i2.out)
  have k1:=ce1 e7;obtain⟨q0,q1,q2,q3,q4⟩:=bI n;have f0:y.frozen? ⟨w.heap.size,0,none⟩=false:=cw y w.heap.size 0 _ _ n;have f1:y.frozen? ⟨w.heap.size,1,none⟩=false:=cw y w.heap.size 1 _ _ n;have f2:y.frozen? ⟨w.heap.size,2,none⟩=false:=cw y w.heap.size 2 _ _ n;have f3:y.frozen? ⟨w.heap.size,3,none⟩=false:=cw y w.heap.size 3 _ _ n;have f4:y.frozen? ⟨w.heap.size,4,none⟩=false:=cw y w.heap.size 4 _ _ n;have g0:=hid n;have e1:BtB y w.heap.size (.slice p LL.length f) LL:=dh h8 (by omega);have H8:=hid e1;have f7:=hid (aC h8);clear n e7 b0 h8 e1 Z
  have D: ∀w9,But (· =w.heap.size) y w9->But (· =b) w w9/\ ∃c' m r ao cap l j bad',Ending.returned (hdV c d mr (.slice p LL.length f) S_)= .returned (hdV c' m r (.slice ao (List.length l) cap) S_)/\XrB w9 b s j bad' (.slice a0 nc cap0) (.slice a1 gs.length cap1) v2/\BtB w9 w.heap.size (.slice ao l.length cap) l/\l.length<=5/\
    ((bad'=false/\ ∃x t,gP s nc gs BS i= .ok ((x,m,t),j)/\c'=UInt8.ofNat (65+x)/\x<nc/\m<gs.length/\r=(dC gs m).ret/\l=c'::(dC gs m).arg::t)\/(bad'=true/\gP s nc gs BS i= .error j)):=by
   intro w9 h9;refine⟨a7.next h9 (λk hk h=>by omega),c,d,mr,p,f,LL,j7,P,rfl,h6.but h9 (by omega),H8.out.but h9 (λg hg h=>by have:=f7.out g hg;omega),g5,?_⟩;obtain⟨h1,x,h2,h3,h4,h5⟩ |h:=f8.out
   .exact Or.inl ⟨h1,x,l,h2,h3,h4,h5,by rw[e0.out],by rw[e0.out,<-c6.out];rfl⟩
   .exact Or.inr h
  have HP:=hid D;clear D;go_wp2_with fail;have E:=il g0.out (.int .u8 c.toNat) (.int .i64 d) (.int .u8 mr.toNat) (.slice p LL.length f) S_;have F:=HP.out _ (jl y w.heap.size (.int .u8 c.toNat) (.int .i64 d) (.int .u8 mr.toNat) (.slice p LL.length f) S_);unfold tr at E F;revert E F;generalize ((((y.setCell ⟨w.heap.size,0,none⟩ (.int .u8 c.toNat)).setCell ⟨w.heap.size,1,none⟩ (.int .i64 d)).setCell ⟨w.heap.size,2,none⟩ (.int .u8 mr.toNat)).setCell ⟨w.heap.size,3,none⟩ (.slice p LL.length f)).setCell ⟨w.heap.size,4,none⟩ S_=w9;intro E F;obtain⟨r0,r1,r2,r3,r4⟩:=bI E
  exact cU (v:=hdV c d mr (.slice p LL.length f) S_) (by simp[hdV,results,results167,go_sem,r0,r1,r2,r3,r4]) rfl F
def qr (w:World) (g:Nat) (x0 x1 x2 x3:Value):World:=(((w.setCell ⟨g,0,none⟩ x0).setCell ⟨g,1,none⟩ x1).setCell ⟨g,2,none⟩ x2).setCell ⟨g,3,none⟩ x3
theorem fF {w:World} {g t:Nat} {a0 a1 a2 a3:Value} (h:w.heap[g]?=some (.cells #[a0,a1,a2,a3] t)) (x0 x1 x2 x3:Value):(qr w g x0 x1 x2 x3).heap[g]?=some (.cells #[x0,x1,x2,x3] t):=by
 have a:=bS w g 0 _ _ x0 h;have b:=bS _ g 1 _ _ x1 a;have c:=bS _ g 2 _ _ x2 b;exact bS _ g 3 _ _ x3 c
theorem gQ (w:World) (g:Nat) (x0 x1 x2 x3:Value):But (· =g) w (qr w g x0 x1 x2 x3):=
 (((aq w g 0 x0).trans (aq _ g 1 x1)).trans (aq _ g 2 x2)).trans (aq _ g 3 x3)
theorem fm {w:World} {g t:Nat} {x0 x1 x2 x3:Value} (h:w.heap[g]?=some (.cells #[x0,x1,x2,x3] t)):
  w.cell? ⟨g,0,none⟩=some x0/\w.cell? ⟨g,1,none⟩=some x1/\w.cell? ⟨g,2,none⟩=some x2/\w.cell? ⟨g,3,none⟩=some x3:=by
 refine⟨?_,?_,?_,?_⟩
 .rw[bU w g 0 _ _ (0,0) h];rfl
 .rw[bU w g 1 _ _ (0,0) h];rfl
 .rw[bU w g 2 _ _ (0,0) h];rfl
 .rw[bU w g 3 _ _ (0,0) h];rfl
theorem jI {w:World} {g t:Nat} {x0 x1 x2 x3:Value} (h:w.heap[g]?=some (.cells #[x0,x1,x2,x3] t)):
  w.frozen? ⟨g,0,none⟩=false/\w.frozen? ⟨g,1,none⟩=false/\w.frozen? ⟨g,2,none⟩=false/\w.frozen? ⟨g,3,none⟩=false:=
 ⟨cw w g 0 _ _ h,cw w g 1 _ _ h,cw w g 2 _ _ h,cw w g 3 _ _ h⟩
def tgX (s:ByteArray) (i:Nat) (bad:Bool):Nat×Nat×Bool:=
 (10*(dgX s 10 i bad).1+(dgX s 10 (dgX s 10 i bad).2.1 (dgX s 10 i bad).2.2).1,(dgX s 10 (dgX s 10 i bad).2.1 (dgX s 10 i bad).2.2).2.1,(dgX s 10 (dgX s 10 i bad).2.1 (dgX s 10 i bad).2.2).2.2)
theorem Bs (s:ByteArray) (n i:Nat) (bad:Bool):(dgX s n i bad).1<10:=by
 unfold dgX
 split
 .rename_i h
  have:=h.2;simp only[gY,dl,dk]at this;simp only;omega
 .simp
theorem uV (b:Nat) (s:ByteArray) (i:Nat) (bad:Bool) (v0 v1:Value) (v2:RdV) (w:World) (hs:s.size<=2000) (hR:XrB w b s i bad v0 v1 v2):
  Calls prog 222 #[.pointer (some ⟨b,0,none⟩)] w λe w'=>e= .returned (.int .i64 (tgX s i bad).1)/\But (· =b) w w'/\XrB w' b s (tgX s i bad).2.1 (tgX s i bad).2.2 v0 v1 v2:=by
 unfold tgX;have d:=Bs s 10 i bad;have f:=Bs s 10 (dgX s 10 i bad).2.1 (dgX s 10 i bad).2.2;have a:=dQ b s i bad v0 v1 v2 w 10 (by omega) hs hR;have c:=λw1 h=>dQ b s (dgX s 10 i bad).2.1 (dgX s 10 i bad).2.2 v0 v1 v2 w1 10 (by omega) hs h
 revert d f a c;generalize dgX s 10 (dgX s 10 i bad).2.1 (dgX s 10 i bad).2.2=Y2;generalize dgX s 10 i bad=Y1;obtain⟨d1,p,b1⟩:=Y1;obtain⟨d2,j2,b2⟩:=Y2;dsimp only;intro d f a c;have g:=hid a;have j:=hid c;clear a c
 go_in
 go_wp2_with fail;refine g.out.mono ?_;rintro en w1 ⟨rfl,k,m⟩;go_wp2_with fail;refine(j.out w1 m).mono ?_;rintro en w2 ⟨rfl,l,n⟩;go_wp2_with fail;go_ret;refine⟨?_,k.trans l,n⟩;simp[go_sem]
end
end Go.Proofs.YtpfkkmacakjmbaaGreatDoor
