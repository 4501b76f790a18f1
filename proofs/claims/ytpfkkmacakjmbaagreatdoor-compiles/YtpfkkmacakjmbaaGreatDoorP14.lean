import Derived.Test.YtpfkkmacakjmbaaGreatDoorP13
set_option maxRecDepth 100000
set_option maxHeartbeats 6400000
set_option linter.all false
namespace Go.Proofs.YtpfkkmacakjmbaaGreatDoor
open Proofs.Tryz
section
open Go Go.RowKit Sp
attribute [local go_sem ↓] eY eZ
def qE (cs:List cd) (bs:List cZ) (is:List XIt):Option Nat:=(is.find? (i8 cs bs is.length)).map (·.place)
def tS:Option Nat->Int
 |some p=>p
 |none=> -1
theorem pQ (b:Nat) (cs:List cd) (bs:List cZ) (w:World) (hn:cs.length<=100) (hnb:bs.length<=100) (hlen: ∀x∈bs,x.items.length<=1000) (hC:TxC w b cs) (hT:TxB w b bs):
  Calls prog 104 #[.pointer (some ⟨b,0,none⟩)] w λe w'=>e= .returned (.int .i64 (tS (bs.findSome? λx=>qE cs bs x.items)))/\B_ w w':=by
 obtain⟨R,q⟩: ∃R,(bs.findSome? λx=>qE cs bs x.items)=R:=⟨_,rfl⟩;rw[q];have HT:=hid hT;obtain⟨v2,i,hl,l,hO,hm,hf⟩:=hT;obtain⟨ao,cap,rfl⟩:=ay hO;have E:l.length=bs.length:=by rw[<-hm];simp
 have y:=hid q;have HM:=hid hm;have Z:=hid E;have b9:l.length<=100:=by omega
 clear q hm E
 go_in
 go_wp2_with fail
 go_loopg [3] l.length (λmm is wr=> ∃(k:Nat),is= .int .i64 k/\k<=l.length/\k+mm<=l.length/\l.length<=k+mm/\B_ w wr/\Hid (((bs.drop k).findSome? λx=>qE cs bs x.items)=R))
 case atStart=>exact⟨0,rfl,by omega,by omega,by omega,bf _ _,y.out⟩
 case round=>
  obtain⟨k,rfl,b6,a5,b7,J,G⟩:=hrel;clear a5 y;have a0:=J.kc i hl
  by_cases hlt:k<l.length
  .have a6:(k:Int)<(l.length:Int):=by omega
   have hx:=aG hlt;have r:bs[k]?=some l[k].1:=by rw[<-HM.out,cV,hx];rfl
   have C:bs.drop k=l[k].1::bs.drop (k+1):=by
    obtain⟨h1,h2⟩:=bc r;rw[List.drop_eq_getElem_cons h1,h2]
   have d:Hid ((qE cs bs l[k].1.items=none->((bs.drop (k+1)).findSome? λx=>qE cs bs x.items)=R)/\ ∀p,qE cs bs l[k].1.items=some p->R=some p):=by
    have h:=G.out;rw[C,List.findSome?_cons]at h;refine hid ⟨λi=> ?_,λp i=> ?_⟩
    .rw[i]at h;exact h
    .rw[i]at h;exact h.symm
   have t:=hlen l[k].1 (bn r);have A:=(hf l[k] (bD hlt)).2;obtain⟨g,hg,b2,b3,f⟩:=aE (ag hO J (λ_ _ h=>h)) (by omega);have Q:wr.cell? ⟨g,k*5+4,none⟩=some l[k].2.2:=f _ _ (dr (k:=4) hx (by omega));clear r C f G hx;revert Q d A t;generalize l[k]=X;intro d t A Q;obtain⟨X,vl,vi⟩:=X;simp only at A Q;obtain⟨ai,capi,b0⟩:=ay A;subst b0 hg;dsimp only at d t;go_wp2_with fail
   go_loopg [5] X.items.length (λmm is wr=> ∃(j:Nat),is= .int .i64 j/\j<=X.items.length/\j+mm<=X.items.length/\X.items.length<=j+mm/\B_ w wr/\Hid (((X.items.drop j).find? (i8 cs bs X.items.length)).map (·.place)=qE cs bs X.items))
   case atStart=>exact⟨0,rfl,by omega,by omega,by omega,J,rfl⟩
   case round=>
    rename_i wr0 _
    obtain⟨j,rfl,b4,a3,b5,m,H⟩:=hrel;clear a3 Q a0
    by_cases hjt:j<X.items.length
    .have a4:(j:Int)<(X.items.length:Int):=by omega
     have v:=aG hjt;obtain⟨gi,a1,D,a2,a⟩:=aE (ag A m (λ_ _ h=>h)) (by omega);have F:=a _ _ (bq (k:=0) v (by omega));have L:=a _ _ (bq (k:=1) v (by omega));have M:=a _ _ (bq (k:=2) v (by omega));have O:=a _ _ (bq (k:=3) v (by omega));have P:=a _ _ (bq (k:=4) v (by omega))
     have c:Hid ((i8 cs bs X.items.length X.items[j]=true->qE cs bs X.items=some X.items[j].place)/\(i8 cs bs X.items.length X.items[j]=false->((X.items.drop (j+1)).find? (i8 cs bs X.items.length)).map (·.place)=qE cs bs X.items)):=by
      have h:=H.out;rw[List.drop_eq_getElem_cons hjt,List.find?_cons]at h;refine hid ⟨λi=> ?_,λi=> ?_⟩
      .rw[i]at h;exact h.symm
      .rw[i]at h;exact h
     subst a1;clear a H v;revert F L M O P c;generalize X.items[j]=Y;intro F L M O P c;simp only[Nat.add_zero]at F;have b1:_=some (Value.int .i64 Y.place):=F;have c8:_=some (Value.int .u8 Y.op.toNat):=L;have c9:_=some (Value.int .u8 Y.cls.toNat):=M;have e0:_=some (Value.int .i64 Y.num):=O;have e2:_=some (Value.slice Y.pa Y.pn Y.pc):=P;clear F L M O P;have s:=λ(wx:World) (h:B_ w wx)=>rV b cs bs Y X.items.length wx hn hnb (hC.but h) (HT.out.but h)
     unfold itV at s;have S:=hid s;clear s;go_wp2_with fail;refine(S.out _ m).mono ?_;rintro en w1 ⟨rfl,z⟩;have n:=m.trans z;have e1:=z.kc b1 D;revert c
     cases i8 cs bs X.items.length Y with
     |true=>
      intro c;have B:=d.out.2 _ (c.out.1 rfl);subst B;clear d c;go_wp2_with fail;go_ret;exact⟨rfl,n⟩
     |false=>
      intro c;have T:=hid (c.out.2 rfl);clear c;go_wp2_with fail
      go_roundg (X.items.length-(j+1))
      case measure=>omega
      case rel=>exact⟨j+1,by simp,by omega,by omega,by omega,n,T.out⟩
    .have a4: ¬(j:Int)<(X.items.length:Int):=by omega
     have B:=H.out;rw[List.drop_of_length_le (by omega)]at B;have HR:=hid (d.out.1 B.symm);clear B d H;go_wp2_with fail
     go_roundg (l.length-(k+1))
     case measure=>omega
     case rel=>exact⟨k+1,by simp,by omega,by omega,by omega,m,HR.out⟩
  .have a6: ¬(k:Int)<(l.length:Int):=by omega
   have I:=G.out;have b8:=Z.out;rw[List.drop_of_length_le (by omega)]at I;have I:none=R:=I;subst I;clear G;go_wp2_with fail;go_ret;exact⟨rfl,J⟩
theorem kj (b:Nat) (s:ByteArray) (i:Nat) (bad:Bool) (v0 v1:Value) (v2:RdV) (w:World) (j:Nat) (hR:XrB w b s i bad v0 v1 v2):
  Calls prog 201 #[.pointer (some ⟨b,0,none⟩),.int .i64 j] w λe w'=>e= .returned (.tuple #[])/\But (· =b) w w'/\XrB w' b s (if bad=true then i else j) true v0 v1 v2:=by
 cases bad with
 |true=>exact kb b s i v0 v1 v2 w j hR
 |false=>exact gI b s i v0 v1 v2 w j hR
def tT (w:World) (g:Nat) (x0 x1 x2 x3 x4:Value):World:=((((w.setCell ⟨g,0,none⟩ x0).setCell ⟨g,1,none⟩ x1).setCell ⟨g,2,none⟩ x2).setCell ⟨g,3,none⟩ x3).setCell ⟨g,4,none⟩ x4
theorem iI {w:World} {g t:Nat} {a0 a1 a2 a3 a4:Value} (h:w.heap[g]?=some (.cells #[a0,a1,a2,a3,a4] t)) (x0 x1 x2 x3 x4:Value):(tT w g x0 x1 x2 x3 x4).heap[g]?=some (.cells #[x0,x1,x2,x3,x4] t):=by
 have a:=cQ w g 0 _ _ x0 h;have b:=cQ _ g 1 _ _ x1 a;have c:=cQ _ g 2 _ _ x2 b;have d:=cQ _ g 3 _ _ x3 c;exact cQ _ g 4 _ _ x4 d
theorem jP (w:World) (g:Nat) (x0 x1 x2 x3 x4:Value):But (· =g) w (tT w g x0 x1 x2 x3 x4):=
 ((((aj w g 0 x0).trans (aj _ g 1 x1)).trans (aj _ g 2 x2)).trans (aj _ g 3 x3)).trans (aj _ g 4 x4)
theorem dp {w:World} {g t:Nat} {x0 x1 x2 x3 x4:Value} (h:w.heap[g]?=some (.cells #[x0,x1,x2,x3,x4] t)):
  w.cell? ⟨g,0,none⟩=some x0/\w.cell? ⟨g,1,none⟩=some x1/\w.cell? ⟨g,2,none⟩=some x2/\w.cell? ⟨g,3,none⟩=some x3/\w.cell? ⟨g,4,none⟩=some x4:=by
 refine⟨?_,?_,?_,?_,?_⟩
 .rw[cz w g 0 _ _ (0,0) h];rfl
 .rw[cz w g 1 _ _ (0,0) h];rfl
 .rw[cz w g 2 _ _ (0,0) h];rfl
 .rw[cz w g 3 _ _ (0,0) h];rfl
 .rw[cz w g 4 _ _ (0,0) h];rfl
def hdV (c:UInt8) (m:Nat) (r:UInt8) (vl vi:Value):Value:= .agg #[.int .u8 c.toNat,.int .i64 m,.int .u8 r.toNat,vl,vi]
theorem mO (b:Nat) (s:ByteArray) (i:Nat) (bad:Bool) (a0:Option Addr) (n cap0:Nat) (v1:Value) (v2:RdV) (w:World) (hn:n<=4) (hs:s.size<=2000) (hR:XrB w b s i bad (.slice a0 n cap0) v1 v2):
  Calls prog 168 #[.pointer (some ⟨b,0,none⟩)] w λen w'=>But (· =b) w w'/\ ∃ao cap l j bad',en= .returned (hdV 45 0 105 (.slice ao (List.length l) cap) S_)/\XrB w' b s j bad' (.slice a0 n cap0) v1 v2/\BtB w' w.heap.size (.slice ao l.length cap) l/\l.length<=3/\
   ((bad'=false/\jw s n 58 3 i bad= .ok (l,j))\/(bad'=true/\jw s n 58 3 i bad= .error j)):=by
 have F:=hR.lt
 go_in
 have E:=hR.c0;go_wp2_with fail;have q:But (· =b) w (w.alloc (Obj.cells #[Value.int IntKind.u8 0,Value.int IntKind.i64 0,Value.int IntKind.u8 0,Value.slice none 0 0,Value.slice none 0 0] 115)):=aa _ _ _;have r:XrB (w.alloc (Obj.cells #[Value.int IntKind.u8 0,Value.int IntKind.i64 0,Value.int IntKind.u8 0,Value.slice none 0 0,Value.slice none 0 0] 115)) b s i bad (.slice a0 n cap0) v1 v2:=hR.but (aa (λ_=>False) _ _) (λh=>h);have m:=aO w (Obj.cells #[Value.int IntKind.u8 0,Value.int IntKind.i64 0,Value.int IntKind.u8 0,Value.slice none 0 0,Value.slice none 0 0] 115);clear E;revert q r m;generalize (w.alloc (Obj.cells #[Value.int IntKind.u8 0,Value.int IntKind.i64 0,Value.int IntKind.u8 0,Value.slice none 0 0,Value.slice none 0 0] 115))=W0
 intro q r m;refine(kU b s i bad _ v1 v2 W0 3 n 58 (by decide) (by omega) hn hs r).mono ?_;rintro en e ⟨x,f,a,l,j2,t,rfl,C,y,D,z⟩;have B:=hid z;have H:=q.size;have G:=ae m;have c:=(x.block w.heap.size (by omega) (by omega)).trans m;obtain⟨X,Y,Z,q3,q4⟩:=dp c;have O:e.frozen? ⟨w.heap.size,0,none⟩=false:=bG e w.heap.size 0 _ _ c;have P:e.frozen? ⟨w.heap.size,1,none⟩=false:=bG e w.heap.size 1 _ _ c;have Q:e.frozen? ⟨w.heap.size,2,none⟩=false:=bG e w.heap.size 2 _ _ c;have S:e.frozen? ⟨w.heap.size,3,none⟩=false:=bG e w.heap.size 3 _ _ c;have T:e.frozen? ⟨w.heap.size,4,none⟩=false:=bG e w.heap.size 4 _ _ c
 have A:=hid c;clear z c m;go_wp2_with fail;have p:=iI A.out (.int .u8 45) (.int .i64 0) (.int .u8 105) (.slice f l.length a) S_;have d:=jP e w.heap.size (.int .u8 45) (.int .i64 0) (.int .u8 105) (.slice f l.length a) S_;unfold tT at p d;revert p d;generalize ((((e.setCell ⟨w.heap.size,0,none⟩ (.int .u8 45)).setCell ⟨w.heap.size,1,none⟩ (.int .i64 0)).setCell ⟨w.heap.size,2,none⟩ (.int .u8 105)).setCell ⟨w.heap.size,3,none⟩ (.slice f l.length a)).setCell ⟨w.heap.size,4,none⟩ S_=w6;intro p d;obtain⟨r0,I,J,L,M⟩:=dp p
 exact cA (v:=hdV 45 0 105 (.slice f l.length a) S_) (by simp[hdV,results,results168,go_sem,r0,I,J,L,M]) rfl
  ⟨((q.trans x).next d (λk hk h=>by omega)),f,a,l,j2,t,rfl,C.but d (by omega),BtB.but (ie y (by omega)) d (λg hg h=>by have:=aw y g hg;omega),D,B.out⟩
def cB (x:Ins):XIt:=⟨x.pos,x.op,if x.op.toNat=110\/x.op.toNat=120\/x.op.toNat=103\/x.op.toNat=112\/x.op.toNat=99 then UInt8.ofNat (65+x.a)else 45,x.b,none,0,0⟩
def fG (gs:List Sig) (b:Bod):cZ:=⟨if b.cls<0 then 45 else UInt8.ofNat (65+b.cls.toNat),b.meth.toNat,if b.cls<0 then 105 else(dO gs b.meth.toNat).ret,b.zy,b.code.map cB⟩
def lP (b:Bod):Prop:=0<=b.cls/\b.cls<4/\0<=b.meth
theorem BJ {bs:List cZ} {c:UInt8} {m:Nat}: ∀(f k:Nat),k+f=bs.length->lO bs c m f k=match(bs.drop k).findIdx? (λx=>decide (x.cls=c/\x.meth=m))with
  |some j=>((k+j:Nat):Int)
  |none=> -1:=by
 intro f
 induction f with
 |zero=>intro k b;rw[List.drop_of_length_le (by omega)];rfl
 |succ f ih=>
  intro k b;have a:k<bs.length:=by omega
  rw[List.drop_eq_getElem_cons a,List.findIdx?_cons];simp only[lO,aG a]
  by_cases h:bs[k].cls=c/\bs[k].meth=m
  .simp[h]
  .rw[if_neg h,ih (k+1) (by omega)];simp only[h,decide_false,dS,if_false]
   cases List.findIdx? (λx=>decide (x.cls=c/\x.meth=m)) (bs.drop (k+1))with
   |none=>rfl
   |some j=>simp only[Option.map_some];congr 1;omega
theorem findIdx?_map' {α β:Type} (f:α->β) (p:β->Bool): ∀l:List α,(l.map f).findIdx? p=l.findIdx? (λx=>p (f x)):=by
 intro l
 induction l with
 |nil=>rfl
 |cons x l ih=>simp only[List.map_cons,List.findIdx?_cons,ih]
theorem findIdx?_congr' {α:Type} {p q:α->Bool}: ∀{l:List α},(∀x∈l,p x=q x)->l.findIdx? p=l.findIdx? q:=by
 intro l
 induction l with
 |nil=>intro _;rfl
 |cons x l ih=>
  intro h;rw[List.findIdx?_cons,List.findIdx?_cons,h x (by simp),ih (λy hy=>h y (by simp[hy]))]
theorem sJ {gs:List Sig} {BS:List Bod} (hB: ∀b∈BS,(b.cls= -1)\/lP b) {x m:Nat} (hx:x<4):lO (BS.map (fG gs)) (UInt8.ofNat (65+x)) m (BS.map (fG gs)).length 0=gx BS x m:=by
 rw[BJ _ 0 (by simp),List.drop_zero]
 have e:(BS.map (fG gs)).findIdx? (λy=>decide (y.cls=UInt8.ofNat (65+x)/\y.meth=m))=ia BS x m:=by
  unfold ia;rw[findIdx?_map'];refine findIdx?_congr' (λb hb=> ?_);have hv:(UInt8.ofNat (65+x)).toNat=65+x:=by simp;omega
  obtain h| ⟨h1,h2,h3⟩:=hB b hb
  .have a:(fG gs b).cls=45:=by simp[fG,h]
   have c: ¬(45:UInt8)=UInt8.ofNat (65+x):=λh=>by
    have:=congrArg UInt8.toNat h;rw[hv]at this;simp at this;omega
   have d:(b.cls==(x:Int))=false:=by rw[eu];omega
   rw[a,d,Bool.false_and,decide_eq_false_iff_not];exact λh=>c h.1
  .have a:(fG gs b).cls=UInt8.ofNat (65+b.cls.toNat):=by simp[fG];omega
   have hw:(UInt8.ofNat (65+b.cls.toNat)).toNat=65+b.cls.toNat:=by simp;omega
   have c:(UInt8.ofNat (65+b.cls.toNat)=UInt8.ofNat (65+x))↔b.cls=x:=by
    rw[<-UInt8.toNat_inj,hv,hw];omega
   have d:(fG gs b).meth=b.meth.toNat:=rfl;rw[Bool.eq_iff_iff];simp only[a,c,d,dg,dk,aX];omega
 rw[e];unfold gx
 cases ia BS x m with
 |none=>rfl
 |some j=>simp
def jQ (s:ByteArray) (nc:Nat) (gs:List Sig) (BS:List Bod) (i:Nat):Except Nat ((Nat×Nat×L_)×Nat):=
 match fj s nc i with
 | .error j=> .error j
 | .ok (x,j)=>
  match eB s gs.length j with
  | .error l=> .error l
  | .ok (m,l)=>
   if(ia BS x m).isSome=true then .error j else
   match tys s nc 58 3 [] l with
   | .error p=> .error p
   | .ok (t,p)=> .ok ((x,m,t),p)
theorem tU {s:ByteArray} {n i:Nat} (h:aK n (pk s i)=true):ltX s n i false=(pk s i,i+1,false):=by unfold ltX;rw[if_pos ⟨rfl,h⟩]
theorem tV {s:ByteArray} {n i:Nat} {bad:Bool} (h:bad=true\/aK n (pk s i)=false):ltX s n i bad=(45,i,true):=by
 unfold ltX;rw[if_neg];rintro⟨a,b⟩;obtain h|h:=h
 .rw[h]at a;cases a
 .rw[h]at b;cases b
theorem tW {s:ByteArray} {n i:Nat} (h:gO n (pk s i)=true):dgX s n i false=((pk s i).toNat-48,i+1,false):=by unfold dgX;rw[if_pos ⟨rfl,h⟩]
theorem mZ {s:ByteArray} {n i:Nat} {bad:Bool} (h:bad=true\/gO n (pk s i)=false):dgX s n i bad=(0,i,true):=by
 unfold dgX;rw[if_neg];rintro⟨a,b⟩;obtain h|h:=h
 .rw[h]at a;cases a
 .rw[h]at b;cases b
def pD (o:Int) (j1 j2:Nat) (b2:Bool):Nat×Bool:=if 0<=o then(if b2=true then j2 else j1,true)else(j2,b2)
theorem BK {s:ByteArray} {nc:Nat} {gs:List Sig} {BS:List Bod} {i:Nat} (hB: ∀b∈BS,(b.cls= -1)\/lP b) (hnc:nc<=4)
  {c:UInt8} {j1 d j2:Nat} {b1 b2:Bool} (h1:ltX s nc i false=(c,j1,b1)) (h2:dgX s gs.length j1 b1=(d,j2,b2)) {t:L_} {j:Nat} {bad':Bool} {J:Nat×Bool} (hJ:pD (lO (BS.map (fG gs)) c d (BS.map (fG gs)).length 0) j1 j2 b2=J)
  (hT:(bad'=false/\jw s nc 58 3 J.1 J.2= .ok (t,j))\/(bad'=true/\jw s nc 58 3 J.1 J.2= .error j)):
  (bad'=false/\ ∃x,jQ s nc gs BS i= .ok ((x,d,t),j)/\c=UInt8.ofNat (65+x)/\x<nc/\d<gs.length)\/(bad'=true/\jQ s nc gs BS i= .error j):=by
 unfold jQ fj
 cases hl:aK nc (pk s i)with
 |false=>
  rw[tV (Or.inr hl)]at h1;simp only[Prod.mk.injEq]at h1;obtain⟨rfl,rfl,rfl⟩:=h1;rw[mZ (Or.inl rfl)]at h2;simp only[Prod.mk.injEq]at h2;obtain⟨rfl,rfl,rfl⟩:=h2
  have a:J=(i,true):=by
   rw[<-hJ];unfold pD
   split<;>rfl
  subst a;simp only[jw,if_true]at hT
  right
  obtain⟨_,h⟩ | ⟨h,h'⟩:=hT
  .cases h
  .cases h'
   exact⟨h,by simp⟩
 |true=>
  rw[tU hl]at h1;simp only[Prod.mk.injEq]at h1;obtain⟨rfl,rfl,rfl⟩:=h1;simp only[if_true];have p:=hl;simp only[aK,dk,dg]at p;unfold eB
  cases hd:gO gs.length (pk s (i+1))with
  |false=>
   rw[mZ (Or.inr hd)]at h2;simp only[Prod.mk.injEq]at h2;obtain⟨rfl,rfl,rfl⟩:=h2
   have a:J=(i+1,true):=by
    rw[<-hJ];unfold pD
    split<;>rfl
   subst a;simp only[jw,if_true]at hT
   right
   obtain⟨_,h⟩ | ⟨h,h'⟩:=hT
   .cases h
   .cases h'
    exact⟨h,by simp⟩
  |true=>
   rw[tW hd]at h2;simp only[Prod.mk.injEq]at h2;obtain⟨l,rfl,rfl⟩:=h2;simp only[if_true];have g:=hd;simp only[gO,dk,dg]at g;rw[l]
   have hc:pk s i=UInt8.ofNat (65+((pk s i).toNat-65)):=by
    apply bJ
    have:=(pk s i).toNat_lt;simp;omega
   have e:=sJ (gs:=gs) (m:=d) hB (x:=(pk s i).toNat-65) (by omega);rw[<-hc]at e;rw[e]at hJ
   by_cases ho:(ia BS (((pk s i).toNat-65:Nat):Int) d).isSome=true
   .rw[if_pos ho]
    have f:0<=gx BS (((pk s i).toNat-65:Nat):Int) d:=by
     unfold gx;obtain⟨k,n⟩:=Option.isSome_iff_exists.1 ho;rw[n];exact Int.natCast_nonneg k
    rw[pD,if_pos f]at hJ;subst hJ;simp only[jw,if_true]at hT
    right
    obtain⟨_,h⟩ | ⟨h,h'⟩:=hT
    .cases h
    .cases h'
     exact⟨h,rfl⟩
   .rw[if_neg ho]
    have f: ¬0<=gx BS (((pk s i).toNat-65:Nat):Int) d:=by
     unfold gx
     cases n:ia BS (((pk s i).toNat-65:Nat):Int) d with
     |none=>simp
     |some k=>rw[n]at ho;simp at ho
    rw[pD,if_neg f]at hJ;subst hJ;simp only[jw,dS,if_false]at hT;obtain⟨h,h'⟩ | ⟨h,h'⟩:=hT
    .left
     rw[h'];exact⟨h,_,rfl,hc,by omega,by omega⟩
    .right
     rw[h'];exact⟨h,rfl⟩
theorem ik {w:World} {ops:Array Oper} {rest:List Oper} {o:Oper} {a:Act} {Q:Exit->Act->World->Prop} (hgd:o.guard=none) (s x:Operand)
  (ho:o.op= .call {callee:= .builtin .append,args:=#[s,x],argTypes:=#[112,112]}) (base bx:Nat) (v xv:Value) (l m LM:L_) (b:Hid (l++m=LM)) (hs:a.eval s=v) (hx:a.eval x=xv) (hown:BtB w base v l) (hxo:BtB w bx xv m) (hlen:LM.length<=100000) (hbase:base<=w.heap.size)
  (h: ∀ao cap w',BtB w' base (.slice ao LM.length cap) LM->But (λk=>v.ownBlock=some k) w w'->((Value.slice ao LM.length cap).ownBlock=v.ownBlock\/(Value.slice ao LM.length cap).ownBlock=some w.heap.size)->wpList prog ops Q rest (a.put o.dst (.slice ao LM.length cap)) w'):wpList prog ops Q (o::rest) a w:=by
 have b:=b.out;subst b;exact kh hgd s x ho base bx v xv l m hs hx hown hxo (by rw[<-aN];exact hlen) hbase h
def ly (x:cZ):UInt8×Nat:=(x.cls,x.meth)
theorem qF {xs ys:List cZ} (h:xs.map ly=ys.map ly) (c:UInt8) (m:Nat): ∀f k:Nat,lO xs c m f k=lO ys c m f k:=by
 intro f
 induction f with
 |zero=>intro k;rfl
 |succ f ih=>
  intro k;have a:(xs.map ly)[k]?=(ys.map ly)[k]?:=by rw[h]
  rw[cV,cV]at a;unfold lO
  cases hx:xs[k]? with
  |none=>
   rw[hx]at a
   cases hy:ys[k]? with
   |none=>rfl
   |some y=>rw[hy]at a;cases a
  |some x=>
   rw[hx]at a
   cases hy:ys[k]? with
   |none=>rw[hy]at a;cases a
   |some y=>
    rw[hy]at a;simp only[Option.map_some,Option.some.injEq,ly,Prod.mk.injEq]at a;simp only[a.1,a.2,ih]
theorem oZ {xs ys:List cZ} (h:xs.map ly=ys.map ly):xs.length=ys.length:=by have:=congrArg List.length h;simpa using this
theorem zM (b base:Nat) (s:ByteArray) (i:Nat) (a0:Option Addr) (nc cap0:Nat) (v1:Value) (v2:RdV) (w:World) (gs:List Sig) (BS:List Bod) (xs:List cZ) (hxs:xs.map ly=(BS.map (fG gs)).map ly) (hnc:nc<=4) (hgs:gs.length<=3) (hBS:BS.length<=6) (hsb: ∀b∈BS,(b.cls= -1)\/lP b) (hs:s.size<=2000)
  (hR:XrB w b s i false (.slice a0 nc cap0) v1 v2) (hM:TmV w base v1 gs) (hBd:TbV w base v2.bods xs) (hb:b<base):
  Calls prog 167 #[.pointer (some ⟨b,0,none⟩)] w λen w'=>But (· =b) w w'/\ ∃c m r ao cap l j bad',en= .returned (hdV c m r (.slice ao (List.length l) cap) S_)/\XrB w' b s j bad' (.slice a0 nc cap0) v1 v2/\BtB w' w.heap.size (.slice ao l.length cap) l/\l.length<=5/\
   ((bad'=false/\ ∃x t,jQ s nc gs BS i= .ok ((x,m,t),j)/\c=UInt8.ofNat (65+x)/\x<nc/\m<gs.length/\r=(dO gs m).ret/\l=c::(dO gs m).arg::t)\/(bad'=true/\jQ s nc gs BS i= .error j)):=by
 obtain⟨a1,cap1,l4⟩:=ay hM;subst l4;have k4:=hR.lt;have HM:=hid (λ(w':World) (h:But (· =b) w w') (hr:w'.cell? ⟨b,1,none⟩=some (.slice a1 gs.length cap1))=>(hM.but h (λg e cur _ _ hg he=>by omega)).tx hr (bK k4 h.size));have HB:=hid (λ(w':World) (h:But (· =b) w w') (hr:w'.cell? ⟨b,2,none⟩=some v2.bods)=>(hBd.but h (λg e cur _ _ hg he=>by omega)).tx hr (bK k4 h.size));have k3:xs.length<=100:=by rw[oZ hxs,eF];omega
 have k6:=hid k3;have j4:=hid (λ(c:UInt8) (j1 d j2:Nat) (b1 b2:Bool) (t:L_) (j:Nat) (bad':Bool) (J:Nat×Bool) (h1:ltX s nc i false=(c,j1,b1)) (h2:dgX s gs.length j1 b1=(d,j2,b2)) (hJ:pD (lO xs c d xs.length 0) j1 j2 b2=J)=>BK (t:=t) (j:=j) (bad':=bad') (J:=J) hsb hnc h1 h2 (by rw[<-hJ,qF hxs,oZ hxs]));clear hM hBd k3 hsb hBS hxs
 go_in
 go_wp2_with fail;have g7:But (· =b) w (w.alloc (Obj.cells #[Value.int IntKind.u8 0,Value.int IntKind.i64 0,Value.int IntKind.u8 0,Value.slice none 0 0,Value.slice none 0 0] 115)):=aa _ _ _;have i1:XrB (w.alloc (Obj.cells #[Value.int IntKind.u8 0,Value.int IntKind.i64 0,Value.int IntKind.u8 0,Value.slice none 0 0,Value.slice none 0 0] 115)) b s i false (.slice a0 nc cap0) (.slice a1 gs.length cap1) v2:=hR.but (aa (λ_=>False) _ _) (λh=>h);have e8:=aO w (Obj.cells #[Value.int IntKind.u8 0,Value.int IntKind.i64 0,Value.int IntKind.u8 0,Value.slice none 0 0,Value.slice none 0 0] 115);revert g7 i1 e8
 generalize (w.alloc (Obj.cells #[Value.int IntKind.u8 0,Value.int IntKind.i64 0,Value.int IntKind.u8 0,Value.slice none 0 0,Value.slice none 0 0] 115))=W0;intro g7 i1 e8;have k5:=ae e8;have j0:=hid e8;clear e8;refine(jM b s i false _ v2 W0 nc cap0 a0 (by omega) hs i1).mono ?_;rintro en w1 ⟨rfl,h0,c8⟩;obtain⟨Y1,g1⟩: ∃Y,ltX s nc i false=Y:=⟨_,rfl⟩;rw[g1]at c8;rw[g1];have j5:=hid g1;clear g1;obtain⟨c,j1,b1⟩:=Y1;dsimp only at c8⊢;have p1:=c8.c3;have p2:=c8.c1;go_wp2_with fail;refine(ij b s j1 b1 _ _ v2 w1 gs.length (by omega) hs c8).mono ?_;rintro en w2 ⟨rfl,h6,e5⟩;obtain⟨Y2,g2⟩: ∃Y,dgX s gs.length j1 b1=Y:=⟨_,rfl⟩
 rw[g2]at e5;rw[g2];have k0:=hid g2;clear g2;obtain⟨d,j2,b2⟩:=Y2;dsimp only at e5⊢;clear p1 p2;have a5:But (· =b) w w2:=(g7.trans h0).trans h6;have e4:But (· =b) W0 w2:=h0.trans h6;have b9:=hid (λt j bad' J=>j4.out c j1 d j2 b1 b2 t j bad' J j5.out k0.out);clear j4 j5 k0 h0 h6 c8;go_wp2_with fail;refine(nR b xs c d w2 k6.out (HB.out w2 a5 e5.c2)).mono ?_;rintro en w3 ⟨rfl,f6⟩;have g0:=e5.but f6 (λh=>h);have a3:But (· =b) w w3:=a5.next f6 (λ_ _ h=>h.elim);have a2:But (· =b) W0 w3:=e4.next f6 (λ_ _ h=>h.elim);revert b9;generalize lO xs c d xs.length 0=o;intro b9;clear HB f6 e5 a5 e4
 by_cases ho:0<=o
 .obtain⟨J,hJ⟩: ∃J:Nat×Bool,(if b2=true then j2 else j1,true)=J:=⟨_,rfl⟩;have c9:=hid (λ(t:L_) (j:Nat) (bad':Bool)=>b9.out t j bad' J (by rw[pD,if_pos ho];exact hJ));have HJ:=hid hJ;clear b9 hJ;go_wp2_with fail;refine(kj b s j2 b2 _ _ v2 w3 j1 g0).mono ?_;rintro en w4 ⟨rfl,k2,e6⟩;have I:XrB w4 b s J.1 J.2 (.slice a0 nc cap0) (.slice a1 gs.length cap1) v2:=by rw[<-HJ.out];exact e6
  have B:=a3.trans k2;have Q:=a2.trans k2;clear a3 a2 g0 e6 HJ;obtain⟨j3,b3⟩:=J;dsimp only at I;go_wp2_with fail;refine(iQ b gs d w4 (by omega) (HM.out w4 B I.c1)).mono ?_;rintro en a ⟨rfl,G⟩;have L:=I.but G (λh=>h);have T:But (· =b) w a:=B.next G (λ_ _ h=>h.elim);have S:But (· =b) W0 a:=Q.next G (λ_ _ h=>h.elim);obtain⟨mt,b6⟩: ∃mt,dO gs d=mt:=⟨_,rfl⟩;rw[b6];have e2:=hid b6;clear b6 I G B Q HM;obtain⟨ma,mr⟩:=mt;dsimp only;have p0:=L.c0;have i4:=L.lt;go_wp2_with fail;have z:B_ a ((a.alloc (Obj.cells #[Value.int IntKind.u8 ma.toNat,Value.int IntKind.u8 mr.toNat] 243)).alloc (Obj.cells #[Value.int IntKind.u8 c.toNat,Value.int IntKind.u8 ma.toNat] 5)):=(aa _ _ _).trans (aa _ _ _)
  have O:((a.alloc (Obj.cells #[Value.int IntKind.u8 ma.toNat,Value.int IntKind.u8 mr.toNat] 243)).alloc (Obj.cells #[Value.int IntKind.u8 c.toNat,Value.int IntKind.u8 ma.toNat] 5)).heap[a.heap.size]?=some (Obj.cells #[Value.int IntKind.u8 ma.toNat,Value.int IntKind.u8 mr.toNat] 243):=by
   rw[(aa (λ_=>False) (a.alloc (Obj.cells #[Value.int IntKind.u8 ma.toNat,Value.int IntKind.u8 mr.toNat] 243)) (Obj.cells #[Value.int IntKind.u8 c.toNat,Value.int IntKind.u8 ma.toNat] 5)).block a.heap.size (ae (aO a _)) (λh=>h)];exact aO a _
  have C:BtB ((a.alloc (Obj.cells #[Value.int IntKind.u8 ma.toNat,Value.int IntKind.u8 mr.toNat] 243)).alloc (Obj.cells #[Value.int IntKind.u8 c.toNat,Value.int IntKind.u8 ma.toNat] 5)) a.heap.size (.slice (some ⟨a.heap.size+1,0,none⟩) 2 2) [c,ma]:=BtB.lit2 a _ [c,ma] (by simp);have M:=L.but z (λh=>h);have b7:((a.alloc (Obj.cells #[Value.int IntKind.u8 ma.toNat,Value.int IntKind.u8 mr.toNat] 243)).alloc (Obj.cells #[Value.int IntKind.u8 c.toNat,Value.int IntKind.u8 ma.toNat] 5)).heap.size=a.heap.size+2:=by simp
  have b8:a.heap.size+2<=((a.alloc (Obj.cells #[Value.int IntKind.u8 ma.toNat,Value.int IntKind.u8 mr.toNat] 243)).alloc (Obj.cells #[Value.int IntKind.u8 c.toNat,Value.int IntKind.u8 ma.toNat] 5)).heap.size:=Nat.le_of_eq b7.symm;clear b7 p0;revert z O C M b8;generalize ((a.alloc (Obj.cells #[Value.int IntKind.u8 ma.toNat,Value.int IntKind.u8 mr.toNat] 243)).alloc (Obj.cells #[Value.int IntKind.u8 c.toNat,Value.int IntKind.u8 ma.toNat] 5))=w6;intro z O C M b7;have e1:=hid O;clear O;refine(kU b s j3 b3 _ _ v2 w6 3 nc 58 (by decide) (by omega) hnc hs M).mono ?_;rintro en w7 ⟨A,k7,g6,l,j7,P,rfl,i2,i0,l0,e7⟩
  have g4:=hid (c9.out l j7 P e7);have X:=C.but A (λg hg h=>by have:=aw C g hg;omega);have a6:But (· =b) w w7:=(T.next z (λ_ _ h=>h.elim)).trans A;have a4:But (· =b) W0 w7:=(S.next z (λ_ _ h=>h.elim)).trans A;have b5:=(A.block a.heap.size (by omega) (by omega)).trans e1.out;have l6:=A.size;have l5:=T.size;have i6:=S.size;have i5:a.heap.size<=w7.heap.size:=by omega
  clear e7 c9 C M L e1;obtain⟨LL,b4⟩: ∃LL,[c,ma]++l=LL:=⟨_,rfl⟩;have h7:LL.length<=5:=by rw[<-b4];simp;omega
  have e0:=hid b4;clear b4;go_wp2_with (at_builtin;refine ik rfl _ _ rfl a.heap.size w6.heap.size _ _ [c,ma] l LL e0 rfl rfl X i0 (by omega) i5 ?_);intro p f y h8 H l3;have q:=aw X;have b0:But (· =b) w y:=a6.next H (λk hk h=>by have:=q k h;omega);have i3:=i2.but H (λh=>by have:=q _ h;omega);have Z:(Value.slice (some ⟨a.heap.size+1,0,none⟩) 2 2).ownBlock=some (a.heap.size+1):=rfl;have f5:=(H.block a.heap.size (ae b5) (λh=>by rw[Z]at h;injection h with h;omega)).trans b5;have n:=(H.block w.heap.size (by omega) (λh=>by have:=q _ h;omega)).trans ((a4.block w.heap.size k5 (by omega)).trans j0.out)
  have k1:=ce1 f5;obtain⟨q0,q1,q2,q3,q4⟩:=dp n;have f0:y.frozen? ⟨w.heap.size,0,none⟩=false:=bG y w.heap.size 0 _ _ n;have f1:y.frozen? ⟨w.heap.size,1,none⟩=false:=bG y w.heap.size 1 _ _ n;have f2:y.frozen? ⟨w.heap.size,2,none⟩=false:=bG y w.heap.size 2 _ _ n;have f3:y.frozen? ⟨w.heap.size,3,none⟩=false:=bG y w.heap.size 3 _ _ n;have f4:y.frozen? ⟨w.heap.size,4,none⟩=false:=bG y w.heap.size 4 _ _ n;have g5:=hid n;have e3:BtB y w.heap.size (.slice p LL.length f) LL:=ie h8 (by omega);have H8:=hid e3;have g3:=hid (aw h8);clear n f5 b5 h8 e3 Z
  have D: ∀w9,But (· =w.heap.size) y w9->But (· =b) w w9/\ ∃c' m r ao cap l j bad',Ending.returned (hdV c d mr (.slice p LL.length f) S_)= .returned (hdV c' m r (.slice ao (List.length l) cap) S_)/\XrB w9 b s j bad' (.slice a0 nc cap0) (.slice a1 gs.length cap1) v2/\BtB w9 w.heap.size (.slice ao l.length cap) l/\l.length<=5/\
    ((bad'=false/\ ∃x t,jQ s nc gs BS i= .ok ((x,m,t),j)/\c'=UInt8.ofNat (65+x)/\x<nc/\m<gs.length/\r=(dO gs m).ret/\l=c'::(dO gs m).arg::t)\/(bad'=true/\jQ s nc gs BS i= .error j)):=by
   intro w9 h9;refine⟨b0.next h9 (λk hk h=>by omega),c,d,mr,p,f,LL,j7,P,rfl,i3.but h9 (by omega),H8.out.but h9 (λg hg h=>by have:=g3.out g hg;omega),h7,?_⟩;obtain⟨h1,x,h2,h3,h4,h5⟩ |h:=g4.out
   .exact Or.inl ⟨h1,x,l,h2,h3,h4,h5,by rw[e2.out],by rw[e2.out,<-e0.out];rfl⟩
   .exact Or.inr h
  have HP:=hid D;clear D;go_wp2_with fail;have E:=iI g5.out (.int .u8 c.toNat) (.int .i64 d) (.int .u8 mr.toNat) (.slice p LL.length f) S_;have F:=HP.out _ (jP y w.heap.size (.int .u8 c.toNat) (.int .i64 d) (.int .u8 mr.toNat) (.slice p LL.length f) S_);unfold tT at E F;revert E F;generalize ((((y.setCell ⟨w.heap.size,0,none⟩ (.int .u8 c.toNat)).setCell ⟨w.heap.size,1,none⟩ (.int .i64 d)).setCell ⟨w.heap.size,2,none⟩ (.int .u8 mr.toNat)).setCell ⟨w.heap.size,3,none⟩ (.slice p LL.length f)).setCell ⟨w.heap.size,4,none⟩ S_=w9;intro E F;obtain⟨r0,r1,r2,r3,r4⟩:=dp E
  exact cA (v:=hdV c d mr (.slice p LL.length f) S_) (by simp[hdV,results,results167,go_sem,r0,r1,r2,r3,r4]) rfl F
 .obtain⟨J,hJ⟩: ∃J:Nat×Bool,(j2,b2)=J:=⟨_,rfl⟩;have c9:=hid (λ(t:L_) (j:Nat) (bad':Bool)=>b9.out t j bad' J (by rw[pD,if_neg ho];exact hJ));have HJ:=hid hJ;clear b9 hJ;have I:XrB w3 b s J.1 J.2 (.slice a0 nc cap0) (.slice a1 gs.length cap1) v2:=by rw[<-HJ.out];exact g0
  have B:=a3;have Q:=a2;clear a3 a2 g0 HJ;obtain⟨j3,b3⟩:=J;dsimp only at I;go_wp2_with fail;refine(iQ b gs d w3 (by omega) (HM.out w3 B I.c1)).mono ?_;rintro en a ⟨rfl,G⟩;have L:=I.but G (λh=>h);have T:But (· =b) w a:=B.next G (λ_ _ h=>h.elim);have S:But (· =b) W0 a:=Q.next G (λ_ _ h=>h.elim);obtain⟨mt,b6⟩: ∃mt,dO gs d=mt:=⟨_,rfl⟩;rw[b6];have e2:=hid b6;clear b6 I G B Q HM;obtain⟨ma,mr⟩:=mt;dsimp only;have p0:=L.c0;have i4:=L.lt;go_wp2_with fail;have z:B_ a ((a.alloc (Obj.cells #[Value.int IntKind.u8 ma.toNat,Value.int IntKind.u8 mr.toNat] 243)).alloc (Obj.cells #[Value.int IntKind.u8 c.toNat,Value.int IntKind.u8 ma.toNat] 5)):=(aa _ _ _).trans (aa _ _ _)
  have O:((a.alloc (Obj.cells #[Value.int IntKind.u8 ma.toNat,Value.int IntKind.u8 mr.toNat] 243)).alloc (Obj.cells #[Value.int IntKind.u8 c.toNat,Value.int IntKind.u8 ma.toNat] 5)).heap[a.heap.size]?=some (Obj.cells #[Value.int IntKind.u8 ma.toNat,Value.int IntKind.u8 mr.toNat] 243):=by
   rw[(aa (λ_=>False) (a.alloc (Obj.cells #[Value.int IntKind.u8 ma.toNat,Value.int IntKind.u8 mr.toNat] 243)) (Obj.cells #[Value.int IntKind.u8 c.toNat,Value.int IntKind.u8 ma.toNat] 5)).block a.heap.size (ae (aO a _)) (λh=>h)];exact aO a _
  have C:BtB ((a.alloc (Obj.cells #[Value.int IntKind.u8 ma.toNat,Value.int IntKind.u8 mr.toNat] 243)).alloc (Obj.cells #[Value.int IntKind.u8 c.toNat,Value.int IntKind.u8 ma.toNat] 5)) a.heap.size (.slice (some ⟨a.heap.size+1,0,none⟩) 2 2) [c,ma]:=BtB.lit2 a _ [c,ma] (by simp);have M:=L.but z (λh=>h);have b7:((a.alloc (Obj.cells #[Value.int IntKind.u8 ma.toNat,Value.int IntKind.u8 mr.toNat] 243)).alloc (Obj.cells #[Value.int IntKind.u8 c.toNat,Value.int IntKind.u8 ma.toNat] 5)).heap.size=a.heap.size+2:=by simp
  have b8:a.heap.size+2<=((a.alloc (Obj.cells #[Value.int IntKind.u8 ma.toNat,Value.int IntKind.u8 mr.toNat] 243)).alloc (Obj.cells #[Value.int IntKind.u8 c.toNat,Value.int IntKind.u8 ma.toNat] 5)).heap.size:=Nat.le_of_eq b7.symm;clear b7 p0;revert z O C M b8;generalize ((a.alloc (Obj.cells #[Value.int IntKind.u8 ma.toNat,Value.int IntKind.u8 mr.toNat] 243)).alloc (Obj.cells #[Value.int IntKind.u8 c.toNat,Value.int IntKind.u8 ma.toNat] 5))=w6;intro z O C M b7;have e1:=hid O;clear O;refine(kU b s j3 b3 _ _ v2 w6 3 nc 58 (by decide) (by omega) hnc hs M).mono ?_;rintro en w7 ⟨A,k7,g6,l,j7,P,rfl,i2,i0,l0,e7⟩
  have g4:=hid (c9.out l j7 P e7);have X:=C.but A (λg hg h=>by have:=aw C g hg;omega);have a6:But (· =b) w w7:=(T.next z (λ_ _ h=>h.elim)).trans A;have a4:But (· =b) W0 w7:=(S.next z (λ_ _ h=>h.elim)).trans A;have b5:=(A.block a.heap.size (by omega) (by omega)).trans e1.out;have l6:=A.size;have l5:=T.size;have i6:=S.size;have i5:a.heap.size<=w7.heap.size:=by omega
  clear e7 c9 C M L e1;obtain⟨LL,b4⟩: ∃LL,[c,ma]++l=LL:=⟨_,rfl⟩;have h7:LL.length<=5:=by rw[<-b4];simp;omega
  have e0:=hid b4;clear b4;go_wp2_with (at_builtin;refine ik rfl _ _ rfl a.heap.size w6.heap.size _ _ [c,ma] l LL e0 rfl rfl X i0 (by omega) i5 ?_);intro p f y h8 H l3;have q:=aw X;have b0:But (· =b) w y:=a6.next H (λk hk h=>by have:=q k h;omega);have i3:=i2.but H (λh=>by have:=q _ h;omega);have Z:(Value.slice (some ⟨a.heap.size+1,0,none⟩) 2 2).ownBlock=some (a.heap.size+1):=rfl;have f5:=(H.block a.heap.size (ae b5) (λh=>by rw[Z]at h;injection h with h;omega)).trans b5;have n:=(H.block w.heap.size (by omega) (λh=>by have:=q _ h;omega)).trans ((a4.block w.heap.size k5 (by omega)).trans j0.out)
  have k1:=ce1 f5;obtain⟨q0,q1,q2,q3,q4⟩:=dp n;have f0:y.frozen? ⟨w.heap.size,0,none⟩=false:=bG y w.heap.size 0 _ _ n;have f1:y.frozen? ⟨w.heap.size,1,none⟩=false:=bG y w.heap.size 1 _ _ n;have f2:y.frozen? ⟨w.heap.size,2,none⟩=false:=bG y w.heap.size 2 _ _ n;have f3:y.frozen? ⟨w.heap.size,3,none⟩=false:=bG y w.heap.size 3 _ _ n;have f4:y.frozen? ⟨w.heap.size,4,none⟩=false:=bG y w.heap.size 4 _ _ n;have g5:=hid n;have e3:BtB y w.heap.size (.slice p LL.length f) LL:=ie h8 (by omega);have H8:=hid e3;have g3:=hid (aw h8);clear n f5 b5 h8 e3 Z
  have D: ∀w9,But (· =w.heap.size) y w9->But (· =b) w w9/\ ∃c' m r ao cap l j bad',Ending.returned (hdV c d mr (.slice p LL.length f) S_)= .returned (hdV c' m r (.slice ao (List.length l) cap) S_)/\XrB w9 b s j bad' (.slice a0 nc cap0) (.slice a1 gs.length cap1) v2/\BtB w9 w.heap.size (.slice ao l.length cap) l/\l.length<=5/\
    ((bad'=false/\ ∃x t,jQ s nc gs BS i= .ok ((x,m,t),j)/\c'=UInt8.ofNat (65+x)/\x<nc/\m<gs.length/\r=(dO gs m).ret/\l=c'::(dO gs m).arg::t)\/(bad'=true/\jQ s nc gs BS i= .error j)):=by
   intro w9 h9;refine⟨b0.next h9 (λk hk h=>by omega),c,d,mr,p,f,LL,j7,P,rfl,i3.but h9 (by omega),H8.out.but h9 (λg hg h=>by have:=g3.out g hg;omega),h7,?_⟩;obtain⟨h1,x,h2,h3,h4,h5⟩ |h:=g4.out
   .exact Or.inl ⟨h1,x,l,h2,h3,h4,h5,by rw[e2.out],by rw[e2.out,<-e0.out];rfl⟩
   .exact Or.inr h
  have HP:=hid D;clear D;go_wp2_with fail;have E:=iI g5.out (.int .u8 c.toNat) (.int .i64 d) (.int .u8 mr.toNat) (.slice p LL.length f) S_;have F:=HP.out _ (jP y w.heap.size (.int .u8 c.toNat) (.int .i64 d) (.int .u8 mr.toNat) (.slice p LL.length f) S_);unfold tT at E F;revert E F;generalize ((((y.setCell ⟨w.heap.size,0,none⟩ (.int .u8 c.toNat)).setCell ⟨w.heap.size,1,none⟩ (.int .i64 d)).setCell ⟨w.heap.size,2,none⟩ (.int .u8 mr.toNat)).setCell ⟨w.heap.size,3,none⟩ (.slice p LL.length f)).setCell ⟨w.heap.size,4,none⟩ S_=w9;intro E F;obtain⟨r0,r1,r2,r3,r4⟩:=dp E
  exact cA (v:=hdV c d mr (.slice p LL.length f) S_) (by simp[hdV,results,results167,go_sem,r0,r1,r2,r3,r4]) rfl F
def tX (w:World) (g:Nat) (x0 x1 x2 x3:Value):World:=(((w.setCell ⟨g,0,none⟩ x0).setCell ⟨g,1,none⟩ x1).setCell ⟨g,2,none⟩ x2).setCell ⟨g,3,none⟩ x3
theorem iJ {w:World} {g t:Nat} {a0 a1 a2 a3:Value} (h:w.heap[g]?=some (.cells #[a0,a1,a2,a3] t)) (x0 x1 x2 x3:Value):(tX w g x0 x1 x2 x3).heap[g]?=some (.cells #[x0,x1,x2,x3] t):=by
 have a:=cQ w g 0 _ _ x0 h;have b:=cQ _ g 1 _ _ x1 a;have c:=cQ _ g 2 _ _ x2 b;exact cQ _ g 3 _ _ x3 c
theorem jR (w:World) (g:Nat) (x0 x1 x2 x3:Value):But (· =g) w (tX w g x0 x1 x2 x3):=
 (((aj w g 0 x0).trans (aj _ g 1 x1)).trans (aj _ g 2 x2)).trans (aj _ g 3 x3)
theorem lz {w:World} {g t:Nat} {x0 x1 x2 x3:Value} (h:w.heap[g]?=some (.cells #[x0,x1,x2,x3] t)):
  w.cell? ⟨g,0,none⟩=some x0/\w.cell? ⟨g,1,none⟩=some x1/\w.cell? ⟨g,2,none⟩=some x2/\w.cell? ⟨g,3,none⟩=some x3:=by
 refine⟨?_,?_,?_,?_⟩
 .rw[cz w g 0 _ _ (0,0) h];rfl
 .rw[cz w g 1 _ _ (0,0) h];rfl
 .rw[cz w g 2 _ _ (0,0) h];rfl
 .rw[cz w g 3 _ _ (0,0) h];rfl
theorem sK {w:World} {g t:Nat} {x0 x1 x2 x3:Value} (h:w.heap[g]?=some (.cells #[x0,x1,x2,x3] t)):
  w.frozen? ⟨g,0,none⟩=false/\w.frozen? ⟨g,1,none⟩=false/\w.frozen? ⟨g,2,none⟩=false/\w.frozen? ⟨g,3,none⟩=false:=
 ⟨bG w g 0 _ _ h,bG w g 1 _ _ h,bG w g 2 _ _ h,bG w g 3 _ _ h⟩
end
section
open Go Go.RowKit Sp
def zN (s:ByteArray) (cs:List Cls) (ns nl i:Nat) (bad:Bool):Except Nat (Ins×Nat):=if bad=true then .error i else oI s cs ns nl i
def rW (s:ByteArray) (cs:List Cls) (ns nl i:Nat) (bad:Bool) (x:XIt) (j:Nat) (bad':Bool):Prop:=
 (bad'=false/\ ∃y,zN s cs ns nl i bad= .ok (y,j)/\x=cB y)\/(bad'=true/\zN s cs ns nl i bad= .error j)
section
variable {s:ByteArray} {cs:List Cls} {ns nl i:Nat}
theorem Ej {x:XIt} (h:cE.contains (pk s i).toNat=false):rW s cs ns nl i false x i true:=by
 right
 refine⟨rfl,?_⟩;simp only[zN,dS,if_false,oI,h]
theorem tY {c:UInt8} (hc:pk s i=c) (hl:cE.contains c.toNat=true) {a n j:Nat} (h:ba s cs ns nl c.toNat (i+1)= .ok (a,n,j)):rW s cs ns nl i false (cB ⟨c,a,n,i⟩) j false:=by
 left
 refine⟨rfl,_,?_,rfl⟩;simp only[zN,dS,if_false,oI,hc,hl,if_true,h]
theorem my {c:UInt8} (hc:pk s i=c) (hl:cE.contains c.toNat=true) {x:XIt} {j:Nat} (h:ba s cs ns nl c.toNat (i+1)= .error j):rW s cs ns nl i false x j true:=by
 right
 refine⟨rfl,?_⟩;simp only[zN,dS,if_false,oI,hc,hl,if_true,h]
theorem C9 {c:UInt8} {n:Nat} (hc:pk s i=c) (h:(c.toNat=107/\n=10)\/((c.toNat=108\/c.toNat=115)/\n=nl)) {Y:Nat×Nat×Bool} (hY:dgX s n (i+1) false=Y):rW s cs ns nl i false ⟨i,c,45,Y.1,none,0,0⟩ Y.2.1 Y.2.2:=by
 have hl:cE.contains c.toNat=true:=by rcases h with⟨h,_⟩ | ⟨h|h,_⟩<;>(rw[h];decide)
 have a:ba s cs ns nl c.toNat (i+1)=match eB s n (i+1)with
  | .ok (b,j)=> .ok (0,b,j)
  | .error j=> .error j:=by
  unfold ba;obtain⟨h,rfl⟩ | ⟨h,rfl⟩:=h
  .rw[if_neg (by omega),if_pos h];rfl
  .rw[if_pos h];rfl
 subst hY;unfold eB at a
 cases hd:gO n (pk s (i+1))with
 |true=>
  rw[tW hd];rw[hd]at a;have:=tY hc hl a;rw[cB]at this;simp only at this;rw[if_neg (by rcases h with⟨h,_⟩ | ⟨h|h,_⟩<;>omega)]at this;exact this
 |false=>
  rw[mZ (Or.inr hd)];rw[hd]at a;exact my hc hl a
theorem qG {n:Nat} {c:UInt8} (h:aK n c=true) (hn:n<=4):UInt8.ofNat (65+(c.toNat-65))=c:=by
 simp only[aK,dk,dg]at h
 apply bJ
 have:=c.toNat_lt;simp;omega
theorem Da {c:UInt8} (hnc:cs.length<=4) (hc:pk s i=c) (h:c.toNat=110\/c.toNat=120) {Y:UInt8×Nat×Bool} (hY:ltX s cs.length (i+1) false=Y):rW s cs ns nl i false ⟨i,c,Y.1,0,none,0,0⟩ Y.2.1 Y.2.2:=by
 have hl:cE.contains c.toNat=true:=by rcases h with h|h<;>(rw[h];decide)
 have b:ba s cs ns nl c.toNat (i+1)=match fj s cs.length (i+1)with
  | .ok (a,j)=> .ok (a,0,j)
  | .error j=> .error j:=by
  unfold ba;rw[if_neg (by omega),if_neg (by omega),if_pos h]
  rfl
 subst hY;unfold fj at b
 cases hd:aK cs.length (pk s (i+1))with
 |true=>
  rw[tU hd];rw[hd]at b;have:=tY hc hl b;rw[cB]at this;simp only at this;rw[if_pos (by omega),qG hd hnc]at this;exact this
 |false=>
  rw[tV (Or.inr hd)];rw[hd]at b;exact my hc hl b
theorem nS {a:Nat} {c:UInt8} (hd:aK cs.length c=true):bB cs (c.toNat-65)=(cD (cs.map toX) c).length:=by
 unfold bB cD;rw[eF,if_pos hd,cV]
 cases cs[c.toNat-65]?<;>rfl
theorem Db {c:UInt8} (hnc:cs.length<=4) (hc:pk s i=c) (h:c.toNat=103\/c.toNat=112) {Y:UInt8×Nat×Bool} (hY:ltX s cs.length (i+1) false=Y) {Z:Nat×Nat×Bool} (hZ:dgX s (cD (cs.map toX) Y.1).length Y.2.1 Y.2.2=Z):rW s cs ns nl i false ⟨i,c,Y.1,Z.1,none,0,0⟩ Z.2.1 Z.2.2:=by
 have hl:cE.contains c.toNat=true:=by rcases h with h|h<;>(rw[h];decide)
 have d:ba s cs ns nl c.toNat (i+1)=match fj s cs.length (i+1)with
  | .error j=> .error j
  | .ok (a,j)=>
   match eB s (bB cs a) j with
   | .ok (b,l)=> .ok (a,b,l)
   | .error l=> .error l:=by
  unfold ba;rw[if_neg (by omega),if_neg (by omega),if_neg (by omega),if_pos h]
  rfl
 subst hY;subst hZ;unfold fj at d
 cases hd:aK cs.length (pk s (i+1))with
 |true=>
  rw[tU hd];rw[hd]at d;simp only[if_true]at d⊢;rw[nS (a:=0) hd]at d;unfold eB at d
  cases he:gO (cD (cs.map toX) (pk s (i+1))).length (pk s (i+1+1))with
  |true=>
   rw[tW he];rw[he]at d;have:=tY hc hl d;rw[cB]at this;simp only at this;rw[if_pos (by omega),qG hd hnc]at this;exact this
  |false=>
   rw[mZ (Or.inr he)];rw[he]at d;exact my hc hl d
 |false=>
  rw[tV (Or.inr hd)];simp only;rw[mZ (Or.inl rfl)];rw[hd]at d;exact my hc hl d
theorem BL {c:UInt8} (hnc:cs.length<=4) (hc:pk s i=c) (h:c.toNat=99) {Y:UInt8×Nat×Bool} (hY:ltX s cs.length (i+1) false=Y) {Z:Nat×Nat×Bool} (hZ:dgX s ns Y.2.1 Y.2.2=Z):rW s cs ns nl i false ⟨i,c,Y.1,Z.1,none,0,0⟩ Z.2.1 Z.2.2:=by
 have hl:cE.contains c.toNat=true:=by rw[h];decide
 have d:ba s cs ns nl c.toNat (i+1)=match fj s cs.length (i+1)with
  | .error j=> .error j
  | .ok (a,j)=>
   match eB s ns j with
   | .ok (b,l)=> .ok (a,b,l)
   | .error l=> .error l:=by
  unfold ba;rw[if_neg (by omega),if_neg (by omega),if_neg (by omega),if_neg (by omega),if_pos h]
  rfl
 subst hY;subst hZ;unfold fj at d
 cases hd:aK cs.length (pk s (i+1))with
 |true=>
  rw[tU hd];rw[hd]at d;simp only[if_true]at d⊢;unfold eB at d
  cases he:gO ns (pk s (i+1+1))with
  |true=>
   rw[tW he];rw[he]at d;have:=tY hc hl d;rw[cB]at this;simp only at this;rw[if_pos (by omega),qG hd hnc]at this;exact this
  |false=>
   rw[mZ (Or.inr he)];rw[he]at d;exact my hc hl d
 |false=>
  rw[tV (Or.inr hd)];simp only;rw[mZ (Or.inl rfl)];rw[hd]at d;exact my hc hl d
end
end
end Go.Proofs.YtpfkkmacakjmbaaGreatDoor
