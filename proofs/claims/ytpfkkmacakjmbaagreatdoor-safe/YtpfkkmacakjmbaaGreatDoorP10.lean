import Derived.Test.YtpfkkmacakjmbaaGreatDoorP09
set_option maxRecDepth 100000
set_option maxHeartbeats 6400000
set_option linter.all false
namespace Go.Proofs.YtpfkkmacakjmbaaGreatDoor
open Proofs.Tryz
section
open Go Go.RowKit Sp
attribute [local go_sem ↓] dG dH
def fw (s:ByteArray) (n:Nat) (e:UInt8) (most i:Nat) (bad:Bool):Except Nat (L_×Nat):=if bad=true then .error i else tys s n e most [] i
theorem kj (b:Nat) (s:ByteArray) (i:Nat) (bad:Bool) (v0 v1:Value) (v2:RdV) (w:World) (most n:Nat) (e:UInt8) (he:0<e.toNat) (hm:most<=10) (hn:n<=4) (hs:s.size<=2000) (hR:XrB w b s i bad v0 v1 v2):
  Calls prog 216 #[.pointer (some ⟨b,0,none⟩),.int .i64 most,.int .i64 n,.int .u8 e.toNat] w λen w'=>But (· =b) w w'/\ ∃ao cap l j bad',en= .returned (.slice ao l.length cap)/\XrB w' b s j bad' v0 v1 v2/\BtB w' w.heap.size (.slice ao l.length cap) l/\l.length<=most/\
   ((bad'=false/\fw s n e most i bad= .ok (l,j))\/(bad'=true/\fw s n e most i bad= .error j)):=by
 cases bad with
 |false=>
  refine(vO b s i v0 v1 v2 w most n e he hm hn hs hR).mono ?_;rintro en w' ⟨h1,v,l,j,bad',rfl,h3,h4,h5,h6⟩;obtain⟨ao,cap,rfl⟩:=aw h4;exact⟨h1,ao,cap,l,j,bad',rfl,h3,h4,h5,h6⟩
 |true=>
  refine(vS b s i v0 v1 v2 w most n e he hm hs hR).mono ?_;rintro en w' ⟨h1,rfl,h3,h4⟩;exact⟨h1,_,0,[],i,true,rfl,h3,h4,by simp,Or.inr ⟨rfl,rfl⟩⟩
def jn (s:ByteArray) (cs:List Cls) (i:Nat):Except Nat (Cls×Nat):=
 match jU s cs.length i with
 | .error j=> .error j
 | .ok (p,j)=>
  match tys s (cs.length+1) 46 2 [] j with
  | .error l=> .error l
  | .ok (own,l)=> .ok (⟨p,inh cs p++own⟩,l)
theorem Az {s:ByteArray} {cs:List Cls} {i j:Nat} {p:Int} (h:jU s cs.length i= .ok (p,j)):inh cs p=cQ (cs.map toX) (pk s i)/\(if p<0 then 45 else UInt8.ofNat (65+p.toNat))=pk s i:=by
 obtain⟨_,h1|h1⟩:=rz h
 .obtain⟨rfl,h2⟩:=h1;have h3:aN cs.length (pk s i)=false:=by simp[aN,h2]
  refine⟨by simp[inh,cQ,h3],?_⟩;rw[if_pos (by omega)];exact bS h2.symm
 .obtain⟨_,h2,rfl⟩:=h1;have a0:=h2;simp only[aN,et,ed]at a0;have a1:(pk s i).toNat<256:=(pk s i).toNat_lt;refine⟨?_,?_⟩
  .unfold inh cQ;rw[if_neg (by omega),cP,if_pos h2,cg,Int.toNat_natCast]
   cases cs[(pk s i).toNat-65]?<;>rfl
  .rw[if_neg (by omega)]
   apply bS
   simp;omega
theorem AA {s:ByteArray} {cs:List Cls} {i:Nat} {own:L_} {j:Nat} {bad':Bool} (P:UInt8×Nat×Bool) (hP:paX s cs.length i false=P)
  (hT:(bad'=false/\fw s (cs.length+1) 46 2 P.2.1 P.2.2= .ok (own,j))\/(bad'=true/\fw s (cs.length+1) 46 2 P.2.1 P.2.2= .error j)):
  (bad'=false/\ ∃c,jn s cs i= .ok (c,j)/\toX c=⟨P.1,cQ (cs.map toX) P.1++own⟩)\/(bad'=true/\jn s cs i= .error j):=by
 unfold paX at hP
 by_cases hg:(pk s i).toNat=45\/aN cs.length (pk s i)=true
 .rw[if_pos ⟨rfl,hg⟩]at hP;subst hP
  have hp: ∃p,jU s cs.length i= .ok (p,i+1):=by
   unfold jU eX
   by_cases h45:(pk s i).toNat=45
   .exact⟨-1,by rw[if_pos h45]⟩
   .obtain h|h:=hg
    .exact absurd h h45
    .exact⟨_,by rw[if_neg h45,if_pos h]⟩
  obtain⟨p,hp⟩:=hp;obtain⟨h1,h2⟩:=Az hp;simp only[fw,dj,if_false]at hT;unfold jn;simp only[hp];obtain⟨h3,h4⟩ | ⟨h3,h4⟩:=hT
  .left
   refine⟨h3,?_⟩;simp only[h4];exact⟨_,rfl,by simp only[toX,h1,h2]⟩
  .right
   refine⟨h3,?_⟩;simp only[h4]
 .rw[if_neg (λh=>hg h.2)]at hP;subst hP;simp only[fw,if_true]at hT
  have hp:jU s cs.length i= .error i:=by
   have a0:=not_or.1 hg;unfold jU eX;rw[if_neg a0.1,if_neg a0.2]
  right
  unfold jn;simp only[hp];obtain⟨_,h⟩ | ⟨h,h'⟩:=hT
  .cases h
  .cases h'
   exact⟨h,rfl⟩
theorem mT {cs:List Cls} (hw:WfC cs) (hn:cs.length<=4) (c:UInt8):(cQ (cs.map toX) c).length<=2*cs.length:=by
 unfold cQ
 split
 .rw[cg]
  cases hc:cs[c.toNat-65]? with
  |none=>simp
  |some x=>
   have h1:=(bC hc).1;have h2:=(hw _ _ hc).2.2.1;simp[toX];omega
 .simp
theorem pB (b base:Nat) (s:ByteArray) (i:Nat) (v0 v1:Value) (v2:RdV) (w:World) (SC:List Cls) (hw:WfC SC) (hn:SC.length<=3) (hs:s.size<=2000) (hR:XrB w b s i false v0 v1 v2) (hC:TcV w base v0 (SC.map toX)) (hb:b<base) (hbase:base<=w.heap.size):
  Calls prog 164 #[.pointer (some ⟨b,0,none⟩)] w λen w'=>But (· =b) w w'/\ ∃par ao cap fl j bad',en= .returned (.agg #[.int .u8 (UInt8.toNat par),.slice ao (List.length fl) cap])/\XrB w' b s j bad' v0 v1 v2/\BtB w' w.heap.size (.slice ao fl.length cap) fl/\fl.length<=10/\
   ((bad'=false/\ ∃c,jn s SC i= .ok (c,j)/\toX c=⟨par,fl⟩)\/(bad'=true/\jn s SC i= .error j)):=by
 obtain⟨i0,l0,m3,m4,m5⟩:=info_parts ke;obtain⟨ac,capc,m2⟩:=hC.len;subst m2;simp only[cP]at hR hC⊢;have h0:=hR.c0;have n1:=hR.lt;have b9:SC.length+1<=4:=by omega
 have HK:=hid (λ(w':World) (h:But (· =b) w w')=>hC.but h (λg e cur _ _ hg he=>by omega));have i5:(SC.map toX).length=SC.length:=by simp
 have e9:=hid i5;clear i5 hC;obtain⟨n,e5⟩: ∃n,SC.length=n:=⟨_,rfl⟩;have h4:=hid (λc=>mT hw (by omega) c);have a7:=hid (λ(own:L_) (j:Nat) (bad':Bool)=>AA (s:=s) (cs:=SC) (i:=i) (own:=own) (j:=j) (bad':=bad') (paX s SC.length i false) rfl);rw[e5]at a7 h4 e9;rw[e5]at h0 hR b9 HK;simp only[e5];clear e5 hw hn
 go_in
 go_wp2_with fail;have d6:But (· =b) w (w.alloc (Obj.cells #[Value.int IntKind.u8 0,Value.slice none 0 0] 240)):=ag _ _ _;have g6:XrB (w.alloc (Obj.cells #[Value.int IntKind.u8 0,Value.slice none 0 0] 240)) b s i false (.slice ac n capc) v1 v2:=hR.but (ag (λ_=>False) _ _) (λh=>h);have b3:=aO w (Obj.cells #[Value.int IntKind.u8 0,Value.slice none 0 0] 240);clear h0;revert d6 g6 b3;generalize (w.alloc (Obj.cells #[Value.int IntKind.u8 0,Value.slice none 0 0] 240))=W0;intro d6 g6 b3;refine(tZ b s i false v1 v2 W0 n capc ac (by omega) hs g6).mono ?_;rintro en w1 ⟨rfl,f5,e3⟩;revert a7 e3;generalize paX s n i false=Y
 intro a7 e3;obtain⟨par,i1,f2⟩:=Y;simp only at e3;go_wp2_with fail;refine(kj b s i1 f2 _ v1 v2 w1 2 (n+1) 46 (by decide) (by omega) b9 hs e3).mono ?_;rintro en w2 ⟨f6,j4,f3,own,j2,a1,rfl,i3,g3,n5,i4⟩;have j0:=hid (a7.out own j2 a1 i4);clear a7 i4;go_wp2_with fail;have a8:But (· =b) w w2:=(d6.trans f5).trans f6;have e0:But (· =b) w (w2.alloc (.cells #[] 5)):=a8.trans (ag _ _ _);have hE:=BtB.empty w2;have e4:=i3.but (ag (λ_=>False) w2 (.cells #[] 5)) (λh=>h);have g4:=g3.but (ag (λ_=>False) w2 (.cells #[] 5)) (λ_ _ h=>h);have m1:=a8.size;have l6:=d6.size;have l5:=f5.size;have m0:=f6.size
 have g5:=λg hg=>aW g3 g hg
 have n2:=ae b3;have i6:=((ag (λ_=>False) w2 (.cells #[] 5)).block w.heap.size (by omega) (λh=>h)).trans ((f6.block w.heap.size (by omega) (by omega)).trans ((f5.block w.heap.size (by omega) (by omega)).trans b3));have e6:=hid i6;clear i6 b3;have a5:w2.heap.size<=(w2.alloc (.cells #[] 5)).heap.size:=by simp
 clear i3 g3;revert e0 hE e4 g4 a5 e6;generalize (w2.alloc (.cells #[] 5))=w3;intro e0 hE e4 g4 e6 a5;have HX:=hid (λ(wx:World) (h:But (· =b) w wx) (h':XrB wx b s j2 a1 (.slice ac n capc) v1 v2)=>(HK.out wx h).tx h'.c0 h'.lt);have h1:=rY b (SC.map toX) par w3 (by rw[e9.out];omega) (HX.out w3 e0 e4);have k9:=h4.out par;obtain⟨FX,g2⟩: ∃FX,cQ (SC.map toX) par=FX:=⟨_,rfl⟩;rw[g2]at h1 k9;have h8:=hid g2;have h3:=hid h1;clear g2 h1;refine h3.out.mono ?_;rintro en wx ⟨rfl,c7⟩;rw[c7];clear c7 wx h3;go_wp2_with fail
 go_loopg [6,8] FX.length (λmm vs is wr=> ∃(ao:Option Addr) (cap k:Nat) (t:L_),vs= .slice ao t.length cap/\is= .int .i64 k/\k<=FX.length/\k+mm<=FX.length/\FX.length<=k+mm/\w2.heap.size<=wr.heap.size/\But (· =b) w wr/\XrB wr b s j2 a1 (.slice ac n capc) v1 v2/\BtB wr w2.heap.size (.slice ao t.length cap) t/\BtB wr w1.heap.size (.slice j4 own.length f3) own/\Hid (wr.heap[w.heap.size]?=some (Obj.cells #[Value.int IntKind.u8 0,Value.slice none 0 0] 240))/\t.length<=k/\Hid (FX.take k=t))
 case atStart=>exact⟨_,0,0,[],rfl,rfl,by omega,by omega,by omega,a5,e0,e4,hE,g4,e6,by simp,rfl⟩
 case round=>
  obtain⟨ao,cap,k,t,rfl,rfl,n3,l3,n4,h2,e2,g7,b0,i2,e7,n9,HA⟩:=hrel;clear l3
  by_cases hlt:k<FX.length
  .have e1:(k:Int)<(FX.length:Int):=by omega
   have b2:=rZ b (SC.map toX) par k wr (by rw[e9.out];omega) (HX.out wr e2 g7);rw[h8.out,show cB FX k=FX.getD k 0 from by unfold cB;rw[if_pos hlt]]at b2
   have e8:Hid (FX.take (k+1)=t++ [FX.getD k 0]):=by
    show _=_
    rw[iM hlt,HA.out];simp[List.getD,hlt]
   revert b2 e8;generalize FX.getD k 0=z;intro b2 e8;have h7:=hid b2;clear b2 HA;go_wp2_with fail;refine h7.out.mono ?_;rintro en wx ⟨rfl,c7⟩;rw[c7];clear c7 wx h7;have a6:wr.ownsRow w2.heap.size 5 1 (.slice ao t.length cap) t.length (aP t):=b0;have n8:=e2.size;have n6:=ay a6;go_wp2_with (at_builtin;refine wpList_append_lies _ rfl _ _ _ rfl w2.heap.size 5 i0 _ 1 1 (by kernel_rfl) l0 m3 m4 m5 rfl (by omega) _ t.length (aP t) rfl (a6.alloc _) ⟨wr.heap.size,0,none⟩ 1 1 [.int .u8 z.toNat] rfl rfl (fX (cs:=#[.int .u8 z.toNat]) (t:=5) (fr:=(0,0)) (aO wr _)) (by simp[Value.oneCell']) (by omega) (by unfold maxLen;omega) (by omega) (by simp;omega) (wr.heap.size+1) (by simp) ?_)
   intro gg cap3 w4 b5 b4 n0 l4;have b1:But (λk'=>(Value.slice ao t.length cap).ownBlock=some k') wr w4:=(ag _ _ _).trans (bc b4);have g0:But (· =b) w w4:=e2.next b1 (λk' hk' h=>absurd (ay a6 k' h) (by omega));have k0:=g7.but b1 (λh=>by have:=ay a6 _ h;omega)
   have f8:BtB w4 w2.heap.size (.slice (some ⟨gg,0,none⟩) (t++ [z]).length cap3) (t++ [z]):=by
    unfold BtB;rw[aZ,aP,List.map_append];exact b5
   have j7:=i2.but b1 (λg hg h=>by have:=ay a6 _ h;have:=g5 g hg;omega);go_wp2_with fail
   go_roundg (FX.length-(k+1))
   case measure=>omega
   case rel=>exact⟨_,cap3,k+1,t++ [z],by simp,by simp,by omega,by omega,by omega,Nat.le_trans h2 b1.size,g0,k0,f8,j7,(b1.block w.heap.size (by omega) (λh=>by have:=ay a6 _ h;omega)).trans e7.out,by simp;omega,e8.out⟩
  .have e1: ¬(k:Int)<(FX.length:Int):=by omega
   have b6:FX=t:=by rw[<-HA.out,List.take_of_length_le (by omega)]
   have j3:=hid b6;clear b6 HA;go_wp2_with (at_builtin;refine jm rfl _ _ rfl w2.heap.size w1.heap.size _ _ t own rfl rfl b0 i2 (by omega) (by omega) ?_);intro a3 a0 w5 h5 f7 n7;have g1:But (· =b) w w5:=e2.next f7 (λk' hk' h=>absurd (ay b0 k' h) (by omega));have k3:=g7.but f7 (λh=>by have:=ay b0 _ h;omega);have a4:=(f7.block w.heap.size (by omega) (λh=>by have:=ay b0 _ h;omega)).trans e7.out;have q0:=ce0 a4;have q1:=ce1 a4;have f0:w5.frozen? ⟨w.heap.size,0,none⟩=false:=b7 w5 w.heap.size 0 _ _ a4;have f1:w5.frozen? ⟨w.heap.size,1,none⟩=false:=b7 w5 w.heap.size 1 _ _ a4;have i7:=ae a4;have j1:=hid a4
   clear a4 e7
   have a2: ∀w6,But (· =w.heap.size) w5 w6->But (· =b) w w6/\ ∃par' ao cap fl j bad',Ending.returned (.agg #[.int .u8 par.toNat,.slice a3 ((t++own).length:Nat) a0])= .returned (.agg #[.int .u8 (UInt8.toNat par'),.slice ao (List.length fl) cap])/\XrB w6 b s j bad' (.slice ac n capc) v1 v2/\BtB w6 w.heap.size (.slice ao fl.length cap) fl/\fl.length<=10/\
     ((bad'=false/\ ∃c,jn s SC i= .ok (c,j)/\toX c=⟨par',fl⟩)\/(bad'=true/\jn s SC i= .error j)):=by
    intro w6 h6;have h9:BtB w5 w2.heap.size (.slice a3 (t++own).length a0) (t++own):=by first|exact h5| (rw[aZ];exact h5)
    refine⟨g1.next h6 (λk hk h=>by omega),par,a3,a0,t++own,j2,a1,rfl,k3.but h6 (by omega),BtB.but (dn h9 (by omega)) h6 (λg hg h=>by have:=ay h9 g hg;omega),by simp;omega,?_⟩;rw[<-j3.out,<-h8.out];exact j0.out
   have HP:=hid a2;clear a2;go_wp2_with fail;have j5:=bG w5 w.heap.size 0 _ _ (.int .u8 par.toNat) j1.out;have c9:=bG _ w.heap.size 1 _ _ (.slice a3 (t.length+own.length) a0) j5;have f4:=HP.out _ ((au w5 w.heap.size 0 (.int .u8 par.toNat)).trans (au _ w.heap.size 1 (.slice a3 (t.length+own.length) a0)));revert c9 f4;generalize ((w5.setCell ⟨w.heap.size,0,none⟩ (.int .u8 par.toNat)).setCell ⟨w.heap.size,1,none⟩ (.slice a3 (t.length+own.length) a0))=w6;intro c9 f4;have r0:=ce0 c9;have r1:=ce1 c9;exact cW (v:= .agg #[.int .u8 par.toNat,.slice a3 ((t++own).length:Nat) a0]) (by simp[results,results164,go_sem,r0,r1]) rfl f4
theorem yr {s:ByteArray} {k:Nat} {cs:List Cls} {i:Nat} (h:(pk s i).toNat≠59):ep s (k+1) cs i=match jn s cs i with
  | .error j=> .error j
  | .ok (c,j)=>ep s k (cs++ [c]) j:=by
 unfold jn;rw[ep,if_neg h]
 cases jU s cs.length i with
 |error j=>rfl
 |ok x=>
  obtain⟨p,j⟩:=x;simp only
  cases tys s (cs.length+1) 46 2 [] j with
  |error l=>rfl
  |ok y=>rfl
theorem B5 {s:ByteArray} {cs:List Cls} {i j:Nat} {c:Cls} (hw:WfC cs) (h:jn s cs i= .ok (c,j)):WfC (cs++ [c]):=by
 unfold jn at h
 cases hp:jU s cs.length i with
 |error j=>rw[hp]at h;cases h
 |ok x=>
  obtain⟨p,j⟩:=x;rw[hp]at h;simp only at h
  cases ht:tys s (cs.length+1) 46 2 [] j with
  |error l=>rw[ht]at h;cases h
  |ok y=>
   obtain⟨own,l⟩:=y;rw[ht]at h
   cases h
   exact mB hw hp ht
def yt (s:ByteArray) (R:Except Nat (List Cls×Nat)) (mm:Nat) (cs:List bV) (j:Nat) (bad:Bool):Prop:=
 (bad=false/\ ∃SC,cs=SC.map toX/\WfC SC/\SC.length+mm=4/\ep s mm SC j=R)\/(bad=true/\mm=0/\R= .error j)
theorem mj {s:ByteArray} {c:UInt8} {j:Nat} (h:pk s j=c):tkP s c j false=(j+1,false):=by unfold tkP;rw[if_pos ⟨rfl,h⟩]
theorem fi {s:ByteArray} {c:UInt8} {j:Nat} {bad:Bool} (h:bad=true\/pk s j≠c):tkP s c j bad=(j,true):=by
 unfold tkP;rw[if_neg];rintro⟨h1,h2⟩;obtain h|h:=h
 .rw[h]at h1;cases h1
 .exact h h2
theorem u8n {c:UInt8} {n:Nat} (hn:n<256):c.toNat=n↔c=UInt8.ofNat n:=by
 constructor
 .intro h
  apply bS
  rw[h];simp;omega
 .intro h;rw[h];simp;omega
theorem yt.fin {s:ByteArray} {R:Except Nat (List Cls×Nat)} {mm:Nat} {cs:List bV} {j:Nat} {bad:Bool} (h:yt s R mm cs j bad) (hx:bad=true\/ ¬cs.length<4\/pk s j=59):
  ((tkP s 59 j bad).2=false/\ ∃SC,R= .ok (SC,(tkP s 59 j bad).1)/\cs=SC.map toX/\WfC SC)\/((tkP s 59 j bad).2=true/\R= .error (tkP s 59 j bad).1):=by
 obtain⟨rfl,SC,h1,h2,h3,h4⟩ | ⟨rfl,_,h2⟩:=h
 .by_cases hp:pk s j=59
  .left
   rw[mj hp];refine⟨rfl,SC,?_,h1,h2⟩;rw[<-h4]
   cases mm<;>simp[ep,hp]
  .right
   rw[fi (Or.inr hp)];refine⟨rfl,?_⟩
   have hm:mm=0:=by
    obtain h|h|h:=hx
    .cases h
    .rw[h1,cP]at h;omega
    .exact absurd h hp
   subst hm;rw[<-h4];have:(pk s j).toNat≠59:=λh=>hp ((u8n (by decide)).1 h)
   simp[ep,this]
 .right
  rw[fi (Or.inl rfl)];exact⟨rfl,h2⟩
theorem yt.next {s:ByteArray} {R:Except Nat (List Cls×Nat)} {mm:Nat} {cs:List bV} {j:Nat} (h:yt s R mm cs j false) (hl:cs.length<4) (hp:pk s j≠59):
  ∃SC,cs=SC.map toX/\WfC SC/\SC.length<=3/\ ∀par fl j' bad',((bad'=false/\ ∃c,jn s SC j= .ok (c,j')/\toX c=⟨par,fl⟩)\/(bad'=true/\jn s SC j= .error j'))->
   ∃m',m'<mm/\yt s R m' (cs++ [⟨par,fl⟩]) j' bad':=by
 obtain⟨_,SC,h1,h2,h3,h4⟩ | ⟨h,_⟩:=h
 .have a0:SC.length<=3:=by rw[h1,cP]at hl;omega
  refine⟨SC,h1,h2,a0,?_⟩;intro par fl j' bad' hr;obtain⟨f,rfl⟩: ∃f,mm=f+1:=⟨mm-1,by omega⟩;have a1:(pk s j).toNat≠59:=λh=>hp ((u8n (by decide)).1 h)
  rw[yr a1]at h4;obtain⟨rfl,c,e1,e2⟩ | ⟨rfl,e1⟩:=hr
  .rw[e1]at h4;refine⟨f,by omega,Or.inl ⟨rfl,SC++ [c],?_,B5 h2 e1,by simp;omega,h4⟩⟩;rw[h1,List.map_append,<-e2]
   rfl
  .rw[e1]at h4;exact⟨0,by omega,Or.inr ⟨rfl,rfl,h4.symm⟩⟩
 .cases h
theorem yu:(prog.info? 240).map (λi=>(i.zero,i.size,i.bytes))=some (some (.agg #[.int .u8 0,S_]),2,32):=by kernel_rfl
theorem jM (b base:Nat) (s:ByteArray) (v1:Value) (v2:RdV) (w:World) (hs:s.size<=2000) (hR:XrB w b s 0 false S_ v1 v2) (hb:b<base) (hbase:base<=w.heap.size):
  Calls prog 98 #[.pointer (some ⟨b,0,none⟩)] w λen w'=>en= .returned (.tuple #[])/\But (λk=>k=b\/base<=k) w w'/\ ∃v0 cs j bad',XrB w' b s j bad' v0 v1 v2/\TcV w' base v0 cs/\cs.length<=4/\
   ((bad'=false/\ ∃SC,ep s 4 [] 0= .ok (SC,j)/\cs=SC.map toX/\WfC SC)\/(bad'=true/\ep s 4 [] 0= .error j)):=by
 obtain⟨R,e8⟩: ∃R,ep s 4 [] 0=R:=⟨_,rfl⟩;rw[e8];have h7:=hid e8;clear e8;obtain⟨i0,i7,j7,k3,k9⟩:=info_parts yu;have l6:=hR.lt
 go_in
 go_wp2_with fail
 go_loopg [] 4 (λmm wr=> ∃(ao:Option Addr) (cap j:Nat) (bad':Bool) (cs:List bV),cs.length<=4/\But (λk=>k=b\/base<=k) w wr/\XrB wr b s j bad' (.slice ao cs.length cap) v1 v2/\TcV wr base (.slice ao cs.length cap) cs/\Hid (yt s R mm cs j bad'))
 case atStart=>exact⟨none,0,0,false,[],by simp,But.refl _ _,hR,⟨[],df _ _ _ _,rfl,by simp⟩,Or.inl ⟨rfl,[],rfl,λj c h=>by simp at h,by simp,h7.out⟩⟩
 case round=>
  obtain⟨ao,cap,j,bad',cs,e1,e5,b0,c9,HC⟩:=hrel;have h0:=b0.c0;have j5:=e5.size;have l5:=b0.lt
  have b9: ∀(w1:World),B_ wr w1->(bad'=true\/ ¬cs.length<4\/pk s j=59)-> ∀(w2:World),But (· =b) w1 w2->XrB w2 b s (tkP s 59 j bad').1 (tkP s 59 j bad').2 (.slice ao cs.length cap) v1 v2->
    But (λk=>k=b\/base<=k) w w2/\ ∃v0 cs j bad',XrB w2 b s j bad' v0 v1 v2/\TcV w2 base v0 cs/\cs.length<=4/\((bad'=false/\ ∃SC,R= .ok (SC,j)/\cs=SC.map toX/\WfC SC)\/(bad'=true/\R= .error j)):=by
   intro w1 h1 h2 w2 h3 h4;have b5:But (· =b) wr w2:=(h1.mono (λ_ _ h=>h.elim)).trans h3;exact⟨e5.next b5 (λk _ h=>Or.inl h),_,cs,_,_,h4,c9.but b5 (λg e cur _ _ hg h=>by omega),e1,HC.out.fin h2⟩
  have HF:=hid b9;clear b9
  by_cases hlt:cs.length<4
  .have j2:(cs.length:Int)<4:=by omega
   by_cases hgo:bad'=false/\pk s j≠59
   .obtain⟨rfl,f0⟩:=hgo;have b6:(!false&& !decide (pk s j=59))=true:=by simp[f0]
    have a1:=dt b s j false _ v1 v2 wr 59 b0;rw[b6]at a1;have e3:=hid a1;obtain⟨SC,g4,g6,i6,h5⟩:=HC.out.next hlt f0;have f2:=hid h5;have f3:=hid g4;have f4:=hid g6;clear b6 a1 f0 HC HF h5 g4 g6;go_wp2_with fail;refine e3.out.mono ?_;rintro en w1 ⟨rfl,m,rfl⟩;go_wp2_with fail;have e1:=pB b base s j _ v1 v2 (wr.drewN m) SC f4.out i6 hs (b0.drewN m) (by rw[<-f3.out];exact c9.but (aK (λ_=>False) _ _) (λ_ _ _ _ _ _ h=>h)) hb (by show base<=wr.heap.size;omega);refine e1.mono ?_;rintro en w1 ⟨h9,par,a4,cap1,fl,j1,b4,rfl,g2,d6,b3,g5⟩;clear e1;obtain⟨m',m1,f6⟩:=f2.out par fl j1 b4 g5;have h6:=hid f6
    clear g5 f6 f2 f3 f4;go_wp2_with fail;have a2:But (· =b) wr w1:=(aK _ _ _).trans h9;have c7:But (λk=>k=b\/base<=k) w (w1.alloc (.cells #[.int .u8 par.toNat,.slice a4 fl.length cap1] 240)):=(e5.next a2 (λk _ h=>Or.inl h)).trans (ag _ _ _);have a7:But (· =b) wr (w1.alloc (.cells #[.int .u8 par.toNat,.slice a4 fl.length cap1] 240)):=a2.trans (ag _ _ _);have a8:=g2.but (ag (λ_=>False) w1 (.cells #[.int .u8 par.toNat,.slice a4 fl.length cap1] 240)) (λh=>h);have e6:=d6.but (ag (λ_=>False) w1 (.cells #[.int .u8 par.toNat,.slice a4 fl.length cap1] 240)) (λ_ _ h=>h);have b2:=aO w1 (.cells #[.int .u8 par.toNat,.slice a4 fl.length cap1] 240)
    have j4:=a2.size;have i4:=aW d6;have i3:=ay d6;clear h0 d6 g2;revert c7 a8 e6 b2 a7;generalize (w1.alloc (.cells #[.int .u8 par.toNat,.slice a4 fl.length cap1] 240))=W;intro c7 a7 a8 e6 b2;have i2:=c9.but a7 (λg e cur _ _ hg h=>by omega);obtain⟨l,b3,g7,j0⟩:=i2;have e2:l.length=cs.length:=by rw[<-g7];simp
    rw[<-e2]at a8 b3 hlt;have e0:=a8.c0;have g0:=a8.fz 0;have bltW:=a8.lt;have gltW:=ae b2;have k0:=ce0 b2;have k1:=ce1 b2
    have e9: ∀g,(Value.slice ao l.length cap).ownBlock=some g->g<wr.heap.size:=by
     obtain⟨l',f5,h8,_⟩:=c9;have:l'.length=cs.length:=by rw[<-h8];simp
     rw[e2,<-this];rw[<-this]at f5;exact aW f5
    have ab:(Value.slice ao l.length cap).ownBlock≠some b:=λh=>by have:=ay b3 _ h;omega
    have agk:(Value.slice ao l.length cap).ownBlock≠some w1.heap.size:=λh=>by have:=e9 _ h;omega
    have i5:But (λk=>(Value.slice ao l.length cap).ownBlock=some k) W W.drew:=aD _ _;have l4:base<=W.heap.size:=by have:=c7.size;omega
    have f1:=hid e2;have l0:=hid b2;clear e2 b2;refine aI (But (λk=>(Value.slice ao l.length cap).ownBlock=some k) W) 9 ?_
    iterate 7 (refine aQ (v:=?_) rfl i5 ?_ ?_;rotate_left;(focus (intro wS h;have q0:=((h.cell (p:=⟨b,0,none⟩) bltW ab).trans e0);have q1:=((h.cell (p:=⟨w1.heap.size,0,none⟩) gltW agk).trans k0);have q2:=((h.cell (p:=⟨w1.heap.size,1,none⟩) gltW agk).trans k1);clear h;go_simp;try rfl));dsimp only[Act.put];try simp only[cH])
    refine az rfl ?_;intro KS hKS;go_simp;refine hKS.out _ _ (λ_=>(ag _ _ _).trans (aD _ _)) ?_;clear hKS KS;refine az rfl ?_;intro KS hKS
    refine step_append_lies _ (by rfl) _ _ _ (by rfl) base 240 i0 _ 2 32 (by kernel_rfl) i7 j7 k3 k9 rfl (by omega) _ l.length (ix l) (by first|rfl| (rw[f1.out];rfl)) ((b3.alloc _).drew)
       ⟨W.heap.size,0,none⟩ 1 1 [.int .u8 par.toNat,.slice a4 fl.length cap1] (by rfl) (by rfl) (fX (cs:=#[.int .u8 par.toNat,.slice a4 fl.length cap1]) (t:=240) (fr:=(0,0)) (aO W _)) (by simp[Value.oneCell'])
       (by omega) (by unfold maxLen;omega) (by omega) (by simp;omega) (W.heap.size+1) (by simp) ?_
    intro gg a0 w2 a3 a5 l3 j3;have b1:But (λk=>(Value.slice ao l.length cap).ownBlock=some k) W w2:=((ag _ _ _).trans (aD _ _)).trans (bc a5);refine hKS.out _ _ (λ_=>b1) ?_;clear hKS KS;have y0:=(b1.cell (p:=⟨b,0,none⟩) bltW ab).trans e0;have y1:=(b1.frozen (p:=⟨b,0,none⟩) bltW ab).trans g0;refine az rfl ?_;intro KS hKS;go_simp;refine hKS.out _ _ nofun ?_;clear hKS KS;refine az rfl ?_;intro KS hKS;go_simp;refine hKS.out _ _ nofun ?_;clear hKS KS;refine az rfl ?_;intro KS hKS;go_simp;refine hKS.out _ _ nofun ?_;clear hKS KS;refine az rfl ?_;intro KS hKS;go_simp;refine hKS.out _ _ nofun ?_
    clear hKS KS;refine aR rfl ?_;have m0:=ay a3 gg rfl;have g3:=(a8.but b1 ab).set0 (.slice (some ⟨gg,0,none⟩) (l.length+1) a0)
    have i1:But (λk=>k=b\/base<=k) w (w2.setCell ⟨b,0,none⟩ (.slice (some ⟨gg,0,none⟩) (l.length+1) a0)):=
     (c7.next b1 (λk _ h=>Or.inr (ay b3 k h))).next (au _ _ _ _) (λ_ _ h=>Or.inl h)
    have g1:=aj a3 (au w2 b 0 (.slice (some ⟨gg,0,none⟩) (l.length+1) a0)) (λg hg h=>by have:=ay a3 g hg;omega);have a6:But (λk=>k=b\/(Value.slice ao l.length cap).ownBlock=some k) W (w2.setCell ⟨b,0,none⟩ (.slice (some ⟨gg,0,none⟩) (l.length+1) a0)):=(b1.mono (λ_ _ h=>Or.inr h)).next (au _ _ _ _) (λ_ _ h=>Or.inl h)
    have f8: ∀x∈l++ [(⟨par,fl⟩,.slice a4 fl.length cap1)],BtB (w2.setCell ⟨b,0,none⟩ (.slice (some ⟨gg,0,none⟩) (l.length+1) a0)) base x.2 x.1.fields:=by
     intro x hx;obtain hx|hx:=List.mem_append.1 hx
     .refine bj (j0 x hx) a6 (λg cur hh hg h=> ?_);obtain h|h:=h
      .omega
      .exact fH b3 hh (by decide) h
     .simp at hx;subst hx;refine bj (dn e6 (by show base<=wr.heap.size;omega)) a6 (λg cur hh hg h=> ?_);obtain h|h:=h
      .omega
      .exact fH b3 hh (by decide) h
    have f7:TcV (w2.setCell ⟨b,0,none⟩ (.slice (some ⟨gg,0,none⟩) (l.length+1) a0)) base (.slice (some ⟨gg,0,none⟩) (l.length+1) a0) (cs++ [⟨par,fl⟩]):=
     ⟨l++ [(⟨par,fl⟩,.slice a4 fl.length cap1)],by rw[sd,aZ];exact g1,by rw[List.map_append,g7];rfl,f8⟩
    clear f8 a6 g1;generalize (w2.setCell ⟨b,0,none⟩ (.slice (some ⟨gg,0,none⟩) (l.length+1) a0))=W3 at*;rw[f1.out]at g3 f7 hlt;clear y0 y1 e0 g0 k0 k1 b1 a5;go_wp2_with fail
    go_roundg m'
    case measure=>omega
    case rel=>exact⟨_,a0,j1,b4,cs++ [bV.mk par fl],by simp;omega,i1,by simpa using g3,by simpa using f7,h6.out⟩
   .have b6:(!bad'&& !decide (pk s j=59))=false:=by
     cases bad' with
     |true=>rfl
     |false=>
      by_cases h:pk s j=59
      .simp[h]
      .exact absurd ⟨rfl,h⟩ hgo
    have hx:bad'=true\/ ¬cs.length<4\/pk s j=59:=by
     cases bad' with
     |true=>exact Or.inl rfl
     |false=>
      right;right
      by_cases h:pk s j=59
      .exact h
      .exact absurd ⟨rfl,h⟩ hgo
    have HX:=hid hx;have a1:=dt b s j bad' _ v1 v2 wr 59 b0;rw[b6]at a1;have e3:=hid a1;clear b6 a1 hx hgo HC;go_wp2_with fail;refine e3.out.mono ?_;rintro en w1 ⟨rfl,m,rfl⟩;go_wp2_with fail;refine(eu b s j bad' _ v1 v2 _ 59 (by decide) hs (b0.drewN m)).mono ?_;rintro en w2 ⟨rfl,e4,e7⟩;go_wp2_with fail;go_end0;exact⟨rfl,HF.out _ (aK _ _ _) HX.out w2 e4 e7⟩
  .have j2: ¬(cs.length:Int)<4:=by omega
   go_wp2_with fail;refine(eu b s j bad' _ v1 v2 _ 59 (by decide) hs b0).mono ?_;rintro en w2 ⟨rfl,e4,e7⟩;go_wp2_with fail;go_end0;exact⟨rfl,HF.out _ (But.refl _ _) (Or.inr (Or.inl hlt)) w2 e4 e7⟩
def mU (s:ByteArray) (n i:Nat) (bad:Bool):Except Nat (List Sig×Nat):=if bad=true then .error i else gH s n 3 [] i
def vU (s:ByteArray) (n:Nat) (R:Except Nat (List Sig×Nat)) (mm:Nat) (ms:List Sig) (j:Nat) (bad:Bool):Prop:=
 (bad=false/\ms.length+mm=3/\gH s n mm ms j=R)\/(bad=true/\R= .error j)
theorem vU.fin {s:ByteArray} {n:Nat} {R:Except Nat (List Sig×Nat)} {mm:Nat} {ms:List Sig} {j:Nat} {bad:Bool} (h:vU s n R mm ms j bad) (hx:bad=true\/ ¬ms.length<3\/pk s j=59):
  ((tkP s 59 j bad).2=false/\R= .ok (ms,(tkP s 59 j bad).1))\/((tkP s 59 j bad).2=true/\R= .error (tkP s 59 j bad).1):=by
 obtain⟨rfl,h3,h4⟩ | ⟨rfl,h2⟩:=h
 .by_cases hp:pk s j=59
  .left
   rw[mj hp];refine⟨rfl,?_⟩;rw[<-h4]
   cases mm<;>simp[gH,hp]
  .right
   rw[fi (Or.inr hp)];refine⟨rfl,?_⟩
   have hm:mm=0:=by
    obtain h|h|h:=hx
    .cases h
    .omega
    .exact absurd h hp
   subst hm;rw[<-h4];have:(pk s j).toNat≠59:=λh=>hp ((u8n (by decide)).1 h)
   simp[gH,this]
 .right
  rw[fi (Or.inl rfl)];exact⟨rfl,h2⟩
theorem AB {s:ByteArray} {n i:Nat} (h:cZ n (pk s i)=true):tyX s n i false=(pk s i,i+1,false):=by unfold tyX;rw[if_pos ⟨rfl,h⟩]
theorem vV {s:ByteArray} {n i:Nat} {bad:Bool} (h:bad=true\/cZ n (pk s i)=false): ∃c,tyX s n i bad=(c,i,true):=by
 unfold tyX;rw[if_neg]
 .exact⟨_,rfl⟩
 .rintro⟨h1,h2⟩;obtain h|h:=h
  .rw[h]at h1;cases h1
  .rw[h]at h2;cases h2
theorem vU.next {s:ByteArray} {n:Nat} {R:Except Nat (List Sig×Nat)} {mm:Nat} {ms:List Sig} {j:Nat} (h:vU s n R mm ms j false) (hl:ms.length<3) (hp:pk s j≠59):
  ∃m',m'<mm/\vU s n R m' (ms++ [⟨(tyX s n j false).1,(tyX s n (tyX s n j false).2.1 (tyX s n j false).2.2).1⟩])
   (tkP s 46 (tyX s n (tyX s n j false).2.1 (tyX s n j false).2.2).2.1 (tyX s n (tyX s n j false).2.1 (tyX s n j false).2.2).2.2).1
   (tkP s 46 (tyX s n (tyX s n j false).2.1 (tyX s n j false).2.2).2.1 (tyX s n (tyX s n j false).2.1 (tyX s n j false).2.2).2.2).2:=by
 obtain⟨_,h3,h4⟩ | ⟨h,_⟩:=h
 .obtain⟨f,rfl⟩: ∃f,mm=f+1:=⟨mm-1,by omega⟩;have a1:(pk s j).toNat≠59:=λh=>hp ((u8n (by decide)).1 h)
  rw[gH,if_neg a1]at h4;unfold tyP od at h4
  cases h1:cZ n (pk s j)with
  |false=>
   obtain⟨c,hc⟩:=vV (s:=s) (n:=n) (i:=j) (bad:=false) (Or.inr h1);obtain⟨c2,a0⟩:=vV (s:=s) (n:=n) (i:=j) (bad:=true) (Or.inl rfl);rw[hc];simp only;rw[a0];simp only;rw[fi (Or.inl rfl)];rw[h1]at h4;exact⟨0,by omega,Or.inr ⟨rfl,h4.symm⟩⟩
  |true=>
   rw[AB h1];simp only;rw[h1]at h4;simp only[if_true]at h4
   cases h2:cZ n (pk s (j+1))with
   |false=>
    obtain⟨c2,a0⟩:=vV (s:=s) (n:=n) (i:=j+1) (bad:=false) (Or.inr h2);rw[a0];simp only;rw[fi (Or.inl rfl)];rw[h2]at h4;exact⟨0,by omega,Or.inr ⟨rfl,h4.symm⟩⟩
   |true=>
    rw[AB h2];simp only;rw[h2]at h4;simp only[if_true]at h4
    by_cases h5:pk s (j+1+1)=46
    .rw[mj h5];rw[if_pos h5]at h4;exact⟨f,by omega,Or.inl ⟨rfl,by simp;omega,h4⟩⟩
    .rw[fi (Or.inr h5)];rw[if_neg h5]at h4;exact⟨0,by omega,Or.inr ⟨rfl,h4.symm⟩⟩
 .cases h
theorem yv:(prog.info? 243).map (λi=>(i.zero,i.size,i.bytes))=some (some (.agg #[.int .u8 0,.int .u8 0]),2,2):=by kernel_rfl
theorem jN (b base:Nat) (s:ByteArray) (i:Nat) (bad:Bool) (a0:Option Addr) (n cap0:Nat) (v2:RdV) (w:World) (hs:s.size<=2000) (hn:n<=4) (hR:XrB w b s i bad (.slice a0 n cap0) S_ v2) (hb:b<base) (hbase:base<=w.heap.size):
  Calls prog 99 #[.pointer (some ⟨b,0,none⟩)] w λen w'=>en= .returned (.tuple #[])/\But (λk=>k=b) w w'/\ ∃v1 ms j bad',XrB w' b s j bad' (.slice a0 n cap0) v1 v2/\TmV w' base v1 ms/\ms.length<=3/\
   ((bad'=false/\mU s n i bad= .ok (ms,j))\/(bad'=true/\mU s n i bad= .error j)):=by
 obtain⟨R,c7⟩: ∃R,mU s n i bad=R:=⟨_,rfl⟩;rw[c7]
 have f4:vU s n R 3 [] i bad:=by
  unfold mU at c7
  cases bad with
  |true=>exact Or.inr ⟨rfl,c7.symm⟩
  |false=>exact Or.inl ⟨rfl,rfl,c7⟩
 have f8:=hid f4;clear c7 f4;obtain⟨i0,g3,g7,h5,h6⟩:=info_parts yv;have i1:=hR.lt
 go_in
 go_wp2_with fail
 go_loopg [] 3 (λmm wr=> ∃(ao:Option Addr) (cap j:Nat) (bad':Bool) (ms:List Sig),ms.length<=3/\But (λk=>k=b) w wr/\XrB wr b s j bad' (.slice a0 n cap0) (.slice ao ms.length cap) v2/\TmV wr w.heap.size (.slice ao ms.length cap) ms/\Hid (vU s n R mm ms j bad'))
 case atStart=>exact⟨none,0,i,bad,[],by simp,But.refl _ _,hR,df _ _ _ _,f8.out⟩
 case round=>
  obtain⟨ao,cap,j,bad',ms,g2,e3,a5,f0,HC⟩:=hrel;have h1:=a5.c1;have h0:=a5.c0;have g6:=e3.size;have h9:=a5.lt
  have e0: ∀(w1:World),B_ wr w1->(bad'=true\/ ¬ms.length<3\/pk s j=59)-> ∀(w2:World),But (· =b) w1 w2->XrB w2 b s (tkP s 59 j bad').1 (tkP s 59 j bad').2 (.slice a0 n cap0) (.slice ao ms.length cap) v2->
    But (λk=>k=b) w w2/\ ∃v1 ms j bad',XrB w2 b s j bad' (.slice a0 n cap0) v1 v2/\TmV w2 base v1 ms/\ms.length<=3/\((bad'=false/\R= .ok (ms,j))\/(bad'=true/\R= .error j)):=by
   intro w1 h1 h2 w2 h3 h4;have b4:But (· =b) wr w2:=(h1.mono (λ_ _ h=>h.elim)).trans h3;exact⟨e3.trans b4,_,ms,_,_,h4,dn (f0.but b4 (λg e cur _ _ hg h=>by omega)) hbase,g2,HC.out.fin h2⟩
  have HF:=hid e0;clear e0
  by_cases hlt:ms.length<3
  .have g4:(ms.length:Int)<3:=by omega
   by_cases hgo:bad'=false/\pk s j≠59
   .obtain⟨rfl,e5⟩:=hgo;have d6:(!false&& !decide (pk s j=59))=true:=by simp[e5]
    have a2:=dt b s j false _ _ v2 wr 59 a5;rw[d6]at a2;have e2:=hid a2;obtain⟨m',i3,e8⟩:=HC.out.next hlt e5;have a7:=hid e8;clear d6 a2 e5 HC HF e8;go_wp2_with fail;refine e2.out.mono ?_;rintro en w1 ⟨rfl,m,rfl⟩;go_wp2_with fail;refine(nN b s j false _ _ v2 (wr.drewN m) n hn hs (a5.drewN m)).mono ?_;rintro en w1 ⟨rfl,e6,b9⟩;revert a7 b9;generalize tyX s n j false=Y1;intro a7 b9;obtain⟨c1,j1,b1⟩:=Y1;simp only at b9;go_wp2_with fail;refine(nN b s j1 b1 _ _ v2 w1 n hn hs b9).mono ?_;rintro en w2 ⟨rfl,b0,a4⟩;revert a7 a4;dsimp only;generalize tyX s n j1 b1=Y2;intro a7 a4;obtain⟨c2,j2,b2⟩:=Y2;simp only at a4
    go_wp2_with fail;refine(eu b s j2 b2 _ _ v2 w2 46 (by decide) hs a4).mono ?_;rintro en W ⟨rfl,b5,a8⟩;revert a7 a8;dsimp only;generalize tkP s 46 j2 b2=Y3;intro a7 a8;obtain⟨j3,b3⟩:=Y3;simp only at a8;have b6:But (· =b) wr W:=(((aK _ _ _).trans e6).trans b0).trans b5;have e7:But (· =b) w W:=e3.trans b6;have e4:W.ownsRow w.heap.size 243 2 (.slice ao ms.length cap) ms.length (dr ms):=f0.but b6 (λg e cur _ _ hg h=>by omega);have e1:=a8.c1;have g1:=a8.fz 1;have bltW:=a8.lt;have ab:(Value.slice ao ms.length cap).ownBlock≠some b:=λh=>by have:=ay e4 _ h;omega
    have h7:But (λk=>(Value.slice ao ms.length cap).ownBlock=some k) W W.drew:=aD _ _;have h8:=e7.size;clear h0 h1 b9 a4 e6 b0 b5;go_wp2_with (at_builtin;refine wpList_append_lies _ rfl _ _ _ rfl w.heap.size 243 i0 _ 2 2 (by kernel_rfl) g3 g7 h5 h6 rfl (by omega) _ ms.length (dr ms) rfl (e4.alloc _) ⟨W.heap.size,0,none⟩ 1 1 [.int .u8 c1.toNat,.int .u8 c2.toNat] rfl rfl (fX (cs:=#[.int .u8 c1.toNat,.int .u8 c2.toNat]) (t:=243) (fr:=(0,0)) (aO W _)) (by simp[Value.oneCell']) (by omega) (by unfold maxLen;omega) (by omega) (by simp;omega) (W.heap.size+1) (by simp) ?_);intro gg a1 w3 a3 a6 g0 g5
    have c9:But (λk=>(Value.slice ao ms.length cap).ownBlock=some k) W w3:=(ag _ _ _).trans (bc a6);have y0:=(c9.cell (p:=⟨b,1,none⟩) bltW ab).trans e1;have y1:=(c9.frozen (p:=⟨b,1,none⟩) bltW ab).trans g1;have i2:=ay a3 gg rfl;have f2:=(a8.but c9 ab).set1 (.slice (some ⟨gg,0,none⟩) (ms.length+1) a1)
    have b5:But (· =b) w (w3.setCell ⟨b,1,none⟩ (.slice (some ⟨gg,0,none⟩) (ms.length+1) a1)):=
     (e7.next c9 (λk hk h=>by have:=ay e4 k h;omega)).trans (au _ _ _ _)
    have f1:=aj a3 (au w3 b 1 (.slice (some ⟨gg,0,none⟩) (ms.length+1) a1)) (λg hg h=>by have:=ay a3 g hg;omega)
    have e9:TmV (w3.setCell ⟨b,1,none⟩ (.slice (some ⟨gg,0,none⟩) (ms.length+1) a1)) w.heap.size (.slice (some ⟨gg,0,none⟩) (ms++ [Sig.mk c1 c2]).length a1) (ms++ [Sig.mk c1 c2]):=by
     unfold TmV;rw[lP,aZ];exact f1
    have f3:XrB (w3.setCell ⟨b,1,none⟩ (.slice (some ⟨gg,0,none⟩) (ms.length+1) a1)) b s j3 b3 (.slice a0 n cap0) (.slice (some ⟨gg,0,none⟩) (ms++ [Sig.mk c1 c2]).length a1) v2:=by
     rw[aZ];exact f2
    have f7:=hid f3;have f6:=hid e9;have f5:=hid b5;clear f1 f2 f3 e9 b5 c9 a6 g0 a3 e1 g1;go_wp2_with fail
    go_roundg m'
    case measure=>omega
    case rel=>exact⟨_,a1,j3,b3,ms++ [Sig.mk c1 c2],by simp;omega,f5.out,f7.out,f6.out,a7.out⟩
   .have d6:(!bad'&& !decide (pk s j=59))=false:=by
     cases bad' with
     |true=>rfl
     |false=>
      by_cases h:pk s j=59
      .simp[h]
      .exact absurd ⟨rfl,h⟩ hgo
    have hx:bad'=true\/ ¬ms.length<3\/pk s j=59:=by
     cases bad' with
     |true=>exact Or.inl rfl
     |false=>
      right;right
      by_cases h:pk s j=59
      .exact h
      .exact absurd ⟨rfl,h⟩ hgo
    have HX:=hid hx;have a2:=dt b s j bad' _ _ v2 wr 59 a5;rw[d6]at a2;have e2:=hid a2;clear d6 a2 hx hgo HC;go_wp2_with fail;refine e2.out.mono ?_;rintro en w1 ⟨rfl,m,rfl⟩;go_wp2_with fail;refine(eu b s j bad' _ _ v2 _ 59 (by decide) hs (a5.drewN m)).mono ?_;rintro en w2 ⟨rfl,b0,a4⟩;go_wp2_with fail;go_end0;exact⟨rfl,HF.out _ (aK _ _ _) HX.out w2 b0 a4⟩
  .have g4: ¬(ms.length:Int)<3:=by omega
   go_wp2_with fail;refine(eu b s j bad' _ _ v2 _ 59 (by decide) hs a5).mono ?_;rintro en w2 ⟨rfl,b0,a4⟩;go_wp2_with fail;go_end0;exact⟨rfl,HF.out _ (But.refl _ _) (Or.inr (Or.inl hlt)) w2 b0 a4⟩
def TxB (w:World) (b:Nat) (bs:List bM):Prop:=
 ∃v2,w.cell? ⟨b,2,none⟩=some v2/\b<w.heap.size/\TbV w 0 v2 bs
theorem TxB.but {w w':World} {b:Nat} {bs:List bM} (h:TxB w b bs) (hb:B_ w w'):TxB w' b bs:=by
 obtain⟨v2,h0,hl,hT⟩:=h;exact⟨v2,hb.kc h0 hl,bq hl hb.size,hT.but hb (λ_ _ _ _ _ _ h=>h)⟩
theorem TbV.mono {w:World} {base base':Nat} {v:Value} {bs:List bM} (h:TbV w base v bs) (hb:base'<=base):TbV w base' v bs:=by
 obtain⟨l,h1,h2,h3⟩:=h;exact⟨l,h1.mono hb,h2,λx hx=>⟨dn (h3 x hx).1 hb,dn (h3 x hx).2 hb⟩⟩
theorem TbV.tx {w:World} {base b:Nat} {v:Value} {bs:List bM} (h:TbV w base v bs) (hc:w.cell? ⟨b,2,none⟩=some v) (hb:b<w.heap.size):TxB w b bs:=
 ⟨v,hc,hb,h.mono (Nat.zero_le _)⟩
def kY (bs:List bM) (c:UInt8) (m:Nat):Nat->Nat->Int
 |0,_=> -1
 |f+1,k=>match bs[k]? with
  |some x=>if x.cls=c/\x.meth=m then(k:Int)else kY bs c m f (k+1)
  |none=> -1
theorem mV (b:Nat) (bs:List bM) (c:UInt8) (m:Nat) (w:World) (hn:bs.length<=100) (hT:TxB w b bs):
  Calls prog 221 #[.pointer (some ⟨b,0,none⟩),.int .u8 c.toNat,.int .i64 m] w λe w'=>e= .returned (.int .i64 (kY bs c m bs.length 0))/\B_ w w':=by
 obtain⟨v2,h0,hl,l,hO,hm,hf⟩:=hT;obtain⟨ao,cap,rfl⟩:=aw hO;have a6:l.length=bs.length:=by rw[<-hm];simp
 obtain⟨R,a1⟩: ∃R,kY bs c m bs.length 0=R:=⟨_,rfl⟩;rw[a1];rw[<-a6]at a1 hn;have a3:=hid a1;have HM:=hid hm;clear a1 hm a6 hf
 go_in
 go_wp2_with fail
 go_loopg [7] l.length (λmm is wr=> ∃(k:Nat),is= .int .i64 k/\k<=l.length/\k+mm<=l.length/\l.length<=k+mm/\B_ w wr/\Hid (kY bs c m mm k=R))
 case atStart=>exact⟨0,rfl,by omega,by omega,by omega,But.refl _ _,a3.out⟩
 case round=>
  obtain⟨k,rfl,b3,a7,b4,hB,HA⟩:=hrel;have a5:gk=l.length-k:=by omega
  rw[a5]at HA;clear a5 a7;have b0:=hB.kc h0 hl
  by_cases hlt:k<l.length
  .have a8:(k:Int)<(l.length:Int):=by omega
   rw[show l.length-k=(l.length-(k+1))+1 from by omega]at HA;have hx:=aH hlt;have a4:bs[k]?=some l[k].1:=by rw[<-HM.out,cg,hx];rfl
   obtain⟨g,hg,b1,b2,a0⟩:=aF (aj hO hB (λ_ _ h=>h)) (by omega);have q0:wr.cell? ⟨g,k*5,none⟩=some (.int .u8 l[k].1.cls.toNat):=a0 _ _ (ba (k:=0) hx (by omega));have q1:wr.cell? ⟨g,k*5+1,none⟩=some (.int .i64 l[k].1.meth):=a0 _ _ (ba (k:=1) hx (by omega));have hA:=HA.out;simp only[kY,a4]at hA;revert q0 q1 hA;generalize l[k].1=X;intro q0 q1 hA;subst hg;clear hx a4 a0 HA a3
   by_cases h1:X.cls=c
   .have e1:((X.cls.toNat:Int)==(c.toNat:Int))=true:=by rw[h1];simp
    by_cases h2:X.meth=m
    .have e2:((X.meth:Int)==(m:Int))=true:=by rw[h2];simp
     rw[if_pos ⟨h1,h2⟩]at hA;subst hA;clear h1 h2;go_wp2_with fail;go_ret;exact⟨rfl,hB⟩
    .have e2:((X.meth:Int)==(m:Int))=false:=by rw[eA];omega
     rw[if_neg (λh=>h2 h.2)]at hA;have a2:=hid hA;clear h1 h2 hA;go_wp2_with fail
     go_roundg (l.length-(k+1))
     case measure=>omega
     case rel=>exact⟨k+1,by simp,by omega,by omega,by omega,hB,a2.out⟩
   .have e1:((X.cls.toNat:Int)==(c.toNat:Int))=false:=by rw[eA];intro h;exact h1 (bS (by omega))
    rw[if_neg (λh=>h1 h.1)]at hA;have a2:=hid hA;clear h1 hA;go_wp2_with fail
    go_roundg (l.length-(k+1))
    case measure=>omega
    case rel=>exact⟨k+1,by simp,by omega,by omega,by omega,hB,a2.out⟩
  .have a8: ¬(k:Int)<(l.length:Int):=by omega
   rw[show l.length-k=0 from by omega]at HA;have hA: -1=R:=HA.out;subst hA;clear HA a3;go_wp2_with fail;go_ret;exact⟨rfl,hB⟩
def iU (cs:List bV) (bs:List bM) (m:Nat):Nat->UInt8->Int
 |0,_=> -1
 |f+1,c=>if c.toNat=45 then-1 else if 0<=kY bs c m bs.length 0 then kY bs c m bs.length 0 else iU cs bs m f (kh cs c)
theorem ub (b:Nat) (cs:List bV) (bs:List bM) (c:UInt8) (m:Nat) (w:World) (hn:cs.length<=100) (hnb:bs.length<=100) (hC:TxC w b cs) (hT:TxB w b bs):
  Calls prog 224 #[.pointer (some ⟨b,0,none⟩),.int .u8 c.toNat,.int .i64 m] w λe w'=>e= .returned (.int .i64 (iU cs bs m cs.length c))/\B_ w w':=by
 obtain⟨R,a5⟩: ∃R,iU cs bs m cs.length c=R:=⟨_,rfl⟩;rw[a5];have b0:=hC;obtain⟨v0,l,h0,hl,hO,hm,hf⟩:=b0;obtain⟨ao,cap,rfl⟩:=aw hO;have a8:l.length=cs.length:=by rw[<-hm];simp
 rw[a8]at h0;clear hm hf hO a8;have a4:=hid a5;clear a5;obtain⟨n,a1⟩: ∃n,cs.length=n:=⟨_,rfl⟩;have HN:=hid a1;rw[a1]at h0 hn;rw[a1]at a4;clear a1
 go_in
 go_wp2_with fail
 go_loopg [7,8] n (λmm ls is wr=> ∃(x:UInt8) (k:Nat),ls= .int .u8 x.toNat/\is= .int .i64 k/\k<=n/\k+mm<=n/\n<=k+mm/\B_ w wr/\Hid (iU cs bs m mm x=R))
 case atStart=>exact⟨c,0,rfl,rfl,by omega,by omega,by omega,But.refl _ _,a4.out⟩
 case round=>
  obtain⟨x,k,rfl,rfl,b5,b1,b6,hB,HA⟩:=hrel;have a7:gk=n-k:=by omega
  rw[a7]at HA;clear a7 b1;have b4:=hB.kc h0 hl;clear a4
  by_cases hlt:k<n
  .have b2:(k:Int)<(n:Int):=by omega
   rw[show n-k=(n-(k+1))+1 from by omega]at HA;have hA:=HA.out;simp only[iU]at hA;clear HA
   by_cases h45:x.toNat=45
   .rw[if_pos h45]at hA;subst hA;have e:((x.toNat:Int)==45)=true:=by rw[beq_iff_eq];omega
    have e':((x.toNat:Int)!=45)=false:=by simp[bne,e]
    have e2:(x.toNat:Int)=45:=by omega
    have E2:=hid e2;clear h45 e2;go_wp2_with fail;go_ret;exact⟨rfl,hB⟩
   .rw[if_neg h45]at hA;have e:=tf x.toNat 45 (by omega);have e':((x.toNat:Int)!=45)=true:=by simp[bne,e]
    have e2: ¬(x.toNat:Int)=45:=by omega
    have a2:=mV b bs x m wr hnb (hT.but hB);revert a2 hA;generalize kY bs x m bs.length 0=o;intro hA a2;have a6:=hid a2;clear a2 h45
    by_cases ho:0<=o
    .rw[if_pos ho]at hA;subst hA;go_wp2_with fail;refine a6.out.mono ?_;rintro en w1 ⟨rfl,a0⟩;go_wp2_with fail;go_ret;exact⟨rfl,hB.trans a0⟩
    .rw[if_neg ho]at hA;have a3:=hid hA;clear hA;go_wp2_with fail;refine a6.out.mono ?_;rintro en w1 ⟨rfl,a0⟩;go_wp2_with fail;refine(py b cs x w1 (by rw[HN.out];exact hn) ((hC.but hB).but a0)).mono ?_;rintro en w2 ⟨rfl,b3⟩;subst b3;revert a3;generalize kh cs x=px;intro a3;go_wp2_with fail
     go_roundg (n-(k+1))
     case measure=>omega
     case rel=>exact⟨px,k+1,rfl,by simp,by omega,by omega,by omega,hB.trans a0,a3.out⟩
  .have b2: ¬(k:Int)<(n:Int):=by omega
   rw[show n-k=0 from by omega]at HA;have hA: -1=R:=HA.out;subst hA;clear HA;go_wp2_with fail;go_ret;exact⟨rfl,hB⟩
def gd (cs:List bV) (bs:List bM) (n:Nat) (x:XIt):Bool:=
 if x.op.toNat=106\/x.op.toNat=102 then decide (n<=x.num)else if x.op.toNat=99 then decide (iU cs bs x.num cs.length x.cls<0)else false
def itV (x:XIt):Value:= .agg #[.int .i64 x.place,.int .u8 x.op.toNat,.int .u8 x.cls.toNat,.int .i64 x.num,.slice x.pa x.pn x.pc]
theorem qD (b:Nat) (cs:List bV) (bs:List bM) (x:XIt) (n:Nat) (w:World) (hn:cs.length<=100) (hnb:bs.length<=100) (hC:TxC w b cs) (hT:TxB w b bs):
  Calls prog 170 #[.pointer (some ⟨b,0,none⟩),itV x,.int .i64 n] w λe w'=>e= .returned (.bool (gd cs bs n x))/\B_ w w':=by
 obtain⟨pl,op,cl,nu,pa,pn,pc⟩:=x;unfold itV
 by_cases h106:op.toNat=106
 .have hc:op=106:=bS h106;subst hc;rw[show gd cs bs n ⟨pl,106,cl,nu,pa,pn,pc⟩=decide (n<=nu)from by simp[gd]]
  by_cases hle:(n:Int)<=(nu:Int)
  .rw[show decide (n<=nu)=true from by simp;omega]
   go_in
   go_wp2_with fail;go_ret;exact⟨rfl,ag _ _ _⟩
  .rw[show decide (n<=nu)=false from by simp;omega]
   go_in
   go_wp2_with fail;go_ret;exact⟨rfl,ag _ _ _⟩
 by_cases h102:op.toNat=102
 .have hc:op=102:=bS h102;subst hc;rw[show gd cs bs n ⟨pl,102,cl,nu,pa,pn,pc⟩=decide (n<=nu)from by simp[gd]]
  by_cases hle:(n:Int)<=(nu:Int)
  .rw[show decide (n<=nu)=true from by simp;omega]
   go_in
   go_wp2_with fail;go_ret;exact⟨rfl,ag _ _ _⟩
  .rw[show decide (n<=nu)=false from by simp;omega]
   go_in
   go_wp2_with fail;go_ret;exact⟨rfl,ag _ _ _⟩
 by_cases h99:op.toNat=99
 .have hc:op=99:=bS h99;subst hc;rw[show gd cs bs n ⟨pl,99,cl,nu,pa,pn,pc⟩=decide (iU cs bs nu cs.length cl<0)from by simp[gd]];have a0:=λ(wx:World) (h:B_ w wx)=>ub b cs bs cl nu wx hn hnb (hC.but h) (hT.but h)
  revert a0;generalize iU cs bs nu cs.length cl=o;intro a0;have a1:=hid a0;clear a0
  go_in
  go_wp2_with fail;refine(a1.out _ (ag _ _ _)).mono ?_;rintro en w1 ⟨rfl,a4⟩;go_wp2_with fail;go_ret;exact⟨rfl,(ag _ _ _).trans a4⟩
 rw[show gd cs bs n ⟨pl,op,cl,nu,pa,pn,pc⟩=false from by simp[gd,h106,h102,h99]];have a3:=tf op.toNat 106 (by omega);have a2:=tf op.toNat 102 (by omega);have a5:=tf op.toNat 99 (by omega);clear h106 h102 h99
 go_in
 go_wp2_with fail;go_ret;exact⟨rfl,ag _ _ _⟩
end
end Go.Proofs.YtpfkkmacakjmbaaGreatDoor
