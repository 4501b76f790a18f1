import Derived.Test.YtpfkkmacakjmbaaGreatDoorP06
set_option maxRecDepth 100000
set_option maxHeartbeats 6400000
set_option linter.all false
namespace Go.Proofs.YtpfkkmacakjmbaaGreatDoor
open Proofs.Tryz
section
open Go Go.RowKit Sp
attribute [local go_sem ↓] eF eG
def fR (s:ByteArray) (n:Nat) (e:UInt8) (most i:Nat) (bad:Bool):Except Nat (L_×Nat):=if bad=true then .error i else tys s n e most [] i
theorem kP (b:Nat) (s:ByteArray) (i:Nat) (bad:Bool) (v0 v1:Value) (v2:RdV) (w:World) (most n:Nat) (e:UInt8) (he:0<e.toNat) (hm:most<=10) (hn:n<=4) (hs:s.size<=2000) (hR:XrB w b s i bad v0 v1 v2):
  Calls prog 216 #[.pointer (some ⟨b,0,none⟩),.int .i64 most,.int .i64 n,.int .u8 e.toNat] w λen w'=>But (· =b) w w'/\ ∃ao cap l j bad',en= .returned (.slice ao l.length cap)/\XrB w' b s j bad' v0 v1 v2/\BtB w' w.heap.size (.slice ao l.length cap) l/\l.length<=most/\
   ((bad'=false/\fR s n e most i bad= .ok (l,j))\/(bad'=true/\fR s n e most i bad= .error j)):=by
 cases bad with
 |false=>
  refine(xg b s i v0 v1 v2 w most n e he hm hn hs hR).mono ?_;rintro en w' ⟨c,v,l,j,bad',rfl,d,a,f,g⟩;obtain⟨ao,cap,rfl⟩:=aA a;exact⟨c,ao,cap,l,j,bad',rfl,d,a,f,g⟩
 |true=>
  refine(xk b s i v0 v1 v2 w most n e he hm hs hR).mono ?_;rintro en w' ⟨c,rfl,d,a⟩;exact⟨c,_,0,[],i,true,rfl,d,a,by simp,Or.inr ⟨rfl,rfl⟩⟩
def jG (s:ByteArray) (cs:List Cls) (i:Nat):Except Nat (Cls×Nat):=
 match mM s cs.length i with
 | .error j=> .error j
 | .ok (p,j)=>
  match tys s (cs.length+1) 46 2 [] j with
  | .error l=> .error l
  | .ok (own,l)=> .ok (⟨p,inh cs p++own⟩,l)
theorem Bn {s:ByteArray} {cs:List Cls} {i j:Nat} {p:Int} (h:mM s cs.length i= .ok (p,j)):inh cs p=bV (cs.map toX) (pk s i)/\(if p<0 then 45 else UInt8.ofNat (65+p.toNat))=pk s i:=by
 obtain⟨_,b|b⟩:=pH h
 .obtain⟨rfl,a⟩:=b;have d:aQ cs.length (pk s i)=false:=by simp[aQ,a]
  refine⟨by simp[inh,bV,d],?_⟩;rw[if_pos (by omega)];exact ck a.symm
 .obtain⟨_,a,rfl⟩:=b;have c:=a;simp only[aQ,dl,dk]at c;have e:(pk s i).toNat<256:=(pk s i).toNat_lt;refine⟨?_,?_⟩
  .unfold inh bV;rw[if_neg (by omega),bZ,if_pos a,cg,ny]
   cases cs[(pk s i).toNat-65]?<;>rfl
  .rw[if_neg (by omega)]
   apply ck
   simp;omega
theorem Bo {s:ByteArray} {cs:List Cls} {i:Nat} {own:L_} {j:Nat} {bad':Bool} (P:UInt8×Nat×Bool) (hP:paX s cs.length i false=P)
  (hT:(bad'=false/\fR s (cs.length+1) 46 2 P.2.1 P.2.2= .ok (own,j))\/(bad'=true/\fR s (cs.length+1) 46 2 P.2.1 P.2.2= .error j)):
  (bad'=false/\ ∃c,jG s cs i= .ok (c,j)/\toX c=⟨P.1,bV (cs.map toX) P.1++own⟩)\/(bad'=true/\jG s cs i= .error j):=by
 unfold paX at hP
 by_cases hg:(pk s i).toNat=45\/aQ cs.length (pk s i)=true
 .rw[if_pos ⟨rfl,hg⟩]at hP;subst hP
  have hp: ∃p,mM s cs.length i= .ok (p,i+1):=by
   unfold mM jb
   by_cases h45:(pk s i).toNat=45
   .exact⟨-1,by rw[if_pos h45]⟩
   .obtain h|h:=hg
    .exact absurd h h45
    .exact⟨_,by rw[if_neg h45,if_pos h]⟩
  obtain⟨p,hp⟩:=hp;obtain⟨e,f⟩:=Bn hp;simp only[fR,dx,if_false]at hT;unfold jG;simp only[hp];obtain⟨b,d⟩ | ⟨b,d⟩:=hT
  .left
   refine⟨b,?_⟩;simp only[d];exact⟨_,rfl,by simp only[toX,e,f]⟩
  .right
   refine⟨b,?_⟩;simp only[d]
 .rw[if_neg (λh=>hg h.2)]at hP;subst hP;simp only[fR,if_true]at hT
  have hp:mM s cs.length i= .error i:=by
   have a:=not_or.1 hg;unfold mM jb;rw[if_neg a.1,if_neg a.2]
  right
  unfold jG;simp only[hp];obtain⟨_,h⟩ | ⟨h,h'⟩:=hT
  .cases h
  .cases h'
   exact⟨h,rfl⟩
theorem lN {cs:List Cls} (hw:WfC cs) (hn:cs.length<=4) (c:UInt8):(bV (cs.map toX) c).length<=2*cs.length:=by
 unfold bV
 split
 .rw[cg]
  cases hc:cs[c.toNat-65]? with
  |none=>simp
  |some x=>
   have a:=(bn hc).1;have b:=(hw _ _ hc).2.2.1;simp[toX];omega
 .simp
theorem qp (b base:Nat) (s:ByteArray) (i:Nat) (v0 v1:Value) (v2:RdV) (w:World) (SC:List Cls) (hw:WfC SC) (hn:SC.length<=3) (hs:s.size<=2000) (hR:XrB w b s i false v0 v1 v2) (hC:TcV w base v0 (SC.map toX)) (hb:b<base) (hbase:base<=w.heap.size):
  Calls prog 164 #[.pointer (some ⟨b,0,none⟩)] w λen w'=>But (· =b) w w'/\ ∃par ao cap fl j bad',en= .returned (.agg #[.int .u8 (UInt8.toNat par),.slice ao (List.length fl) cap])/\XrB w' b s j bad' v0 v1 v2/\BtB w' w.heap.size (.slice ao fl.length cap) fl/\fl.length<=10/\
   ((bad'=false/\ ∃c,jG s SC i= .ok (c,j)/\toX c=⟨par,fl⟩)\/(bad'=true/\jG s SC i= .error j)):=by
 obtain⟨i0,g2,h3,h4,h7⟩:=info_parts kL;obtain⟨ac,capc,h2⟩:=hC.len;subst h2;simp only[bZ]at hR hC⊢;have h0:=hR.c0;have h9:=hR.lt;have Q:SC.length+1<=4:=by omega
 have HK:=hid (λ(w':World) (h:But (· =b) w w')=>hC.but h (λg e cur _ _ hg he=>by omega));have e7:(SC.map toX).length=SC.length:=by simp
 have Z:=hid e7;clear e7 hC;obtain⟨n,L⟩: ∃n,SC.length=n:=⟨_,rfl⟩;have d6:=hid (λc=>lN hw (by omega) c);have p:=hid (λ(own:L_) (j:Nat) (bad':Bool)=>Bo (s:=s) (cs:=SC) (i:=i) (own:=own) (j:=j) (bad':=bad') (paX s SC.length i false) rfl);rw[L]at p d6 Z;rw[L]at h0 hR Q HK;simp only[L];clear L hw hn
 go_in
 go_wp2_with fail;have F:But (· =b) w (w.alloc (Obj.cells #[Value.int IntKind.u8 0,Value.slice none 0 0] 240)):=ag _ _ _;have b6:XrB (w.alloc (Obj.cells #[Value.int IntKind.u8 0,Value.slice none 0 0] 240)) b s i false (.slice ac n capc) v1 v2:=hR.but (ag (λ_=>False) _ _) (λh=>h);have y:=bj w (Obj.cells #[Value.int IntKind.u8 0,Value.slice none 0 0] 240);clear h0;revert F b6 y;generalize (w.alloc (Obj.cells #[Value.int IntKind.u8 0,Value.slice none 0 0] 240))=W0;intro F b6 y;refine(uR b s i false v1 v2 W0 n capc ac (by omega) hs b6).mono ?_;rintro en w1 ⟨rfl,a5,I⟩;revert p I;generalize paX s n i false=Y
 intro p I;obtain⟨par,i1,a2⟩:=Y;simp only at I;go_wp2_with fail;refine(kP b s i1 a2 _ v1 v2 w1 2 (n+1) 46 (by decide) (by omega) Q hs I).mono ?_;rintro en w2 ⟨a6,f5,a3,own,j2,l,rfl,e5,b3,i5,e6⟩;have f2:=hid (p.out own j2 l e6);clear p e6;go_wp2_with fail;have O:But (· =b) w w2:=(F.trans a5).trans a6;have G:But (· =b) w (w2.alloc (.cells #[] 5)):=O.trans (ag _ _ _);have hE:=BtB.empty w2;have J:=e5.but (ag (λ_=>False) w2 (.cells #[] 5)) (λh=>h);have b4:=b3.but (ag (λ_=>False) w2 (.cells #[] 5)) (λ_ _ h=>h);have h1:=O.size;have g6:=F.size;have g5:=a5.size;have g7:=a6.size;have b5:=λg hg=>bB b3 g hg
 have i2:=ae y;have e8:=((ag (λ_=>False) w2 (.cells #[] 5)).block w.heap.size (by omega) (λh=>h)).trans ((a6.block w.heap.size (by omega) (by omega)).trans ((a5.block w.heap.size (by omega) (by omega)).trans y));have S:=hid e8;clear e8 y;have B:w2.heap.size<=(w2.alloc (.cells #[] 5)).heap.size:=by simp
 clear e5 b3;revert G hE J b4 B S;generalize (w2.alloc (.cells #[] 5))=w3;intro G hE J b4 S B;have HX:=hid (λ(wx:World) (h:But (· =b) w wx) (h':XrB wx b s j2 l (.slice ac n capc) v1 v2)=>(HK.out wx h).tx h'.c0 h'.lt);have b8:=nM b (SC.map toX) par w3 (by rw[Z.out];omega) (HX.out w3 G J);have g1:=d6.out par;obtain⟨FX,b2⟩: ∃FX,bV (SC.map toX) par=FX:=⟨_,rfl⟩;rw[b2]at b8 g1;have e2:=hid b2;have c6:=hid b8;clear b2 b8;refine c6.out.mono ?_;rintro en wx ⟨rfl,C⟩;rw[C];clear C wx c6;go_wp2_with fail
 go_loopg [6,8] FX.length (λmm vs is wr=> ∃(ao:Option Addr) (cap k:Nat) (t:L_),vs= .slice ao t.length cap/\is= .int .i64 k/\k<=FX.length/\k+mm<=FX.length/\FX.length<=k+mm/\w2.heap.size<=wr.heap.size/\But (· =b) w wr/\XrB wr b s j2 l (.slice ac n capc) v1 v2/\BtB wr w2.heap.size (.slice ao t.length cap) t/\BtB wr w1.heap.size (.slice f5 own.length a3) own/\Hid (wr.heap[w.heap.size]?=some (Obj.cells #[Value.int IntKind.u8 0,Value.slice none 0 0] 240))/\t.length<=k/\Hid (FX.take k=t))
 case atStart=>exact⟨_,0,0,[],rfl,rfl,by omega,by omega,by omega,B,G,J,hE,b4,S,by simp,rfl⟩
 case round=>
  obtain⟨ao,cap,k,t,rfl,rfl,i3,g3,i4,b9,H,b7,q,e4,T,j1,HA⟩:=hrel;clear g3
  by_cases hlt:k<FX.length
  .have e1:(k:Int)<(FX.length:Int):=by omega
   have x:=tj b (SC.map toX) par k wr (by rw[Z.out];omega) (HX.out wr H b7);rw[e2.out,show cC FX k=FX.getD k 0 from by unfold cC;rw[if_pos hlt]]at x
   have X:Hid (FX.take (k+1)=t++ [FX.getD k 0]):=by
    show _=_
    rw[kj hlt,HA.out];simp[List.getD,hlt]
   revert x X;generalize FX.getD k 0=z;intro x X;have e0:=hid x;clear x HA;go_wp2_with fail;refine e0.out.mono ?_;rintro en wx ⟨rfl,C⟩;rw[C];clear C wx e0;have m:wr.ownsRow w2.heap.size 5 1 (.slice ao t.length cap) t.length (aU t):=q;have j0:=H.size;have i6:=aC m;go_wp2_with (at_builtin;refine wpList_append_lies _ rfl _ _ _ rfl w2.heap.size 5 i0 _ 1 1 (by kernel_rfl) g2 h3 h4 h7 rfl (by omega) _ t.length (aU t) rfl (m.alloc _) ⟨wr.heap.size,0,none⟩ 1 1 [.int .u8 z.toNat] rfl rfl (iO (cs:=#[.int .u8 z.toNat]) (t:=5) (fr:=(0,0)) (bj wr _)) (by simp[Value.oneCell']) (by omega) (by unfold maxLen;omega) (by omega) (by simp;omega) (wr.heap.size+1) (by simp) ?_)
   intro gg M w4 a1 a0 h8 g4;have r:But (λk'=>(Value.slice ao t.length cap).ownBlock=some k') wr w4:=(ag _ _ _).trans (bD a0);have b0:But (· =b) w w4:=H.next r (λk' hk' h=>absurd (aC m k' h) (by omega));have f8:=b7.but r (λh=>by have:=aC m _ h;omega)
   have a8:BtB w4 w2.heap.size (.slice (some ⟨gg,0,none⟩) (t++ [z]).length M) (t++ [z]):=by
    unfold BtB;rw[aV,aU,List.map_append];exact a1
   have f7:=e4.but r (λg hg h=>by have:=aC m _ h;have:=b5 g hg;omega);go_wp2_with fail
   go_roundg (FX.length-(k+1))
   case measure=>omega
   case rel=>exact⟨_,M,k+1,t++ [z],by simp,by simp,by omega,by omega,by omega,Nat.le_trans b9 r.size,b0,f8,a8,f7,(r.block w.heap.size (by omega) (λh=>by have:=aC m _ h;omega)).trans T.out,by simp;omega,X.out⟩
  .have e1: ¬(k:Int)<(FX.length:Int):=by omega
   have P:FX=t:=by rw[<-HA.out,g8 (by omega)]
   have f4:=hid P;clear P HA;go_wp2_with (at_builtin;refine jF rfl _ _ rfl w2.heap.size w1.heap.size _ _ t own rfl rfl q e4 (by omega) (by omega) ?_);intro d a D h5 a7 i7;have b1:But (· =b) w D:=H.next a7 (λk' hk' h=>absurd (aC q k' h) (by omega));have g0:=b7.but a7 (λh=>by have:=aC q _ h;omega);have f:=(a7.block w.heap.size (by omega) (λh=>by have:=aC q _ h;omega)).trans T.out;have q0:=ce0 f;have q1:=ce1 f;have f0:D.frozen? ⟨w.heap.size,0,none⟩=false:=cw D w.heap.size 0 _ _ f;have f1:D.frozen? ⟨w.heap.size,1,none⟩=false:=cw D w.heap.size 1 _ _ f;have e9:=ae f;have f3:=hid f;clear f T
   have A: ∀w6,But (· =w.heap.size) D w6->But (· =b) w w6/\ ∃par' ao cap fl j bad',Ending.returned (.agg #[.int .u8 par.toNat,.slice d ((t++own).length:Nat) a])= .returned (.agg #[.int .u8 (UInt8.toNat par'),.slice ao (List.length fl) cap])/\XrB w6 b s j bad' (.slice ac n capc) v1 v2/\BtB w6 w.heap.size (.slice ao fl.length cap) fl/\fl.length<=10/\
     ((bad'=false/\ ∃c,jG s SC i= .ok (c,j)/\toX c=⟨par',fl⟩)\/(bad'=true/\jG s SC i= .error j)):=by
    intro w6 h6;have e3:BtB D w2.heap.size (.slice d (t++own).length a) (t++own):=by first|exact h5| (rw[aV];exact h5)
    refine⟨b1.next h6 (λk hk h=>by omega),par,d,a,t++own,j2,l,rfl,g0.but h6 (by omega),BtB.but (dh e3 (by omega)) h6 (λg hg h=>by have:=aC e3 g hg;omega),by simp;omega,?_⟩;rw[<-f4.out,<-e2.out];exact f2.out
   have HP:=hid A;clear A;go_wp2_with fail;have f6:=bS D w.heap.size 0 _ _ (.int .u8 par.toNat) f3.out;have E:=bS _ w.heap.size 1 _ _ (.slice d (t.length+own.length) a) f6;have a4:=HP.out _ ((aq D w.heap.size 0 (.int .u8 par.toNat)).trans (aq _ w.heap.size 1 (.slice d (t.length+own.length) a)));revert E a4;generalize ((D.setCell ⟨w.heap.size,0,none⟩ (.int .u8 par.toNat)).setCell ⟨w.heap.size,1,none⟩ (.slice d (t.length+own.length) a))=w6;intro E a4;have r0:=ce0 E;have r1:=ce1 E;exact cU (v:= .agg #[.int .u8 par.toNat,.slice d ((t++own).length:Nat) a]) (by simp[results,results164,go_sem,r0,r1]) rfl a4
theorem zJ {s:ByteArray} {k:Nat} {cs:List Cls} {i:Nat} (h:(pk s i).toNat≠59):fw s (k+1) cs i=match jG s cs i with
  | .error j=> .error j
  | .ok (c,j)=>fw s k (cs++ [c]) j:=by
 unfold jG;rw[fw,if_neg h]
 cases mM s cs.length i with
 |error j=>rfl
 |ok x=>
  obtain⟨p,j⟩:=x;simp only
  cases tys s (cs.length+1) 46 2 [] j with
  |error l=>rfl
  |ok y=>rfl
theorem C8 {s:ByteArray} {cs:List Cls} {i j:Nat} {c:Cls} (hw:WfC cs) (h:jG s cs i= .ok (c,j)):WfC (cs++ [c]):=by
 unfold jG at h
 cases hp:mM s cs.length i with
 |error j=>rw[hp]at h;cases h
 |ok x=>
  obtain⟨p,j⟩:=x;rw[hp]at h;simp only at h
  cases ht:tys s (cs.length+1) 46 2 [] j with
  |error l=>rw[ht]at h;cases h
  |ok y=>
   obtain⟨own,l⟩:=y;rw[ht]at h
   cases h
   exact sM hw hp ht
def zK (s:ByteArray) (R:Except Nat (List Cls×Nat)) (mm:Nat) (cs:List bP) (j:Nat) (bad:Bool):Prop:=
 (bad=false/\ ∃SC,cs=SC.map toX/\WfC SC/\SC.length+mm=4/\fw s mm SC j=R)\/(bad=true/\mm=0/\R= .error j)
theorem mV {s:ByteArray} {c:UInt8} {j:Nat} (h:pk s j=c):tkP s c j false=(j+1,false):=by unfold tkP;rw[if_pos ⟨rfl,h⟩]
theorem fN {s:ByteArray} {c:UInt8} {j:Nat} {bad:Bool} (h:bad=true\/pk s j≠c):tkP s c j bad=(j,true):=by
 unfold tkP;rw[if_neg];rintro⟨a,b⟩;obtain h|h:=h
 .rw[h]at a;cases a
 .exact h b
theorem u8n {c:UInt8} {n:Nat} (hn:n<256):c.toNat=n↔c=UInt8.ofNat n:=by
 constructor
 .intro h
  apply ck
  rw[h];simp;omega
 .intro h;rw[h];simp;omega
theorem zK.fin {s:ByteArray} {R:Except Nat (List Cls×Nat)} {mm:Nat} {cs:List bP} {j:Nat} {bad:Bool} (h:zK s R mm cs j bad) (hx:bad=true\/ ¬cs.length<4\/pk s j=59):
  ((tkP s 59 j bad).2=false/\ ∃SC,R= .ok (SC,(tkP s 59 j bad).1)/\cs=SC.map toX/\WfC SC)\/((tkP s 59 j bad).2=true/\R= .error (tkP s 59 j bad).1):=by
 obtain⟨rfl,SC,b,a,d,c⟩ | ⟨rfl,_,a⟩:=h
 .by_cases hp:pk s j=59
  .left
   rw[mV hp];refine⟨rfl,SC,?_,b,a⟩;rw[<-c]
   cases mm<;>simp[fw,hp]
  .right
   rw[fN (Or.inr hp)];refine⟨rfl,?_⟩
   have hm:mm=0:=by
    obtain h|h|h:=hx
    .cases h
    .rw[b,bZ]at h;omega
    .exact absurd h hp
   subst hm;rw[<-c];have:(pk s j).toNat≠59:=λh=>hp ((u8n (by decide)).1 h)
   simp[fw,this]
 .right
  rw[fN (Or.inl rfl)];exact⟨rfl,a⟩
theorem zK.next {s:ByteArray} {R:Except Nat (List Cls×Nat)} {mm:Nat} {cs:List bP} {j:Nat} (h:zK s R mm cs j false) (hl:cs.length<4) (hp:pk s j≠59):
  ∃SC,cs=SC.map toX/\WfC SC/\SC.length<=3/\ ∀par fl j' bad',((bad'=false/\ ∃c,jG s SC j= .ok (c,j')/\toX c=⟨par,fl⟩)\/(bad'=true/\jG s SC j= .error j'))->
   ∃m',m'<mm/\zK s R m' (cs++ [⟨par,fl⟩]) j' bad':=by
 obtain⟨_,SC,d,i,m,a⟩ | ⟨h,_⟩:=h
 .have e:SC.length<=3:=by rw[d,bZ]at hl;omega
  refine⟨SC,d,i,e,?_⟩;intro par fl j' bad' l;obtain⟨f,rfl⟩: ∃f,mm=f+1:=⟨mm-1,by omega⟩;have g:(pk s j).toNat≠59:=λh=>hp ((u8n (by decide)).1 h)
  rw[zJ g]at a;obtain⟨rfl,c,b,k⟩ | ⟨rfl,b⟩:=l
  .rw[b]at a;refine⟨f,by omega,Or.inl ⟨rfl,SC++ [c],?_,C8 i b,by simp;omega,a⟩⟩;rw[d,List.map_append,<-k]
   rfl
  .rw[b]at a;exact⟨0,by omega,Or.inr ⟨rfl,rfl,a.symm⟩⟩
 .cases h
theorem zL:(prog.info? 240).map (λi=>(i.zero,i.size,i.bytes))=some (some (.agg #[.int .u8 0,S_]),2,32):=by kernel_rfl
theorem kr (b base:Nat) (s:ByteArray) (v1:Value) (v2:RdV) (w:World) (hs:s.size<=2000) (hR:XrB w b s 0 false S_ v1 v2) (hb:b<base) (hbase:base<=w.heap.size):
  Calls prog 98 #[.pointer (some ⟨b,0,none⟩)] w λen w'=>en= .returned (.tuple #[])/\But (λk=>k=b\/base<=k) w w'/\ ∃v0 cs j bad',XrB w' b s j bad' v0 v1 v2/\TcV w' base v0 cs/\cs.length<=4/\
   ((bad'=false/\ ∃SC,fw s 4 [] 0= .ok (SC,j)/\cs=SC.map toX/\WfC SC)\/(bad'=true/\fw s 4 [] 0= .error j)):=by
 obtain⟨R,X⟩: ∃R,fw s 4 [] 0=R:=⟨_,rfl⟩;rw[X];have b8:=hid X;clear X;obtain⟨i0,e6,f2,f3,f4⟩:=info_parts zL;have g1:=hR.lt
 go_in
 go_wp2_with fail
 go_loopg [] 4 (λmm wr=> ∃(ao:Option Addr) (cap j:Nat) (bad':Bool) (cs:List bP),cs.length<=4/\But (λk=>k=b\/base<=k) w wr/\XrB wr b s j bad' (.slice ao cs.length cap) v1 v2/\TcV wr base (.slice ao cs.length cap) cs/\Hid (zK s R mm cs j bad'))
 case atStart=>exact⟨none,0,0,false,[],by simp,cq _ _,hR,⟨[],jd _ _ _ _,rfl,by simp⟩,Or.inl ⟨rfl,[],rfl,λj c h=>by simp at h,by simp,b8.out⟩⟩
 case round=>
  obtain⟨ao,cap,j,bad',cs,hcl,Q,q,G,HC⟩:=hrel;have h0:=q.c0;have f1:=Q.size;have f8:=q.lt
  have M: ∀(w1:World),B_ wr w1->(bad'=true\/ ¬cs.length<4\/pk s j=59)-> ∀(w2:World),But (· =b) w1 w2->XrB w2 b s (tkP s 59 j bad').1 (tkP s 59 j bad').2 (.slice ao cs.length cap) v1 v2->
    But (λk=>k=b\/base<=k) w w2/\ ∃v0 cs j bad',XrB w2 b s j bad' v0 v1 v2/\TcV w2 base v0 cs/\cs.length<=4/\((bad'=false/\ ∃SC,R= .ok (SC,j)/\cs=SC.map toX/\WfC SC)\/(bad'=true/\R= .error j)):=by
   intro w1 h1 h2 w2 h3 h4;have L:But (· =b) wr w2:=(h1.mono (λ_ _ h=>h.elim)).trans h3;exact⟨Q.next L (λk _ h=>Or.inl h),_,cs,_,_,h4,G.but L (λg e cur _ _ hg h=>by omega),hcl,HC.out.fin h2⟩
  have HF:=hid M;clear M
  by_cases hlt:cs.length<4
  .have e8:(cs.length:Int)<4:=by omega
   by_cases hgo:bad'=false/\pk s j≠59
   .obtain⟨rfl,Y⟩:=hgo;have D:(!false&& !decide (pk s j=59))=true:=by simp[Y]
    have d:=dA b s j false _ v1 v2 wr 59 q;rw[D]at d;have O:=hid d;obtain⟨SC,b2,b4,e5,b6⟩:=HC.out.next hlt Y;have a1:=hid b6;have a2:=hid b2;have a3:=hid b4;clear D d Y HC HF b6 b2 b4;go_wp2_with fail;refine O.out.mono ?_;rintro en w1 ⟨rfl,m,rfl⟩;go_wp2_with fail;have hcl:=qp b base s j _ v1 v2 (wr.drewN m) SC a3.out e5 hs (q.drewN m) (by rw[<-a2.out];exact G.but (bp (λ_=>False) _ _) (λ_ _ _ _ _ _ h=>h)) hb (by show base<=wr.heap.size;omega);refine hcl.mono ?_;rintro en w1 ⟨c6,par,f,cap1,fl,j1,J,rfl,b0,H,z,b3⟩;clear hcl;obtain⟨m',g3,a5⟩:=a1.out par fl j1 J b3;have b7:=hid a5;clear b3 a5 a1 a2 a3
    go_wp2_with fail;have i:But (· =b) wr w1:=(bp _ _ _).trans c6;have F:But (λk=>k=b\/base<=k) w (w1.alloc (.cells #[.int .u8 par.toNat,.slice f fl.length cap1] 240)):=(Q.next i (λk _ h=>Or.inl h)).trans (ag _ _ _);have C:But (· =b) wr (w1.alloc (.cells #[.int .u8 par.toNat,.slice f fl.length cap1] 240)):=i.trans (ag _ _ _);have n:=b0.but (ag (λ_=>False) w1 (.cells #[.int .u8 par.toNat,.slice f fl.length cap1] 240)) (λh=>h);have S:=H.but (ag (λ_=>False) w1 (.cells #[.int .u8 par.toNat,.slice f fl.length cap1] 240)) (λ_ _ h=>h);have y:=bj w1 (.cells #[.int .u8 par.toNat,.slice f fl.length cap1] 240)
    have f0:=i.size;have e3:=bB H;have e2:=aC H;clear h0 H b0;revert F n S y C;generalize (w1.alloc (.cells #[.int .u8 par.toNat,.slice f fl.length cap1] 240))=W;intro F C n S y;have e1:=G.but C (λg e cur _ _ hg h=>by omega);obtain⟨l,z,b5,e7⟩:=e1;have I:l.length=cs.length:=by rw[<-b5];simp
    rw[<-I]at n z hlt;have e0:=n.c0;have g0:=n.fz 0;have bltW:=n.lt;have gltW:=ae y;have k0:=ce0 y;have k1:=ce1 y
    have a0: ∀g,(Value.slice ao l.length cap).ownBlock=some g->g<wr.heap.size:=by
     obtain⟨l',a4,b9,_⟩:=G;have:l'.length=cs.length:=by rw[<-b9];simp
     rw[I,<-this];rw[<-this]at a4;exact bB a4
    have ab:(Value.slice ao l.length cap).ownBlock≠some b:=λh=>by have:=aC z _ h;omega
    have agk:(Value.slice ao l.length cap).ownBlock≠some w1.heap.size:=λh=>by have:=a0 _ h;omega
    have e4:But (λk=>(Value.slice ao l.length cap).ownBlock=some k) W W.drew:=aD _ _;have f7:base<=W.heap.size:=by have:=F.size;omega
    have Z:=hid I;have f5:=hid y;clear I y;refine aF (But (λk=>(Value.slice ao l.length cap).ownBlock=some k) W) 9 ?_
    iterate 7 (refine aN (v:=?_) rfl e4 ?_ ?_;rotate_left;(focus (intro wS h;have q0:=((h.cell (p:=⟨b,0,none⟩) bltW ab).trans e0);have q1:=((h.cell (p:=⟨w1.heap.size,0,none⟩) gltW agk).trans k0);have q2:=((h.cell (p:=⟨w1.heap.size,1,none⟩) gltW agk).trans k1);clear h;go_simp;try rfl));dsimp only[Act.put];try simp only[bW])
    refine au rfl ?_;intro KS hKS;go_simp;refine hKS.out _ _ (λ_=>(ag _ _ _).trans (aD _ _)) ?_;clear hKS KS;refine au rfl ?_;intro KS hKS
    refine step_append_lies _ (by rfl) _ _ _ (by rfl) base 240 i0 _ 2 32 (by kernel_rfl) e6 f2 f3 f4 rfl (by omega) _ l.length (iS l) (by first|rfl| (rw[Z.out];rfl)) ((z.alloc _).drew)
       ⟨W.heap.size,0,none⟩ 1 1 [.int .u8 par.toNat,.slice f fl.length cap1] (by rfl) (by rfl) (iO (cs:=#[.int .u8 par.toNat,.slice f fl.length cap1]) (t:=240) (fr:=(0,0)) (bj W _)) (by simp[Value.oneCell'])
       (by omega) (by unfold maxLen;omega) (by omega) (by simp;omega) (W.heap.size+1) (by simp) ?_
    intro gg a w2 A E f6 e9;have r:But (λk=>(Value.slice ao l.length cap).ownBlock=some k) W w2:=((ag _ _ _).trans (aD _ _)).trans (bD E);refine hKS.out _ _ (λ_=>r) ?_;clear hKS KS;have y0:=(r.cell (p:=⟨b,0,none⟩) bltW ab).trans e0;have y1:=(r.frozen (p:=⟨b,0,none⟩) bltW ab).trans g0;refine au rfl ?_;intro KS hKS;go_simp;refine hKS.out _ _ nofun ?_;clear hKS KS;refine au rfl ?_;intro KS hKS;go_simp;refine hKS.out _ _ nofun ?_;clear hKS KS;refine au rfl ?_;intro KS hKS;go_simp;refine hKS.out _ _ nofun ?_;clear hKS KS;refine au rfl ?_;intro KS hKS;go_simp;refine hKS.out _ _ nofun ?_;clear hKS KS
    refine aK rfl ?_;have g2:=aC A gg rfl;have b1:=(n.but r ab).set0 (.slice (some ⟨gg,0,none⟩) (l.length+1) a)
    have d6:But (λk=>k=b\/base<=k) w (w2.setCell ⟨b,0,none⟩ (.slice (some ⟨gg,0,none⟩) (l.length+1) a)):=
     (F.next r (λk _ h=>Or.inr (aC z k h))).next (aq _ _ _ _) (λ_ _ h=>Or.inl h)
    have a8:=ah A (aq w2 b 0 (.slice (some ⟨gg,0,none⟩) (l.length+1) a)) (λg hg h=>by have:=aC A g hg;omega);have B:But (λk=>k=b\/(Value.slice ao l.length cap).ownBlock=some k) W (w2.setCell ⟨b,0,none⟩ (.slice (some ⟨gg,0,none⟩) (l.length+1) a)):=(r.mono (λ_ _ h=>Or.inr h)).next (aq _ _ _ _) (λ_ _ h=>Or.inl h)
    have a7: ∀x∈l++ [(⟨par,fl⟩,.slice f fl.length cap1)],BtB (w2.setCell ⟨b,0,none⟩ (.slice (some ⟨gg,0,none⟩) (l.length+1) a)) base x.2 x.1.fields:=by
     intro x hx;obtain hx|hx:=gH hx
     .refine bz (e7 x hx) B (λg cur hh hg h=> ?_);obtain h|h:=h
      .omega
      .exact gd z hh (by decide) h
     .simp at hx;subst hx;refine bz (dh S (by show base<=wr.heap.size;omega)) B (λg cur hh hg h=> ?_);obtain h|h:=h
      .omega
      .exact gd z hh (by decide) h
    have a6:TcV (w2.setCell ⟨b,0,none⟩ (.slice (some ⟨gg,0,none⟩) (l.length+1) a)) base (.slice (some ⟨gg,0,none⟩) (l.length+1) a) (cs++ [⟨par,fl⟩]):=
     ⟨l++ [(⟨par,fl⟩,.slice f fl.length cap1)],by rw[tq,aV];exact a8,by rw[List.map_append,b5];rfl,a7⟩
    clear a7 B a8;generalize (w2.setCell ⟨b,0,none⟩ (.slice (some ⟨gg,0,none⟩) (l.length+1) a))=W3 at*;rw[Z.out]at b1 a6 hlt;clear y0 y1 e0 g0 k0 k1 r E;go_wp2_with fail
    go_roundg m'
    case measure=>omega
    case rel=>exact⟨_,a,j1,J,cs++ [bP.mk par fl],by simp;omega,d6,by simpa using b1,by simpa using a6,b7.out⟩
   .have D:(!bad'&& !decide (pk s j=59))=false:=by
     cases bad' with
     |true=>rfl
     |false=>
      by_cases h:pk s j=59
      .simp[h]
      .exact absurd ⟨rfl,h⟩ hgo
    have hx:bad'=true\/ ¬cs.length<4\/pk s j=59:=by
     cases bad' with
     |true=>exact Or.inl rfl
     |false=>
      right;right
      by_cases h:pk s j=59
      .exact h
      .exact absurd ⟨rfl,h⟩ hgo
    have HX:=hid hx;have d:=dA b s j bad' _ v1 v2 wr 59 q;rw[D]at d;have O:=hid d;clear D d hx hgo HC;go_wp2_with fail;refine O.out.mono ?_;rintro en w1 ⟨rfl,m,rfl⟩;go_wp2_with fail;refine(eJ b s j bad' _ v1 v2 _ 59 (by decide) hs (q.drewN m)).mono ?_;rintro en w2 ⟨rfl,P,T⟩;go_wp2_with fail;go_end0;exact⟨rfl,HF.out _ (bp _ _ _) HX.out w2 P T⟩
  .have e8: ¬(cs.length:Int)<4:=by omega
   go_wp2_with fail;refine(eJ b s j bad' _ v1 v2 _ 59 (by decide) hs q).mono ?_;rintro en w2 ⟨rfl,P,T⟩;go_wp2_with fail;go_end0;exact⟨rfl,HF.out _ (cq _ _) (Or.inr (Or.inl hlt)) w2 P T⟩
def nP (s:ByteArray) (n i:Nat) (bad:Bool):Except Nat (List Sig×Nat):=if bad=true then .error i else jU s n 3 [] i
def xn (s:ByteArray) (n:Nat) (R:Except Nat (List Sig×Nat)) (mm:Nat) (ms:List Sig) (j:Nat) (bad:Bool):Prop:=
 (bad=false/\ms.length+mm=3/\jU s n mm ms j=R)\/(bad=true/\R= .error j)
theorem xn.fin {s:ByteArray} {n:Nat} {R:Except Nat (List Sig×Nat)} {mm:Nat} {ms:List Sig} {j:Nat} {bad:Bool} (h:xn s n R mm ms j bad) (hx:bad=true\/ ¬ms.length<3\/pk s j=59):
  ((tkP s 59 j bad).2=false/\R= .ok (ms,(tkP s 59 j bad).1))\/((tkP s 59 j bad).2=true/\R= .error (tkP s 59 j bad).1):=by
 obtain⟨rfl,c,a⟩ | ⟨rfl,b⟩:=h
 .by_cases hp:pk s j=59
  .left
   rw[mV hp];refine⟨rfl,?_⟩;rw[<-a]
   cases mm<;>simp[jU,hp]
  .right
   rw[fN (Or.inr hp)];refine⟨rfl,?_⟩
   have hm:mm=0:=by
    obtain h|h|h:=hx
    .cases h
    .omega
    .exact absurd h hp
   subst hm;rw[<-a];have:(pk s j).toNat≠59:=λh=>hp ((u8n (by decide)).1 h)
   simp[jU,this]
 .right
  rw[fN (Or.inl rfl)];exact⟨rfl,b⟩
theorem Bp {s:ByteArray} {n i:Nat} (h:cY n (pk s i)=true):tyX s n i false=(pk s i,i+1,false):=by unfold tyX;rw[if_pos ⟨rfl,h⟩]
theorem xo {s:ByteArray} {n i:Nat} {bad:Bool} (h:bad=true\/cY n (pk s i)=false): ∃c,tyX s n i bad=(c,i,true):=by
 unfold tyX;rw[if_neg]
 .exact⟨_,rfl⟩
 .rintro⟨a,b⟩;obtain h|h:=h
  .rw[h]at a;cases a
  .rw[h]at b;cases b
theorem xn.next {s:ByteArray} {n:Nat} {R:Except Nat (List Sig×Nat)} {mm:Nat} {ms:List Sig} {j:Nat} (h:xn s n R mm ms j false) (hl:ms.length<3) (hp:pk s j≠59):
  ∃m',m'<mm/\xn s n R m' (ms++ [⟨(tyX s n j false).1,(tyX s n (tyX s n j false).2.1 (tyX s n j false).2.2).1⟩])
   (tkP s 46 (tyX s n (tyX s n j false).2.1 (tyX s n j false).2.2).2.1 (tyX s n (tyX s n j false).2.1 (tyX s n j false).2.2).2.2).1
   (tkP s 46 (tyX s n (tyX s n j false).2.1 (tyX s n j false).2.2).2.1 (tyX s n (tyX s n j false).2.1 (tyX s n j false).2.2).2.2).2:=by
 obtain⟨_,e,a⟩ | ⟨h,_⟩:=h
 .obtain⟨f,rfl⟩: ∃f,mm=f+1:=⟨mm-1,by omega⟩;have d:(pk s j).toNat≠59:=λh=>hp ((u8n (by decide)).1 h)
  rw[jU,if_neg d]at a;unfold tyP Bc at a
  cases h1:cY n (pk s j)with
  |false=>
   obtain⟨c,hc⟩:=xo (s:=s) (n:=n) (i:=j) (bad:=false) (Or.inr h1);obtain⟨c2,b⟩:=xo (s:=s) (n:=n) (i:=j) (bad:=true) (Or.inl rfl);rw[hc];simp only;rw[b];simp only;rw[fN (Or.inl rfl)];rw[h1]at a;exact⟨0,by omega,Or.inr ⟨rfl,a.symm⟩⟩
  |true=>
   rw[Bp h1];simp only;rw[h1]at a;simp only[if_true]at a
   cases h2:cY n (pk s (j+1))with
   |false=>
    obtain⟨c2,b⟩:=xo (s:=s) (n:=n) (i:=j+1) (bad:=false) (Or.inr h2);rw[b];simp only;rw[fN (Or.inl rfl)];rw[h2]at a;exact⟨0,by omega,Or.inr ⟨rfl,a.symm⟩⟩
   |true=>
    rw[Bp h2];simp only;rw[h2]at a;simp only[if_true]at a
    by_cases h5:pk s (j+1+1)=46
    .rw[mV h5];rw[if_pos h5]at a;exact⟨f,by omega,Or.inl ⟨rfl,by simp;omega,a⟩⟩
    .rw[fN (Or.inr h5)];rw[if_neg h5]at a;exact⟨0,by omega,Or.inr ⟨rfl,a.symm⟩⟩
 .cases h
theorem zM:(prog.info? 243).map (λi=>(i.zero,i.size,i.bytes))=some (some (.agg #[.int .u8 0,.int .u8 0]),2,2):=by kernel_rfl
theorem kt (b base:Nat) (s:ByteArray) (i:Nat) (bad:Bool) (a0:Option Addr) (n cap0:Nat) (v2:RdV) (w:World) (hs:s.size<=2000) (hn:n<=4) (hR:XrB w b s i bad (.slice a0 n cap0) S_ v2) (hb:b<base) (hbase:base<=w.heap.size):
  Calls prog 99 #[.pointer (some ⟨b,0,none⟩)] w λen w'=>en= .returned (.tuple #[])/\But (λk=>k=b) w w'/\ ∃v1 ms j bad',XrB w' b s j bad' (.slice a0 n cap0) v1 v2/\TmV w' base v1 ms/\ms.length<=3/\
   ((bad'=false/\nP s n i bad= .ok (ms,j))\/(bad'=true/\nP s n i bad= .error j)):=by
 obtain⟨R,z⟩: ∃R,nP s n i bad=R:=⟨_,rfl⟩;rw[z]
 have a2:xn s n R 3 [] i bad:=by
  unfold nP at z
  cases bad with
  |true=>exact Or.inr ⟨rfl,z.symm⟩
  |false=>exact Or.inl ⟨rfl,rfl,z⟩
 have a6:=hid a2;clear z a2;obtain⟨i0,a8,b3,b4,b5⟩:=info_parts zM;have b9:=hR.lt
 go_in
 go_wp2_with fail
 go_loopg [] 3 (λmm wr=> ∃(ao:Option Addr) (cap j:Nat) (bad':Bool) (ms:List Sig),ms.length<=3/\But (λk=>k=b) w wr/\XrB wr b s j bad' (.slice a0 n cap0) (.slice ao ms.length cap) v2/\TmV wr w.heap.size (.slice ao ms.length cap) ms/\Hid (xn s n R mm ms j bad'))
 case atStart=>exact⟨none,0,i,bad,[],by simp,cq _ _,hR,jd _ _ _ _,a6.out⟩
 case round=>
  obtain⟨ao,cap,j,bad',ms,hcl,L,l,X,HC⟩:=hrel;have h1:=l.c1;have h0:=l.c0;have b2:=L.size;have b8:=l.lt
  have I: ∀(w1:World),B_ wr w1->(bad'=true\/ ¬ms.length<3\/pk s j=59)-> ∀(w2:World),But (· =b) w1 w2->XrB w2 b s (tkP s 59 j bad').1 (tkP s 59 j bad').2 (.slice a0 n cap0) (.slice ao ms.length cap) v2->
    But (λk=>k=b) w w2/\ ∃v1 ms j bad',XrB w2 b s j bad' (.slice a0 n cap0) v1 v2/\TmV w2 base v1 ms/\ms.length<=3/\((bad'=false/\R= .ok (ms,j))\/(bad'=true/\R= .error j)):=by
   intro w1 h1 h2 w2 h3 h4;have G:But (· =b) wr w2:=(h1.mono (λ_ _ h=>h.elim)).trans h3;exact⟨L.trans G,_,ms,_,_,h4,dh (X.but G (λg e cur _ _ hg h=>by omega)) hbase,hcl,HC.out.fin h2⟩
  have HF:=hid I;clear I
  by_cases hlt:ms.length<3
  .have b0:(ms.length:Int)<3:=by omega
   by_cases hgo:bad'=false/\pk s j≠59
   .obtain⟨rfl,O⟩:=hgo;have B:(!false&& !decide (pk s j=59))=true:=by simp[O]
    have c:=dA b s j false _ _ v2 wr 59 l;rw[B]at c;have J:=hid c;obtain⟨m',d6,S⟩:=HC.out.next hlt O;have q:=hid S;clear B c O HC HF S;go_wp2_with fail;refine J.out.mono ?_;rintro en w1 ⟨rfl,m,rfl⟩;go_wp2_with fail;refine(oL b s j false _ _ v2 (wr.drewN m) n hn hs (l.drewN m)).mono ?_;rintro en w1 ⟨rfl,P,y⟩;revert q y;generalize tyX s n j false=Y1;intro q y;obtain⟨c1,j1,D⟩:=Y1;simp only at y;go_wp2_with fail;refine(oL b s j1 D _ _ v2 w1 n hn hs y).mono ?_;rintro en w2 ⟨rfl,v,d⟩;revert q d;dsimp only;generalize tyX s n j1 D=Y2;intro q d;obtain⟨c2,j2,E⟩:=Y2;simp only at d;go_wp2_with fail;refine(eJ b s j2 E _ _ v2 w2 46 (by decide) hs d).mono ?_
    rintro en W ⟨rfl,x,r⟩;revert q r;dsimp only;generalize tkP s 46 j2 E=Y3;intro q r;obtain⟨j3,F⟩:=Y3;simp only at r;have H:But (· =b) wr W:=(((bp _ _ _).trans P).trans v).trans x;have Q:But (· =b) w W:=L.trans H;have M:W.ownsRow w.heap.size 243 2 (.slice ao ms.length cap) ms.length (ix ms):=X.but H (λg e cur _ _ hg h=>by omega);have e1:=r.c1;have g1:=r.fz 1;have bltW:=r.lt;have ab:(Value.slice ao ms.length cap).ownBlock≠some b:=λh=>by have:=aC M _ h;omega
    have b6:But (λk=>(Value.slice ao ms.length cap).ownBlock=some k) W W.drew:=aD _ _;have b7:=Q.size;clear h0 h1 y d P v x;go_wp2_with (at_builtin;refine wpList_append_lies _ rfl _ _ _ rfl w.heap.size 243 i0 _ 2 2 (by kernel_rfl) a8 b3 b4 b5 rfl (by omega) _ ms.length (ix ms) rfl (M.alloc _) ⟨W.heap.size,0,none⟩ 1 1 [.int .u8 c1.toNat,.int .u8 c2.toNat] rfl rfl (iO (cs:=#[.int .u8 c1.toNat,.int .u8 c2.toNat]) (t:=243) (fr:=(0,0)) (bj W _)) (by simp[Value.oneCell']) (by omega) (by unfold maxLen;omega) (by omega) (by simp;omega) (W.heap.size+1) (by simp) ?_);intro gg a w3 f C a7 b1;have A:But (λk=>(Value.slice ao ms.length cap).ownBlock=some k) W w3:=(ag _ _ _).trans (bD C)
    have y0:=(A.cell (p:=⟨b,1,none⟩) bltW ab).trans e1;have y1:=(A.frozen (p:=⟨b,1,none⟩) bltW ab).trans g1;have c6:=aC f gg rfl;have Z:=(r.but A ab).set1 (.slice (some ⟨gg,0,none⟩) (ms.length+1) a)
    have x:But (· =b) w (w3.setCell ⟨b,1,none⟩ (.slice (some ⟨gg,0,none⟩) (ms.length+1) a)):=
     (Q.next A (λk hk h=>by have:=aC M k h;omega)).trans (aq _ _ _ _)
    have Y:=ah f (aq w3 b 1 (.slice (some ⟨gg,0,none⟩) (ms.length+1) a)) (λg hg h=>by have:=aC f g hg;omega)
    have T:TmV (w3.setCell ⟨b,1,none⟩ (.slice (some ⟨gg,0,none⟩) (ms.length+1) a)) w.heap.size (.slice (some ⟨gg,0,none⟩) (ms++ [Sig.mk c1 c2]).length a) (ms++ [Sig.mk c1 c2]):=by
     unfold TmV;rw[ro,aV];exact Y
    have a1:XrB (w3.setCell ⟨b,1,none⟩ (.slice (some ⟨gg,0,none⟩) (ms.length+1) a)) b s j3 F (.slice a0 n cap0) (.slice (some ⟨gg,0,none⟩) (ms++ [Sig.mk c1 c2]).length a) v2:=by
     rw[aV];exact Z
    have a5:=hid a1;have a4:=hid T;have a3:=hid x;clear Y Z a1 T x A C a7 f e1 g1;go_wp2_with fail
    go_roundg m'
    case measure=>omega
    case rel=>exact⟨_,a,j3,F,ms++ [Sig.mk c1 c2],by simp;omega,a3.out,a5.out,a4.out,q.out⟩
   .have B:(!bad'&& !decide (pk s j=59))=false:=by
     cases bad' with
     |true=>rfl
     |false=>
      by_cases h:pk s j=59
      .simp[h]
      .exact absurd ⟨rfl,h⟩ hgo
    have hx:bad'=true\/ ¬ms.length<3\/pk s j=59:=by
     cases bad' with
     |true=>exact Or.inl rfl
     |false=>
      right;right
      by_cases h:pk s j=59
      .exact h
      .exact absurd ⟨rfl,h⟩ hgo
    have HX:=hid hx;have c:=dA b s j bad' _ _ v2 wr 59 l;rw[B]at c;have J:=hid c;clear B c hx hgo HC;go_wp2_with fail;refine J.out.mono ?_;rintro en w1 ⟨rfl,m,rfl⟩;go_wp2_with fail;refine(eJ b s j bad' _ _ v2 _ 59 (by decide) hs (l.drewN m)).mono ?_;rintro en w2 ⟨rfl,v,d⟩;go_wp2_with fail;go_end0;exact⟨rfl,HF.out _ (bp _ _ _) HX.out w2 v d⟩
  .have b0: ¬(ms.length:Int)<3:=by omega
   go_wp2_with fail;refine(eJ b s j bad' _ _ v2 _ 59 (by decide) hs l).mono ?_;rintro en w2 ⟨rfl,v,d⟩;go_wp2_with fail;go_end0;exact⟨rfl,HF.out _ (cq _ _) (Or.inr (Or.inl hlt)) w2 v d⟩
def TxB (w:World) (b:Nat) (bs:List bK):Prop:=
 ∃v2,w.cell? ⟨b,2,none⟩=some v2/\b<w.heap.size/\TbV w 0 v2 bs
theorem TxB.but {w w':World} {b:Nat} {bs:List bK} (h:TxB w b bs) (hb:B_ w w'):TxB w' b bs:=by
 obtain⟨v2,a,hl,c⟩:=h;exact⟨v2,hb.kc a hl,aP hl hb.size,c.but hb (λ_ _ _ _ _ _ h=>h)⟩
theorem TbV.mono {w:World} {base base':Nat} {v:Value} {bs:List bK} (h:TbV w base v bs) (hb:base'<=base):TbV w base' v bs:=by
 obtain⟨l,b,c,a⟩:=h;exact⟨l,b.mono hb,c,λx hx=>⟨dh (a x hx).1 hb,dh (a x hx).2 hb⟩⟩
theorem TbV.tx {w:World} {base b:Nat} {v:Value} {bs:List bK} (h:TbV w base v bs) (hc:w.cell? ⟨b,2,none⟩=some v) (hb:b<w.heap.size):TxB w b bs:=
 ⟨v,hc,hb,h.mono (Nat.zero_le _)⟩
def lO (bs:List bK) (c:UInt8) (m:Nat):Nat->Nat->Int
 |0,_=> -1
 |f+1,k=>match bs[k]? with
  |some x=>if x.cls=c/\x.meth=m then(k:Int)else lO bs c m f (k+1)
  |none=> -1
theorem nQ (b:Nat) (bs:List bK) (c:UInt8) (m:Nat) (w:World) (hn:bs.length<=100) (hT:TxB w b bs):
  Calls prog 221 #[.pointer (some ⟨b,0,none⟩),.int .u8 c.toNat,.int .i64 m] w λe w'=>e= .returned (.int .i64 (lO bs c m bs.length 0))/\B_ w w':=by
 obtain⟨v2,D,hl,l,x,hm,F⟩:=hT;obtain⟨ao,cap,rfl⟩:=aA x;have s:l.length=bs.length:=by rw[<-hm];simp
 obtain⟨R,f⟩: ∃R,lO bs c m bs.length 0=R:=⟨_,rfl⟩;rw[f];rw[<-s]at f hn;have n:=hid f;have A:=hid hm;clear f hm s F
 go_in
 go_wp2_with fail
 go_loopg [7] l.length (λmm is wr=> ∃(k:Nat),is= .int .i64 k/\k<=l.length/\k+mm<=l.length/\l.length<=k+mm/\B_ w wr/\Hid (lO bs c m mm k=R))
 case atStart=>exact⟨0,rfl,by omega,by omega,by omega,cq _ _,n.out⟩
 case round=>
  obtain⟨k,rfl,J,t,L,p,i⟩:=hrel;have r:gk=l.length-k:=by omega
  rw[r]at i;clear r t;have E:=p.kc D hl
  by_cases hlt:k<l.length
  .have v:(k:Int)<(l.length:Int):=by omega
   rw[show l.length-k=(l.length-(k+1))+1 from by omega]at i;have hx:=aM hlt;have q:bs[k]?=some l[k].1:=by rw[<-A.out,cg,hx];rfl
   obtain⟨g,G,H,I,a⟩:=aL (ah x p (λ_ _ h=>h)) (by omega);have y:wr.cell? ⟨g,k*5,none⟩=some (.int .u8 l[k].1.cls.toNat):=a _ _ (br (k:=0) hx (by omega));have z:wr.cell? ⟨g,k*5+1,none⟩=some (.int .i64 l[k].1.meth):=a _ _ (br (k:=1) hx (by omega));have d:=i.out;simp only[lO,q]at d;revert y z d;generalize l[k].1=X;intro y z d;subst G;clear hx q a i n
   by_cases h1:X.cls=c
   .have B:((X.cls.toNat:Int)==(c.toNat:Int))=true:=by rw[h1];simp
    by_cases h2:X.meth=m
    .have C:((X.meth:Int)==(m:Int))=true:=by rw[h2];simp
     rw[if_pos ⟨h1,h2⟩]at d;subst d;clear h1 h2;go_wp2_with fail;go_ret;exact⟨rfl,p⟩
    .have C:((X.meth:Int)==(m:Int))=false:=by rw[fh];omega
     rw[if_neg (λh=>h2 h.2)]at d;have j:=hid d;clear h1 h2 d;go_wp2_with fail
     go_roundg (l.length-(k+1))
     case measure=>omega
     case rel=>exact⟨k+1,by simp,by omega,by omega,by omega,p,j.out⟩
   .have B:((X.cls.toNat:Int)==(c.toNat:Int))=false:=by rw[fh];intro h;exact h1 (ck (by omega))
    rw[if_neg (λh=>h1 h.1)]at d;have j:=hid d;clear h1 d;go_wp2_with fail
    go_roundg (l.length-(k+1))
    case measure=>omega
    case rel=>exact⟨k+1,by simp,by omega,by omega,by omega,p,j.out⟩
  .have v: ¬(k:Int)<(l.length:Int):=by omega
   rw[show l.length-k=0 from by omega]at i;have d: -1=R:=i.out;subst d;clear i n;go_wp2_with fail;go_ret;exact⟨rfl,p⟩
def gM (cs:List bP) (bs:List bK) (m:Nat):Nat->UInt8->Int
 |0,_=> -1
 |f+1,c=>if c.toNat=45 then-1 else if 0<=lO bs c m bs.length 0 then lO bs c m bs.length 0 else gM cs bs m f (kN cs c)
theorem pd (b:Nat) (cs:List bP) (bs:List bK) (c:UInt8) (m:Nat) (w:World) (hn:cs.length<=100) (hnb:bs.length<=100) (hC:TxC w b cs) (hT:TxB w b bs):
  Calls prog 224 #[.pointer (some ⟨b,0,none⟩),.int .u8 c.toNat,.int .i64 m] w λe w'=>e= .returned (.int .i64 (gM cs bs m cs.length c))/\B_ w w':=by
 obtain⟨R,q⟩: ∃R,gM cs bs m cs.length c=R:=⟨_,rfl⟩;rw[q];have z:=hC;obtain⟨v0,l,y,hl,D,hm,G⟩:=z;obtain⟨ao,cap,rfl⟩:=aA D;have t:l.length=cs.length:=by rw[<-hm];simp
 rw[t]at y;clear hm G D t;have j:=hid q;clear q;obtain⟨n,f⟩: ∃n,cs.length=n:=⟨_,rfl⟩;have E:=hid f;rw[f]at y hn;rw[f]at j;clear f
 go_in
 go_wp2_with fail
 go_loopg [7,8] n (λmm ls is wr=> ∃(x:UInt8) (k:Nat),ls= .int .u8 x.toNat/\is= .int .i64 k/\k<=n/\k+mm<=n/\n<=k+mm/\B_ w wr/\Hid (gM cs bs m mm x=R))
 case atStart=>exact⟨c,0,rfl,rfl,by omega,by omega,by omega,cq _ _,j.out⟩
 case round=>
  obtain⟨x,k,rfl,rfl,H,A,I,p,h⟩:=hrel;have s:gk=n-k:=by omega
  rw[s]at h;clear s A;have F:=p.kc y hl;clear j
  by_cases hlt:k<n
  .have B:(k:Int)<(n:Int):=by omega
   rw[show n-k=(n-(k+1))+1 from by omega]at h;have a:=h.out;simp only[gM]at a;clear h
   by_cases h45:x.toNat=45
   .rw[if_pos h45]at a;subst a;have e:((x.toNat:Int)==45)=true:=by rw[dS];omega
    have e':((x.toNat:Int)!=45)=false:=by simp[bne,e]
    have v:(x.toNat:Int)=45:=by omega
    have J:=hid v;clear h45 v;go_wp2_with fail;go_ret;exact⟨rfl,p⟩
   .rw[if_neg h45]at a;have e:=tf x.toNat 45 (by omega);have e':((x.toNat:Int)!=45)=true:=by simp[bne,e]
    have v: ¬(x.toNat:Int)=45:=by omega
    have g:=nQ b bs x m wr hnb (hT.but p);revert g a;generalize lO bs x m bs.length 0=o;intro a g;have r:=hid g;clear g h45
    by_cases ho:0<=o
    .rw[if_pos ho]at a;subst a;go_wp2_with fail;refine r.out.mono ?_;rintro en w1 ⟨rfl,d⟩;go_wp2_with fail;go_ret;exact⟨rfl,p.trans d⟩
    .rw[if_neg ho]at a;have i:=hid a;clear a;go_wp2_with fail;refine r.out.mono ?_;rintro en w1 ⟨rfl,d⟩;go_wp2_with fail;refine(qj b cs x w1 (by rw[E.out];exact hn) ((hC.but p).but d)).mono ?_;rintro en w2 ⟨rfl,C⟩;subst C;revert i;generalize kN cs x=px;intro i;go_wp2_with fail
     go_roundg (n-(k+1))
     case measure=>omega
     case rel=>exact⟨px,k+1,rfl,by simp,by omega,by omega,by omega,p.trans d,i.out⟩
  .have B: ¬(k:Int)<(n:Int):=by omega
   rw[show n-k=0 from by omega]at h;have a: -1=R:=h.out;subst a;clear h;go_wp2_with fail;go_ret;exact⟨rfl,p⟩
def gO (cs:List bP) (bs:List bK) (n:Nat) (x:XIt):Bool:=
 if x.op.toNat=106\/x.op.toNat=102 then decide (n<=x.num)else if x.op.toNat=99 then decide (gM cs bs x.num cs.length x.cls<0)else false
def itV (x:XIt):Value:= .agg #[.int .i64 x.place,.int .u8 x.op.toNat,.int .u8 x.cls.toNat,.int .i64 x.num,.slice x.pa x.pn x.pc]
theorem rv (b:Nat) (cs:List bP) (bs:List bK) (x:XIt) (n:Nat) (w:World) (hn:cs.length<=100) (hnb:bs.length<=100) (hC:TxC w b cs) (hT:TxB w b bs):
  Calls prog 170 #[.pointer (some ⟨b,0,none⟩),itV x,.int .i64 n] w λe w'=>e= .returned (.bool (gO cs bs n x))/\B_ w w':=by
 obtain⟨pl,op,cl,nu,pa,pn,pc⟩:=x;unfold itV
 by_cases h106:op.toNat=106
 .have hc:op=106:=ck h106;subst hc;rw[show gO cs bs n ⟨pl,106,cl,nu,pa,pn,pc⟩=decide (n<=nu)from by simp[gO]]
  by_cases hle:(n:Int)<=(nu:Int)
  .rw[show decide (n<=nu)=true from by simp;omega]
   go_in
   go_wp2_with fail;go_ret;exact⟨rfl,ag _ _ _⟩
  .rw[show decide (n<=nu)=false from by simp;omega]
   go_in
   go_wp2_with fail;go_ret;exact⟨rfl,ag _ _ _⟩
 by_cases h102:op.toNat=102
 .have hc:op=102:=ck h102;subst hc;rw[show gO cs bs n ⟨pl,102,cl,nu,pa,pn,pc⟩=decide (n<=nu)from by simp[gO]]
  by_cases hle:(n:Int)<=(nu:Int)
  .rw[show decide (n<=nu)=true from by simp;omega]
   go_in
   go_wp2_with fail;go_ret;exact⟨rfl,ag _ _ _⟩
  .rw[show decide (n<=nu)=false from by simp;omega]
   go_in
   go_wp2_with fail;go_ret;exact⟨rfl,ag _ _ _⟩
 by_cases h99:op.toNat=99
 .have hc:op=99:=ck h99;subst hc;rw[show gO cs bs n ⟨pl,99,cl,nu,pa,pn,pc⟩=decide (gM cs bs nu cs.length cl<0)from by simp[gO]];have a:=λ(wx:World) (h:B_ w wx)=>pd b cs bs cl nu wx hn hnb (hC.but h) (hT.but h)
  revert a;generalize gM cs bs nu cs.length cl=o;intro a;have c:=hid a;clear a
  go_in
  go_wp2_with fail;refine(c.out _ (ag _ _ _)).mono ?_;rintro en w1 ⟨rfl,d⟩;go_wp2_with fail;go_ret;exact⟨rfl,(ag _ _ _).trans d⟩
 rw[show gO cs bs n ⟨pl,op,cl,nu,pa,pn,pc⟩=false from by simp[gO,h106,h102,h99]];have g:=tf op.toNat 106 (by omega);have f:=tf op.toNat 102 (by omega);have i:=tf op.toNat 99 (by omega);clear h106 h102 h99
 go_in
 go_wp2_with fail;go_ret;exact⟨rfl,ag _ _ _⟩
end
end Go.Proofs.YtpfkkmacakjmbaaGreatDoor
