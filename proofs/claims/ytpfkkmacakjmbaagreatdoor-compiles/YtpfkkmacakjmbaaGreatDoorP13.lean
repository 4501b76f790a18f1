import Derived.Test.YtpfkkmacakjmbaaGreatDoorP12
set_option maxRecDepth 100000
set_option maxHeartbeats 6400000
set_option linter.all false
namespace Go.Proofs.YtpfkkmacakjmbaaGreatDoor
open Proofs.Tryz
section
open Go Go.RowKit Sp
attribute [local go_sem ↓] eY eZ
def jw (s:ByteArray) (n:Nat) (e:UInt8) (most i:Nat) (bad:Bool):Except Nat (L_×Nat):=if bad=true then .error i else tys s n e most [] i
theorem kU (b:Nat) (s:ByteArray) (i:Nat) (bad:Bool) (v0 v1:Value) (v2:RdV) (w:World) (most n:Nat) (e:UInt8) (he:0<e.toNat) (hm:most<=10) (hn:n<=4) (hs:s.size<=2000) (hR:XrB w b s i bad v0 v1 v2):
  Calls prog 216 #[.pointer (some ⟨b,0,none⟩),.int .i64 most,.int .i64 n,.int .u8 e.toNat] w λen w'=>But (· =b) w w'/\ ∃ao cap l j bad',en= .returned (.slice ao l.length cap)/\XrB w' b s j bad' v0 v1 v2/\BtB w' w.heap.size (.slice ao l.length cap) l/\l.length<=most/\
   ((bad'=false/\jw s n e most i bad= .ok (l,j))\/(bad'=true/\jw s n e most i bad= .error j)):=by
 cases bad with
 |false=>
  refine(xn b s i v0 v1 v2 w most n e he hm hn hs hR).mono ?_;rintro en w' ⟨c,v,l,j,bad',rfl,d,a,f,g⟩;obtain⟨ao,cap,rfl⟩:=ay a;exact⟨c,ao,cap,l,j,bad',rfl,d,a,f,g⟩
 |true=>
  refine(xt b s i v0 v1 v2 w most n e he hm hs hR).mono ?_;rintro en w' ⟨c,rfl,d,a⟩;exact⟨c,_,0,[],i,true,rfl,d,a,by simp,Or.inr ⟨rfl,rfl⟩⟩
def ki (s:ByteArray) (cs:List Cls) (i:Nat):Except Nat (Cls×Nat):=
 match jY s cs.length i with
 | .error j=> .error j
 | .ok (p,j)=>
  match tys s (cs.length+1) 46 2 [] j with
  | .error l=> .error l
  | .ok (own,l)=> .ok (⟨p,inh cs p++own⟩,l)
theorem BG {s:ByteArray} {cs:List Cls} {i j:Nat} {p:Int} (h:jY s cs.length i= .ok (p,j)):inh cs p=cD (cs.map toX) (pk s i)/\(if p<0 then 45 else UInt8.ofNat (65+p.toNat))=pk s i:=by
 obtain⟨_,b|b⟩:=pT h
 .obtain⟨rfl,a⟩:=b;have d:aK cs.length (pk s i)=false:=by simp[aK,a]
  refine⟨by simp[inh,cD,d],?_⟩;rw[if_pos (by omega)];exact bJ a.symm
 .obtain⟨_,a,rfl⟩:=b;have c:=a;simp only[aK,dk,dg]at c;have e:(pk s i).toNat<256:=(pk s i).toNat_lt;refine⟨?_,?_⟩
  .unfold inh cD;rw[if_neg (by omega),eF,if_pos a,cV,jZ]
   cases cs[(pk s i).toNat-65]?<;>rfl
  .rw[if_neg (by omega)]
   apply bJ
   simp;omega
theorem BH {s:ByteArray} {cs:List Cls} {i:Nat} {own:L_} {j:Nat} {bad':Bool} (P:UInt8×Nat×Bool) (hP:paX s cs.length i false=P)
  (hT:(bad'=false/\jw s (cs.length+1) 46 2 P.2.1 P.2.2= .ok (own,j))\/(bad'=true/\jw s (cs.length+1) 46 2 P.2.1 P.2.2= .error j)):
  (bad'=false/\ ∃c,ki s cs i= .ok (c,j)/\toX c=⟨P.1,cD (cs.map toX) P.1++own⟩)\/(bad'=true/\ki s cs i= .error j):=by
 unfold paX at hP
 by_cases hg:(pk s i).toNat=45\/aK cs.length (pk s i)=true
 .rw[if_pos ⟨rfl,hg⟩]at hP;subst hP
  have hp: ∃p,jY s cs.length i= .ok (p,i+1):=by
   unfold jY fj
   by_cases h45:(pk s i).toNat=45
   .exact⟨-1,by rw[if_pos h45]⟩
   .obtain h|h:=hg
    .exact absurd h h45
    .exact⟨_,by rw[if_neg h45,if_pos h]⟩
  obtain⟨p,hp⟩:=hp;obtain⟨e,f⟩:=BG hp;simp only[jw,dS,if_false]at hT;unfold ki;simp only[hp];obtain⟨b,d⟩ | ⟨b,d⟩:=hT
  .left
   refine⟨b,?_⟩;simp only[d];exact⟨_,rfl,by simp only[toX,e,f]⟩
  .right
   refine⟨b,?_⟩;simp only[d]
 .rw[if_neg (λh=>hg h.2)]at hP;subst hP;simp only[jw,if_true]at hT
  have hp:jY s cs.length i= .error i:=by
   have a:=not_or.1 hg;unfold jY fj;rw[if_neg a.1,if_neg a.2]
  right
  unfold ki;simp only[hp];obtain⟨_,h⟩ | ⟨h,h'⟩:=hT
  .cases h
  .cases h'
   exact⟨h,rfl⟩
theorem nQ {cs:List Cls} (hw:WfC cs) (hn:cs.length<=4) (c:UInt8):(cD (cs.map toX) c).length<=2*cs.length:=by
 unfold cD
 split
 .rw[cV]
  cases hc:cs[c.toNat-65]? with
  |none=>simp
  |some x=>
   have a:=(bc hc).1;have b:=(hw _ _ hc).2.2.1;simp[toX];omega
 .simp
theorem qC (b base:Nat) (s:ByteArray) (i:Nat) (v0 v1:Value) (v2:RdV) (w:World) (SC:List Cls) (hw:WfC SC) (hn:SC.length<=3) (hs:s.size<=2000) (hR:XrB w b s i false v0 v1 v2) (hC:TcV w base v0 (SC.map toX)) (hb:b<base) (hbase:base<=w.heap.size):
  Calls prog 164 #[.pointer (some ⟨b,0,none⟩)] w λen w'=>But (· =b) w w'/\ ∃par ao cap fl j bad',en= .returned (.agg #[.int .u8 (UInt8.toNat par),.slice ao (List.length fl) cap])/\XrB w' b s j bad' v0 v1 v2/\BtB w' w.heap.size (.slice ao fl.length cap) fl/\fl.length<=10/\
   ((bad'=false/\ ∃c,ki s SC i= .ok (c,j)/\toX c=⟨par,fl⟩)\/(bad'=true/\ki s SC i= .error j)):=by
 obtain⟨i0,g7,i2,i3,i4⟩:=info_parts nN;obtain⟨ac,capc,h9⟩:=hC.len;subst h9;simp only[eF]at hR hC⊢;have h0:=hR.c0;have i6:=hR.lt;have Q:SC.length+1<=4:=by omega
 have HK:=hid (λ(w':World) (h:But (· =b) w w')=>hC.but h (λg e cur _ _ hg he=>by omega));have f2:(SC.map toX).length=SC.length:=by simp
 have Z:=hid f2;clear f2 hC;obtain⟨n,M⟩: ∃n,SC.length=n:=⟨_,rfl⟩;have e2:=hid (λc=>nQ hw (by omega) c);have q:=hid (λ(own:L_) (j:Nat) (bad':Bool)=>BH (s:=s) (cs:=SC) (i:=i) (own:=own) (j:=j) (bad':=bad') (paX s SC.length i false) rfl);rw[M]at q e2 Z;rw[M]at h0 hR Q HK;simp only[M];clear M hw hn
 go_in
 go_wp2_with fail;have G:But (· =b) w (w.alloc (Obj.cells #[Value.int IntKind.u8 0,Value.slice none 0 0] 240)):=aa _ _ _;have b8:XrB (w.alloc (Obj.cells #[Value.int IntKind.u8 0,Value.slice none 0 0] 240)) b s i false (.slice ac n capc) v1 v2:=hR.but (aa (λ_=>False) _ _) (λh=>h);have A:=aO w (Obj.cells #[Value.int IntKind.u8 0,Value.slice none 0 0] 240);clear h0;revert G b8 A;generalize (w.alloc (Obj.cells #[Value.int IntKind.u8 0,Value.slice none 0 0] 240))=W0;intro G b8 A;refine(vw b s i false v1 v2 W0 n capc ac (by omega) hs b8).mono ?_;rintro en w1 ⟨rfl,a5,J⟩;revert q J;generalize paX s n i false=Y
 intro q J;obtain⟨par,i1,a2⟩:=Y;simp only at J;go_wp2_with fail;refine(kU b s i1 a2 _ v1 v2 w1 2 (n+1) 46 (by decide) (by omega) Q hs J).mono ?_;rintro en d ⟨a6,g1,a3,own,j2,m,rfl,e7,b5,j4,e8⟩;have f5:=hid (q.out own j2 m e8);clear q e8;go_wp2_with fail;have O:But (· =b) w d:=(G.trans a5).trans a6;have H:But (· =b) w (d.alloc (.cells #[] 5)):=O.trans (aa _ _ _);have hE:=BtB.empty d;have L:=e7.but (aa (λ_=>False) d (.cells #[] 5)) (λh=>h);have b6:=b5.but (aa (λ_=>False) d (.cells #[] 5)) (λ_ _ h=>h);have h8:=O.size;have h4:=G.size;have h3:=a5.size;have h7:=a6.size;have b7:=λg hg=>aY b5 g hg
 have j0:=ae A;have f3:=((aa (λ_=>False) d (.cells #[] 5)).block w.heap.size (by omega) (λh=>h)).trans ((a6.block w.heap.size (by omega) (by omega)).trans ((a5.block w.heap.size (by omega) (by omega)).trans A));have S:=hid f3;clear f3 A;have C:d.heap.size<=(d.alloc (.cells #[] 5)).heap.size:=by simp
 clear e7 b5;revert H hE L b6 C S;generalize (d.alloc (.cells #[] 5))=w3;intro H hE L b6 S C;have HX:=hid (λ(wx:World) (h:But (· =b) w wx) (h':XrB wx b s j2 m (.slice ac n capc) v1 v2)=>(HK.out wx h).tx h'.c0 h'.lt);have c8:=tK b (SC.map toX) par w3 (by rw[Z.out];omega) (HX.out w3 H L);have g6:=e2.out par;obtain⟨FX,b4⟩: ∃FX,cD (SC.map toX) par=FX:=⟨_,rfl⟩;rw[b4]at c8 g6;have e4:=hid b4;have e0:=hid c8;clear b4 c8;refine e0.out.mono ?_;rintro en wx ⟨rfl,D⟩;rw[D];clear D wx e0;go_wp2_with fail
 go_loopg [6,8] FX.length (λmm vs is wr=> ∃(ao:Option Addr) (cap k:Nat) (t:L_),vs= .slice ao t.length cap/\is= .int .i64 k/\k<=FX.length/\k+mm<=FX.length/\FX.length<=k+mm/\d.heap.size<=wr.heap.size/\But (· =b) w wr/\XrB wr b s j2 m (.slice ac n capc) v1 v2/\BtB wr d.heap.size (.slice ao t.length cap) t/\BtB wr w1.heap.size (.slice g1 own.length a3) own/\Hid (wr.heap[w.heap.size]?=some (Obj.cells #[Value.int IntKind.u8 0,Value.slice none 0 0] 240))/\t.length<=k/\Hid (FX.take k=t))
 case atStart=>exact⟨_,0,0,[],rfl,rfl,by omega,by omega,by omega,C,H,L,hE,b6,S,by simp,rfl⟩
 case round=>
  obtain⟨ao,cap,k,t,rfl,rfl,j1,h1,j3,c9,I,b9,r,e6,T,k1,HA⟩:=hrel;clear h1
  by_cases hlt:k<FX.length
  .have e1:(k:Int)<(FX.length:Int):=by omega
   have y:=tL b (SC.map toX) par k wr (by rw[Z.out];omega) (HX.out wr I b9);rw[e4.out,show cM FX k=FX.getD k 0 from by unfold cM;rw[if_pos hlt]]at y
   have X:Hid (FX.take (k+1)=t++ [FX.getD k 0]):=by
    show _=_
    rw[f7 hlt,HA.out];simp[List.getD,hlt]
   revert y X;generalize FX.getD k 0=z;intro y X;have e3:=hid y;clear y HA;go_wp2_with fail;refine e3.out.mono ?_;rintro en wx ⟨rfl,D⟩;rw[D];clear D wx e3;have p:wr.ownsRow d.heap.size 5 1 (.slice ao t.length cap) t.length (a7 t):=r;have k0:=I.size;have j5:=aw p;go_wp2_with (at_builtin;refine wpList_append_lies _ rfl _ _ _ rfl d.heap.size 5 i0 _ 1 1 (by kernel_rfl) g7 i2 i3 i4 rfl (by omega) _ t.length (a7 t) rfl (p.alloc _) ⟨wr.heap.size,0,none⟩ 1 1 [.int .u8 z.toNat] rfl rfl (iu (cs:=#[.int .u8 z.toNat]) (t:=5) (fr:=(0,0)) (aO wr _)) (by simp[Value.oneCell']) (by omega) (by unfold maxLen;omega) (by omega) (by simp;omega) (wr.heap.size+1) (by simp) ?_)
   intro gg cap3 w4 a1 a0 i5 h2;have x:But (λk'=>(Value.slice ao t.length cap).ownBlock=some k') wr w4:=(aa _ _ _).trans (a8 a0);have b2:But (· =b) w w4:=I.next x (λk' hk' h=>absurd (aw p k' h) (by omega));have g4:=b9.but x (λh=>by have:=aw p _ h;omega)
   have b1:BtB w4 d.heap.size (.slice (some ⟨gg,0,none⟩) (t++ [z]).length cap3) (t++ [z]):=by
    unfold BtB;rw[aN,a7,List.map_append];exact a1
   have g3:=e6.but x (λg hg h=>by have:=aw p _ h;have:=b7 g hg;omega);go_wp2_with fail
   go_roundg (FX.length-(k+1))
   case measure=>omega
   case rel=>exact⟨_,cap3,k+1,t++ [z],by simp,by simp,by omega,by omega,by omega,Nat.le_trans c9 x.size,b2,g4,b1,g3,(x.block w.heap.size (by omega) (λh=>by have:=aw p _ h;omega)).trans T.out,by simp;omega,X.out⟩
  .have e1: ¬(k:Int)<(FX.length:Int):=by omega
   have P:FX=t:=by rw[<-HA.out,fd (by omega)]
   have g0:=hid P;clear P HA;go_wp2_with (at_builtin;refine kh rfl _ _ rfl d.heap.size w1.heap.size _ _ t own rfl rfl r e6 (by omega) (by omega) ?_);intro f a E h5 b0 j7;have b3:But (· =b) w E:=I.next b0 (λk' hk' h=>absurd (aw r k' h) (by omega));have g5:=b9.but b0 (λh=>by have:=aw r _ h;omega);have l:=(b0.block w.heap.size (by omega) (λh=>by have:=aw r _ h;omega)).trans T.out;have q0:=ce0 l;have q1:=ce1 l;have f0:E.frozen? ⟨w.heap.size,0,none⟩=false:=bG E w.heap.size 0 _ _ l;have f1:E.frozen? ⟨w.heap.size,1,none⟩=false:=bG E w.heap.size 1 _ _ l;have f4:=ae l;have f6:=hid l;clear l T
   have B: ∀w6,But (· =w.heap.size) E w6->But (· =b) w w6/\ ∃par' ao cap fl j bad',Ending.returned (.agg #[.int .u8 par.toNat,.slice f ((t++own).length:Nat) a])= .returned (.agg #[.int .u8 (UInt8.toNat par'),.slice ao (List.length fl) cap])/\XrB w6 b s j bad' (.slice ac n capc) v1 v2/\BtB w6 w.heap.size (.slice ao fl.length cap) fl/\fl.length<=10/\
     ((bad'=false/\ ∃c,ki s SC i= .ok (c,j)/\toX c=⟨par',fl⟩)\/(bad'=true/\ki s SC i= .error j)):=by
    intro w6 h6;have e5:BtB E d.heap.size (.slice f (t++own).length a) (t++own):=by first|exact h5| (rw[aN];exact h5)
    refine⟨b3.next h6 (λk hk h=>by omega),par,f,a,t++own,j2,m,rfl,g5.but h6 (by omega),BtB.but (ie e5 (by omega)) h6 (λg hg h=>by have:=aw e5 g hg;omega),by simp;omega,?_⟩;rw[<-g0.out,<-e4.out];exact f5.out
   have HP:=hid B;clear B;go_wp2_with fail;have g2:=cQ E w.heap.size 0 _ _ (.int .u8 par.toNat) f6.out;have F:=cQ _ w.heap.size 1 _ _ (.slice f (t.length+own.length) a) g2;have a4:=HP.out _ ((aj E w.heap.size 0 (.int .u8 par.toNat)).trans (aj _ w.heap.size 1 (.slice f (t.length+own.length) a)));revert F a4;generalize ((E.setCell ⟨w.heap.size,0,none⟩ (.int .u8 par.toNat)).setCell ⟨w.heap.size,1,none⟩ (.slice f (t.length+own.length) a))=w6;intro F a4;have r0:=ce0 F;have r1:=ce1 F;exact cA (v:= .agg #[.int .u8 par.toNat,.slice f ((t++own).length:Nat) a]) (by simp[results,results164,go_sem,r0,r1]) rfl a4
theorem zI {s:ByteArray} {k:Nat} {cs:List Cls} {i:Nat} (h:(pk s i).toNat≠59):dR s (k+1) cs i=match ki s cs i with
  | .error j=> .error j
  | .ok (c,j)=>dR s k (cs++ [c]) j:=by
 unfold ki;rw[dR,if_neg h]
 cases jY s cs.length i with
 |error j=>rfl
 |ok x=>
  obtain⟨p,j⟩:=x;simp only
  cases tys s (cs.length+1) 46 2 [] j with
  |error l=>rfl
  |ok y=>rfl
theorem C8 {s:ByteArray} {cs:List Cls} {i j:Nat} {c:Cls} (hw:WfC cs) (h:ki s cs i= .ok (c,j)):WfC (cs++ [c]):=by
 unfold ki at h
 cases hp:jY s cs.length i with
 |error j=>rw[hp]at h;cases h
 |ok x=>
  obtain⟨p,j⟩:=x;rw[hp]at h;simp only at h
  cases ht:tys s (cs.length+1) 46 2 [] j with
  |error l=>rw[ht]at h;cases h
  |ok y=>
   obtain⟨own,l⟩:=y;rw[ht]at h
   cases h
   exact nw hw hp ht
def zJ (s:ByteArray) (R:Except Nat (List Cls×Nat)) (mm:Nat) (cs:List cd) (j:Nat) (bad:Bool):Prop:=
 (bad=false/\ ∃SC,cs=SC.map toX/\WfC SC/\SC.length+mm=4/\dR s mm SC j=R)\/(bad=true/\mm=0/\R= .error j)
theorem qD {s:ByteArray} {c:UInt8} {j:Nat} (h:pk s j=c):tkP s c j false=(j+1,false):=by unfold tkP;rw[if_pos ⟨rfl,h⟩]
theorem jf {s:ByteArray} {c:UInt8} {j:Nat} {bad:Bool} (h:bad=true\/pk s j≠c):tkP s c j bad=(j,true):=by
 unfold tkP;rw[if_neg];rintro⟨a,b⟩;obtain h|h:=h
 .rw[h]at a;cases a
 .exact h b
theorem u8n {c:UInt8} {n:Nat} (hn:n<256):c.toNat=n↔c=UInt8.ofNat n:=by
 constructor
 .intro h
  apply bJ
  rw[h];simp;omega
 .intro h;rw[h];simp;omega
theorem zJ.fin {s:ByteArray} {R:Except Nat (List Cls×Nat)} {mm:Nat} {cs:List cd} {j:Nat} {bad:Bool} (h:zJ s R mm cs j bad) (hx:bad=true\/ ¬cs.length<4\/pk s j=59):
  ((tkP s 59 j bad).2=false/\ ∃SC,R= .ok (SC,(tkP s 59 j bad).1)/\cs=SC.map toX/\WfC SC)\/((tkP s 59 j bad).2=true/\R= .error (tkP s 59 j bad).1):=by
 obtain⟨rfl,SC,b,a,d,c⟩ | ⟨rfl,_,a⟩:=h
 .by_cases hp:pk s j=59
  .left
   rw[qD hp];refine⟨rfl,SC,?_,b,a⟩;rw[<-c]
   cases mm<;>simp[dR,hp]
  .right
   rw[jf (Or.inr hp)];refine⟨rfl,?_⟩
   have hm:mm=0:=by
    obtain h|h|h:=hx
    .cases h
    .rw[b,eF]at h;omega
    .exact absurd h hp
   subst hm;rw[<-c];have:(pk s j).toNat≠59:=λh=>hp ((u8n (by decide)).1 h)
   simp[dR,this]
 .right
  rw[jf (Or.inl rfl)];exact⟨rfl,a⟩
theorem zJ.next {s:ByteArray} {R:Except Nat (List Cls×Nat)} {mm:Nat} {cs:List cd} {j:Nat} (h:zJ s R mm cs j false) (hl:cs.length<4) (hp:pk s j≠59):
  ∃SC,cs=SC.map toX/\WfC SC/\SC.length<=3/\ ∀par fl j' bad',((bad'=false/\ ∃c,ki s SC j= .ok (c,j')/\toX c=⟨par,fl⟩)\/(bad'=true/\ki s SC j= .error j'))->
   ∃m',m'<mm/\zJ s R m' (cs++ [⟨par,fl⟩]) j' bad':=by
 obtain⟨_,SC,d,i,m,a⟩ | ⟨h,_⟩:=h
 .have e:SC.length<=3:=by rw[d,eF]at hl;omega
  refine⟨SC,d,i,e,?_⟩;intro par fl j' bad' l;obtain⟨f,rfl⟩: ∃f,mm=f+1:=⟨mm-1,by omega⟩;have g:(pk s j).toNat≠59:=λh=>hp ((u8n (by decide)).1 h)
  rw[zI g]at a;obtain⟨rfl,c,b,k⟩ | ⟨rfl,b⟩:=l
  .rw[b]at a;refine⟨f,by omega,Or.inl ⟨rfl,SC++ [c],?_,C8 i b,by simp;omega,a⟩⟩;rw[d,List.map_append,<-k]
   rfl
  .rw[b]at a;exact⟨0,by omega,Or.inr ⟨rfl,rfl,a.symm⟩⟩
 .cases h
theorem zK:(prog.info? 240).map (λi=>(i.zero,i.size,i.bytes))=some (some (.agg #[.int .u8 0,S_]),2,32):=by kernel_rfl
theorem oX (b base:Nat) (s:ByteArray) (v1:Value) (v2:RdV) (w:World) (hs:s.size<=2000) (hR:XrB w b s 0 false S_ v1 v2) (hb:b<base) (hbase:base<=w.heap.size):
  Calls prog 98 #[.pointer (some ⟨b,0,none⟩)] w λen w'=>en= .returned (.tuple #[])/\But (λk=>k=b\/base<=k) w w'/\ ∃v0 cs j bad',XrB w' b s j bad' v0 v1 v2/\TcV w' base v0 cs/\cs.length<=4/\
   ((bad'=false/\ ∃SC,dR s 4 [] 0= .ok (SC,j)/\cs=SC.map toX/\WfC SC)\/(bad'=true/\dR s 4 [] 0= .error j)):=by
 obtain⟨R,a0⟩: ∃R,dR s 4 [] 0=R:=⟨_,rfl⟩;rw[a0];have e2:=hid a0;clear a0;obtain⟨i0,f2,g2,g3,g4⟩:=info_parts zK;have h6:=hR.lt
 go_in
 go_wp2_with fail
 go_loopg [] 4 (λmm wr=> ∃(ao:Option Addr) (cap j:Nat) (bad':Bool) (cs:List cd),cs.length<=4/\But (λk=>k=b\/base<=k) w wr/\XrB wr b s j bad' (.slice ao cs.length cap) v1 v2/\TcV wr base (.slice ao cs.length cap) cs/\Hid (zJ s R mm cs j bad'))
 case atStart=>exact⟨none,0,0,false,[],by simp,bf _ _,hR,⟨[],cR _ _ _ _,rfl,by simp⟩,Or.inl ⟨rfl,[],rfl,λj c h=>by simp at h,by simp,e2.out⟩⟩
 case round=>
  obtain⟨ao,cap,j,bad',cs,J,X,r,H,HC⟩:=hrel;have h0:=r.c0;have g1:=X.size;have h5:=r.lt
  have Q: ∀(w1:World),B_ wr w1->(bad'=true\/ ¬cs.length<4\/pk s j=59)-> ∀(i:World),But (· =b) w1 i->XrB i b s (tkP s 59 j bad').1 (tkP s 59 j bad').2 (.slice ao cs.length cap) v1 v2->
    But (λk=>k=b\/base<=k) w i/\ ∃v0 cs j bad',XrB i b s j bad' v0 v1 v2/\TcV i base v0 cs/\cs.length<=4/\((bad'=false/\ ∃SC,R= .ok (SC,j)/\cs=SC.map toX/\WfC SC)\/(bad'=true/\R= .error j)):=by
   intro w1 h1 h2 i h3 h4;have P:But (· =b) wr i:=(h1.mono (λ_ _ h=>h.elim)).trans h3;exact⟨X.next P (λk _ h=>Or.inl h),_,cs,_,_,h4,H.but P (λg e cur _ _ hg h=>by omega),J,HC.out.fin h2⟩
  have HF:=hid Q;clear Q
  by_cases hlt:cs.length<4
  .have f4:(cs.length:Int)<4:=by omega
   by_cases hgo:bad'=false/\pk s j≠59
   .obtain⟨rfl,a2⟩:=hgo;have E:(!false&& !decide (pk s j=59))=true:=by simp[a2]
    have d:=d6 b s j false _ v1 v2 wr 59 r;rw[E]at d;have S:=hid d;obtain⟨SC,b7,b9,f1,c9⟩:=HC.out.next hlt a2;have a4:=hid c9;have a5:=hid b7;have a6:=hid b9;clear E d a2 HC HF c9 b7 b9;go_wp2_with fail;refine S.out.mono ?_;rintro en w1 ⟨rfl,m,rfl⟩;go_wp2_with fail;have J:=qC b base s j _ v1 v2 (wr.drewN m) SC a6.out f1 hs (r.drewN m) (by rw[<-a5.out];exact H.but (aH (λ_=>False) _ _) (λ_ _ _ _ _ _ h=>h)) hb (by show base<=wr.heap.size;omega);refine J.mono ?_;rintro en w1 ⟨e4,par,f,cap1,fl,j1,O,rfl,b5,I,A,b8⟩;clear J;obtain⟨m',h8,b1⟩:=a4.out par fl j1 O b8;have e1:=hid b1;clear b8 b1 a4 a5 a6
    go_wp2_with fail;have n:But (· =b) wr w1:=(aH _ _ _).trans e4;have G:But (λk=>k=b\/base<=k) w (w1.alloc (.cells #[.int .u8 par.toNat,.slice f fl.length cap1] 240)):=(X.next n (λk _ h=>Or.inl h)).trans (aa _ _ _);have D:But (· =b) wr (w1.alloc (.cells #[.int .u8 par.toNat,.slice f fl.length cap1] 240)):=n.trans (aa _ _ _);have q:=b5.but (aa (λ_=>False) w1 (.cells #[.int .u8 par.toNat,.slice f fl.length cap1] 240)) (λh=>h);have Y:=I.but (aa (λ_=>False) w1 (.cells #[.int .u8 par.toNat,.slice f fl.length cap1] 240)) (λ_ _ h=>h);have z:=aO w1 (.cells #[.int .u8 par.toNat,.slice f fl.length cap1] 240)
    have f6:=n.size;have e8:=aY I;have e7:=aw I;clear h0 I b5;revert G q Y z D;generalize (w1.alloc (.cells #[.int .u8 par.toNat,.slice f fl.length cap1] 240))=W;intro G D q Y z;have e6:=H.but D (λg e cur _ _ hg h=>by omega);obtain⟨l,A,c8,f3⟩:=e6;have L:l.length=cs.length:=by rw[<-c8];simp
    rw[<-L]at q A hlt;have e0:=q.c0;have g0:=q.fz 0;have bltW:=q.lt;have gltW:=ae z;have k0:=ce0 z;have k1:=ce1 z
    have a1: ∀g,(Value.slice ao l.length cap).ownBlock=some g->g<wr.heap.size:=by
     obtain⟨l',b0,e3,_⟩:=H;have:l'.length=cs.length:=by rw[<-e3];simp
     rw[L,<-this];rw[<-this]at b0;exact aY b0
    have ab:(Value.slice ao l.length cap).ownBlock≠some b:=λh=>by have:=aw A _ h;omega
    have agk:(Value.slice ao l.length cap).ownBlock≠some w1.heap.size:=λh=>by have:=a1 _ h;omega
    have f0:But (λk=>(Value.slice ao l.length cap).ownBlock=some k) W W.drew:=aA _ _;have g7:base<=W.heap.size:=by have:=G.size;omega
    have a3:=hid L;have g5:=hid z;clear L z;refine aD (But (λk=>(Value.slice ao l.length cap).ownBlock=some k) W) 9 ?_
    iterate 7 (refine aF (v:=?_) rfl f0 ?_ ?_;rotate_left;(focus (intro wS h;have q0:=((h.cell (p:=⟨b,0,none⟩) bltW ab).trans e0);have q1:=((h.cell (p:=⟨w1.heap.size,0,none⟩) gltW agk).trans k0);have q2:=((h.cell (p:=⟨w1.heap.size,1,none⟩) gltW agk).trans k1);clear h;go_simp;try rfl));dsimp only[Act.put];try simp only[bW])
    refine au rfl ?_;intro KS hKS;go_simp;refine hKS.out _ _ (λ_=>(aa _ _ _).trans (aA _ _)) ?_;clear hKS KS;refine au rfl ?_;intro KS hKS
    refine step_append_lies _ (by rfl) _ _ _ (by rfl) base 240 i0 _ 2 32 (by kernel_rfl) f2 g2 g3 g4 rfl (by omega) _ l.length (jt l) (by first|rfl| (rw[a3.out];rfl)) ((A.alloc _).drew)
       ⟨W.heap.size,0,none⟩ 1 1 [.int .u8 par.toNat,.slice f fl.length cap1] (by rfl) (by rfl) (iu (cs:=#[.int .u8 par.toNat,.slice f fl.length cap1]) (t:=240) (fr:=(0,0)) (aO W _)) (by simp[Value.oneCell'])
       (by omega) (by unfold maxLen;omega) (by omega) (by simp;omega) (W.heap.size+1) (by simp) ?_
    intro gg a i B F g6 f5;have y:But (λk=>(Value.slice ao l.length cap).ownBlock=some k) W i:=((aa _ _ _).trans (aA _ _)).trans (a8 F);refine hKS.out _ _ (λ_=>y) ?_;clear hKS KS;have y0:=(y.cell (p:=⟨b,0,none⟩) bltW ab).trans e0;have y1:=(y.frozen (p:=⟨b,0,none⟩) bltW ab).trans g0;refine au rfl ?_;intro KS hKS;go_simp;refine hKS.out _ _ nofun ?_;clear hKS KS;refine au rfl ?_;intro KS hKS;go_simp;refine hKS.out _ _ nofun ?_;clear hKS KS;refine au rfl ?_;intro KS hKS;go_simp;refine hKS.out _ _ nofun ?_;clear hKS KS;refine au rfl ?_;intro KS hKS;go_simp;refine hKS.out _ _ nofun ?_;clear hKS KS
    refine aI rfl ?_;have h7:=aw B gg rfl;have b6:=(q.but y ab).set0 (.slice (some ⟨gg,0,none⟩) (l.length+1) a)
    have e5:But (λk=>k=b\/base<=k) w (i.setCell ⟨b,0,none⟩ (.slice (some ⟨gg,0,none⟩) (l.length+1) a)):=
     (G.next y (λk _ h=>Or.inr (aw A k h))).next (aj _ _ _ _) (λ_ _ h=>Or.inl h)
    have b4:=ag B (aj i b 0 (.slice (some ⟨gg,0,none⟩) (l.length+1) a)) (λg hg h=>by have:=aw B g hg;omega);have C:But (λk=>k=b\/(Value.slice ao l.length cap).ownBlock=some k) W (i.setCell ⟨b,0,none⟩ (.slice (some ⟨gg,0,none⟩) (l.length+1) a)):=(y.mono (λ_ _ h=>Or.inr h)).next (aj _ _ _ _) (λ_ _ h=>Or.inl h)
    have b3: ∀x∈l++ [(⟨par,fl⟩,.slice f fl.length cap1)],BtB (i.setCell ⟨b,0,none⟩ (.slice (some ⟨gg,0,none⟩) (l.length+1) a)) base x.2 x.1.fields:=by
     intro x M;obtain M|M:=gz M
     .refine dn (f3 x M) C (λg cur hh hg h=> ?_);obtain h|h:=h
      .omega
      .exact kT A hh (by decide) h
     .simp at M;subst M;refine dn (ie Y (by show base<=wr.heap.size;omega)) C (λg cur hh hg h=> ?_);obtain h|h:=h
      .omega
      .exact kT A hh (by decide) h
    have b2:TcV (i.setCell ⟨b,0,none⟩ (.slice (some ⟨gg,0,none⟩) (l.length+1) a)) base (.slice (some ⟨gg,0,none⟩) (l.length+1) a) (cs++ [⟨par,fl⟩]):=
     ⟨l++ [(⟨par,fl⟩,.slice f fl.length cap1)],by rw[tQ,aN];exact b4,by rw[List.map_append,c8];rfl,b3⟩
    clear b3 C b4;generalize (i.setCell ⟨b,0,none⟩ (.slice (some ⟨gg,0,none⟩) (l.length+1) a))=W3 at*;rw[a3.out]at b6 b2 hlt;clear y0 y1 e0 g0 k0 k1 y F;go_wp2_with fail
    go_roundg m'
    case measure=>omega
    case rel=>exact⟨_,a,j1,O,cs++ [cd.mk par fl],by simp;omega,e5,by simpa using b6,by simpa using b2,e1.out⟩
   .have E:(!bad'&& !decide (pk s j=59))=false:=by
     cases bad' with
     |true=>rfl
     |false=>
      by_cases h:pk s j=59
      .simp[h]
      .exact absurd ⟨rfl,h⟩ hgo
    have M:bad'=true\/ ¬cs.length<4\/pk s j=59:=by
     cases bad' with
     |true=>exact Or.inl rfl
     |false=>
      right;right
      by_cases h:pk s j=59
      .exact h
      .exact absurd ⟨rfl,h⟩ hgo
    have HX:=hid M;have d:=d6 b s j bad' _ v1 v2 wr 59 r;rw[E]at d;have S:=hid d;clear E d M hgo HC;go_wp2_with fail;refine S.out.mono ?_;rintro en w1 ⟨rfl,m,rfl⟩;go_wp2_with fail;refine(eJ b s j bad' _ v1 v2 _ 59 (by decide) hs (r.drewN m)).mono ?_;rintro en i ⟨rfl,T,Z⟩;go_wp2_with fail;go_end0;exact⟨rfl,HF.out _ (aH _ _ _) HX.out i T Z⟩
  .have f4: ¬(cs.length:Int)<4:=by omega
   go_wp2_with fail;refine(eJ b s j bad' _ v1 v2 _ 59 (by decide) hs r).mono ?_;rintro en i ⟨rfl,T,Z⟩;go_wp2_with fail;go_end0;exact⟨rfl,HF.out _ (bf _ _) (Or.inr (Or.inl hlt)) i T Z⟩
def tR (s:ByteArray) (n i:Nat) (bad:Bool):Except Nat (List Sig×Nat):=if bad=true then .error i else fk s n 3 [] i
def xx (s:ByteArray) (n:Nat) (R:Except Nat (List Sig×Nat)) (mm:Nat) (ms:List Sig) (j:Nat) (bad:Bool):Prop:=
 (bad=false/\ms.length+mm=3/\fk s n mm ms j=R)\/(bad=true/\R= .error j)
theorem xx.fin {s:ByteArray} {n:Nat} {R:Except Nat (List Sig×Nat)} {mm:Nat} {ms:List Sig} {j:Nat} {bad:Bool} (h:xx s n R mm ms j bad) (hx:bad=true\/ ¬ms.length<3\/pk s j=59):
  ((tkP s 59 j bad).2=false/\R= .ok (ms,(tkP s 59 j bad).1))\/((tkP s 59 j bad).2=true/\R= .error (tkP s 59 j bad).1):=by
 obtain⟨rfl,c,a⟩ | ⟨rfl,b⟩:=h
 .by_cases hp:pk s j=59
  .left
   rw[qD hp];refine⟨rfl,?_⟩;rw[<-a]
   cases mm<;>simp[fk,hp]
  .right
   rw[jf (Or.inr hp)];refine⟨rfl,?_⟩
   have hm:mm=0:=by
    obtain h|h|h:=hx
    .cases h
    .omega
    .exact absurd h hp
   subst hm;rw[<-a];have:(pk s j).toNat≠59:=λh=>hp ((u8n (by decide)).1 h)
   simp[fk,this]
 .right
  rw[jf (Or.inl rfl)];exact⟨rfl,b⟩
theorem BI {s:ByteArray} {n i:Nat} (h:cw n (pk s i)=true):tyX s n i false=(pk s i,i+1,false):=by unfold tyX;rw[if_pos ⟨rfl,h⟩]
theorem xy {s:ByteArray} {n i:Nat} {bad:Bool} (h:bad=true\/cw n (pk s i)=false): ∃c,tyX s n i bad=(c,i,true):=by
 unfold tyX;rw[if_neg]
 .exact⟨_,rfl⟩
 .rintro⟨a,b⟩;obtain h|h:=h
  .rw[h]at a;cases a
  .rw[h]at b;cases b
theorem xx.next {s:ByteArray} {n:Nat} {R:Except Nat (List Sig×Nat)} {mm:Nat} {ms:List Sig} {j:Nat} (h:xx s n R mm ms j false) (hl:ms.length<3) (hp:pk s j≠59):
  ∃m',m'<mm/\xx s n R m' (ms++ [⟨(tyX s n j false).1,(tyX s n (tyX s n j false).2.1 (tyX s n j false).2.2).1⟩])
   (tkP s 46 (tyX s n (tyX s n j false).2.1 (tyX s n j false).2.2).2.1 (tyX s n (tyX s n j false).2.1 (tyX s n j false).2.2).2.2).1
   (tkP s 46 (tyX s n (tyX s n j false).2.1 (tyX s n j false).2.2).2.1 (tyX s n (tyX s n j false).2.1 (tyX s n j false).2.2).2.2).2:=by
 obtain⟨_,e,a⟩ | ⟨h,_⟩:=h
 .obtain⟨f,rfl⟩: ∃f,mm=f+1:=⟨mm-1,by omega⟩;have d:(pk s j).toNat≠59:=λh=>hp ((u8n (by decide)).1 h)
  rw[fk,if_neg d]at a;unfold tyP mH at a
  cases h1:cw n (pk s j)with
  |false=>
   obtain⟨c,hc⟩:=xy (s:=s) (n:=n) (i:=j) (bad:=false) (Or.inr h1);obtain⟨c2,b⟩:=xy (s:=s) (n:=n) (i:=j) (bad:=true) (Or.inl rfl);rw[hc];simp only;rw[b];simp only;rw[jf (Or.inl rfl)];rw[h1]at a;exact⟨0,by omega,Or.inr ⟨rfl,a.symm⟩⟩
  |true=>
   rw[BI h1];simp only;rw[h1]at a;simp only[if_true]at a
   cases h2:cw n (pk s (j+1))with
   |false=>
    obtain⟨c2,b⟩:=xy (s:=s) (n:=n) (i:=j+1) (bad:=false) (Or.inr h2);rw[b];simp only;rw[jf (Or.inl rfl)];rw[h2]at a;exact⟨0,by omega,Or.inr ⟨rfl,a.symm⟩⟩
   |true=>
    rw[BI h2];simp only;rw[h2]at a;simp only[if_true]at a
    by_cases h5:pk s (j+1+1)=46
    .rw[qD h5];rw[if_pos h5]at a;exact⟨f,by omega,Or.inl ⟨rfl,by simp;omega,a⟩⟩
    .rw[jf (Or.inr h5)];rw[if_neg h5]at a;exact⟨0,by omega,Or.inr ⟨rfl,a.symm⟩⟩
 .cases h
theorem zL:(prog.info? 243).map (λi=>(i.zero,i.size,i.bytes))=some (some (.agg #[.int .u8 0,.int .u8 0]),2,2):=by kernel_rfl
theorem oY (b base:Nat) (s:ByteArray) (i:Nat) (bad:Bool) (a0:Option Addr) (n cap0:Nat) (v2:RdV) (w:World) (hs:s.size<=2000) (hn:n<=4) (hR:XrB w b s i bad (.slice a0 n cap0) S_ v2) (hb:b<base) (hbase:base<=w.heap.size):
  Calls prog 99 #[.pointer (some ⟨b,0,none⟩)] w λen w'=>en= .returned (.tuple #[])/\But (λk=>k=b) w w'/\ ∃v1 ms j bad',XrB w' b s j bad' (.slice a0 n cap0) v1 v2/\TmV w' base v1 ms/\ms.length<=3/\
   ((bad'=false/\tR s n i bad= .ok (ms,j))\/(bad'=true/\tR s n i bad= .error j)):=by
 obtain⟨R,A⟩: ∃R,tR s n i bad=R:=⟨_,rfl⟩;rw[A]
 have a3:xx s n R 3 [] i bad:=by
  unfold tR at A
  cases bad with
  |true=>exact Or.inr ⟨rfl,A.symm⟩
  |false=>exact Or.inl ⟨rfl,rfl,A⟩
 have b0:=hid a3;clear A a3;obtain⟨i0,b3,b7,b8,b9⟩:=info_parts zL;have e2:=hR.lt
 go_in
 go_wp2_with fail
 go_loopg [] 3 (λmm wr=> ∃(ao:Option Addr) (cap j:Nat) (bad':Bool) (ms:List Sig),ms.length<=3/\But (λk=>k=b) w wr/\XrB wr b s j bad' (.slice a0 n cap0) (.slice ao ms.length cap) v2/\TmV wr w.heap.size (.slice ao ms.length cap) ms/\Hid (xx s n R mm ms j bad'))
 case atStart=>exact⟨none,0,i,bad,[],by simp,bf _ _,hR,cR _ _ _ _,b0.out⟩
 case round=>
  obtain⟨ao,cap,j,bad',ms,b2,M,l,Y,HC⟩:=hrel;have h1:=l.c1;have h0:=l.c0;have b6:=M.size;have e0:=l.lt
  have J: ∀(w1:World),B_ wr w1->(bad'=true\/ ¬ms.length<3\/pk s j=59)-> ∀(x:World),But (· =b) w1 x->XrB x b s (tkP s 59 j bad').1 (tkP s 59 j bad').2 (.slice a0 n cap0) (.slice ao ms.length cap) v2->
    But (λk=>k=b) w x/\ ∃v1 ms j bad',XrB x b s j bad' (.slice a0 n cap0) v1 v2/\TmV x base v1 ms/\ms.length<=3/\((bad'=false/\R= .ok (ms,j))\/(bad'=true/\R= .error j)):=by
   intro w1 h1 h2 x h3 h4;have H:But (· =b) wr x:=(h1.mono (λ_ _ h=>h.elim)).trans h3;exact⟨M.trans H,_,ms,_,_,h4,ie (Y.but H (λg e cur _ _ hg h=>by omega)) hbase,b2,HC.out.fin h2⟩
  have HF:=hid J;clear J
  by_cases hlt:ms.length<3
  .have b4:(ms.length:Int)<3:=by omega
   by_cases hgo:bad'=false/\pk s j≠59
   .obtain⟨rfl,P⟩:=hgo;have C:(!false&& !decide (pk s j=59))=true:=by simp[P]
    have c:=d6 b s j false _ _ v2 wr 59 l;rw[C]at c;have L:=hid c;obtain⟨m',e4,T⟩:=HC.out.next hlt P;have q:=hid T;clear C c P HC HF T;go_wp2_with fail;refine L.out.mono ?_;rintro en w1 ⟨rfl,m,rfl⟩;go_wp2_with fail;refine(oW b s j false _ _ v2 (wr.drewN m) n hn hs (l.drewN m)).mono ?_;rintro en w1 ⟨rfl,Q,z⟩;revert q z;generalize tyX s n j false=Y1;intro q z;obtain⟨c1,j1,E⟩:=Y1;simp only at z;go_wp2_with fail;refine(oW b s j1 E _ _ v2 w1 n hn hs z).mono ?_;rintro en x ⟨rfl,v,d⟩;revert q d;dsimp only;generalize tyX s n j1 E=Y2;intro q d;obtain⟨c2,j2,F⟩:=Y2;simp only at d;go_wp2_with fail;refine(eJ b s j2 F _ _ v2 x 46 (by decide) hs d).mono ?_
    rintro en W ⟨rfl,y,r⟩;revert q r;dsimp only;generalize tkP s 46 j2 F=Y3;intro q r;obtain⟨j3,G⟩:=Y3;simp only at r;have I:But (· =b) wr W:=(((aH _ _ _).trans Q).trans v).trans y;have S:But (· =b) w W:=M.trans I;have O:W.ownsRow w.heap.size 243 2 (.slice ao ms.length cap) ms.length (dj ms):=Y.but I (λg e cur _ _ hg h=>by omega);have e1:=r.c1;have g1:=r.fz 1;have bltW:=r.lt;have ab:(Value.slice ao ms.length cap).ownBlock≠some b:=λh=>by have:=aw O _ h;omega
    have c8:But (λk=>(Value.slice ao ms.length cap).ownBlock=some k) W W.drew:=aA _ _;have c9:=S.size;clear h0 h1 z d Q v y;go_wp2_with (at_builtin;refine wpList_append_lies _ rfl _ _ _ rfl w.heap.size 243 i0 _ 2 2 (by kernel_rfl) b3 b7 b8 b9 rfl (by omega) _ ms.length (dj ms) rfl (O.alloc _) ⟨W.heap.size,0,none⟩ 1 1 [.int .u8 c1.toNat,.int .u8 c2.toNat] rfl rfl (iu (cs:=#[.int .u8 c1.toNat,.int .u8 c2.toNat]) (t:=243) (fr:=(0,0)) (aO W _)) (by simp[Value.oneCell']) (by omega) (by unfold maxLen;omega) (by omega) (by simp;omega) (W.heap.size+1) (by simp) ?_);intro gg a w3 f D b1 b5;have B:But (λk=>(Value.slice ao ms.length cap).ownBlock=some k) W w3:=(aa _ _ _).trans (a8 D)
    have y0:=(B.cell (p:=⟨b,1,none⟩) bltW ab).trans e1;have y1:=(B.frozen (p:=⟨b,1,none⟩) bltW ab).trans g1;have e3:=aw f gg rfl;have a1:=(r.but B ab).set1 (.slice (some ⟨gg,0,none⟩) (ms.length+1) a)
    have y:But (· =b) w (w3.setCell ⟨b,1,none⟩ (.slice (some ⟨gg,0,none⟩) (ms.length+1) a)):=
     (S.next B (λk hk h=>by have:=aw O k h;omega)).trans (aj _ _ _ _)
    have Z:=ag f (aj w3 b 1 (.slice (some ⟨gg,0,none⟩) (ms.length+1) a)) (λg hg h=>by have:=aw f g hg;omega)
    have X:TmV (w3.setCell ⟨b,1,none⟩ (.slice (some ⟨gg,0,none⟩) (ms.length+1) a)) w.heap.size (.slice (some ⟨gg,0,none⟩) (ms++ [Sig.mk c1 c2]).length a) (ms++ [Sig.mk c1 c2]):=by
     unfold TmV;rw[mK,aN];exact Z
    have a2:XrB (w3.setCell ⟨b,1,none⟩ (.slice (some ⟨gg,0,none⟩) (ms.length+1) a)) b s j3 G (.slice a0 n cap0) (.slice (some ⟨gg,0,none⟩) (ms++ [Sig.mk c1 c2]).length a) v2:=by
     rw[aN];exact a1
    have a6:=hid a2;have a5:=hid X;have a4:=hid y;clear Z a1 a2 X y B D b1 f e1 g1;go_wp2_with fail
    go_roundg m'
    case measure=>omega
    case rel=>exact⟨_,a,j3,G,ms++ [Sig.mk c1 c2],by simp;omega,a4.out,a6.out,a5.out,q.out⟩
   .have C:(!bad'&& !decide (pk s j=59))=false:=by
     cases bad' with
     |true=>rfl
     |false=>
      by_cases h:pk s j=59
      .simp[h]
      .exact absurd ⟨rfl,h⟩ hgo
    have hx:bad'=true\/ ¬ms.length<3\/pk s j=59:=by
     cases bad' with
     |true=>exact Or.inl rfl
     |false=>
      right;right
      by_cases h:pk s j=59
      .exact h
      .exact absurd ⟨rfl,h⟩ hgo
    have HX:=hid hx;have c:=d6 b s j bad' _ _ v2 wr 59 l;rw[C]at c;have L:=hid c;clear C c hx hgo HC;go_wp2_with fail;refine L.out.mono ?_;rintro en w1 ⟨rfl,m,rfl⟩;go_wp2_with fail;refine(eJ b s j bad' _ _ v2 _ 59 (by decide) hs (l.drewN m)).mono ?_;rintro en x ⟨rfl,v,d⟩;go_wp2_with fail;go_end0;exact⟨rfl,HF.out _ (aH _ _ _) HX.out x v d⟩
  .have b4: ¬(ms.length:Int)<3:=by omega
   go_wp2_with fail;refine(eJ b s j bad' _ _ v2 _ 59 (by decide) hs l).mono ?_;rintro en x ⟨rfl,v,d⟩;go_wp2_with fail;go_end0;exact⟨rfl,HF.out _ (bf _ _) (Or.inr (Or.inl hlt)) x v d⟩
def TxB (w:World) (b:Nat) (bs:List cZ):Prop:=
 ∃v2,w.cell? ⟨b,2,none⟩=some v2/\b<w.heap.size/\TbV w 0 v2 bs
theorem TxB.but {w w':World} {b:Nat} {bs:List cZ} (h:TxB w b bs) (hb:B_ w w'):TxB w' b bs:=by
 obtain⟨v2,a,hl,c⟩:=h;exact⟨v2,hb.kc a hl,bK hl hb.size,c.but hb (λ_ _ _ _ _ _ h=>h)⟩
theorem TbV.mono {w:World} {base base':Nat} {v:Value} {bs:List cZ} (h:TbV w base v bs) (hb:base'<=base):TbV w base' v bs:=by
 obtain⟨l,b,c,a⟩:=h;exact⟨l,b.mono hb,c,λx hx=>⟨ie (a x hx).1 hb,ie (a x hx).2 hb⟩⟩
theorem TbV.tx {w:World} {base b:Nat} {v:Value} {bs:List cZ} (h:TbV w base v bs) (hc:w.cell? ⟨b,2,none⟩=some v) (hb:b<w.heap.size):TxB w b bs:=
 ⟨v,hc,hb,h.mono (Nat.zero_le _)⟩
def lO (bs:List cZ) (c:UInt8) (m:Nat):Nat->Nat->Int
 |0,_=> -1
 |f+1,k=>match bs[k]? with
  |some x=>if x.cls=c/\x.meth=m then(k:Int)else lO bs c m f (k+1)
  |none=> -1
theorem nR (b:Nat) (bs:List cZ) (c:UInt8) (m:Nat) (w:World) (hn:bs.length<=100) (hT:TxB w b bs):
  Calls prog 221 #[.pointer (some ⟨b,0,none⟩),.int .u8 c.toNat,.int .i64 m] w λe w'=>e= .returned (.int .i64 (lO bs c m bs.length 0))/\B_ w w':=by
 obtain⟨v2,E,hl,l,y,hm,G⟩:=hT;obtain⟨ao,cap,rfl⟩:=ay y;have s:l.length=bs.length:=by rw[<-hm];simp
 obtain⟨R,f⟩: ∃R,lO bs c m bs.length 0=R:=⟨_,rfl⟩;rw[f];rw[<-s]at f hn;have n:=hid f;have B:=hid hm;clear f hm s G
 go_in
 go_wp2_with fail
 go_loopg [7] l.length (λmm is wr=> ∃(k:Nat),is= .int .i64 k/\k<=l.length/\k+mm<=l.length/\l.length<=k+mm/\B_ w wr/\Hid (lO bs c m mm k=R))
 case atStart=>exact⟨0,rfl,by omega,by omega,by omega,bf _ _,n.out⟩
 case round=>
  obtain⟨k,rfl,L,v,M,p,i⟩:=hrel;have r:gk=l.length-k:=by omega
  rw[r]at i;clear r v;have F:=p.kc E hl
  by_cases hlt:k<l.length
  .have x:(k:Int)<(l.length:Int):=by omega
   rw[show l.length-k=(l.length-(k+1))+1 from by omega]at i;have t:=aG hlt;have q:bs[k]?=some l[k].1:=by rw[<-B.out,cV,t];rfl
   obtain⟨g,H,I,J,a⟩:=aE (ag y p (λ_ _ h=>h)) (by omega);have z:wr.cell? ⟨g,k*5,none⟩=some (.int .u8 l[k].1.cls.toNat):=a _ _ (dr (k:=0) t (by omega));have A:wr.cell? ⟨g,k*5+1,none⟩=some (.int .i64 l[k].1.meth):=a _ _ (dr (k:=1) t (by omega));have d:=i.out;simp only[lO,q]at d;revert z A d;generalize l[k].1=X;intro z A d;subst H;clear t q a i n
   by_cases h1:X.cls=c
   .have C:((X.cls.toNat:Int)==(c.toNat:Int))=true:=by rw[h1];simp
    by_cases h2:X.meth=m
    .have D:((X.meth:Int)==(m:Int))=true:=by rw[h2];simp
     rw[if_pos ⟨h1,h2⟩]at d;subst d;clear h1 h2;go_wp2_with fail;go_ret;exact⟨rfl,p⟩
    .have D:((X.meth:Int)==(m:Int))=false:=by rw[eu];omega
     rw[if_neg (λh=>h2 h.2)]at d;have j:=hid d;clear h1 h2 d;go_wp2_with fail
     go_roundg (l.length-(k+1))
     case measure=>omega
     case rel=>exact⟨k+1,by simp,by omega,by omega,by omega,p,j.out⟩
   .have C:((X.cls.toNat:Int)==(c.toNat:Int))=false:=by rw[eu];intro h;exact h1 (bJ (by omega))
    rw[if_neg (λh=>h1 h.1)]at d;have j:=hid d;clear h1 d;go_wp2_with fail
    go_roundg (l.length-(k+1))
    case measure=>omega
    case rel=>exact⟨k+1,by simp,by omega,by omega,by omega,p,j.out⟩
  .have x: ¬(k:Int)<(l.length:Int):=by omega
   rw[show l.length-k=0 from by omega]at i;have d: -1=R:=i.out;subst d;clear i n;go_wp2_with fail;go_ret;exact⟨rfl,p⟩
def jO (cs:List cd) (bs:List cZ) (m:Nat):Nat->UInt8->Int
 |0,_=> -1
 |f+1,c=>if c.toNat=45 then-1 else if 0<=lO bs c m bs.length 0 then lO bs c m bs.length 0 else jO cs bs m f (kR cs c)
theorem vC (b:Nat) (cs:List cd) (bs:List cZ) (c:UInt8) (m:Nat) (w:World) (hn:cs.length<=100) (hnb:bs.length<=100) (hC:TxC w b cs) (hT:TxB w b bs):
  Calls prog 224 #[.pointer (some ⟨b,0,none⟩),.int .u8 c.toNat,.int .i64 m] w λe w'=>e= .returned (.int .i64 (jO cs bs m cs.length c))/\B_ w w':=by
 obtain⟨R,q⟩: ∃R,jO cs bs m cs.length c=R:=⟨_,rfl⟩;rw[q];have z:=hC;obtain⟨v0,l,y,hl,D,hm,G⟩:=z;obtain⟨ao,cap,rfl⟩:=ay D;have t:l.length=cs.length:=by rw[<-hm];simp
 rw[t]at y;clear hm G D t;have j:=hid q;clear q;obtain⟨n,f⟩: ∃n,cs.length=n:=⟨_,rfl⟩;have E:=hid f;rw[f]at y hn;rw[f]at j;clear f
 go_in
 go_wp2_with fail
 go_loopg [7,8] n (λmm ls is wr=> ∃(x:UInt8) (k:Nat),ls= .int .u8 x.toNat/\is= .int .i64 k/\k<=n/\k+mm<=n/\n<=k+mm/\B_ w wr/\Hid (jO cs bs m mm x=R))
 case atStart=>exact⟨c,0,rfl,rfl,by omega,by omega,by omega,bf _ _,j.out⟩
 case round=>
  obtain⟨x,k,rfl,rfl,H,A,I,p,h⟩:=hrel;have s:gk=n-k:=by omega
  rw[s]at h;clear s A;have F:=p.kc y hl;clear j
  by_cases hlt:k<n
  .have B:(k:Int)<(n:Int):=by omega
   rw[show n-k=(n-(k+1))+1 from by omega]at h;have a:=h.out;simp only[jO]at a;clear h
   by_cases h45:x.toNat=45
   .rw[if_pos h45]at a;subst a;have e:((x.toNat:Int)==45)=true:=by rw[aX];omega
    have e':((x.toNat:Int)!=45)=false:=by simp[bne,e]
    have v:(x.toNat:Int)=45:=by omega
    have J:=hid v;clear h45 v;go_wp2_with fail;go_ret;exact⟨rfl,p⟩
   .rw[if_neg h45]at a;have e:=tf x.toNat 45 (by omega);have e':((x.toNat:Int)!=45)=true:=by simp[bne,e]
    have v: ¬(x.toNat:Int)=45:=by omega
    have g:=nR b bs x m wr hnb (hT.but p);revert g a;generalize lO bs x m bs.length 0=o;intro a g;have r:=hid g;clear g h45
    by_cases ho:0<=o
    .rw[if_pos ho]at a;subst a;go_wp2_with fail;refine r.out.mono ?_;rintro en w1 ⟨rfl,d⟩;go_wp2_with fail;go_ret;exact⟨rfl,p.trans d⟩
    .rw[if_neg ho]at a;have i:=hid a;clear a;go_wp2_with fail;refine r.out.mono ?_;rintro en w1 ⟨rfl,d⟩;go_wp2_with fail;refine(qA b cs x w1 (by rw[E.out];exact hn) ((hC.but p).but d)).mono ?_;rintro en L ⟨rfl,C⟩;subst C;revert i;generalize kR cs x=px;intro i;go_wp2_with fail
     go_roundg (n-(k+1))
     case measure=>omega
     case rel=>exact⟨px,k+1,rfl,by simp,by omega,by omega,by omega,p.trans d,i.out⟩
  .have B: ¬(k:Int)<(n:Int):=by omega
   rw[show n-k=0 from by omega]at h;have a: -1=R:=h.out;subst a;clear h;go_wp2_with fail;go_ret;exact⟨rfl,p⟩
def i8 (cs:List cd) (bs:List cZ) (n:Nat) (x:XIt):Bool:=
 if x.op.toNat=106\/x.op.toNat=102 then decide (n<=x.num)else if x.op.toNat=99 then decide (jO cs bs x.num cs.length x.cls<0)else false
def itV (x:XIt):Value:= .agg #[.int .i64 x.place,.int .u8 x.op.toNat,.int .u8 x.cls.toNat,.int .i64 x.num,.slice x.pa x.pn x.pc]
theorem rV (b:Nat) (cs:List cd) (bs:List cZ) (x:XIt) (n:Nat) (w:World) (hn:cs.length<=100) (hnb:bs.length<=100) (hC:TxC w b cs) (hT:TxB w b bs):
  Calls prog 170 #[.pointer (some ⟨b,0,none⟩),itV x,.int .i64 n] w λe w'=>e= .returned (.bool (i8 cs bs n x))/\B_ w w':=by
 obtain⟨pl,op,cl,nu,pa,pn,pc⟩:=x;unfold itV
 by_cases h106:op.toNat=106
 .have hc:op=106:=bJ h106;subst hc;rw[show i8 cs bs n ⟨pl,106,cl,nu,pa,pn,pc⟩=decide (n<=nu)from by simp[i8]]
  by_cases hle:(n:Int)<=(nu:Int)
  .rw[show decide (n<=nu)=true from by simp;omega]
   go_in
   go_wp2_with fail;go_ret;exact⟨rfl,aa _ _ _⟩
  .rw[show decide (n<=nu)=false from by simp;omega]
   go_in
   go_wp2_with fail;go_ret;exact⟨rfl,aa _ _ _⟩
 by_cases h102:op.toNat=102
 .have hc:op=102:=bJ h102;subst hc;rw[show i8 cs bs n ⟨pl,102,cl,nu,pa,pn,pc⟩=decide (n<=nu)from by simp[i8]]
  by_cases hle:(n:Int)<=(nu:Int)
  .rw[show decide (n<=nu)=true from by simp;omega]
   go_in
   go_wp2_with fail;go_ret;exact⟨rfl,aa _ _ _⟩
  .rw[show decide (n<=nu)=false from by simp;omega]
   go_in
   go_wp2_with fail;go_ret;exact⟨rfl,aa _ _ _⟩
 by_cases h99:op.toNat=99
 .have hc:op=99:=bJ h99;subst hc;rw[show i8 cs bs n ⟨pl,99,cl,nu,pa,pn,pc⟩=decide (jO cs bs nu cs.length cl<0)from by simp[i8]];have a:=λ(wx:World) (h:B_ w wx)=>vC b cs bs cl nu wx hn hnb (hC.but h) (hT.but h)
  revert a;generalize jO cs bs nu cs.length cl=o;intro a;have c:=hid a;clear a
  go_in
  go_wp2_with fail;refine(c.out _ (aa _ _ _)).mono ?_;rintro en w1 ⟨rfl,d⟩;go_wp2_with fail;go_ret;exact⟨rfl,(aa _ _ _).trans d⟩
 rw[show i8 cs bs n ⟨pl,op,cl,nu,pa,pn,pc⟩=false from by simp[i8,h106,h102,h99]];have g:=tf op.toNat 106 (by omega);have f:=tf op.toNat 102 (by omega);have i:=tf op.toNat 99 (by omega);clear h106 h102 h99
 go_in
 go_wp2_with fail;go_ret;exact⟨rfl,aa _ _ _⟩
end
end Go.Proofs.YtpfkkmacakjmbaaGreatDoor
