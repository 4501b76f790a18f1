import Derived.Test.YtpfkkmacakjmbaaGreatDoorP15
set_option maxRecDepth 100000
set_option maxHeartbeats 6400000
set_option linter.unusedSimpArgs false
set_option linter.unusedVariables false
namespace Go.Proofs.YtpfkkmacakjmbaaGreatDoor
section
open Go Go.RowKit Sp
attribute [local go_sem ↓] Go.wp_at_zero Go.wp_at_succ
def dU (s:ByteArray) (n:Nat) (e:UInt8) (most i:Nat) (bad:Bool):Except Nat (List UInt8×Nat):=if bad=true then .error i else tys s n e most [] i
theorem iu (b:Nat) (s:ByteArray) (i:Nat) (bad:Bool) (v0 v1:Value) (v2:RdV) (w:World) (most n:Nat) (e:UInt8) (he:0<e.toNat) (hm:most≤10) (hn:n≤4) (hs:s.size≤2000) (hR:XrB w b s i bad v0 v1 v2):
  Calls Tryz.prog 216 #[.pointer (some ⟨b,0,none⟩),.int .i64 most,.int .i64 n,.int .u8 e.toNat] w fun en w'=>But (· =b) w w'∧ ∃ao cap l j bad',en= .returned (.slice ao l.length cap)∧XrB w' b s j bad' v0 v1 v2∧BtB w' w.heap.size (.slice ao l.length cap) l∧l.length≤most∧
   ((bad'=false∧dU s n e most i bad= .ok (l,j))∨(bad'=true∧dU s n e most i bad= .error j)):=by
 cases bad with
 |false=>
  refine(sT b s i v0 v1 v2 w most n e he hm hn hs hR).mono ?_;rintro en w' ⟨h1,v,l,j,bad',rfl,h3,h4,h5,h6⟩;obtain⟨ao,cap,rfl⟩:=aq h4;exact⟨h1,ao,cap,l,j,bad',rfl,h3,h4,h5,h6⟩
 |true=>
  refine(sX b s i v0 v1 v2 w most n e he hm hs hR).mono ?_;rintro en w' ⟨h1,rfl,h3,h4⟩;exact⟨h1,_,0,[],i,true,rfl,h3,h4,by simp,Or.inr ⟨rfl,rfl⟩⟩
def gy (s:ByteArray) (cs:List Cls) (i:Nat):Except Nat (Cls×Nat):=
 match BB s cs.length i with
 | .error j=> .error j
 | .ok (p,j)=>
  match tys s (cs.length+1) 46 2 [] j with
  | .error l=> .error l
  | .ok (own,l)=> .ok (⟨p,inh cs p++own⟩,l)
theorem xx {s:ByteArray} {cs:List Cls} {i j:Nat} {p:Int} (h:BB s cs.length i= .ok (p,j)):inh cs p=bX (cs.map toX) (pk s i)∧(if p<0 then 45 else UInt8.ofNat (65+p.toNat))=pk s i:=by
 obtain⟨_,h1|h1⟩:=oO h
 ·obtain⟨rfl,h2⟩:=h1;have h3:aI cs.length (pk s i)=false:=by simp[aI,h2]
  refine⟨by simp[inh,bX,h3],?_⟩;rw[if_pos (by omega)];exact UInt8.toNat_inj.1 h2.symm
 ·obtain⟨_,h2,rfl⟩:=h1;have a0:=h2;simp only[aI,Bool.and_eq_true,decide_eq_true_eq]at a0;have a1:(pk s i).toNat<256:=(pk s i).toNat_lt;refine⟨?_,?_⟩
  ·unfold inh bX;rw[if_neg (by omega),List.length_map,if_pos h2,List.getElem?_map,Int.toNat_natCast]
   cases cs[(pk s i).toNat-65]?<;>rfl
  ·rw[if_neg (by omega)]
   apply UInt8.toNat_inj.1
   simp;omega
theorem xy {s:ByteArray} {cs:List Cls} {i:Nat} {own:List UInt8} {j:Nat} {bad':Bool} (P:UInt8×Nat×Bool) (hP:paX s cs.length i false=P)
  (hT:(bad'=false∧dU s (cs.length+1) 46 2 P.2.1 P.2.2= .ok (own,j))∨(bad'=true∧dU s (cs.length+1) 46 2 P.2.1 P.2.2= .error j)):
  (bad'=false∧ ∃c,gy s cs i= .ok (c,j)∧toX c=⟨P.1,bX (cs.map toX) P.1++own⟩)∨(bad'=true∧gy s cs i= .error j):=by
 unfold paX at hP
 by_cases hg:(pk s i).toNat=45∨aI cs.length (pk s i)=true
 ·rw[if_pos ⟨rfl,hg⟩]at hP;subst hP
  have hp: ∃p,BB s cs.length i= .ok (p,i+1):=by
   unfold BB dH
   by_cases h45:(pk s i).toNat=45
   ·exact⟨-1,by rw[if_pos h45]⟩
   ·rcases hg with h|h
    ·exact absurd h h45
    ·exact⟨_,by rw[if_neg h45,if_pos h]⟩
  obtain⟨p,hp⟩:=hp;obtain⟨h1,h2⟩:=xx hp;simp only[dU,Bool.false_eq_true,if_false]at hT;unfold gy;simp only[hp];rcases hT with⟨h3,h4⟩ | ⟨h3,h4⟩
  ·left
   refine⟨h3,?_⟩;simp only[h4];exact⟨_,rfl,by simp only[toX,h1,h2]⟩
  ·right
   refine⟨h3,?_⟩;simp only[h4]
 ·rw[if_neg (fun h=>hg h.2)]at hP;subst hP;simp only[dU,if_true]at hT
  have hp:BB s cs.length i= .error i:=by
   have a0:=not_or.1 hg;unfold BB dH;rw[if_neg a0.1,if_neg a0.2]
  right
  unfold gy;simp only[hp];rcases hT with⟨_,h⟩ | ⟨h,h'⟩
  ·cases h
  ·cases h'
   exact⟨h,rfl⟩
theorem rn {cs:List Cls} (hw:WfC cs) (hn:cs.length≤4) (c:UInt8):(bX (cs.map toX) c).length≤2*cs.length:=by
 unfold bX
 split
 ·rw[List.getElem?_map]
  cases hc:cs[c.toNat-65]? with
  |none=>simp
  |some x=>
   have h1:=(List.getElem?_eq_some_iff.1 hc).1;have h2:=(hw _ _ hc).2.2.1;simp[toX];omega
 ·simp
theorem mL (b base:Nat) (s:ByteArray) (i:Nat) (v0 v1:Value) (v2:RdV) (w:World) (SC:List Cls) (hw:WfC SC) (hn:SC.length≤3) (hs:s.size≤2000) (hR:XrB w b s i false v0 v1 v2) (hC:TcV w base v0 (SC.map toX)) (hb:b<base) (hbase:base≤w.heap.size):
  Calls Tryz.prog 164 #[.pointer (some ⟨b,0,none⟩)] w fun en w'=>But (· =b) w w'∧ ∃par ao cap fl j bad',en= .returned (.agg #[.int .u8 (UInt8.toNat par),.slice ao (List.length fl) cap])∧XrB w' b s j bad' v0 v1 v2∧BtB w' w.heap.size (.slice ao fl.length cap) fl∧fl.length≤10∧
   ((bad'=false∧ ∃c,gy s SC i= .ok (c,j)∧toX c=⟨par,fl⟩)∨(bad'=true∧gy s SC i= .error j)):=by
 obtain⟨i0,l3,m4,m5,n0⟩:=info_parts io;obtain⟨ac,capc,m3⟩:=hC.len;subst m3;simp only[List.length_map]at hR hC⊢;have h0:=hR.c0;have n2:=hR.lt;have d6:SC.length+1≤4:=by omega
 have HK:=hid (fun(w':World) (h:But (· =b) w w')=>hC.but h (fun g e cur _ _ hg he=>by omega));have j0:(SC.map toX).length=SC.length:=by simp
 have f4:=hid j0;clear j0 hC;obtain⟨n,e8⟩: ∃n,SC.length=n:=⟨_,rfl⟩;have h9:=hid (fun c=>rn hw (by omega) c);have a7:=hid (fun(own:List UInt8) (j:Nat) (bad':Bool)=>xy (s:=s) (cs:=SC) (i:=i) (own:=own) (j:=j) (bad':=bad') (paX s SC.length i false) rfl);rw[e8]at a7 h9 f4;rw[e8]at h0 hR d6 HK;simp only[e8];clear e8 hw hn
 go_in
 go_wp2_with fail;have e3:But (· =b) w (w.alloc (Obj.cells #[Value.int IntKind.u8 0,Value.slice none 0 0] 240)):=But.alloc _ _ _;have h2:XrB (w.alloc (Obj.cells #[Value.int IntKind.u8 0,Value.slice none 0 0] 240)) b s i false (.slice ac n capc) v1 v2:=hR.but (But.alloc (fun _=>False) _ _) (fun h=>h);have b4:=heap_alloc_new w (Obj.cells #[Value.int IntKind.u8 0,Value.slice none 0 0] 240);clear h0;revert e3 h2 b4;generalize (w.alloc (Obj.cells #[Value.int IntKind.u8 0,Value.slice none 0 0] 240))=W0;intro e3 h2 b4;refine(rh b s i false v1 v2 W0 n capc ac (by omega) hs h2).mono ?_;rintro en w1 ⟨rfl,f8,e6⟩
 revert a7 e6;generalize paX s n i false=Y;intro a7 e6;obtain⟨par,i1,f5⟩:=Y;simp only at e6;go_wp2_with fail;refine(iu b s i1 f5 _ v1 v2 w1 2 (n+1) 46 (by decide) (by omega) d6 hs e6).mono ?_;rintro en w2 ⟨g0,k0,f6,own,j2,a1,rfl,i6,g6,n6,i7⟩;have j4:=hid (a7.out own j2 a1 i7);clear a7 i7;go_wp2_with fail;have b0:But (· =b) w w2:=(e3.trans f8).trans g0;have e4:But (· =b) w (w2.alloc (.cells #[] 5)):=b0.trans (But.alloc _ _ _);have hE:=BtB.empty w2;have e7:=i6.but (But.alloc (fun _=>False) w2 (.cells #[] 5)) (fun h=>h);have g7:=g6.but (But.alloc (fun _=>False) w2 (.cells #[] 5)) (fun _ _ h=>h);have m2:=b0.size
 have m0:=e3.size;have l6:=f8.size;have m1:=g0.size;have h1:=fun g hg=>aS g6 g hg
 have n3:=ae b4;have j1:=((But.alloc (fun _=>False) w2 (.cells #[] 5)).block w.heap.size (by omega) (fun h=>h)).trans ((g0.block w.heap.size (by omega) (by omega)).trans ((f8.block w.heap.size (by omega) (by omega)).trans b4));have e9:=hid j1;clear j1 b4;have a5:w2.heap.size≤(w2.alloc (.cells #[] 5)).heap.size:=by simp
 clear i6 g6;revert e4 hE e7 g7 a5 e9;generalize (w2.alloc (.cells #[] 5))=w3;intro e4 hE e7 g7 e9 a5;have HX:=hid (fun(wx:World) (h:But (· =b) w wx) (h':XrB wx b s j2 a1 (.slice ac n capc) v1 v2)=>(HK.out wx h).tx h'.c0 h'.lt);have h4:=pA b (SC.map toX) par w3 (by rw[f4.out];omega) (HX.out w3 e4 e7);have l2:=h9.out par;obtain⟨FX,g5⟩: ∃FX,bX (SC.map toX) par=FX:=⟨_,rfl⟩;rw[g5]at h4 l2;have i3:=hid g5;have h8:=hid h4;clear g5 h4;refine h8.out.mono ?_;rintro en wx ⟨rfl,e0⟩;rw[e0];clear e0 wx h8;go_wp2_with fail
 go_loopg [6,8] FX.length (fun mm vs is wr=> ∃(ao:Option Addr) (cap k:Nat) (t:List UInt8),vs= .slice ao t.length cap∧is= .int .i64 k∧k≤FX.length∧k+mm≤FX.length∧FX.length≤k+mm∧w2.heap.size≤wr.heap.size∧But (· =b) w wr∧XrB wr b s j2 a1 (.slice ac n capc) v1 v2∧BtB wr w2.heap.size (.slice ao t.length cap) t∧BtB wr w1.heap.size (.slice k0 own.length f6) own∧Hid (wr.heap[w.heap.size]?=some (Obj.cells #[Value.int IntKind.u8 0,Value.slice none 0 0] 240))∧t.length≤k∧Hid (FX.take k=t))
 case atStart=>exact⟨_,0,0,[],rfl,rfl,by omega,by omega,by omega,a5,e4,e7,hE,g7,e9,by simp,rfl⟩
 case round=>
  obtain⟨ao,cap,k,t,rfl,rfl,n4,l4,n5,h7,e5,h3,b1,i5,f2,o2,HA⟩:=hrel;clear l4
  by_cases hlt:k<FX.length
  ·have e1:(k:Int)<(FX.length:Int):=by omega
   have b3:=pB b (SC.map toX) par k wr (by rw[f4.out];omega) (HX.out wr e5 h3);rw[i3.out,show bH FX k=FX.getD k 0 from by unfold bH;rw[if_pos hlt]]at b3
   have f3:Hid (FX.take (k+1)=t++ [FX.getD k 0]):=by
    show _=_
    rw[List.take_succ_eq_append_getElem hlt,HA.out];simp[List.getD,hlt]
   revert b3 f3;generalize FX.getD k 0=z;intro b3 f3;have i2:=hid b3;clear b3 HA;go_wp2_with fail;refine i2.out.mono ?_;rintro en wx ⟨rfl,e0⟩;rw[e0];clear e0 wx i2;have a6:wr.ownsRow w2.heap.size 5 1 (.slice ao t.length cap) t.length (aJ t):=b1;have o1:=e5.size;have n7:=aj a6;go_wp2_with (at_builtin;refine wpList_append_lies _ rfl _ _ _ rfl w2.heap.size 5 i0 _ 1 1 (by kernel_rfl) l3 m4 m5 n0 rfl (by omega) _ t.length (aJ t) rfl (a6.alloc _) ⟨wr.heap.size,0,none⟩ 1 1 [.int .u8 z.toNat] rfl rfl (World.news_of_block (cs:=#[.int .u8 z.toNat]) (t:=5) (fr:=(0,0)) (heap_alloc_new wr _)) (by simp[Value.oneCell']) (by omega) (by unfold maxLen;omega) (by omega) (by simp;omega) (wr.heap.size+1) (by simp) ?_)
   intro gg a8 w4 b6 b5 n1 l5;have b2:But (fun k'=>(Value.slice ao t.length cap).ownBlock=some k') wr w4:=(But.alloc _ _ _).trans (aX b5);have g3:But (· =b) w w4:=e5.next b2 (fun k' hk' h=>absurd (aj a6 k' h) (by omega));have l0:=h3.but b2 (fun h=>by have:=aj a6 _ h;omega)
   have g2:BtB w4 w2.heap.size (.slice (some ⟨gg,0,none⟩) (t++ [z]).length a8) (t++ [z]):=by
    unfold BtB;rw[List.length_append,aJ,List.map_append];exact b6
   have k9:=i5.but b2 (fun g hg h=>by have:=aj a6 _ h;have:=h1 g hg;omega);go_wp2_with fail
   go_roundg (FX.length-(k+1))
   case measure=>omega
   case rel=>exact⟨_,a8,k+1,t++ [z],by simp,by simp,by omega,by omega,by omega,Nat.le_trans h7 b2.size,g3,l0,g2,k9,(b2.block w.heap.size (by omega) (fun h=>by have:=aj a6 _ h;omega)).trans f2.out,by simp;omega,f3.out⟩
  ·have e1: ¬(k:Int)<(FX.length:Int):=by omega
   have c7:FX=t:=by rw[←HA.out,List.take_of_length_le (by omega)]
   have j7:=hid c7;clear c7 HA;go_wp2_with (at_builtin;refine gv rfl _ _ rfl w2.heap.size w1.heap.size _ _ t own rfl rfl b1 i5 (by omega) (by omega) ?_);intro a3 a0 w5 h5 g1 o0;have g4:But (· =b) w w5:=e5.next g1 (fun k' hk' h=>absurd (aj b1 k' h) (by omega));have l1:=h3.but g1 (fun h=>by have:=aj b1 _ h;omega);have a4:=(g1.block w.heap.size (by omega) (fun h=>by have:=aj b1 _ h;omega)).trans f2.out;have q0:=ce0 a4;have q1:=ce1 a4;have f0:w5.frozen? ⟨w.heap.size,0,none⟩=false:=frozen_of_row w5 w.heap.size 0 _ _ a4;have f1:w5.frozen? ⟨w.heap.size,1,none⟩=false:=frozen_of_row w5 w.heap.size 1 _ _ a4
   have j3:=ae a4;have j5:=hid a4;clear a4 f2
   have a2: ∀w6,But (· =w.heap.size) w5 w6→But (· =b) w w6∧ ∃par' ao cap fl j bad',Ending.returned (.agg #[.int .u8 par.toNat,.slice a3 ((t++own).length:Nat) a0])= .returned (.agg #[.int .u8 (UInt8.toNat par'),.slice ao (List.length fl) cap])∧XrB w6 b s j bad' (.slice ac n capc) v1 v2∧BtB w6 w.heap.size (.slice ao fl.length cap) fl∧fl.length≤10∧
     ((bad'=false∧ ∃c,gy s SC i= .ok (c,j)∧toX c=⟨par',fl⟩)∨(bad'=true∧gy s SC i= .error j)):=by
    intro w6 h6;have i4:BtB w5 w2.heap.size (.slice a3 (t++own).length a0) (t++own):=by first|exact h5| (rw[List.length_append];exact h5)
    refine⟨g4.next h6 (fun k hk h=>by omega),par,a3,a0,t++own,j2,a1,rfl,l1.but h6 (by omega),BtB.but (World.ownsRow.mono i4 (by omega)) h6 (fun g hg h=>by have:=aj i4 g hg;omega),by simp;omega,?_⟩;rw[←j7.out,←i3.out];exact j4.out
   have HP:=hid a2;clear a2;go_wp2_with fail;have k3:=heap_setCell_same w5 w.heap.size 0 _ _ (.int .u8 par.toNat) j5.out;have e2:=heap_setCell_same _ w.heap.size 1 _ _ (.slice a3 (t.length+own.length) a0) k3;have f7:=HP.out _ ((But.setB w5 w.heap.size 0 (.int .u8 par.toNat)).trans (But.setB _ w.heap.size 1 (.slice a3 (t.length+own.length) a0)));revert e2 f7;generalize ((w5.setCell ⟨w.heap.size,0,none⟩ (.int .u8 par.toNat)).setCell ⟨w.heap.size,1,none⟩ (.slice a3 (t.length+own.length) a0))=w6;intro e2 f7;have r0:=ce0 e2;have r1:=ce1 e2;exact bodyPost_ret (v:= .agg #[.int .u8 par.toNat,.slice a3 ((t++own).length:Nat) a0]) (by simp[results,Tryz.results164,go_sem,r0,r1]) rfl f7
theorem uX {s:ByteArray} {k:Nat} {cs:List Cls} {i:Nat} (h:(pk s i).toNat≠59):di s (k+1) cs i=match gy s cs i with
  | .error j=> .error j
  | .ok (c,j)=>di s k (cs++ [c]) j:=by
 unfold gy;rw[di,if_neg h]
 cases BB s cs.length i with
 |error j=>rfl
 |ok x=>
  obtain⟨p,j⟩:=x;simp only
  cases tys s (cs.length+1) 46 2 [] j with
  |error l=>rfl
  |ok y=>rfl
theorem zi {s:ByteArray} {cs:List Cls} {i j:Nat} {c:Cls} (hw:WfC cs) (h:gy s cs i= .ok (c,j)):WfC (cs++ [c]):=by
 unfold gy at h
 cases hp:BB s cs.length i with
 |error j=>rw[hp]at h;cases h
 |ok x=>
  obtain⟨p,j⟩:=x;rw[hp]at h;simp only at h
  cases ht:tys s (cs.length+1) 46 2 [] j with
  |error l=>rw[ht]at h;cases h
  |ok y=>
   obtain⟨own,l⟩:=y;rw[ht]at h
   cases h
   exact j9 hw hp ht
def uY (s:ByteArray) (R:Except Nat (List Cls×Nat)) (mm:Nat) (cs:List bz) (j:Nat) (bad:Bool):Prop:=
 (bad=false∧ ∃SC,cs=SC.map toX∧WfC SC∧SC.length+mm=4∧di s mm SC j=R)∨(bad=true∧mm=0∧R= .error j)
theorem jS {s:ByteArray} {c:UInt8} {j:Nat} (h:pk s j=c):tkP s c j false=(j+1,false):=by unfold tkP;rw[if_pos ⟨rfl,h⟩]
theorem dQ {s:ByteArray} {c:UInt8} {j:Nat} {bad:Bool} (h:bad=true∨pk s j≠c):tkP s c j bad=(j,true):=by
 unfold tkP;rw[if_neg];rintro⟨h1,h2⟩;rcases h with h|h
 ·rw[h]at h1;cases h1
 ·exact h h2
theorem u8n {c:UInt8} {n:Nat} (hn:n<256):c.toNat=n↔c=UInt8.ofNat n:=by
 constructor
 ·intro h
  apply UInt8.toNat_inj.1
  rw[h];simp;omega
 ·intro h;rw[h];simp;omega
theorem uY.fin {s:ByteArray} {R:Except Nat (List Cls×Nat)} {mm:Nat} {cs:List bz} {j:Nat} {bad:Bool} (h:uY s R mm cs j bad) (hx:bad=true∨ ¬cs.length<4∨pk s j=59):
  ((tkP s 59 j bad).2=false∧ ∃SC,R= .ok (SC,(tkP s 59 j bad).1)∧cs=SC.map toX∧WfC SC)∨((tkP s 59 j bad).2=true∧R= .error (tkP s 59 j bad).1):=by
 rcases h with⟨rfl,SC,h1,h2,h3,h4⟩ | ⟨rfl,_,h2⟩
 ·by_cases hp:pk s j=59
  ·left
   rw[jS hp];refine⟨rfl,SC,?_,h1,h2⟩;rw[←h4]
   cases mm<;>simp[di,hp]
  ·right
   rw[dQ (Or.inr hp)];refine⟨rfl,?_⟩
   have hm:mm=0:=by
    rcases hx with h|h|h
    ·cases h
    ·rw[h1,List.length_map]at h;omega
    ·exact absurd h hp
   subst hm;rw[←h4];have:(pk s j).toNat≠59:=fun h=>hp ((u8n (by decide)).1 h)
   simp[di,this]
 ·right
  rw[dQ (Or.inl rfl)];exact⟨rfl,h2⟩
theorem uY.next {s:ByteArray} {R:Except Nat (List Cls×Nat)} {mm:Nat} {cs:List bz} {j:Nat} (h:uY s R mm cs j false) (hl:cs.length<4) (hp:pk s j≠59):
  ∃SC,cs=SC.map toX∧WfC SC∧SC.length≤3∧ ∀par fl j' bad',((bad'=false∧ ∃c,gy s SC j= .ok (c,j')∧toX c=⟨par,fl⟩)∨(bad'=true∧gy s SC j= .error j'))→
   ∃m',m'<mm∧uY s R m' (cs++ [⟨par,fl⟩]) j' bad':=by
 rcases h with⟨_,SC,h1,h2,h3,h4⟩ | ⟨h,_⟩
 ·have a0:SC.length≤3:=by rw[h1,List.length_map]at hl;omega
  refine⟨SC,h1,h2,a0,?_⟩;intro par fl j' bad' hr;obtain⟨f,rfl⟩: ∃f,mm=f+1:=⟨mm-1,by omega⟩;have a1:(pk s j).toNat≠59:=fun h=>hp ((u8n (by decide)).1 h)
  rw[uX a1]at h4;rcases hr with⟨rfl,c,e1,e2⟩ | ⟨rfl,e1⟩
  ·rw[e1]at h4;refine⟨f,by omega,Or.inl ⟨rfl,SC++ [c],?_,zi h2 e1,by simp;omega,h4⟩⟩;rw[h1,List.map_append,←e2]
   rfl
  ·rw[e1]at h4;exact⟨0,by omega,Or.inr ⟨rfl,rfl,h4.symm⟩⟩
 ·cases h
theorem uZ:(Tryz.prog.info? 240).map (fun i=>(i.zero,i.size,i.bytes))=some (some (.agg #[.int .u8 0,.slice none 0 0]),2,32):=by kernel_rfl
theorem gW (b base:Nat) (s:ByteArray) (v1:Value) (v2:RdV) (w:World) (hs:s.size≤2000) (hR:XrB w b s 0 false (.slice none 0 0) v1 v2) (hb:b<base) (hbase:base≤w.heap.size):
  Calls Tryz.prog 98 #[.pointer (some ⟨b,0,none⟩)] w fun en w'=>en= .returned (.tuple #[])∧But (fun k=>k=b∨base≤k) w w'∧ ∃v0 cs j bad',XrB w' b s j bad' v0 v1 v2∧TcV w' base v0 cs∧cs.length≤4∧
   ((bad'=false∧ ∃SC,di s 4 [] 0= .ok (SC,j)∧cs=SC.map toX∧WfC SC)∨(bad'=true∧di s 4 [] 0= .error j)):=by
 obtain⟨R,f0⟩: ∃R,di s 4 [] 0=R:=⟨_,rfl⟩;rw[f0];have h9:=hid f0;clear f0;obtain⟨i0,j2,k9,l0,l1⟩:=info_parts uZ;have l6:=hR.lt
 go_in
 go_wp2_with fail
 go_loopg [] 4 (fun mm wr=> ∃(ao:Option Addr) (cap j:Nat) (bad':Bool) (cs:List bz),cs.length≤4∧But (fun k=>k=b∨base≤k) w wr∧XrB wr b s j bad' (.slice ao cs.length cap) v1 v2∧TcV wr base (.slice ao cs.length cap) cs∧Hid (uY s R mm cs j bad'))
 case atStart=>exact⟨none,0,0,false,[],by simp,But.refl _ _,hR,⟨[],du _ _ _ _,rfl,by simp⟩,Or.inl ⟨rfl,[],rfl,fun j c h=>by simp at h,by simp,h9.out⟩⟩
 case round=>
  obtain⟨ao,cap,j,bad',cs,e3,e7,b0,e1,HC⟩:=hrel;have h0:=b0.c0;have k3:=e7.size;have l5:=b0.lt
  have c7: ∀(w1:World),But (fun _=>False) wr w1→(bad'=true∨ ¬cs.length<4∨pk s j=59)→ ∀(w2:World),But (· =b) w1 w2→XrB w2 b s (tkP s 59 j bad').1 (tkP s 59 j bad').2 (.slice ao cs.length cap) v1 v2→
    But (fun k=>k=b∨base≤k) w w2∧ ∃v0 cs j bad',XrB w2 b s j bad' v0 v1 v2∧TcV w2 base v0 cs∧cs.length≤4∧((bad'=false∧ ∃SC,R= .ok (SC,j)∧cs=SC.map toX∧WfC SC)∨(bad'=true∧R= .error j)):=by
   intro w1 h1 h2 w2 h3 h4;have b5:But (· =b) wr w2:=(h1.mono (fun _ _ h=>h.elim)).trans h3;exact⟨e7.next b5 (fun k _ h=>Or.inl h),_,cs,_,_,h4,e1.but b5 (fun g e cur _ _ hg h=>by omega),e3,HC.out.fin h2⟩
  have HF:=hid c7;clear c7
  by_cases hlt:cs.length<4
  ·have j4:(cs.length:Int)<4:=by omega
   by_cases hgo:bad'=false∧pk s j≠59
   ·obtain⟨rfl,f2⟩:=hgo;have b6:(!false&& !decide (pk s j=59))=true:=by simp[f2]
    have a1:=cA b s j false _ v1 v2 wr 59 b0;rw[b6]at a1;have e5:=hid a1;obtain⟨SC,g6,h5,j0,h7⟩:=HC.out.next hlt f2;have f4:=hid h7;have f5:=hid g6;have f6:=hid h5;clear b6 a1 f2 HC HF h7 g6 h5;go_wp2_with fail;refine e5.out.mono ?_;rintro en w1 ⟨rfl,m,rfl⟩;go_wp2_with fail;have e3:=mL b base s j _ v1 v2 (wr.drewN m) SC f6.out j0 hs (b0.drewN m) (by rw[←f5.out];exact e1.but (But.drewN (fun _=>False) _ _) (fun _ _ _ _ _ _ h=>h)) hb (by show base≤wr.heap.size;omega);refine e3.mono ?_;rintro en w1 ⟨i2,par,a4,cap1,fl,j1,b4,rfl,g4,e2,b3,g7⟩;clear e3;obtain⟨m',m1,f8⟩:=f4.out par fl j1 b4 g7;have h8:=hid f8
    clear g7 f8 f4 f5 f6;go_wp2_with fail;have a2:But (· =b) wr w1:=(But.drewN _ _ _).trans i2;have d6:But (fun k=>k=b∨base≤k) w (w1.alloc (.cells #[.int .u8 par.toNat,.slice a4 fl.length cap1] 240)):=(e7.next a2 (fun k _ h=>Or.inl h)).trans (But.alloc _ _ _);have a7:But (· =b) wr (w1.alloc (.cells #[.int .u8 par.toNat,.slice a4 fl.length cap1] 240)):=a2.trans (But.alloc _ _ _);have a8:=g4.but (But.alloc (fun _=>False) w1 (.cells #[.int .u8 par.toNat,.slice a4 fl.length cap1] 240)) (fun h=>h);have e8:=e2.but (But.alloc (fun _=>False) w1 (.cells #[.int .u8 par.toNat,.slice a4 fl.length cap1] 240)) (fun _ _ h=>h)
    have b2:=heap_alloc_new w1 (.cells #[.int .u8 par.toNat,.slice a4 fl.length cap1] 240);have j7:=a2.size;have i6:=aS e2;have i5:=aj e2;clear h0 e2 g4;revert d6 a8 e8 b2 a7;generalize (w1.alloc (.cells #[.int .u8 par.toNat,.slice a4 fl.length cap1] 240))=W;intro d6 a7 a8 e8 b2;have i4:=e1.but a7 (fun g e cur _ _ hg h=>by omega);obtain⟨l,b3,h6,j3⟩:=i4;have e4:l.length=cs.length:=by rw[←h6];simp
    rw[←e4]at a8 b3 hlt;have e0:=a8.c0;have g0:=a8.fz 0;have bltW:=a8.lt;have gltW:=ae b2;have k0:=ce0 b2;have k1:=ce1 b2
    have f1: ∀g,(Value.slice ao l.length cap).ownBlock=some g→g<wr.heap.size:=by
     obtain⟨l',f7,i1,_⟩:=e1;have:l'.length=cs.length:=by rw[←i1];simp
     rw[e4,←this];rw[←this]at f7;exact aS f7
    have ab:(Value.slice ao l.length cap).ownBlock≠some b:=fun h=>by have:=aj b3 _ h;omega
    have agk:(Value.slice ao l.length cap).ownBlock≠some w1.heap.size:=fun h=>by have:=f1 _ h;omega
    have i7:But (fun k=>(Value.slice ao l.length cap).ownBlock=some k) W W.drew:=But.drew _ _;have l4:base≤W.heap.size:=by have:=d6.size;omega
    have f3:=hid e4;have l2:=hid b2;clear e4 b2;refine aB (But (fun k=>(Value.slice ao l.length cap).ownBlock=some k) W) 9 (by kernel_rfl) ?_
    iterate 7 (refine aG (v:=?_) rfl (by kernel_rfl) (fun _ _ _ h=>h) rfl i7 ?_ ?_;rotate_left;(focus (intro wS h;have q0:=((h.cell (p:=⟨b,0,none⟩) bltW ab).trans e0);have q1:=((h.cell (p:=⟨w1.heap.size,0,none⟩) gltW agk).trans k0);have q2:=((h.cell (p:=⟨w1.heap.size,1,none⟩) gltW agk).trans k1);clear h;go_simp;try rfl));dsimp only[Act.put];try simp only[aK])
    refine ag rfl (by kernel_rfl) ?_;intro KS hKS;go_simp;refine hKS.out _ _ (fun _=>(But.alloc _ _ _).trans (But.drew _ _)) ?_;clear hKS KS;refine ag rfl (by kernel_rfl) ?_;intro KS hKS
    refine step_append_lies _ (by rfl) _ _ _ (by rfl) base 240 i0 _ 2 32 (by kernel_rfl) j2 k9 l0 l1 rfl (by omega) _ l.length (fo l) (by first|rfl| (rw[f3.out];rfl)) ((b3.alloc _).drew)
       ⟨W.heap.size,0,none⟩ 1 1 [.int .u8 par.toNat,.slice a4 fl.length cap1] (by rfl) (by rfl) (World.news_of_block (cs:=#[.int .u8 par.toNat,.slice a4 fl.length cap1]) (t:=240) (fr:=(0,0)) (heap_alloc_new W _)) (by simp[Value.oneCell'])
       (by omega) (by unfold maxLen;omega) (by omega) (by simp;omega) (W.heap.size+1) (by simp) ?_
    intro gg a0 w2 a3 a5 l3 j5;have b1:But (fun k=>(Value.slice ao l.length cap).ownBlock=some k) W w2:=((But.alloc _ _ _).trans (But.drew _ _)).trans (aX a5);refine hKS.out _ _ (fun _=>b1) ?_;clear hKS KS;have y0:=(b1.cell (p:=⟨b,0,none⟩) bltW ab).trans e0;have y1:=(b1.frozen (p:=⟨b,0,none⟩) bltW ab).trans g0;refine ag rfl (by kernel_rfl) ?_;intro KS hKS;go_simp;refine hKS.out _ _ nofun ?_;clear hKS KS;refine ag rfl (by kernel_rfl) ?_;intro KS hKS;go_simp;refine hKS.out _ _ nofun ?_;clear hKS KS;refine ag rfl (by kernel_rfl) ?_;intro KS hKS;go_simp;refine hKS.out _ _ nofun ?_;clear hKS KS;refine ag rfl (by kernel_rfl) ?_
    intro KS hKS;go_simp;refine hKS.out _ _ nofun ?_;clear hKS KS;refine aF rfl (by kernel_rfl) ?_;have m0:=aj a3 gg rfl;have g5:=(a8.but b1 ab).set0 (.slice (some ⟨gg,0,none⟩) (l.length+1) a0)
    have i3:But (fun k=>k=b∨base≤k) w (w2.setCell ⟨b,0,none⟩ (.slice (some ⟨gg,0,none⟩) (l.length+1) a0)):=
     (d6.next b1 (fun k _ h=>Or.inr (aj b3 k h))).next (But.setB _ _ _ _) (fun _ _ h=>Or.inl h)
    have g3:=ah a3 (But.setB w2 b 0 (.slice (some ⟨gg,0,none⟩) (l.length+1) a0)) (fun g hg h=>by have:=aj a3 g hg;omega);have a6:But (fun k=>k=b∨(Value.slice ao l.length cap).ownBlock=some k) W (w2.setCell ⟨b,0,none⟩ (.slice (some ⟨gg,0,none⟩) (l.length+1) a0)):=(b1.mono (fun _ _ h=>Or.inr h)).next (But.setB _ _ _ _) (fun _ _ h=>Or.inl h)
    have g2: ∀x∈l++ [(⟨par,fl⟩,.slice a4 fl.length cap1)],BtB (w2.setCell ⟨b,0,none⟩ (.slice (some ⟨gg,0,none⟩) (l.length+1) a0)) base x.2 x.1.fields:=by
     intro x hx;rcases List.mem_append.1 hx with hx|hx
     ·refine aU (j3 x hx) a6 (fun g cur hh hg h=> ?_);rcases h with h|h
      ·omega
      ·exact eb b3 hh (by decide) h
     ·simp at hx;subst hx;refine aU (World.ownsRow.mono e8 (by show base≤wr.heap.size;omega)) a6 (fun g cur hh hg h=> ?_);rcases h with h|h
      ·omega
      ·exact eb b3 hh (by decide) h
    have g1:TcV (w2.setCell ⟨b,0,none⟩ (.slice (some ⟨gg,0,none⟩) (l.length+1) a0)) base (.slice (some ⟨gg,0,none⟩) (l.length+1) a0) (cs++ [⟨par,fl⟩]):=
     ⟨l++ [(⟨par,fl⟩,.slice a4 fl.length cap1)],by rw[pG,List.length_append];exact g3,by rw[List.map_append,h6];rfl,g2⟩
    clear g2 a6 g3;generalize (w2.setCell ⟨b,0,none⟩ (.slice (some ⟨gg,0,none⟩) (l.length+1) a0))=W3 at*;rw[f3.out]at g5 g1 hlt;clear y0 y1 e0 g0 k0 k1 b1 a5;go_wp2_with fail
    go_roundg m'
    case measure=>omega
    case rel=>exact⟨_,a0,j1,b4,cs++ [bz.mk par fl],by simp;omega,i3,by simpa using g5,by simpa using g1,h8.out⟩
   ·have b6:(!bad'&& !decide (pk s j=59))=false:=by
     cases bad' with
     |true=>rfl
     |false=>
      by_cases h:pk s j=59
      ·simp[h]
      ·exact absurd ⟨rfl,h⟩ hgo
    have hx:bad'=true∨ ¬cs.length<4∨pk s j=59:=by
     cases bad' with
     |true=>exact Or.inl rfl
     |false=>
      right;right
      by_cases h:pk s j=59
      ·exact h
      ·exact absurd ⟨rfl,h⟩ hgo
    have HX:=hid hx;have a1:=cA b s j bad' _ v1 v2 wr 59 b0;rw[b6]at a1;have e5:=hid a1;clear b6 a1 hx hgo HC;go_wp2_with fail;refine e5.out.mono ?_;rintro en w1 ⟨rfl,m,rfl⟩;go_wp2_with fail;refine(dl b s j bad' _ v1 v2 _ 59 (by decide) hs (b0.drewN m)).mono ?_;rintro en w2 ⟨rfl,e6,e9⟩;go_wp2_with fail;go_end0;exact⟨rfl,HF.out _ (But.drewN _ _ _) HX.out w2 e6 e9⟩
  ·have j4: ¬(cs.length:Int)<4:=by omega
   go_wp2_with fail;refine(dl b s j bad' _ v1 v2 _ 59 (by decide) hs b0).mono ?_;rintro en w2 ⟨rfl,e6,e9⟩;go_wp2_with fail;go_end0;exact⟨rfl,HF.out _ (But.refl _ _) (Or.inr (Or.inl hlt)) w2 e6 e9⟩
def kw (s:ByteArray) (n i:Nat) (bad:Bool):Except Nat (List Sig×Nat):=if bad=true then .error i else eF s n 3 [] i
def sY (s:ByteArray) (n:Nat) (R:Except Nat (List Sig×Nat)) (mm:Nat) (ms:List Sig) (j:Nat) (bad:Bool):Prop:=
 (bad=false∧ms.length+mm=3∧eF s n mm ms j=R)∨(bad=true∧R= .error j)
theorem sY.fin {s:ByteArray} {n:Nat} {R:Except Nat (List Sig×Nat)} {mm:Nat} {ms:List Sig} {j:Nat} {bad:Bool} (h:sY s n R mm ms j bad) (hx:bad=true∨ ¬ms.length<3∨pk s j=59):
  ((tkP s 59 j bad).2=false∧R= .ok (ms,(tkP s 59 j bad).1))∨((tkP s 59 j bad).2=true∧R= .error (tkP s 59 j bad).1):=by
 rcases h with⟨rfl,h3,h4⟩ | ⟨rfl,h2⟩
 ·by_cases hp:pk s j=59
  ·left
   rw[jS hp];refine⟨rfl,?_⟩;rw[←h4]
   cases mm<;>simp[eF,hp]
  ·right
   rw[dQ (Or.inr hp)];refine⟨rfl,?_⟩
   have hm:mm=0:=by
    rcases hx with h|h|h
    ·cases h
    ·omega
    ·exact absurd h hp
   subst hm;rw[←h4];have:(pk s j).toNat≠59:=fun h=>hp ((u8n (by decide)).1 h)
   simp[eF,this]
 ·right
  rw[dQ (Or.inl rfl)];exact⟨rfl,h2⟩
theorem xz {s:ByteArray} {n i:Nat} (h:ce n (pk s i)=true):tyX s n i false=(pk s i,i+1,false):=by unfold tyX;rw[if_pos ⟨rfl,h⟩]
theorem sZ {s:ByteArray} {n i:Nat} {bad:Bool} (h:bad=true∨ce n (pk s i)=false): ∃c,tyX s n i bad=(c,i,true):=by
 unfold tyX;rw[if_neg]
 ·exact⟨_,rfl⟩
 ·rintro⟨h1,h2⟩;rcases h with h|h
  ·rw[h]at h1;cases h1
  ·rw[h]at h2;cases h2
theorem sY.next {s:ByteArray} {n:Nat} {R:Except Nat (List Sig×Nat)} {mm:Nat} {ms:List Sig} {j:Nat} (h:sY s n R mm ms j false) (hl:ms.length<3) (hp:pk s j≠59):
  ∃m',m'<mm∧sY s n R m' (ms++ [⟨(tyX s n j false).1,(tyX s n (tyX s n j false).2.1 (tyX s n j false).2.2).1⟩])
   (tkP s 46 (tyX s n (tyX s n j false).2.1 (tyX s n j false).2.2).2.1 (tyX s n (tyX s n j false).2.1 (tyX s n j false).2.2).2.2).1
   (tkP s 46 (tyX s n (tyX s n j false).2.1 (tyX s n j false).2.2).2.1 (tyX s n (tyX s n j false).2.1 (tyX s n j false).2.2).2.2).2:=by
 rcases h with⟨_,h3,h4⟩ | ⟨h,_⟩
 ·obtain⟨f,rfl⟩: ∃f,mm=f+1:=⟨mm-1,by omega⟩;have a1:(pk s j).toNat≠59:=fun h=>hp ((u8n (by decide)).1 h)
  rw[eF,if_neg a1]at h4;unfold tyP lm at h4
  cases h1:ce n (pk s j)with
  |false=>
   obtain⟨c,hc⟩:=sZ (s:=s) (n:=n) (i:=j) (bad:=false) (Or.inr h1);obtain⟨c2,a0⟩:=sZ (s:=s) (n:=n) (i:=j) (bad:=true) (Or.inl rfl);rw[hc];simp only;rw[a0];simp only;rw[dQ (Or.inl rfl)];rw[h1]at h4;exact⟨0,by omega,Or.inr ⟨rfl,h4.symm⟩⟩
  |true=>
   rw[xz h1];simp only;rw[h1]at h4;simp only[if_true]at h4
   cases h2:ce n (pk s (j+1))with
   |false=>
    obtain⟨c2,a0⟩:=sZ (s:=s) (n:=n) (i:=j+1) (bad:=false) (Or.inr h2);rw[a0];simp only;rw[dQ (Or.inl rfl)];rw[h2]at h4;exact⟨0,by omega,Or.inr ⟨rfl,h4.symm⟩⟩
   |true=>
    rw[xz h2];simp only;rw[h2]at h4;simp only[if_true]at h4
    by_cases h5:pk s (j+1+1)=46
    ·rw[jS h5];rw[if_pos h5]at h4;exact⟨f,by omega,Or.inl ⟨rfl,by simp;omega,h4⟩⟩
    ·rw[dQ (Or.inr h5)];rw[if_neg h5]at h4;exact⟨0,by omega,Or.inr ⟨rfl,h4.symm⟩⟩
 ·cases h
theorem u3:(Tryz.prog.info? 243).map (fun i=>(i.zero,i.size,i.bytes))=some (some (.agg #[.int .u8 0,.int .u8 0]),2,2):=by kernel_rfl
theorem gX (b base:Nat) (s:ByteArray) (i:Nat) (bad:Bool) (a0:Option Addr) (n cap0:Nat) (v2:RdV) (w:World) (hs:s.size≤2000) (hn:n≤4) (hR:XrB w b s i bad (.slice a0 n cap0) (.slice none 0 0) v2) (hb:b<base) (hbase:base≤w.heap.size):
  Calls Tryz.prog 99 #[.pointer (some ⟨b,0,none⟩)] w fun en w'=>en= .returned (.tuple #[])∧But (fun k=>k=b) w w'∧ ∃v1 ms j bad',XrB w' b s j bad' (.slice a0 n cap0) v1 v2∧TmV w' base v1 ms∧ms.length≤3∧
   ((bad'=false∧kw s n i bad= .ok (ms,j))∨(bad'=true∧kw s n i bad= .error j)):=by
 obtain⟨R,d6⟩: ∃R,kw s n i bad=R:=⟨_,rfl⟩;rw[d6]
 have f6:sY s n R 3 [] i bad:=by
  unfold kw at d6
  cases bad with
  |true=>exact Or.inr ⟨rfl,d6.symm⟩
  |false=>exact Or.inl ⟨rfl,rfl,d6⟩
 have g2:=hid f6;clear d6 f6;obtain⟨i0,g5,h6,h7,h8⟩:=info_parts u3;have i3:=hR.lt
 go_in
 go_wp2_with fail
 go_loopg [] 3 (fun mm wr=> ∃(ao:Option Addr) (cap j:Nat) (bad':Bool) (ms:List Sig),ms.length≤3∧But (fun k=>k=b) w wr∧XrB wr b s j bad' (.slice a0 n cap0) (.slice ao ms.length cap) v2∧TmV wr w.heap.size (.slice ao ms.length cap) ms∧Hid (sY s n R mm ms j bad'))
 case atStart=>exact⟨none,0,i,bad,[],by simp,But.refl _ _,hR,du _ _ _ _,g2.out⟩
 case round=>
  obtain⟨ao,cap,j,bad',ms,g4,e5,a5,f2,HC⟩:=hrel;have h1:=a5.c1;have h0:=a5.c0;have h5:=e5.size;have i2:=a5.lt
  have e3: ∀(w1:World),But (fun _=>False) wr w1→(bad'=true∨ ¬ms.length<3∨pk s j=59)→ ∀(w2:World),But (· =b) w1 w2→XrB w2 b s (tkP s 59 j bad').1 (tkP s 59 j bad').2 (.slice a0 n cap0) (.slice ao ms.length cap) v2→
    But (fun k=>k=b) w w2∧ ∃v1 ms j bad',XrB w2 b s j bad' (.slice a0 n cap0) v1 v2∧TmV w2 base v1 ms∧ms.length≤3∧((bad'=false∧R= .ok (ms,j))∨(bad'=true∧R= .error j)):=by
   intro w1 h1 h2 w2 h3 h4;have b4:But (· =b) wr w2:=(h1.mono (fun _ _ h=>h.elim)).trans h3;exact⟨e5.trans b4,_,ms,_,_,h4,World.ownsRow.mono (f2.but b4 (fun g e cur _ _ hg h=>by omega)) hbase,g4,HC.out.fin h2⟩
  have HF:=hid e3;clear e3
  by_cases hlt:ms.length<3
  ·have g6:(ms.length:Int)<3:=by omega
   by_cases hgo:bad'=false∧pk s j≠59
   ·obtain⟨rfl,e7⟩:=hgo;have e2:(!false&& !decide (pk s j=59))=true:=by simp[e7]
    have a2:=cA b s j false _ _ v2 wr 59 a5;rw[e2]at a2;have e4:=hid a2;obtain⟨m',i5,f0⟩:=HC.out.next hlt e7;have a7:=hid f0;clear e2 a2 e7 HC HF f0;go_wp2_with fail;refine e4.out.mono ?_;rintro en w1 ⟨rfl,m,rfl⟩;go_wp2_with fail;refine(kX b s j false _ _ v2 (wr.drewN m) n hn hs (a5.drewN m)).mono ?_;rintro en w1 ⟨rfl,e8,c7⟩;revert a7 c7;generalize tyX s n j false=Y1;intro a7 c7;obtain⟨c1,j1,b1⟩:=Y1;simp only at c7;go_wp2_with fail;refine(kX b s j1 b1 _ _ v2 w1 n hn hs c7).mono ?_;rintro en w2 ⟨rfl,b0,a4⟩;revert a7 a4;dsimp only;generalize tyX s n j1 b1=Y2;intro a7 a4;obtain⟨c2,j2,b2⟩:=Y2;simp only at a4
    go_wp2_with fail;refine(dl b s j2 b2 _ _ v2 w2 46 (by decide) hs a4).mono ?_;rintro en W ⟨rfl,b5,a8⟩;revert a7 a8;dsimp only;generalize tkP s 46 j2 b2=Y3;intro a7 a8;obtain⟨j3,b3⟩:=Y3;simp only at a8;have b6:But (· =b) wr W:=(((But.drewN _ _ _).trans e8).trans b0).trans b5;have e9:But (· =b) w W:=e5.trans b6;have e6:W.ownsRow w.heap.size 243 2 (.slice ao ms.length cap) ms.length (cy ms):=f2.but b6 (fun g e cur _ _ hg h=>by omega);have e1:=a8.c1;have g1:=a8.fz 1;have bltW:=a8.lt;have ab:(Value.slice ao ms.length cap).ownBlock≠some b:=fun h=>by have:=aj e6 _ h;omega
    have h9:But (fun k=>(Value.slice ao ms.length cap).ownBlock=some k) W W.drew:=But.drew _ _;have i1:=e9.size;clear h0 h1 c7 a4 e8 b0 b5;go_wp2_with (at_builtin;refine wpList_append_lies _ rfl _ _ _ rfl w.heap.size 243 i0 _ 2 2 (by kernel_rfl) g5 h6 h7 h8 rfl (by omega) _ ms.length (cy ms) rfl (e6.alloc _) ⟨W.heap.size,0,none⟩ 1 1 [.int .u8 c1.toNat,.int .u8 c2.toNat] rfl rfl (World.news_of_block (cs:=#[.int .u8 c1.toNat,.int .u8 c2.toNat]) (t:=243) (fr:=(0,0)) (heap_alloc_new W _)) (by simp[Value.oneCell']) (by omega) (by unfold maxLen;omega) (by omega) (by simp;omega) (W.heap.size+1) (by simp) ?_)
    intro gg a1 w3 a3 a6 g3 g7;have e0:But (fun k=>(Value.slice ao ms.length cap).ownBlock=some k) W w3:=(But.alloc _ _ _).trans (aX a6);have y0:=(e0.cell (p:=⟨b,1,none⟩) bltW ab).trans e1;have y1:=(e0.frozen (p:=⟨b,1,none⟩) bltW ab).trans g1;have i4:=aj a3 gg rfl;have f4:=(a8.but e0 ab).set1 (.slice (some ⟨gg,0,none⟩) (ms.length+1) a1)
    have b5:But (· =b) w (w3.setCell ⟨b,1,none⟩ (.slice (some ⟨gg,0,none⟩) (ms.length+1) a1)):=
     (e9.next e0 (fun k hk h=>by have:=aj e6 k h;omega)).trans (But.setB _ _ _ _)
    have f3:=ah a3 (But.setB w3 b 1 (.slice (some ⟨gg,0,none⟩) (ms.length+1) a1)) (fun g hg h=>by have:=aj a3 g hg;omega)
    have f1:TmV (w3.setCell ⟨b,1,none⟩ (.slice (some ⟨gg,0,none⟩) (ms.length+1) a1)) w.heap.size (.slice (some ⟨gg,0,none⟩) (ms++ [Sig.mk c1 c2]).length a1) (ms++ [Sig.mk c1 c2]):=by
     unfold TmV;rw[jB,List.length_append];exact f3
    have f5:XrB (w3.setCell ⟨b,1,none⟩ (.slice (some ⟨gg,0,none⟩) (ms.length+1) a1)) b s j3 b3 (.slice a0 n cap0) (.slice (some ⟨gg,0,none⟩) (ms++ [Sig.mk c1 c2]).length a1) v2:=by
     rw[List.length_append];exact f4
    have g0:=hid f5;have f8:=hid f1;have f7:=hid b5;clear f3 f4 f5 f1 b5 e0 a6 g3 a3 e1 g1;go_wp2_with fail
    go_roundg m'
    case measure=>omega
    case rel=>exact⟨_,a1,j3,b3,ms++ [Sig.mk c1 c2],by simp;omega,f7.out,g0.out,f8.out,a7.out⟩
   ·have e2:(!bad'&& !decide (pk s j=59))=false:=by
     cases bad' with
     |true=>rfl
     |false=>
      by_cases h:pk s j=59
      ·simp[h]
      ·exact absurd ⟨rfl,h⟩ hgo
    have hx:bad'=true∨ ¬ms.length<3∨pk s j=59:=by
     cases bad' with
     |true=>exact Or.inl rfl
     |false=>
      right;right
      by_cases h:pk s j=59
      ·exact h
      ·exact absurd ⟨rfl,h⟩ hgo
    have HX:=hid hx;have a2:=cA b s j bad' _ _ v2 wr 59 a5;rw[e2]at a2;have e4:=hid a2;clear e2 a2 hx hgo HC;go_wp2_with fail;refine e4.out.mono ?_;rintro en w1 ⟨rfl,m,rfl⟩;go_wp2_with fail;refine(dl b s j bad' _ _ v2 _ 59 (by decide) hs (a5.drewN m)).mono ?_;rintro en w2 ⟨rfl,b0,a4⟩;go_wp2_with fail;go_end0;exact⟨rfl,HF.out _ (But.drewN _ _ _) HX.out w2 b0 a4⟩
  ·have g6: ¬(ms.length:Int)<3:=by omega
   go_wp2_with fail;refine(dl b s j bad' _ _ v2 _ 59 (by decide) hs a5).mono ?_;rintro en w2 ⟨rfl,b0,a4⟩;go_wp2_with fail;go_end0;exact⟨rfl,HF.out _ (But.refl _ _) (Or.inr (Or.inl hlt)) w2 b0 a4⟩
def TxB (w:World) (b:Nat) (bs:List ba):Prop:=
 ∃v2,w.cell? ⟨b,2,none⟩=some v2∧b<w.heap.size∧TbV w 0 v2 bs
theorem TxB.but {w w':World} {b:Nat} {bs:List ba} (h:TxB w b bs) (hb:But (fun _=>False) w w'):TxB w' b bs:=by
 obtain⟨v2,h0,hl,hT⟩:=h;exact⟨v2,hb.kc h0 hl,Nat.lt_of_lt_of_le hl hb.size,hT.but hb (fun _ _ _ _ _ _ h=>h)⟩
theorem TbV.mono {w:World} {base base':Nat} {v:Value} {bs:List ba} (h:TbV w base v bs) (hb:base'≤base):TbV w base' v bs:=by
 obtain⟨l,h1,h2,h3⟩:=h;exact⟨l,h1.mono hb,h2,fun x hx=>⟨World.ownsRow.mono (h3 x hx).1 hb,World.ownsRow.mono (h3 x hx).2 hb⟩⟩
theorem TbV.tx {w:World} {base b:Nat} {v:Value} {bs:List ba} (h:TbV w base v bs) (hc:w.cell? ⟨b,2,none⟩=some v) (hb:b<w.heap.size):TxB w b bs:=
 ⟨v,hc,hb,h.mono (Nat.zero_le _)⟩
def i9 (bs:List ba) (c:UInt8) (m:Nat):Nat→Nat→Int
 |0,_=> -1
 |f+1,k=>match bs[k]? with
  |some x=>if x.cls=c∧x.meth=m then(k:Int)else i9 bs c m f (k+1)
  |none=> -1
theorem kx (b:Nat) (bs:List ba) (c:UInt8) (m:Nat) (w:World) (hn:bs.length≤100) (hT:TxB w b bs):
  Calls Tryz.prog 221 #[.pointer (some ⟨b,0,none⟩),.int .u8 c.toNat,.int .i64 m] w fun e w'=>e= .returned (.int .i64 (i9 bs c m bs.length 0))∧But (fun _=>False) w w':=by
 obtain⟨v2,h0,hl,l,hO,hm,hf⟩:=hT;obtain⟨ao,cap,rfl⟩:=aq hO;have a6:l.length=bs.length:=by rw[←hm];simp
 obtain⟨R,a1⟩: ∃R,i9 bs c m bs.length 0=R:=⟨_,rfl⟩;rw[a1];rw[←a6]at a1 hn;have a3:=hid a1;have HM:=hid hm;clear a1 hm a6 hf
 go_in
 go_wp2_with fail
 go_loopg [7] l.length (fun mm is wr=> ∃(k:Nat),is= .int .i64 k∧k≤l.length∧k+mm≤l.length∧l.length≤k+mm∧But (fun _=>False) w wr∧Hid (i9 bs c m mm k=R))
 case atStart=>exact⟨0,rfl,by omega,by omega,by omega,But.refl _ _,a3.out⟩
 case round=>
  obtain⟨k,rfl,b3,a7,b4,hB,HA⟩:=hrel;have a5:gk=l.length-k:=by omega
  rw[a5]at HA;clear a5 a7;have b0:=hB.kc h0 hl
  by_cases hlt:k<l.length
  ·have a8:(k:Int)<(l.length:Int):=by omega
   rw[show l.length-k=(l.length-(k+1))+1 from by omega]at HA;have hx:=List.getElem?_eq_getElem hlt;have a4:bs[k]?=some l[k].1:=by rw[←HM.out,List.getElem?_map,hx];rfl
   obtain⟨g,hg,b1,b2,a0⟩:=aD (ah hO hB (fun _ _ h=>h)) (by omega);have q0:wr.cell? ⟨g,k*5,none⟩=some (.int .u8 l[k].1.cls.toNat):=a0 _ _ (aR (k:=0) hx (by omega));have q1:wr.cell? ⟨g,k*5+1,none⟩=some (.int .i64 l[k].1.meth):=a0 _ _ (aR (k:=1) hx (by omega));have hA:=HA.out;simp only[i9,a4]at hA;revert q0 q1 hA;generalize l[k].1=X;intro q0 q1 hA;subst hg;clear hx a4 a0 HA a3
   by_cases h1:X.cls=c
   ·have e1:((X.cls.toNat:Int)==(c.toNat:Int))=true:=by rw[h1];simp
    by_cases h2:X.meth=m
    ·have e2:((X.meth:Int)==(m:Int))=true:=by rw[h2];simp
     rw[if_pos ⟨h1,h2⟩]at hA;subst hA;clear h1 h2;go_wp2_with fail;go_ret;exact⟨rfl,hB⟩
    ·have e2:((X.meth:Int)==(m:Int))=false:=by rw[beq_eq_false_iff_ne];omega
     rw[if_neg (fun h=>h2 h.2)]at hA;have a2:=hid hA;clear h1 h2 hA;go_wp2_with fail
     go_roundg (l.length-(k+1))
     case measure=>omega
     case rel=>exact⟨k+1,by simp,by omega,by omega,by omega,hB,a2.out⟩
   ·have e1:((X.cls.toNat:Int)==(c.toNat:Int))=false:=by rw[beq_eq_false_iff_ne];intro h;exact h1 (UInt8.toNat_inj.1 (by omega))
    rw[if_neg (fun h=>h1 h.1)]at hA;have a2:=hid hA;clear h1 hA;go_wp2_with fail
    go_roundg (l.length-(k+1))
    case measure=>omega
    case rel=>exact⟨k+1,by simp,by omega,by omega,by omega,hB,a2.out⟩
  ·have a8: ¬(k:Int)<(l.length:Int):=by omega
   rw[show l.length-k=0 from by omega]at HA;have hA: -1=R:=HA.out;subst hA;clear HA a3;go_wp2_with fail;go_ret;exact⟨rfl,hB⟩
def fM (cs:List bz) (bs:List ba) (m:Nat):Nat→UInt8→Int
 |0,_=> -1
 |f+1,c=>if c.toNat=45 then-1 else if 0≤i9 bs c m bs.length 0 then i9 bs c m bs.length 0 else fM cs bs m f (iq cs c)
theorem ro (b:Nat) (cs:List bz) (bs:List ba) (c:UInt8) (m:Nat) (w:World) (hn:cs.length≤100) (hnb:bs.length≤100) (hC:TxC w b cs) (hT:TxB w b bs):
  Calls Tryz.prog 224 #[.pointer (some ⟨b,0,none⟩),.int .u8 c.toNat,.int .i64 m] w fun e w'=>e= .returned (.int .i64 (fM cs bs m cs.length c))∧But (fun _=>False) w w':=by
 obtain⟨R,a5⟩: ∃R,fM cs bs m cs.length c=R:=⟨_,rfl⟩;rw[a5];have b0:=hC;obtain⟨v0,l,h0,hl,hO,hm,hf⟩:=b0;obtain⟨ao,cap,rfl⟩:=aq hO;have a8:l.length=cs.length:=by rw[←hm];simp
 rw[a8]at h0;clear hm hf hO a8;have a4:=hid a5;clear a5;obtain⟨n,a1⟩: ∃n,cs.length=n:=⟨_,rfl⟩;have HN:=hid a1;rw[a1]at h0 hn;rw[a1]at a4;clear a1
 go_in
 go_wp2_with fail
 go_loopg [7,8] n (fun mm ls is wr=> ∃(x:UInt8) (k:Nat),ls= .int .u8 x.toNat∧is= .int .i64 k∧k≤n∧k+mm≤n∧n≤k+mm∧But (fun _=>False) w wr∧Hid (fM cs bs m mm x=R))
 case atStart=>exact⟨c,0,rfl,rfl,by omega,by omega,by omega,But.refl _ _,a4.out⟩
 case round=>
  obtain⟨x,k,rfl,rfl,b5,b1,b6,hB,HA⟩:=hrel;have a7:gk=n-k:=by omega
  rw[a7]at HA;clear a7 b1;have b4:=hB.kc h0 hl;clear a4
  by_cases hlt:k<n
  ·have b2:(k:Int)<(n:Int):=by omega
   rw[show n-k=(n-(k+1))+1 from by omega]at HA;have hA:=HA.out;simp only[fM]at hA;clear HA
   by_cases h45:x.toNat=45
   ·rw[if_pos h45]at hA;subst hA;have e:((x.toNat:Int)==45)=true:=by rw[beq_iff_eq];omega
    have e':((x.toNat:Int)!=45)=false:=by simp[bne,e]
    have e2:(x.toNat:Int)=45:=by omega
    have E2:=hid e2;clear h45 e2;go_wp2_with fail;go_ret;exact⟨rfl,hB⟩
   ·rw[if_neg h45]at hA;have e:=tf x.toNat 45 (by omega);have e':((x.toNat:Int)!=45)=true:=by simp[bne,e]
    have e2: ¬(x.toNat:Int)=45:=by omega
    have a2:=kx b bs x m wr hnb (hT.but hB);revert a2 hA;generalize i9 bs x m bs.length 0=o;intro hA a2;have a6:=hid a2;clear a2 h45
    by_cases ho:0≤o
    ·rw[if_pos ho]at hA;subst hA;go_wp2_with fail;refine a6.out.mono ?_;rintro en w1 ⟨rfl,a0⟩;go_wp2_with fail;go_ret;exact⟨rfl,hB.trans a0⟩
    ·rw[if_neg ho]at hA;have a3:=hid hA;clear hA;go_wp2_with fail;refine a6.out.mono ?_;rintro en w1 ⟨rfl,a0⟩;go_wp2_with fail;refine(mI b cs x w1 (by rw[HN.out];exact hn) ((hC.but hB).but a0)).mono ?_;rintro en w2 ⟨rfl,b3⟩;subst b3;revert a3;generalize iq cs x=px;intro a3;go_wp2_with fail
     go_roundg (n-(k+1))
     case measure=>omega
     case rel=>exact⟨px,k+1,rfl,by simp,by omega,by omega,by omega,hB.trans a0,a3.out⟩
  ·have b2: ¬(k:Int)<(n:Int):=by omega
   rw[show n-k=0 from by omega]at HA;have hA: -1=R:=HA.out;subst hA;clear HA;go_wp2_with fail;go_ret;exact⟨rfl,hB⟩
def eu (cs:List bz) (bs:List ba) (n:Nat) (x:XIt):Bool:=
 if x.op.toNat=106∨x.op.toNat=102 then decide (n≤x.num)else if x.op.toNat=99 then decide (fM cs bs x.num cs.length x.cls<0)else false
def itV (x:XIt):Value:= .agg #[.int .i64 x.place,.int .u8 x.op.toNat,.int .u8 x.cls.toNat,.int .i64 x.num,.slice x.pa x.pn x.pc]
theorem nM (b:Nat) (cs:List bz) (bs:List ba) (x:XIt) (n:Nat) (w:World) (hn:cs.length≤100) (hnb:bs.length≤100) (hC:TxC w b cs) (hT:TxB w b bs):
  Calls Tryz.prog 170 #[.pointer (some ⟨b,0,none⟩),itV x,.int .i64 n] w fun e w'=>e= .returned (.bool (eu cs bs n x))∧But (fun _=>False) w w':=by
 obtain⟨pl,op,cl,nu,pa,pn,pc⟩:=x;unfold itV
 by_cases h106:op.toNat=106
 ·have hc:op=106:=UInt8.toNat_inj.1 h106;subst hc;rw[show eu cs bs n ⟨pl,106,cl,nu,pa,pn,pc⟩=decide (n≤nu)from by simp[eu]]
  by_cases hle:(n:Int)≤(nu:Int)
  ·rw[show decide (n≤nu)=true from by simp;omega]
   go_in
   go_wp2_with fail;go_ret;exact⟨rfl,But.alloc _ _ _⟩
  ·rw[show decide (n≤nu)=false from by simp;omega]
   go_in
   go_wp2_with fail;go_ret;exact⟨rfl,But.alloc _ _ _⟩
 by_cases h102:op.toNat=102
 ·have hc:op=102:=UInt8.toNat_inj.1 h102;subst hc;rw[show eu cs bs n ⟨pl,102,cl,nu,pa,pn,pc⟩=decide (n≤nu)from by simp[eu]]
  by_cases hle:(n:Int)≤(nu:Int)
  ·rw[show decide (n≤nu)=true from by simp;omega]
   go_in
   go_wp2_with fail;go_ret;exact⟨rfl,But.alloc _ _ _⟩
  ·rw[show decide (n≤nu)=false from by simp;omega]
   go_in
   go_wp2_with fail;go_ret;exact⟨rfl,But.alloc _ _ _⟩
 by_cases h99:op.toNat=99
 ·have hc:op=99:=UInt8.toNat_inj.1 h99;subst hc;rw[show eu cs bs n ⟨pl,99,cl,nu,pa,pn,pc⟩=decide (fM cs bs nu cs.length cl<0)from by simp[eu]];have a0:=fun(wx:World) (h:But (fun _=>False) w wx)=>ro b cs bs cl nu wx hn hnb (hC.but h) (hT.but h)
  revert a0;generalize fM cs bs nu cs.length cl=o;intro a0;have a1:=hid a0;clear a0
  go_in
  go_wp2_with fail;refine(a1.out _ (But.alloc _ _ _)).mono ?_;rintro en w1 ⟨rfl,a4⟩;go_wp2_with fail;go_ret;exact⟨rfl,(But.alloc _ _ _).trans a4⟩
 rw[show eu cs bs n ⟨pl,op,cl,nu,pa,pn,pc⟩=false from by simp[eu,h106,h102,h99]];have a3:=tf op.toNat 106 (by omega);have a2:=tf op.toNat 102 (by omega);have a5:=tf op.toNat 99 (by omega);clear h106 h102 h99
 go_in
 go_wp2_with fail;go_ret;exact⟨rfl,But.alloc _ _ _⟩
end
end Go.Proofs.YtpfkkmacakjmbaaGreatDoor
