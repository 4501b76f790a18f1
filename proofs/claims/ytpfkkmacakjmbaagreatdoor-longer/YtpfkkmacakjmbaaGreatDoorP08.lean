import Derived.Test.YtpfkkmacakjmbaaGreatDoorP07
set_option maxRecDepth 100000
set_option maxHeartbeats 6400000
set_option linter.unusedSimpArgs false
set_option linter.unusedVariables false
namespace Go.Proofs.YtpfkkmacakjmbaaGreatDoor
section
open Go Go.RowKit Sp
attribute [local go_sem ↓] Go.wp_at_zero Go.wp_at_succ
def ej (s:ByteArray) (n:Nat) (e:UInt8) (most i:Nat) (bad:Bool):Except Nat (List UInt8×Nat):=if bad=true then .error i else tys s n e most [] i
theorem iV (b:Nat) (s:ByteArray) (i:Nat) (bad:Bool) (v0 v1:Value) (v2:RdV) (w:World) (most n:Nat) (e:UInt8) (he:0<e.toNat) (hm:most≤10) (hn:n≤4) (hs:s.size≤2000) (hR:XrB w b s i bad v0 v1 v2):
  Calls Tryz.prog 216 #[.pointer (some ⟨b,0,none⟩),.int .i64 most,.int .i64 n,.int .u8 e.toNat] w fun en w'=>But (· =b) w w'∧ ∃ao cap l j bad',en= .returned (.slice ao l.length cap)∧XrB w' b s j bad' v0 v1 v2∧BtB w' w.heap.size (.slice ao l.length cap) l∧l.length≤most∧
   ((bad'=false∧ej s n e most i bad= .ok (l,j))∨(bad'=true∧ej s n e most i bad= .error j)):=by
 cases bad with
 |false=>
  refine(tY b s i v0 v1 v2 w most n e he hm hn hs hR).mono ?_;rintro en w' ⟨h1,v,l,j,bad',rfl,h3,h4,h5,h6⟩;obtain⟨ao,cap,rfl⟩:=aw h4;exact⟨h1,ao,cap,l,j,bad',rfl,h3,h4,h5,h6⟩
 |true=>
  refine(t8 b s i v0 v1 v2 w most n e he hm hs hR).mono ?_;rintro en w' ⟨h1,rfl,h3,h4⟩;exact⟨h1,_,0,[],i,true,rfl,h3,h4,by simp,Or.inr ⟨rfl,rfl⟩⟩
def gR (s:ByteArray) (cs:List Cls) (i:Nat):Except Nat (Cls×Nat):=
 match mJ s cs.length i with
 | .error j=> .error j
 | .ok (p,j)=>
  match tys s (cs.length+1) 46 2 [] j with
  | .error l=> .error l
  | .ok (own,l)=> .ok (⟨p,inh cs p++own⟩,l)
theorem yr {s:ByteArray} {cs:List Cls} {i j:Nat} {p:Int} (h:mJ s cs.length i= .ok (p,j)):inh cs p=bI (cs.map toX) (pk s i)∧(if p<0 then 45 else UInt8.ofNat (65+p.toNat))=pk s i:=by
 obtain⟨_,h1|h1⟩:=p9 h
 ·obtain⟨rfl,h2⟩:=h1;have h3:aO cs.length (pk s i)=false:=by simp[aO,h2]
  refine⟨by simp[inh,bI,h3],?_⟩;rw[if_pos (by omega)];exact UInt8.toNat_inj.1 h2.symm
 ·obtain⟨_,h2,rfl⟩:=h1;have a0:=h2;simp only[aO,Bool.and_eq_true,decide_eq_true_eq]at a0;have a1:(pk s i).toNat<256:=(pk s i).toNat_lt;refine⟨?_,?_⟩
  ·unfold inh bI;rw[if_neg (by omega),List.length_map,if_pos h2,List.getElem?_map,Int.toNat_natCast]
   cases cs[(pk s i).toNat-65]?<;>rfl
  ·rw[if_neg (by omega)]
   apply UInt8.toNat_inj.1
   simp;omega
theorem yt {s:ByteArray} {cs:List Cls} {i:Nat} {own:List UInt8} {j:Nat} {bad':Bool} (P:UInt8×Nat×Bool) (hP:paX s cs.length i false=P)
  (hT:(bad'=false∧ej s (cs.length+1) 46 2 P.2.1 P.2.2= .ok (own,j))∨(bad'=true∧ej s (cs.length+1) 46 2 P.2.1 P.2.2= .error j)):
  (bad'=false∧ ∃c,gR s cs i= .ok (c,j)∧toX c=⟨P.1,bI (cs.map toX) P.1++own⟩)∨(bad'=true∧gR s cs i= .error j):=by
 unfold paX at hP
 by_cases hg:(pk s i).toNat=45∨aO cs.length (pk s i)=true
 ·rw[if_pos ⟨rfl,hg⟩]at hP;subst hP
  have hp: ∃p,mJ s cs.length i= .ok (p,i+1):=by
   unfold mJ hU
   by_cases h45:(pk s i).toNat=45
   ·exact⟨-1,by rw[if_pos h45]⟩
   ·rcases hg with h|h
    ·exact absurd h h45
    ·exact⟨_,by rw[if_neg h45,if_pos h]⟩
  obtain⟨p,hp⟩:=hp;obtain⟨h1,h2⟩:=yr hp;simp only[ej,Bool.false_eq_true,if_false]at hT;unfold gR;simp only[hp];rcases hT with⟨h3,h4⟩ | ⟨h3,h4⟩
  ·left
   refine⟨h3,?_⟩;simp only[h4];exact⟨_,rfl,by simp only[toX,h1,h2]⟩
  ·right
   refine⟨h3,?_⟩;simp only[h4]
 ·rw[if_neg (fun h=>hg h.2)]at hP;subst hP;simp only[ej,if_true]at hT
  have hp:mJ s cs.length i= .error i:=by
   have a0:=not_or.1 hg;unfold mJ hU;rw[if_neg a0.1,if_neg a0.2]
  right
  unfold gR;simp only[hp];rcases hT with⟨_,h⟩ | ⟨h,h'⟩
  ·cases h
  ·cases h'
   exact⟨h,rfl⟩
theorem jF {cs:List Cls} (hw:WfC cs) (hn:cs.length≤4) (c:UInt8):(bI (cs.map toX) c).length≤2*cs.length:=by
 unfold bI
 split
 ·rw[List.getElem?_map]
  cases hc:cs[c.toNat-65]? with
  |none=>simp
  |some x=>
   have h1:=(List.getElem?_eq_some_iff.1 hc).1;have h2:=(hw _ _ hc).2.2.1;simp[toX];omega
 ·simp
theorem nO (b base:Nat) (s:ByteArray) (i:Nat) (v0 v1:Value) (v2:RdV) (w:World) (SC:List Cls) (hw:WfC SC) (hn:SC.length≤3) (hs:s.size≤2000) (hR:XrB w b s i false v0 v1 v2) (hC:TcV w base v0 (SC.map toX)) (hb:b<base) (hbase:base≤w.heap.size):
  Calls Tryz.prog 164 #[.pointer (some ⟨b,0,none⟩)] w fun en w'=>But (· =b) w w'∧ ∃par ao cap fl j bad',en= .returned (.agg #[.int .u8 (UInt8.toNat par),.slice ao (List.length fl) cap])∧XrB w' b s j bad' v0 v1 v2∧BtB w' w.heap.size (.slice ao fl.length cap) fl∧fl.length≤10∧
   ((bad'=false∧ ∃c,gR s SC i= .ok (c,j)∧toX c=⟨par,fl⟩)∨(bad'=true∧gR s SC i= .error j)):=by
 obtain⟨i0,l4,m5,n0,n1⟩:=info_parts iR;obtain⟨ac,capc,m4⟩:=hC.len;subst m4;simp only[List.length_map]at hR hC⊢;have h0:=hR.c0;have n3:=hR.lt;have c6:SC.length+1≤4:=by omega
 have HK:=hid (fun(w':World) (h:But (· =b) w w')=>hC.but h (fun g e cur _ _ hg he=>by omega));have i6:(SC.map toX).length=SC.length:=by simp
 have f3:=hid i6;clear i6 hC;obtain⟨n,e7⟩: ∃n,SC.length=n:=⟨_,rfl⟩;have h7:=hid (fun c=>jF hw (by omega) c);have a7:=hid (fun(own:List UInt8) (j:Nat) (bad':Bool)=>yt (s:=s) (cs:=SC) (i:=i) (own:=own) (j:=j) (bad':=bad') (paX s SC.length i false) rfl);rw[e7]at a7 h7 f3;rw[e7]at h0 hR c6 HK;simp only[e7];clear e7 hw hn
 go_in
 go_wp2_with fail;have e2:But (· =b) w (w.alloc (Obj.cells #[Value.int IntKind.u8 0,Value.slice none 0 0] 240)):=But.alloc _ _ _;have g7:XrB (w.alloc (Obj.cells #[Value.int IntKind.u8 0,Value.slice none 0 0] 240)) b s i false (.slice ac n capc) v1 v2:=hR.but (But.alloc (fun _=>False) _ _) (fun h=>h);have b4:=heap_alloc_new w (Obj.cells #[Value.int IntKind.u8 0,Value.slice none 0 0] 240);clear h0;revert e2 g7 b4;generalize (w.alloc (Obj.cells #[Value.int IntKind.u8 0,Value.slice none 0 0] 240))=W0;intro e2 g7 b4;refine(rU b s i false v1 v2 W0 n capc ac (by omega) hs g7).mono ?_;rintro en w1 ⟨rfl,f7,e5⟩
 revert a7 e5;generalize paX s n i false=Y;intro a7 e5;obtain⟨par,i1,f4⟩:=Y;simp only at e5;go_wp2_with fail;refine(iV b s i1 f4 _ v1 v2 w1 2 (n+1) 46 (by decide) (by omega) c6 hs e5).mono ?_;rintro en w2 ⟨f8,j5,f5,own,j2,a1,rfl,i4,g4,n7,i5⟩;have j1:=hid (a7.out own j2 a1 i5);clear a7 i5;go_wp2_with fail;have b0:But (· =b) w w2:=(e2.trans f7).trans f8;have e3:But (· =b) w (w2.alloc (.cells #[] 5)):=b0.trans (But.alloc _ _ _);have hE:=BtB.empty w2;have e6:=i4.but (But.alloc (fun _=>False) w2 (.cells #[] 5)) (fun h=>h);have g5:=g4.but (But.alloc (fun _=>False) w2 (.cells #[] 5)) (fun _ _ h=>h);have m3:=b0.size
 have m1:=e2.size;have m0:=f7.size;have m2:=f8.size;have g6:=fun g hg=>aX g4 g hg
 have n4:=ae b4;have i7:=((But.alloc (fun _=>False) w2 (.cells #[] 5)).block w.heap.size (by omega) (fun h=>h)).trans ((f8.block w.heap.size (by omega) (by omega)).trans ((f7.block w.heap.size (by omega) (by omega)).trans b4));have e8:=hid i7;clear i7 b4;have a5:w2.heap.size≤(w2.alloc (.cells #[] 5)).heap.size:=by simp
 clear i4 g4;revert e3 hE e6 g5 a5 e8;generalize (w2.alloc (.cells #[] 5))=w3;intro e3 hE e6 g5 e8 a5;have HX:=hid (fun(wx:World) (h:But (· =b) w wx) (h':XrB wx b s j2 a1 (.slice ac n capc) v1 v2)=>(HK.out wx h).tx h'.c0 h'.lt);have h2:=lh b (SC.map toX) par w3 (by rw[f3.out];omega) (HX.out w3 e3 e6);have l3:=h7.out par;obtain⟨FX,g3⟩: ∃FX,bI (SC.map toX) par=FX:=⟨_,rfl⟩;rw[g3]at h2 l3;have h9:=hid g3;have h4:=hid h2;clear g3 h2;refine h4.out.mono ?_;rintro en wx ⟨rfl,d6⟩;rw[d6];clear d6 wx h4;go_wp2_with fail
 go_loopg [6,8] FX.length (fun mm vs is wr=> ∃(ao:Option Addr) (cap k:Nat) (t:List UInt8),vs= .slice ao t.length cap∧is= .int .i64 k∧k≤FX.length∧k+mm≤FX.length∧FX.length≤k+mm∧w2.heap.size≤wr.heap.size∧But (· =b) w wr∧XrB wr b s j2 a1 (.slice ac n capc) v1 v2∧BtB wr w2.heap.size (.slice ao t.length cap) t∧BtB wr w1.heap.size (.slice j5 own.length f5) own∧Hid (wr.heap[w.heap.size]?=some (Obj.cells #[Value.int IntKind.u8 0,Value.slice none 0 0] 240))∧t.length≤k∧Hid (FX.take k=t))
 case atStart=>exact⟨_,0,0,[],rfl,rfl,by omega,by omega,by omega,a5,e3,e6,hE,g5,e8,by simp,rfl⟩
 case round=>
  obtain⟨ao,cap,k,t,rfl,rfl,n5,l5,n6,h3,e4,h1,b1,i3,e9,o1,HA⟩:=hrel;clear l5
  by_cases hlt:k<FX.length
  ·have e1:(k:Int)<(FX.length:Int):=by omega
   have b3:=qr b (SC.map toX) par k wr (by rw[f3.out];omega) (HX.out wr e4 h1);rw[h9.out,show bM FX k=FX.getD k 0 from by unfold bM;rw[if_pos hlt]]at b3
   have f2:Hid (FX.take (k+1)=t++ [FX.getD k 0]):=by
    show _=_
    rw[List.take_succ_eq_append_getElem hlt,HA.out];simp[List.getD,hlt]
   revert b3 f2;generalize FX.getD k 0=z;intro b3 f2;have h8:=hid b3;clear b3 HA;go_wp2_with fail;refine h8.out.mono ?_;rintro en wx ⟨rfl,d6⟩;rw[d6];clear d6 wx h8;have a6:wr.ownsRow w2.heap.size 5 1 (.slice ao t.length cap) t.length (aM t):=b1;have o0:=e4.size;have n8:=aA a6;go_wp2_with (at_builtin;refine wpList_append_lies _ rfl _ _ _ rfl w2.heap.size 5 i0 _ 1 1 (by kernel_rfl) l4 m5 n0 n1 rfl (by omega) _ t.length (aM t) rfl (a6.alloc _) ⟨wr.heap.size,0,none⟩ 1 1 [.int .u8 z.toNat] rfl rfl (World.news_of_block (cs:=#[.int .u8 z.toNat]) (t:=5) (fr:=(0,0)) (heap_alloc_new wr _)) (by simp[Value.oneCell']) (by omega) (by unfold maxLen;omega) (by omega) (by simp;omega) (wr.heap.size+1) (by simp) ?_)
   intro gg a8 w4 b6 b5 n2 l6;have b2:But (fun k'=>(Value.slice ao t.length cap).ownBlock=some k') wr w4:=(But.alloc _ _ _).trans (bc b5);have g1:But (· =b) w w4:=e4.next b2 (fun k' hk' h=>absurd (aA a6 k' h) (by omega));have k9:=h1.but b2 (fun h=>by have:=aA a6 _ h;omega)
   have g0:BtB w4 w2.heap.size (.slice (some ⟨gg,0,none⟩) (t++ [z]).length a8) (t++ [z]):=by
    unfold BtB;rw[List.length_append,aM,List.map_append];exact b6
   have k0:=i3.but b2 (fun g hg h=>by have:=aA a6 _ h;have:=g6 g hg;omega);go_wp2_with fail
   go_roundg (FX.length-(k+1))
   case measure=>omega
   case rel=>exact⟨_,a8,k+1,t++ [z],by simp,by simp,by omega,by omega,by omega,Nat.le_trans h3 b2.size,g1,k9,g0,k0,(b2.block w.heap.size (by omega) (fun h=>by have:=aA a6 _ h;omega)).trans e9.out,by simp;omega,f2.out⟩
  ·have e1: ¬(k:Int)<(FX.length:Int):=by omega
   have b9:FX=t:=by rw[←HA.out,List.take_of_length_le (by omega)]
   have j4:=hid b9;clear b9 HA;go_wp2_with (at_builtin;refine gQ rfl _ _ rfl w2.heap.size w1.heap.size _ _ t own rfl rfl b1 i3 (by omega) (by omega) ?_);intro a3 a0 w5 h5 f9 n9;have g2:But (· =b) w w5:=e4.next f9 (fun k' hk' h=>absurd (aA b1 k' h) (by omega));have l0:=h1.but f9 (fun h=>by have:=aA b1 _ h;omega);have a4:=(f9.block w.heap.size (by omega) (fun h=>by have:=aA b1 _ h;omega)).trans e9.out;have q0:=ce0 a4;have q1:=ce1 a4;have f0:w5.frozen? ⟨w.heap.size,0,none⟩=false:=frozen_of_row w5 w.heap.size 0 _ _ a4;have f1:w5.frozen? ⟨w.heap.size,1,none⟩=false:=frozen_of_row w5 w.heap.size 1 _ _ a4
   have j0:=ae a4;have j3:=hid a4;clear a4 e9
   have a2: ∀w6,But (· =w.heap.size) w5 w6→But (· =b) w w6∧ ∃par' ao cap fl j bad',Ending.returned (.agg #[.int .u8 par.toNat,.slice a3 ((t++own).length:Nat) a0])= .returned (.agg #[.int .u8 (UInt8.toNat par'),.slice ao (List.length fl) cap])∧XrB w6 b s j bad' (.slice ac n capc) v1 v2∧BtB w6 w.heap.size (.slice ao fl.length cap) fl∧fl.length≤10∧
     ((bad'=false∧ ∃c,gR s SC i= .ok (c,j)∧toX c=⟨par',fl⟩)∨(bad'=true∧gR s SC i= .error j)):=by
    intro w6 h6;have i2:BtB w5 w2.heap.size (.slice a3 (t++own).length a0) (t++own):=by first|exact h5| (rw[List.length_append];exact h5)
    refine⟨g2.next h6 (fun k hk h=>by omega),par,a3,a0,t++own,j2,a1,rfl,l0.but h6 (by omega),BtB.but (World.ownsRow.mono i2 (by omega)) h6 (fun g hg h=>by have:=aA i2 g hg;omega),by simp;omega,?_⟩;rw[←j4.out,←h9.out];exact j1.out
   have HP:=hid a2;clear a2;go_wp2_with fail;have j7:=heap_setCell_same w5 w.heap.size 0 _ _ (.int .u8 par.toNat) j3.out;have e0:=heap_setCell_same _ w.heap.size 1 _ _ (.slice a3 (t.length+own.length) a0) j7;have f6:=HP.out _ ((But.setB w5 w.heap.size 0 (.int .u8 par.toNat)).trans (But.setB _ w.heap.size 1 (.slice a3 (t.length+own.length) a0)));revert e0 f6;generalize ((w5.setCell ⟨w.heap.size,0,none⟩ (.int .u8 par.toNat)).setCell ⟨w.heap.size,1,none⟩ (.slice a3 (t.length+own.length) a0))=w6;intro e0 f6;have r0:=ce0 e0;have r1:=ce1 e0;exact bodyPost_ret (v:= .agg #[.int .u8 par.toNat,.slice a3 ((t++own).length:Nat) a0]) (by simp[results,Tryz.results164,go_sem,r0,r1]) rfl f6
theorem wv {s:ByteArray} {k:Nat} {cs:List Cls} {i:Nat} (h:(pk s i).toNat≠59):eZ s (k+1) cs i=match gR s cs i with
  | .error j=> .error j
  | .ok (c,j)=>eZ s k (cs++ [c]) j:=by
 unfold gR;rw[eZ,if_neg h]
 cases mJ s cs.length i with
 |error j=>rfl
 |ok x=>
  obtain⟨p,j⟩:=x;simp only
  cases tys s (cs.length+1) 46 2 [] j with
  |error l=>rfl
  |ok y=>rfl
theorem Af {s:ByteArray} {cs:List Cls} {i j:Nat} {c:Cls} (hw:WfC cs) (h:gR s cs i= .ok (c,j)):WfC (cs++ [c]):=by
 unfold gR at h
 cases hp:mJ s cs.length i with
 |error j=>rw[hp]at h;cases h
 |ok x=>
  obtain⟨p,j⟩:=x;rw[hp]at h;simp only at h
  cases ht:tys s (cs.length+1) 46 2 [] j with
  |error l=>rw[ht]at h;cases h
  |ok y=>
   obtain⟨own,l⟩:=y;rw[ht]at h
   cases h
   exact qa hw hp ht
def ww (s:ByteArray) (R:Except Nat (List Cls×Nat)) (mm:Nat) (cs:List bA) (j:Nat) (bad:Bool):Prop:=
 (bad=false∧ ∃SC,cs=SC.map toX∧WfC SC∧SC.length+mm=4∧eZ s mm SC j=R)∨(bad=true∧mm=0∧R= .error j)
theorem kI {s:ByteArray} {c:UInt8} {j:Nat} (h:pk s j=c):tkP s c j false=(j+1,false):=by unfold tkP;rw[if_pos ⟨rfl,h⟩]
theorem ea {s:ByteArray} {c:UInt8} {j:Nat} {bad:Bool} (h:bad=true∨pk s j≠c):tkP s c j bad=(j,true):=by
 unfold tkP;rw[if_neg];rintro⟨h1,h2⟩;rcases h with h|h
 ·rw[h]at h1;cases h1
 ·exact h h2
theorem u8n {c:UInt8} {n:Nat} (hn:n<256):c.toNat=n↔c=UInt8.ofNat n:=by
 constructor
 ·intro h
  apply UInt8.toNat_inj.1
  rw[h];simp;omega
 ·intro h;rw[h];simp;omega
theorem ww.fin {s:ByteArray} {R:Except Nat (List Cls×Nat)} {mm:Nat} {cs:List bA} {j:Nat} {bad:Bool} (h:ww s R mm cs j bad) (hx:bad=true∨ ¬cs.length<4∨pk s j=59):
  ((tkP s 59 j bad).2=false∧ ∃SC,R= .ok (SC,(tkP s 59 j bad).1)∧cs=SC.map toX∧WfC SC)∨((tkP s 59 j bad).2=true∧R= .error (tkP s 59 j bad).1):=by
 rcases h with⟨rfl,SC,h1,h2,h3,h4⟩ | ⟨rfl,_,h2⟩
 ·by_cases hp:pk s j=59
  ·left
   rw[kI hp];refine⟨rfl,SC,?_,h1,h2⟩;rw[←h4]
   cases mm<;>simp[eZ,hp]
  ·right
   rw[ea (Or.inr hp)];refine⟨rfl,?_⟩
   have hm:mm=0:=by
    rcases hx with h|h|h
    ·cases h
    ·rw[h1,List.length_map]at h;omega
    ·exact absurd h hp
   subst hm;rw[←h4];have:(pk s j).toNat≠59:=fun h=>hp ((u8n (by decide)).1 h)
   simp[eZ,this]
 ·right
  rw[ea (Or.inl rfl)];exact⟨rfl,h2⟩
theorem ww.next {s:ByteArray} {R:Except Nat (List Cls×Nat)} {mm:Nat} {cs:List bA} {j:Nat} (h:ww s R mm cs j false) (hl:cs.length<4) (hp:pk s j≠59):
  ∃SC,cs=SC.map toX∧WfC SC∧SC.length≤3∧ ∀par fl j' bad',((bad'=false∧ ∃c,gR s SC j= .ok (c,j')∧toX c=⟨par,fl⟩)∨(bad'=true∧gR s SC j= .error j'))→
   ∃m',m'<mm∧ww s R m' (cs++ [⟨par,fl⟩]) j' bad':=by
 rcases h with⟨_,SC,h1,h2,h3,h4⟩ | ⟨h,_⟩
 ·have a0:SC.length≤3:=by rw[h1,List.length_map]at hl;omega
  refine⟨SC,h1,h2,a0,?_⟩;intro par fl j' bad' hr;obtain⟨f,rfl⟩: ∃f,mm=f+1:=⟨mm-1,by omega⟩;have a1:(pk s j).toNat≠59:=fun h=>hp ((u8n (by decide)).1 h)
  rw[wv a1]at h4;rcases hr with⟨rfl,c,e1,e2⟩ | ⟨rfl,e1⟩
  ·rw[e1]at h4;refine⟨f,by omega,Or.inl ⟨rfl,SC++ [c],?_,Af h2 e1,by simp;omega,h4⟩⟩;rw[h1,List.map_append,←e2]
   rfl
  ·rw[e1]at h4;exact⟨0,by omega,Or.inr ⟨rfl,rfl,h4.symm⟩⟩
 ·cases h
theorem wy:(Tryz.prog.info? 240).map (fun i=>(i.zero,i.size,i.bytes))=some (some (.agg #[.int .u8 0,.slice none 0 0]),2,32):=by kernel_rfl
theorem iA (b base:Nat) (s:ByteArray) (v1:Value) (v2:RdV) (w:World) (hs:s.size≤2000) (hR:XrB w b s 0 false (.slice none 0 0) v1 v2) (hb:b<base) (hbase:base≤w.heap.size):
  Calls Tryz.prog 98 #[.pointer (some ⟨b,0,none⟩)] w fun en w'=>en= .returned (.tuple #[])∧But (fun k=>k=b∨base≤k) w w'∧ ∃v0 cs j bad',XrB w' b s j bad' v0 v1 v2∧TcV w' base v0 cs∧cs.length≤4∧
   ((bad'=false∧ ∃SC,eZ s 4 [] 0= .ok (SC,j)∧cs=SC.map toX∧WfC SC)∨(bad'=true∧eZ s 4 [] 0= .error j)):=by
 obtain⟨R,e8⟩: ∃R,eZ s 4 [] 0=R:=⟨_,rfl⟩;rw[e8];have h6:=hid e8;clear e8;obtain⟨i0,i6,j5,j7,k9⟩:=info_parts wy;have l6:=hR.lt
 go_in
 go_wp2_with fail
 go_loopg [] 4 (fun mm wr=> ∃(ao:Option Addr) (cap j:Nat) (bad':Bool) (cs:List bA),cs.length≤4∧But (fun k=>k=b∨base≤k) w wr∧XrB wr b s j bad' (.slice ao cs.length cap) v1 v2∧TcV wr base (.slice ao cs.length cap) cs∧Hid (ww s R mm cs j bad'))
 case atStart=>exact⟨none,0,0,false,[],by simp,But.refl _ _,hR,⟨[],fT _ _ _ _,rfl,by simp⟩,Or.inl ⟨rfl,[],rfl,fun j c h=>by simp at h,by simp,h6.out⟩⟩
 case round=>
  obtain⟨ao,cap,j,bad',cs,hcl,e5,b0,d6,HC⟩:=hrel;have h0:=b0.c0;have j4:=e5.size;have l5:=b0.lt
  have b9: ∀(w1:World),But (fun _=>False) wr w1→(bad'=true∨ ¬cs.length<4∨pk s j=59)→ ∀(w2:World),But (· =b) w1 w2→XrB w2 b s (tkP s 59 j bad').1 (tkP s 59 j bad').2 (.slice ao cs.length cap) v1 v2→
    But (fun k=>k=b∨base≤k) w w2∧ ∃v0 cs j bad',XrB w2 b s j bad' v0 v1 v2∧TcV w2 base v0 cs∧cs.length≤4∧((bad'=false∧ ∃SC,R= .ok (SC,j)∧cs=SC.map toX∧WfC SC)∨(bad'=true∧R= .error j)):=by
   intro w1 h1 h2 w2 h3 h4;have b5:But (· =b) wr w2:=(h1.mono (fun _ _ h=>h.elim)).trans h3;exact⟨e5.next b5 (fun k _ h=>Or.inl h),_,cs,_,_,h4,d6.but b5 (fun g e cur _ _ hg h=>by omega),hcl,HC.out.fin h2⟩
  have HF:=hid b9;clear b9
  by_cases hlt:cs.length<4
  ·have j0:(cs.length:Int)<4:=by omega
   by_cases hgo:bad'=false∧pk s j≠59
   ·obtain⟨rfl,f0⟩:=hgo;have b6:(!false&& !decide (pk s j=59))=true:=by simp[f0]
    have a1:=cJ b s j false _ v1 v2 wr 59 b0;rw[b6]at a1;have e3:=hid a1;obtain⟨SC,g3,g5,i5,g7⟩:=HC.out.next hlt f0;have f2:=hid g7;have f3:=hid g3;have f4:=hid g5;clear b6 a1 f0 HC HF g7 g3 g5;go_wp2_with fail;refine e3.out.mono ?_;rintro en w1 ⟨rfl,m,rfl⟩;go_wp2_with fail;have hcl:=nO b base s j _ v1 v2 (wr.drewN m) SC f4.out i5 hs (b0.drewN m) (by rw[←f3.out];exact d6.but (But.drewN (fun _=>False) _ _) (fun _ _ _ _ _ _ h=>h)) hb (by show base≤wr.heap.size;omega);refine hcl.mono ?_;rintro en w1 ⟨h8,par,a4,cap1,fl,j1,b4,rfl,g1,e1,b3,g4⟩;clear hcl;obtain⟨m',m1,f6⟩:=f2.out par fl j1 b4 g4;have h5:=hid f6
    clear g4 f6 f2 f3 f4;go_wp2_with fail;have a2:But (· =b) wr w1:=(But.drewN _ _ _).trans h8;have c6:But (fun k=>k=b∨base≤k) w (w1.alloc (.cells #[.int .u8 par.toNat,.slice a4 fl.length cap1] 240)):=(e5.next a2 (fun k _ h=>Or.inl h)).trans (But.alloc _ _ _);have a7:But (· =b) wr (w1.alloc (.cells #[.int .u8 par.toNat,.slice a4 fl.length cap1] 240)):=a2.trans (But.alloc _ _ _);have a8:=g1.but (But.alloc (fun _=>False) w1 (.cells #[.int .u8 par.toNat,.slice a4 fl.length cap1] 240)) (fun h=>h);have e6:=e1.but (But.alloc (fun _=>False) w1 (.cells #[.int .u8 par.toNat,.slice a4 fl.length cap1] 240)) (fun _ _ h=>h)
    have b2:=heap_alloc_new w1 (.cells #[.int .u8 par.toNat,.slice a4 fl.length cap1] 240);have j3:=a2.size;have i3:=aX e1;have i2:=aA e1;clear h0 e1 g1;revert c6 a8 e6 b2 a7;generalize (w1.alloc (.cells #[.int .u8 par.toNat,.slice a4 fl.length cap1] 240))=W;intro c6 a7 a8 e6 b2;have i1:=d6.but a7 (fun g e cur _ _ hg h=>by omega);obtain⟨l,b3,g6,i7⟩:=i1;have e2:l.length=cs.length:=by rw[←g6];simp
    rw[←e2]at a8 b3 hlt;have e0:=a8.c0;have g0:=a8.fz 0;have bltW:=a8.lt;have gltW:=ae b2;have k0:=ce0 b2;have k1:=ce1 b2
    have e9: ∀g,(Value.slice ao l.length cap).ownBlock=some g→g<wr.heap.size:=by
     obtain⟨l',f5,h7,_⟩:=d6;have:l'.length=cs.length:=by rw[←h7];simp
     rw[e2,←this];rw[←this]at f5;exact aX f5
    have ab:(Value.slice ao l.length cap).ownBlock≠some b:=fun h=>by have:=aA b3 _ h;omega
    have agk:(Value.slice ao l.length cap).ownBlock≠some w1.heap.size:=fun h=>by have:=e9 _ h;omega
    have i4:But (fun k=>(Value.slice ao l.length cap).ownBlock=some k) W W.drew:=But.drew _ _;have l4:base≤W.heap.size:=by have:=c6.size;omega
    have f1:=hid e2;have l0:=hid b2;clear e2 b2;refine aD (But (fun k=>(Value.slice ao l.length cap).ownBlock=some k) W) 9 (by kernel_rfl) ?_
    iterate 7 (refine aJ (v:=?_) rfl (by kernel_rfl) (fun _ _ _ h=>h) rfl i4 ?_ ?_;rotate_left;(focus (intro wS h;have q0:=((h.cell (p:=⟨b,0,none⟩) bltW ab).trans e0);have q1:=((h.cell (p:=⟨w1.heap.size,0,none⟩) gltW agk).trans k0);have q2:=((h.cell (p:=⟨w1.heap.size,1,none⟩) gltW agk).trans k1);clear h;go_simp;try rfl));dsimp only[Act.put];try simp only[aL])
    refine ah rfl (by kernel_rfl) ?_;intro KS hKS;go_simp;refine hKS.out _ _ (fun _=>(But.alloc _ _ _).trans (But.drew _ _)) ?_;clear hKS KS;refine ah rfl (by kernel_rfl) ?_;intro KS hKS
    refine step_append_lies _ (by rfl) _ _ _ (by rfl) base 240 i0 _ 2 32 (by kernel_rfl) i6 j5 j7 k9 rfl (by omega) _ l.length (fH l) (by first|rfl| (rw[f1.out];rfl)) ((b3.alloc _).drew)
       ⟨W.heap.size,0,none⟩ 1 1 [.int .u8 par.toNat,.slice a4 fl.length cap1] (by rfl) (by rfl) (World.news_of_block (cs:=#[.int .u8 par.toNat,.slice a4 fl.length cap1]) (t:=240) (fr:=(0,0)) (heap_alloc_new W _)) (by simp[Value.oneCell'])
       (by omega) (by unfold maxLen;omega) (by omega) (by simp;omega) (W.heap.size+1) (by simp) ?_
    intro gg a0 w2 a3 a5 l3 j2;have b1:But (fun k=>(Value.slice ao l.length cap).ownBlock=some k) W w2:=((But.alloc _ _ _).trans (But.drew _ _)).trans (bc a5);refine hKS.out _ _ (fun _=>b1) ?_;clear hKS KS;have y0:=(b1.cell (p:=⟨b,0,none⟩) bltW ab).trans e0;have y1:=(b1.frozen (p:=⟨b,0,none⟩) bltW ab).trans g0;refine ah rfl (by kernel_rfl) ?_;intro KS hKS;go_simp;refine hKS.out _ _ nofun ?_;clear hKS KS;refine ah rfl (by kernel_rfl) ?_;intro KS hKS;go_simp;refine hKS.out _ _ nofun ?_;clear hKS KS;refine ah rfl (by kernel_rfl) ?_;intro KS hKS;go_simp;refine hKS.out _ _ nofun ?_;clear hKS KS;refine ah rfl (by kernel_rfl) ?_
    intro KS hKS;go_simp;refine hKS.out _ _ nofun ?_;clear hKS KS;refine aH rfl (by kernel_rfl) ?_;have m0:=aA a3 gg rfl;have g2:=(a8.but b1 ab).set0 (.slice (some ⟨gg,0,none⟩) (l.length+1) a0)
    have h9:But (fun k=>k=b∨base≤k) w (w2.setCell ⟨b,0,none⟩ (.slice (some ⟨gg,0,none⟩) (l.length+1) a0)):=
     (c6.next b1 (fun k _ h=>Or.inr (aA b3 k h))).next (But.setB _ _ _ _) (fun _ _ h=>Or.inl h)
    have f9:=ag a3 (But.setB w2 b 0 (.slice (some ⟨gg,0,none⟩) (l.length+1) a0)) (fun g hg h=>by have:=aA a3 g hg;omega);have a6:But (fun k=>k=b∨(Value.slice ao l.length cap).ownBlock=some k) W (w2.setCell ⟨b,0,none⟩ (.slice (some ⟨gg,0,none⟩) (l.length+1) a0)):=(b1.mono (fun _ _ h=>Or.inr h)).next (But.setB _ _ _ _) (fun _ _ h=>Or.inl h)
    have f8: ∀x∈l++ [(⟨par,fl⟩,.slice a4 fl.length cap1)],BtB (w2.setCell ⟨b,0,none⟩ (.slice (some ⟨gg,0,none⟩) (l.length+1) a0)) base x.2 x.1.fields:=by
     intro x hx;rcases List.mem_append.1 hx with hx|hx
     ·refine aY (i7 x hx) a6 (fun g cur hh hg h=> ?_);rcases h with h|h
      ·omega
      ·exact ex b3 hh (by decide) h
     ·simp at hx;subst hx;refine aY (World.ownsRow.mono e6 (by show base≤wr.heap.size;omega)) a6 (fun g cur hh hg h=> ?_);rcases h with h|h
      ·omega
      ·exact ex b3 hh (by decide) h
    have f7:TcV (w2.setCell ⟨b,0,none⟩ (.slice (some ⟨gg,0,none⟩) (l.length+1) a0)) base (.slice (some ⟨gg,0,none⟩) (l.length+1) a0) (cs++ [⟨par,fl⟩]):=
     ⟨l++ [(⟨par,fl⟩,.slice a4 fl.length cap1)],by rw[qv,List.length_append];exact f9,by rw[List.map_append,g6];rfl,f8⟩
    clear f8 a6 f9;generalize (w2.setCell ⟨b,0,none⟩ (.slice (some ⟨gg,0,none⟩) (l.length+1) a0))=W3 at*;rw[f1.out]at g2 f7 hlt;clear y0 y1 e0 g0 k0 k1 b1 a5;go_wp2_with fail
    go_roundg m'
    case measure=>omega
    case rel=>exact⟨_,a0,j1,b4,cs++ [bA.mk par fl],by simp;omega,h9,by simpa using g2,by simpa using f7,h5.out⟩
   ·have b6:(!bad'&& !decide (pk s j=59))=false:=by
     cases bad' with
     |true=>rfl
     |false=>
      by_cases h:pk s j=59
      ·simp[h]
      ·exact absurd ⟨rfl,h⟩ hgo
    have hx:bad'=true∨ ¬cs.length<4∨pk s j=59:=by
     cases bad' with
     |true=>exact Or.inl rfl
     |false=>
      right;right
      by_cases h:pk s j=59
      ·exact h
      ·exact absurd ⟨rfl,h⟩ hgo
    have HX:=hid hx;have a1:=cJ b s j bad' _ v1 v2 wr 59 b0;rw[b6]at a1;have e3:=hid a1;clear b6 a1 hx hgo HC;go_wp2_with fail;refine e3.out.mono ?_;rintro en w1 ⟨rfl,m,rfl⟩;go_wp2_with fail;refine(dv b s j bad' _ v1 v2 _ 59 (by decide) hs (b0.drewN m)).mono ?_;rintro en w2 ⟨rfl,e4,e7⟩;go_wp2_with fail;go_end0;exact⟨rfl,HF.out _ (But.drewN _ _ _) HX.out w2 e4 e7⟩
  ·have j0: ¬(cs.length:Int)<4:=by omega
   go_wp2_with fail;refine(dv b s j bad' _ v1 v2 _ 59 (by decide) hs b0).mono ?_;rintro en w2 ⟨rfl,e4,e7⟩;go_wp2_with fail;go_end0;exact⟨rfl,HF.out _ (But.refl _ _) (Or.inr (Or.inl hlt)) w2 e4 e7⟩
def lm (s:ByteArray) (n i:Nat) (bad:Bool):Except Nat (List Sig×Nat):=if bad=true then .error i else kQ s n 3 [] i
def ua (s:ByteArray) (n:Nat) (R:Except Nat (List Sig×Nat)) (mm:Nat) (ms:List Sig) (j:Nat) (bad:Bool):Prop:=
 (bad=false∧ms.length+mm=3∧kQ s n mm ms j=R)∨(bad=true∧R= .error j)
theorem ua.fin {s:ByteArray} {n:Nat} {R:Except Nat (List Sig×Nat)} {mm:Nat} {ms:List Sig} {j:Nat} {bad:Bool} (h:ua s n R mm ms j bad) (hx:bad=true∨ ¬ms.length<3∨pk s j=59):
  ((tkP s 59 j bad).2=false∧R= .ok (ms,(tkP s 59 j bad).1))∨((tkP s 59 j bad).2=true∧R= .error (tkP s 59 j bad).1):=by
 rcases h with⟨rfl,h3,h4⟩ | ⟨rfl,h2⟩
 ·by_cases hp:pk s j=59
  ·left
   rw[kI hp];refine⟨rfl,?_⟩;rw[←h4]
   cases mm<;>simp[kQ,hp]
  ·right
   rw[ea (Or.inr hp)];refine⟨rfl,?_⟩
   have hm:mm=0:=by
    rcases hx with h|h|h
    ·cases h
    ·omega
    ·exact absurd h hp
   subst hm;rw[←h4];have:(pk s j).toNat≠59:=fun h=>hp ((u8n (by decide)).1 h)
   simp[kQ,this]
 ·right
  rw[ea (Or.inl rfl)];exact⟨rfl,h2⟩
theorem yu {s:ByteArray} {n i:Nat} (h:cG n (pk s i)=true):tyX s n i false=(pk s i,i+1,false):=by unfold tyX;rw[if_pos ⟨rfl,h⟩]
theorem ub {s:ByteArray} {n i:Nat} {bad:Bool} (h:bad=true∨cG n (pk s i)=false): ∃c,tyX s n i bad=(c,i,true):=by
 unfold tyX;rw[if_neg]
 ·exact⟨_,rfl⟩
 ·rintro⟨h1,h2⟩;rcases h with h|h
  ·rw[h]at h1;cases h1
  ·rw[h]at h2;cases h2
theorem ua.next {s:ByteArray} {n:Nat} {R:Except Nat (List Sig×Nat)} {mm:Nat} {ms:List Sig} {j:Nat} (h:ua s n R mm ms j false) (hl:ms.length<3) (hp:pk s j≠59):
  ∃m',m'<mm∧ua s n R m' (ms++ [⟨(tyX s n j false).1,(tyX s n (tyX s n j false).2.1 (tyX s n j false).2.2).1⟩])
   (tkP s 46 (tyX s n (tyX s n j false).2.1 (tyX s n j false).2.2).2.1 (tyX s n (tyX s n j false).2.1 (tyX s n j false).2.2).2.2).1
   (tkP s 46 (tyX s n (tyX s n j false).2.1 (tyX s n j false).2.2).2.1 (tyX s n (tyX s n j false).2.1 (tyX s n j false).2.2).2.2).2:=by
 rcases h with⟨_,h3,h4⟩ | ⟨h,_⟩
 ·obtain⟨f,rfl⟩: ∃f,mm=f+1:=⟨mm-1,by omega⟩;have a1:(pk s j).toNat≠59:=fun h=>hp ((u8n (by decide)).1 h)
  rw[kQ,if_neg a1]at h4;unfold tyP AZ at h4
  cases h1:cG n (pk s j)with
  |false=>
   obtain⟨c,hc⟩:=ub (s:=s) (n:=n) (i:=j) (bad:=false) (Or.inr h1);obtain⟨c2,a0⟩:=ub (s:=s) (n:=n) (i:=j) (bad:=true) (Or.inl rfl);rw[hc];simp only;rw[a0];simp only;rw[ea (Or.inl rfl)];rw[h1]at h4;exact⟨0,by omega,Or.inr ⟨rfl,h4.symm⟩⟩
  |true=>
   rw[yu h1];simp only;rw[h1]at h4;simp only[if_true]at h4
   cases h2:cG n (pk s (j+1))with
   |false=>
    obtain⟨c2,a0⟩:=ub (s:=s) (n:=n) (i:=j+1) (bad:=false) (Or.inr h2);rw[a0];simp only;rw[ea (Or.inl rfl)];rw[h2]at h4;exact⟨0,by omega,Or.inr ⟨rfl,h4.symm⟩⟩
   |true=>
    rw[yu h2];simp only;rw[h2]at h4;simp only[if_true]at h4
    by_cases h5:pk s (j+1+1)=46
    ·rw[kI h5];rw[if_pos h5]at h4;exact⟨f,by omega,Or.inl ⟨rfl,by simp;omega,h4⟩⟩
    ·rw[ea (Or.inr h5)];rw[if_neg h5]at h4;exact⟨0,by omega,Or.inr ⟨rfl,h4.symm⟩⟩
 ·cases h
theorem wA:(Tryz.prog.info? 243).map (fun i=>(i.zero,i.size,i.bytes))=some (some (.agg #[.int .u8 0,.int .u8 0]),2,2):=by kernel_rfl
theorem iB (b base:Nat) (s:ByteArray) (i:Nat) (bad:Bool) (a0:Option Addr) (n cap0:Nat) (v2:RdV) (w:World) (hs:s.size≤2000) (hn:n≤4) (hR:XrB w b s i bad (.slice a0 n cap0) (.slice none 0 0) v2) (hb:b<base) (hbase:base≤w.heap.size):
  Calls Tryz.prog 99 #[.pointer (some ⟨b,0,none⟩)] w fun en w'=>en= .returned (.tuple #[])∧But (fun k=>k=b) w w'∧ ∃v1 ms j bad',XrB w' b s j bad' (.slice a0 n cap0) v1 v2∧TmV w' base v1 ms∧ms.length≤3∧
   ((bad'=false∧lm s n i bad= .ok (ms,j))∨(bad'=true∧lm s n i bad= .error j)):=by
 obtain⟨R,c6⟩: ∃R,lm s n i bad=R:=⟨_,rfl⟩;rw[c6]
 have f5:ua s n R 3 [] i bad:=by
  unfold lm at c6
  cases bad with
  |true=>exact Or.inr ⟨rfl,c6.symm⟩
  |false=>exact Or.inl ⟨rfl,rfl,c6⟩
 have f9:=hid f5;clear c6 f5;obtain⟨i0,g2,g6,g7,h5⟩:=info_parts wA;have h9:=hR.lt
 go_in
 go_wp2_with fail
 go_loopg [] 3 (fun mm wr=> ∃(ao:Option Addr) (cap j:Nat) (bad':Bool) (ms:List Sig),ms.length≤3∧But (fun k=>k=b) w wr∧XrB wr b s j bad' (.slice a0 n cap0) (.slice ao ms.length cap) v2∧TmV wr w.heap.size (.slice ao ms.length cap) ms∧Hid (ua s n R mm ms j bad'))
 case atStart=>exact⟨none,0,i,bad,[],by simp,But.refl _ _,hR,fT _ _ _ _,f9.out⟩
 case round=>
  obtain⟨ao,cap,j,bad',ms,hcl,e4,a5,f1,HC⟩:=hrel;have h1:=a5.c1;have h0:=a5.c0;have g5:=e4.size;have h8:=a5.lt
  have e2: ∀(w1:World),But (fun _=>False) wr w1→(bad'=true∨ ¬ms.length<3∨pk s j=59)→ ∀(w2:World),But (· =b) w1 w2→XrB w2 b s (tkP s 59 j bad').1 (tkP s 59 j bad').2 (.slice a0 n cap0) (.slice ao ms.length cap) v2→
    But (fun k=>k=b) w w2∧ ∃v1 ms j bad',XrB w2 b s j bad' (.slice a0 n cap0) v1 v2∧TmV w2 base v1 ms∧ms.length≤3∧((bad'=false∧R= .ok (ms,j))∨(bad'=true∧R= .error j)):=by
   intro w1 h1 h2 w2 h3 h4;have b4:But (· =b) wr w2:=(h1.mono (fun _ _ h=>h.elim)).trans h3;exact⟨e4.trans b4,_,ms,_,_,h4,World.ownsRow.mono (f1.but b4 (fun g e cur _ _ hg h=>by omega)) hbase,hcl,HC.out.fin h2⟩
  have HF:=hid e2;clear e2
  by_cases hlt:ms.length<3
  ·have g3:(ms.length:Int)<3:=by omega
   by_cases hgo:bad'=false∧pk s j≠59
   ·obtain⟨rfl,e6⟩:=hgo;have e0:(!false&& !decide (pk s j=59))=true:=by simp[e6]
    have a2:=cJ b s j false _ _ v2 wr 59 a5;rw[e0]at a2;have e3:=hid a2;obtain⟨m',i2,e9⟩:=HC.out.next hlt e6;have a7:=hid e9;clear e0 a2 e6 HC HF e9;go_wp2_with fail;refine e3.out.mono ?_;rintro en w1 ⟨rfl,m,rfl⟩;go_wp2_with fail;refine(lS b s j false _ _ v2 (wr.drewN m) n hn hs (a5.drewN m)).mono ?_;rintro en w1 ⟨rfl,e7,b9⟩;revert a7 b9;generalize tyX s n j false=Y1;intro a7 b9;obtain⟨c1,j1,b1⟩:=Y1;simp only at b9;go_wp2_with fail;refine(lS b s j1 b1 _ _ v2 w1 n hn hs b9).mono ?_;rintro en w2 ⟨rfl,b0,a4⟩;revert a7 a4;dsimp only;generalize tyX s n j1 b1=Y2;intro a7 a4;obtain⟨c2,j2,b2⟩:=Y2;simp only at a4
    go_wp2_with fail;refine(dv b s j2 b2 _ _ v2 w2 46 (by decide) hs a4).mono ?_;rintro en W ⟨rfl,b5,a8⟩;revert a7 a8;dsimp only;generalize tkP s 46 j2 b2=Y3;intro a7 a8;obtain⟨j3,b3⟩:=Y3;simp only at a8;have b6:But (· =b) wr W:=(((But.drewN _ _ _).trans e7).trans b0).trans b5;have e8:But (· =b) w W:=e4.trans b6;have e5:W.ownsRow w.heap.size 243 2 (.slice ao ms.length cap) ms.length (fk ms):=f1.but b6 (fun g e cur _ _ hg h=>by omega);have e1:=a8.c1;have g1:=a8.fz 1;have bltW:=a8.lt;have ab:(Value.slice ao ms.length cap).ownBlock≠some b:=fun h=>by have:=aA e5 _ h;omega
    have h6:But (fun k=>(Value.slice ao ms.length cap).ownBlock=some k) W W.drew:=But.drew _ _;have h7:=e8.size;clear h0 h1 b9 a4 e7 b0 b5;go_wp2_with (at_builtin;refine wpList_append_lies _ rfl _ _ _ rfl w.heap.size 243 i0 _ 2 2 (by kernel_rfl) g2 g6 g7 h5 rfl (by omega) _ ms.length (fk ms) rfl (e5.alloc _) ⟨W.heap.size,0,none⟩ 1 1 [.int .u8 c1.toNat,.int .u8 c2.toNat] rfl rfl (World.news_of_block (cs:=#[.int .u8 c1.toNat,.int .u8 c2.toNat]) (t:=243) (fr:=(0,0)) (heap_alloc_new W _)) (by simp[Value.oneCell']) (by omega) (by unfold maxLen;omega) (by omega) (by simp;omega) (W.heap.size+1) (by simp) ?_)
    intro gg a1 w3 a3 a6 g0 g4;have d6:But (fun k=>(Value.slice ao ms.length cap).ownBlock=some k) W w3:=(But.alloc _ _ _).trans (bc a6);have y0:=(d6.cell (p:=⟨b,1,none⟩) bltW ab).trans e1;have y1:=(d6.frozen (p:=⟨b,1,none⟩) bltW ab).trans g1;have i1:=aA a3 gg rfl;have f3:=(a8.but d6 ab).set1 (.slice (some ⟨gg,0,none⟩) (ms.length+1) a1)
    have b5:But (· =b) w (w3.setCell ⟨b,1,none⟩ (.slice (some ⟨gg,0,none⟩) (ms.length+1) a1)):=
     (e8.next d6 (fun k hk h=>by have:=aA e5 k h;omega)).trans (But.setB _ _ _ _)
    have f2:=ag a3 (But.setB w3 b 1 (.slice (some ⟨gg,0,none⟩) (ms.length+1) a1)) (fun g hg h=>by have:=aA a3 g hg;omega)
    have f0:TmV (w3.setCell ⟨b,1,none⟩ (.slice (some ⟨gg,0,none⟩) (ms.length+1) a1)) w.heap.size (.slice (some ⟨gg,0,none⟩) (ms++ [Sig.mk c1 c2]).length a1) (ms++ [Sig.mk c1 c2]):=by
     unfold TmV;rw[oO,List.length_append];exact f2
    have f4:XrB (w3.setCell ⟨b,1,none⟩ (.slice (some ⟨gg,0,none⟩) (ms.length+1) a1)) b s j3 b3 (.slice a0 n cap0) (.slice (some ⟨gg,0,none⟩) (ms++ [Sig.mk c1 c2]).length a1) v2:=by
     rw[List.length_append];exact f3
    have f8:=hid f4;have f7:=hid f0;have f6:=hid b5;clear f2 f3 f4 f0 b5 d6 a6 g0 a3 e1 g1;go_wp2_with fail
    go_roundg m'
    case measure=>omega
    case rel=>exact⟨_,a1,j3,b3,ms++ [Sig.mk c1 c2],by simp;omega,f6.out,f8.out,f7.out,a7.out⟩
   ·have e0:(!bad'&& !decide (pk s j=59))=false:=by
     cases bad' with
     |true=>rfl
     |false=>
      by_cases h:pk s j=59
      ·simp[h]
      ·exact absurd ⟨rfl,h⟩ hgo
    have hx:bad'=true∨ ¬ms.length<3∨pk s j=59:=by
     cases bad' with
     |true=>exact Or.inl rfl
     |false=>
      right;right
      by_cases h:pk s j=59
      ·exact h
      ·exact absurd ⟨rfl,h⟩ hgo
    have HX:=hid hx;have a2:=cJ b s j bad' _ _ v2 wr 59 a5;rw[e0]at a2;have e3:=hid a2;clear e0 a2 hx hgo HC;go_wp2_with fail;refine e3.out.mono ?_;rintro en w1 ⟨rfl,m,rfl⟩;go_wp2_with fail;refine(dv b s j bad' _ _ v2 _ 59 (by decide) hs (a5.drewN m)).mono ?_;rintro en w2 ⟨rfl,b0,a4⟩;go_wp2_with fail;go_end0;exact⟨rfl,HF.out _ (But.drewN _ _ _) HX.out w2 b0 a4⟩
  ·have g3: ¬(ms.length:Int)<3:=by omega
   go_wp2_with fail;refine(dv b s j bad' _ _ v2 _ 59 (by decide) hs a5).mono ?_;rintro en w2 ⟨rfl,b0,a4⟩;go_wp2_with fail;go_end0;exact⟨rfl,HF.out _ (But.refl _ _) (Or.inr (Or.inl hlt)) w2 b0 a4⟩
def TxB (w:World) (b:Nat) (bs:List bz):Prop:=
 ∃v2,w.cell? ⟨b,2,none⟩=some v2∧b<w.heap.size∧TbV w 0 v2 bs
theorem TxB.but {w w':World} {b:Nat} {bs:List bz} (h:TxB w b bs) (hb:But (fun _=>False) w w'):TxB w' b bs:=by
 obtain⟨v2,h0,hl,hT⟩:=h;exact⟨v2,hb.kc h0 hl,Nat.lt_of_lt_of_le hl hb.size,hT.but hb (fun _ _ _ _ _ _ h=>h)⟩
theorem TbV.mono {w:World} {base base':Nat} {v:Value} {bs:List bz} (h:TbV w base v bs) (hb:base'≤base):TbV w base' v bs:=by
 obtain⟨l,h1,h2,h3⟩:=h;exact⟨l,h1.mono hb,h2,fun x hx=>⟨World.ownsRow.mono (h3 x hx).1 hb,World.ownsRow.mono (h3 x hx).2 hb⟩⟩
theorem TbV.tx {w:World} {base b:Nat} {v:Value} {bs:List bz} (h:TbV w base v bs) (hc:w.cell? ⟨b,2,none⟩=some v) (hb:b<w.heap.size):TxB w b bs:=
 ⟨v,hc,hb,h.mono (Nat.zero_le _)⟩
def jG (bs:List bz) (c:UInt8) (m:Nat):Nat→Nat→Int
 |0,_=> -1
 |f+1,k=>match bs[k]? with
  |some x=>if x.cls=c∧x.meth=m then(k:Int)else jG bs c m f (k+1)
  |none=> -1
theorem ln (b:Nat) (bs:List bz) (c:UInt8) (m:Nat) (w:World) (hn:bs.length≤100) (hT:TxB w b bs):
  Calls Tryz.prog 221 #[.pointer (some ⟨b,0,none⟩),.int .u8 c.toNat,.int .i64 m] w fun e w'=>e= .returned (.int .i64 (jG bs c m bs.length 0))∧But (fun _=>False) w w':=by
 obtain⟨v2,h0,hl,l,hO,hm,hf⟩:=hT;obtain⟨ao,cap,rfl⟩:=aw hO;have a6:l.length=bs.length:=by rw[←hm];simp
 obtain⟨R,a1⟩: ∃R,jG bs c m bs.length 0=R:=⟨_,rfl⟩;rw[a1];rw[←a6]at a1 hn;have a3:=hid a1;have HM:=hid hm;clear a1 hm a6 hf
 go_in
 go_wp2_with fail
 go_loopg [7] l.length (fun mm is wr=> ∃(k:Nat),is= .int .i64 k∧k≤l.length∧k+mm≤l.length∧l.length≤k+mm∧But (fun _=>False) w wr∧Hid (jG bs c m mm k=R))
 case atStart=>exact⟨0,rfl,by omega,by omega,by omega,But.refl _ _,a3.out⟩
 case round=>
  obtain⟨k,rfl,b3,a7,b4,hB,HA⟩:=hrel;have a5:gk=l.length-k:=by omega
  rw[a5]at HA;clear a5 a7;have b0:=hB.kc h0 hl
  by_cases hlt:k<l.length
  ·have a8:(k:Int)<(l.length:Int):=by omega
   rw[show l.length-k=(l.length-(k+1))+1 from by omega]at HA;have hx:=List.getElem?_eq_getElem hlt;have a4:bs[k]?=some l[k].1:=by rw[←HM.out,List.getElem?_map,hx];rfl
   obtain⟨g,hg,b1,b2,a0⟩:=aI (ag hO hB (fun _ _ h=>h)) (by omega);have q0:wr.cell? ⟨g,k*5,none⟩=some (.int .u8 l[k].1.cls.toNat):=a0 _ _ (aW (k:=0) hx (by omega));have q1:wr.cell? ⟨g,k*5+1,none⟩=some (.int .i64 l[k].1.meth):=a0 _ _ (aW (k:=1) hx (by omega));have hA:=HA.out;simp only[jG,a4]at hA;revert q0 q1 hA;generalize l[k].1=X;intro q0 q1 hA;subst hg;clear hx a4 a0 HA a3
   by_cases h1:X.cls=c
   ·have e1:((X.cls.toNat:Int)==(c.toNat:Int))=true:=by rw[h1];simp
    by_cases h2:X.meth=m
    ·have e2:((X.meth:Int)==(m:Int))=true:=by rw[h2];simp
     rw[if_pos ⟨h1,h2⟩]at hA;subst hA;clear h1 h2;go_wp2_with fail;go_ret;exact⟨rfl,hB⟩
    ·have e2:((X.meth:Int)==(m:Int))=false:=by rw[beq_eq_false_iff_ne];omega
     rw[if_neg (fun h=>h2 h.2)]at hA;have a2:=hid hA;clear h1 h2 hA;go_wp2_with fail
     go_roundg (l.length-(k+1))
     case measure=>omega
     case rel=>exact⟨k+1,by simp,by omega,by omega,by omega,hB,a2.out⟩
   ·have e1:((X.cls.toNat:Int)==(c.toNat:Int))=false:=by rw[beq_eq_false_iff_ne];intro h;exact h1 (UInt8.toNat_inj.1 (by omega))
    rw[if_neg (fun h=>h1 h.1)]at hA;have a2:=hid hA;clear h1 hA;go_wp2_with fail
    go_roundg (l.length-(k+1))
    case measure=>omega
    case rel=>exact⟨k+1,by simp,by omega,by omega,by omega,hB,a2.out⟩
  ·have a8: ¬(k:Int)<(l.length:Int):=by omega
   rw[show l.length-k=0 from by omega]at HA;have hA: -1=R:=HA.out;subst hA;clear HA a3;go_wp2_with fail;go_ret;exact⟨rfl,hB⟩
def eM (cs:List bA) (bs:List bz) (m:Nat):Nat→UInt8→Int
 |0,_=> -1
 |f+1,c=>if c.toNat=45 then-1 else if 0≤jG bs c m bs.length 0 then jG bs c m bs.length 0 else eM cs bs m f (iT cs c)
theorem mq (b:Nat) (cs:List bA) (bs:List bz) (c:UInt8) (m:Nat) (w:World) (hn:cs.length≤100) (hnb:bs.length≤100) (hC:TxC w b cs) (hT:TxB w b bs):
  Calls Tryz.prog 224 #[.pointer (some ⟨b,0,none⟩),.int .u8 c.toNat,.int .i64 m] w fun e w'=>e= .returned (.int .i64 (eM cs bs m cs.length c))∧But (fun _=>False) w w':=by
 obtain⟨R,a5⟩: ∃R,eM cs bs m cs.length c=R:=⟨_,rfl⟩;rw[a5];have b0:=hC;obtain⟨v0,l,h0,hl,hO,hm,hf⟩:=b0;obtain⟨ao,cap,rfl⟩:=aw hO;have a8:l.length=cs.length:=by rw[←hm];simp
 rw[a8]at h0;clear hm hf hO a8;have a4:=hid a5;clear a5;obtain⟨n,a1⟩: ∃n,cs.length=n:=⟨_,rfl⟩;have HN:=hid a1;rw[a1]at h0 hn;rw[a1]at a4;clear a1
 go_in
 go_wp2_with fail
 go_loopg [7,8] n (fun mm ls is wr=> ∃(x:UInt8) (k:Nat),ls= .int .u8 x.toNat∧is= .int .i64 k∧k≤n∧k+mm≤n∧n≤k+mm∧But (fun _=>False) w wr∧Hid (eM cs bs m mm x=R))
 case atStart=>exact⟨c,0,rfl,rfl,by omega,by omega,by omega,But.refl _ _,a4.out⟩
 case round=>
  obtain⟨x,k,rfl,rfl,b5,b1,b6,hB,HA⟩:=hrel;have a7:gk=n-k:=by omega
  rw[a7]at HA;clear a7 b1;have b4:=hB.kc h0 hl;clear a4
  by_cases hlt:k<n
  ·have b2:(k:Int)<(n:Int):=by omega
   rw[show n-k=(n-(k+1))+1 from by omega]at HA;have hA:=HA.out;simp only[eM]at hA;clear HA
   by_cases h45:x.toNat=45
   ·rw[if_pos h45]at hA;subst hA;have e:((x.toNat:Int)==45)=true:=by rw[beq_iff_eq];omega
    have e':((x.toNat:Int)!=45)=false:=by simp[bne,e]
    have e2:(x.toNat:Int)=45:=by omega
    have E2:=hid e2;clear h45 e2;go_wp2_with fail;go_ret;exact⟨rfl,hB⟩
   ·rw[if_neg h45]at hA;have e:=tf x.toNat 45 (by omega);have e':((x.toNat:Int)!=45)=true:=by simp[bne,e]
    have e2: ¬(x.toNat:Int)=45:=by omega
    have a2:=ln b bs x m wr hnb (hT.but hB);revert a2 hA;generalize jG bs x m bs.length 0=o;intro hA a2;have a6:=hid a2;clear a2 h45
    by_cases ho:0≤o
    ·rw[if_pos ho]at hA;subst hA;go_wp2_with fail;refine a6.out.mono ?_;rintro en w1 ⟨rfl,a0⟩;go_wp2_with fail;go_ret;exact⟨rfl,hB.trans a0⟩
    ·rw[if_neg ho]at hA;have a3:=hid hA;clear hA;go_wp2_with fail;refine a6.out.mono ?_;rintro en w1 ⟨rfl,a0⟩;go_wp2_with fail;refine(nJ b cs x w1 (by rw[HN.out];exact hn) ((hC.but hB).but a0)).mono ?_;rintro en w2 ⟨rfl,b3⟩;subst b3;revert a3;generalize iT cs x=px;intro a3;go_wp2_with fail
     go_roundg (n-(k+1))
     case measure=>omega
     case rel=>exact⟨px,k+1,rfl,by simp,by omega,by omega,by omega,hB.trans a0,a3.out⟩
  ·have b2: ¬(k:Int)<(n:Int):=by omega
   rw[show n-k=0 from by omega]at HA;have hA: -1=R:=HA.out;subst hA;clear HA;go_wp2_with fail;go_ret;exact⟨rfl,hB⟩
def eN (cs:List bA) (bs:List bz) (n:Nat) (x:XIt):Bool:=
 if x.op.toNat=106∨x.op.toNat=102 then decide (n≤x.num)else if x.op.toNat=99 then decide (eM cs bs x.num cs.length x.cls<0)else false
def itV (x:XIt):Value:= .agg #[.int .i64 x.place,.int .u8 x.op.toNat,.int .u8 x.cls.toNat,.int .i64 x.num,.slice x.pa x.pn x.pc]
theorem oU (b:Nat) (cs:List bA) (bs:List bz) (x:XIt) (n:Nat) (w:World) (hn:cs.length≤100) (hnb:bs.length≤100) (hC:TxC w b cs) (hT:TxB w b bs):
  Calls Tryz.prog 170 #[.pointer (some ⟨b,0,none⟩),itV x,.int .i64 n] w fun e w'=>e= .returned (.bool (eN cs bs n x))∧But (fun _=>False) w w':=by
 obtain⟨pl,op,cl,nu,pa,pn,pc⟩:=x;unfold itV
 by_cases h106:op.toNat=106
 ·have hc:op=106:=UInt8.toNat_inj.1 h106;subst hc;rw[show eN cs bs n ⟨pl,106,cl,nu,pa,pn,pc⟩=decide (n≤nu)from by simp[eN]]
  by_cases hle:(n:Int)≤(nu:Int)
  ·rw[show decide (n≤nu)=true from by simp;omega]
   go_in
   go_wp2_with fail;go_ret;exact⟨rfl,But.alloc _ _ _⟩
  ·rw[show decide (n≤nu)=false from by simp;omega]
   go_in
   go_wp2_with fail;go_ret;exact⟨rfl,But.alloc _ _ _⟩
 by_cases h102:op.toNat=102
 ·have hc:op=102:=UInt8.toNat_inj.1 h102;subst hc;rw[show eN cs bs n ⟨pl,102,cl,nu,pa,pn,pc⟩=decide (n≤nu)from by simp[eN]]
  by_cases hle:(n:Int)≤(nu:Int)
  ·rw[show decide (n≤nu)=true from by simp;omega]
   go_in
   go_wp2_with fail;go_ret;exact⟨rfl,But.alloc _ _ _⟩
  ·rw[show decide (n≤nu)=false from by simp;omega]
   go_in
   go_wp2_with fail;go_ret;exact⟨rfl,But.alloc _ _ _⟩
 by_cases h99:op.toNat=99
 ·have hc:op=99:=UInt8.toNat_inj.1 h99;subst hc;rw[show eN cs bs n ⟨pl,99,cl,nu,pa,pn,pc⟩=decide (eM cs bs nu cs.length cl<0)from by simp[eN]];have a0:=fun(wx:World) (h:But (fun _=>False) w wx)=>mq b cs bs cl nu wx hn hnb (hC.but h) (hT.but h)
  revert a0;generalize eM cs bs nu cs.length cl=o;intro a0;have a1:=hid a0;clear a0
  go_in
  go_wp2_with fail;refine(a1.out _ (But.alloc _ _ _)).mono ?_;rintro en w1 ⟨rfl,a4⟩;go_wp2_with fail;go_ret;exact⟨rfl,(But.alloc _ _ _).trans a4⟩
 rw[show eN cs bs n ⟨pl,op,cl,nu,pa,pn,pc⟩=false from by simp[eN,h106,h102,h99]];have a3:=tf op.toNat 106 (by omega);have a2:=tf op.toNat 102 (by omega);have a5:=tf op.toNat 99 (by omega);clear h106 h102 h99
 go_in
 go_wp2_with fail;go_ret;exact⟨rfl,But.alloc _ _ _⟩
end
end Go.Proofs.YtpfkkmacakjmbaaGreatDoor
