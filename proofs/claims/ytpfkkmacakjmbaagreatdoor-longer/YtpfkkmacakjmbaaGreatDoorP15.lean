import Derived.Test.YtpfkkmacakjmbaaGreatDoorP14
set_option maxRecDepth 100000
set_option maxHeartbeats 6400000
set_option linter.unusedSimpArgs false
set_option linter.unusedVariables false
namespace Go.Proofs.YtpfkkmacakjmbaaGreatDoor
section
open Go Go.RowKit Sp
attribute [local go_sem ↓] Go.wp_at_zero Go.wp_at_succ
theorem qK (x:XIt) (ps:List Nat) (ty:List UInt8) (ao:Option Addr) (ct:Nat) (w:World) (hl:ps.length≤3) (hps: ∀k∈ps,k≤100) (hP:w.ownsRow 0 3 1 (.slice x.pa x.pn x.pc) ps.length (dN ps)) (hT:BtB w 0 (.slice ao ty.length ct) ty):
  Calls Tryz.prog 147 #[itV x,.slice ao ty.length ct] w fun en w'=>But (fun _=>False) w w'∧ ∃a' c',en= .returned (.slice a' ps.length c')∧BtB w' w.heap.size (.slice a' ps.length c') (ps.map (bM ty)):=by
 obtain⟨i0,e0,e5,e6,e8⟩:=info_parts iR;obtain⟨pl,op,cl,nu,pa,pn,pc⟩:=x
 have e4:pn=ps.length:=by
  obtain⟨a',c',h⟩:=aw hP;injection h
 subst e4;unfold itV;dsimp only at hP⊢;have b3:But (fun _=>False) w (w.alloc (.cells #[.int .i64 pl,.int .u8 op.toNat,.int .u8 cl.toNat,.int .i64 nu,.slice pa ps.length pc] 219)):=But.alloc _ _ _;have b0:(w.alloc (.cells #[.int .i64 pl,.int .u8 op.toNat,.int .u8 cl.toNat,.int .i64 nu,.slice pa ps.length pc] 219)).heap[w.heap.size]?=some (.cells #[.int .i64 pl,.int .u8 op.toNat,.int .u8 cl.toNat,.int .i64 nu,.slice pa ps.length pc] 219):=heap_alloc_new _ _
 go_in
 go_wp2_with fail;have e9:(w.alloc (.cells #[.int .i64 pl,.int .u8 op.toNat,.int .u8 cl.toNat,.int .i64 nu,.slice pa ps.length pc] 219)).heap.size=w.heap.size+1:=by simp
 generalize (w.alloc (.cells #[.int .i64 pl,.int .u8 op.toNat,.int .u8 cl.toNat,.int .i64 nu,.slice pa ps.length pc] 219))=w1 at*;have hE:=BtB.empty w1;rw[e9]at hE;have e7:=b3.size;have b6:But (fun _=>False) w (w1.alloc (.cells #[] 5)):=b3.trans (But.alloc _ _ _)
 go_loopg [5,6] ps.length (fun mm vs ks wr=> ∃(a':Option Addr) (c' k:Nat) (l:List UInt8),vs= .slice a' k c'∧ks= .int .i64 k∧k≤ps.length∧k+mm≤ps.length∧ps.length≤k+mm∧wr.ownsRow (w.heap.size+1) 5 1 (.slice a' k c') k (aM l)∧But (fun _=>False) w wr∧w.heap.size+1≤wr.heap.size∧wr.heap[w.heap.size]?=some (.cells #[.int .i64 pl,.int .u8 op.toNat,.int .u8 cl.toNat,.int .i64 nu,.slice pa ps.length pc] 219)∧Hid (l=(ps.take k).map (bM ty)))
 case atStart=>exact⟨_,0,0,[],rfl,rfl,by omega,by omega,by omega,hE,b6,by simp;omega,((But.alloc (fun _=>False) w1 _).block _ (ae b0) (fun h=>h)).trans b0,rfl⟩
 case round=>
  obtain⟨a',c',k,l,rfl,rfl,f3,f4,f5,a6,a3,f7,b1,HL⟩:=hrel;have q4:=ce4 b1;have c6:=ae b1
  by_cases hlt:k<ps.length
  ·have e2:(k:Int)<(ps.length:Int):=by omega
   obtain⟨g,rfl,f1,f2,a0⟩:=aI (ag hP a3 (fun _ _ h=>h)) (by omega);obtain⟨v,hv⟩: ∃v,ps[k]=v:=⟨_,rfl⟩;have qk:=a0 _ _ (mU (List.getElem?_eq_getElem hlt));rw[hv]at qk;have b2:=hid (dj ao ct ty v wr (BtB.but hT a3 (fun _ _ h=>h)))
   have HN:Hid (l++ [bM ty v]=(ps.take (k+1)).map (bM ty)):=by
    show _=_
    rw[HL.out,List.take_add_one,List.getElem?_eq_getElem hlt,hv];simp
   clear a0 hv;generalize bM ty v=z at*;go_wp2_with fail;refine b2.out.mono ?_;rintro en wx ⟨rfl,b5⟩;rw[b5];clear b5 wx b2;have b4:=aA a6;go_wp2_with (at_builtin;refine wpList_append_lies _ rfl _ _ _ rfl (w.heap.size+1) 5 i0 _ 1 1 (by kernel_rfl) e0 e5 e6 e8 rfl (by omega) _ k (aM l) rfl (a6.alloc _) ⟨wr.heap.size,0,none⟩ 1 1 [.int .u8 z.toNat] rfl rfl (World.news_of_block (cs:=#[.int .u8 z.toNat]) (t:=5) (fr:=(0,0)) (heap_alloc_new wr _)) (by simp[Value.oneCell']) (by omega) (by unfold maxLen;omega) (by omega) (by simp;omega) (wr.heap.size+1) (by simp) ?_);intro gg a4 w5 a2 a1 f0 e3;have a7:But (fun k'=>(Value.slice a' k c').ownBlock=some k') wr w5:=(But.alloc _ _ _).trans (bc a1)
   have a5:But (fun _=>False) w w5:=a3.next a7 (fun k' hk' h=>absurd (b4 k' h) (by omega));have d6:=ae b0;have b9:=(a7.block _ c6 (fun h=>absurd (b4 _ h) (by omega))).trans b1;have f6:=a7.size;clear q4 qk;go_wp2_with fail
   go_roundg (ps.length-(k+1))
   case measure=>omega
   case rel=>exact⟨some ⟨gg,0,none⟩,a4,k+1,l++ [z],by simp,by simp,by omega,by omega,by omega,by rw[show aM (l++ [z])=aM l++ [.int .u8 z.toNat]from by simp[aM]];exact a2,a5,by omega,b9,HN⟩
  ·have e2: ¬(k:Int)<(ps.length:Int):=by omega
   have e1:k=ps.length:=by omega
   subst e1
   have a8:BtB wr w.heap.size (.slice a' ps.length c') (ps.map (bM ty)):=by
    have h1:=HL.out;rw[List.take_length]at h1;unfold BtB;rw[←h1,show l.length=ps.length from by rw[h1];simp];exact World.ownsRow.mono a6 (by omega)
   go_wp2_with fail;exact b8 (.slice a' ps.length c') Tryz.results147 rfl rfl ⟨a3,a',c',rfl,a8⟩
def b7 (cs:List bA) (ms:List Sig) (lo:List UInt8) (c k:UInt8) (n:Nat):List UInt8:=
 if c.toNat=105∨c.toNat=111 then [105]else if c.toNat=115 then [bM lo n]else ay cs ms c k n 45
def du (cs:List bA) (ms:List Sig) (lo:List UInt8) (c k:UInt8) (n:Nat) (ps:List UInt8):UInt8:=
 if c.toNat=115∨c.toNat=112∨c.toNat=119∨c.toNat=111 then 105 else if c.toNat=44 then bM ps 1 else if c.toNat=105 then fq cs (bM ps 1) (bM ps 2)else aF cs ms c k n lo
section
variable (b:Nat) (cs:List bA) (ms:List Sig) (c0:UInt8) (m0:Nat) (r0:UInt8) (al ai:Option Addr) (capl ni capi:Nat) (lo:List UInt8) (x:XIt) (w:World)
theorem wW (hn:cs.length≤100) (hm:ms.length≤100) (hT:TxC w b cs) (hM:TxM w b ms) (hB:BtB w 0 (.slice al lo.length capl) lo):
  Calls Tryz.prog 203 #[.pointer (some ⟨b,0,none⟩),hdV c0 m0 r0 (.slice al lo.length capl) (.slice ai ni capi),itV x] w fun en w'=>But (fun _=>False) w w'∧ ∃v,en= .returned v∧BtB w' w.heap.size v (b7 cs ms lo x.op x.cls x.num):=by
 obtain⟨pl,op,cl,nu,pa,pn,pc⟩:=x;unfold itV hdV;dsimp only;have a0:But (fun _=>False) w ((w.alloc (.cells #[.int .u8 c0.toNat,.int .i64 m0,.int .u8 r0.toNat,.slice al lo.length capl,.slice ai ni capi] 115)).alloc (.cells #[.int .i64 pl,.int .u8 op.toNat,.int .u8 cl.toNat,.int .i64 nu,.slice pa pn pc] 219)):=(But.alloc _ _ _).trans (But.alloc _ _ _)
 by_cases h1:op.toNat=105∨op.toNat=111
 ·rw[show b7 cs ms lo op cl nu=[105]from by simp[b7,h1]];have a5:=a0.size;have a1:=fun W h=>BtB.lit W w.heap.size h [105] (by simp)
  rcases h1 with h|h
  ·try (have a2:((op.toNat:Int)==105)=false:=by rw[beq_eq_false_iff_ne];omega)
   have a2:((op.toNat:Int)==105)=true:=by rw[beq_iff_eq];omega
   clear h
   go_in
   go_wp2_with fail;refine b8 (.slice (some ⟨w.heap.size+2,0,none⟩) 1 1) Tryz.results203 rfl rfl ⟨a0.trans (But.alloc _ _ _),_,rfl,?_⟩;have h9:=a1 ((w.alloc (.cells #[.int .u8 c0.toNat,.int .i64 m0,.int .u8 r0.toNat,.slice al lo.length capl,.slice ai ni capi] 115)).alloc (.cells #[.int .i64 pl,.int .u8 op.toNat,.int .u8 cl.toNat,.int .i64 nu,.slice pa pn pc] 219)) (by omega);simpa[aM]using h9
  ·try (have a2:((op.toNat:Int)==105)=false:=by rw[beq_eq_false_iff_ne];omega)
   have a3:((op.toNat:Int)==111)=true:=by rw[beq_iff_eq];omega
   clear h
   go_in
   go_wp2_with fail;refine b8 (.slice (some ⟨w.heap.size+2,0,none⟩) 1 1) Tryz.results203 rfl rfl ⟨a0.trans (But.alloc _ _ _),_,rfl,?_⟩;have h9:=a1 ((w.alloc (.cells #[.int .u8 c0.toNat,.int .i64 m0,.int .u8 r0.toNat,.slice al lo.length capl,.slice ai ni capi] 115)).alloc (.cells #[.int .i64 pl,.int .u8 op.toNat,.int .u8 cl.toNat,.int .i64 nu,.slice pa pn pc] 219)) (by omega);simpa[aM]using h9
 ·have a2:=tf op.toNat 105 (by omega);have a3:=tf op.toNat 111 (by omega)
  by_cases h2:op.toNat=115
  ·rw[show b7 cs ms lo op cl nu=[bM lo nu]from by simp[b7,h2]];have a4:((op.toNat:Int)==115)=true:=by rw[beq_iff_eq];omega
   have a6:=dj al capl lo nu ((w.alloc (.cells #[.int .u8 c0.toNat,.int .i64 m0,.int .u8 r0.toNat,.slice al lo.length capl,.slice ai ni capi] 115)).alloc (.cells #[.int .i64 pl,.int .u8 op.toNat,.int .u8 cl.toNat,.int .i64 nu,.slice pa pn pc] 219)) (BtB.but hB a0 (fun _ _ h=>h));have a8:=hid a6;have a5:=a0.size;have a1:=fun W h=>BtB.lit W w.heap.size h [bM lo nu] (by simp)
   clear h1 h2 a6;generalize bM lo nu=z at*
   go_in
   go_wp2_with fail;refine a8.out.mono ?_;rintro en wx ⟨rfl,a7⟩;rw[a7];clear a7 wx;go_wp2_with fail;refine b8 (.slice (some ⟨w.heap.size+2,0,none⟩) 1 1) Tryz.results203 rfl rfl ⟨a0.trans (But.alloc _ _ _),_,rfl,?_⟩;have h9:=a1 ((w.alloc (.cells #[.int .u8 c0.toNat,.int .i64 m0,.int .u8 r0.toNat,.slice al lo.length capl,.slice ai ni capi] 115)).alloc (.cells #[.int .i64 pl,.int .u8 op.toNat,.int .u8 cl.toNat,.int .i64 nu,.slice pa pn pc] 219)) (by omega);simpa[aM]using h9
  ·rw[show b7 cs ms lo op cl nu=ay cs ms op cl nu 45 from by simp[b7,h1,h2]];have a4:=tf op.toNat 115 (by omega);have b0:=hid (kK b cs ms pl nu op cl 45 ((w.alloc (.cells #[.int .u8 c0.toNat,.int .i64 m0,.int .u8 r0.toNat,.slice al lo.length capl,.slice ai ni capi] 115)).alloc (.cells #[.int .i64 pl,.int .u8 op.toNat,.int .u8 cl.toNat,.int .i64 nu,.slice pa pn pc] 219)) (ap:=pa) (np:=pn) (cp:=pc) hn hm (hT.but a0) (hM.but a0));have a5:=a0.size;clear h1 h2
   go_in
   go_wp2_with fail;refine b0.out.mono ?_;rintro en w5 ⟨b1,v,rfl,hv⟩;go_wp2_with fail;exact b8 (v) Tryz.results203 rfl rfl ⟨a0.trans b1,v,rfl,World.ownsRow.mono hv a5⟩
theorem sD (ap:Option Addr) (cp:Nat) (ps:List UInt8) (hn:cs.length≤100) (hm:ms.length≤100) (hT:TxC w b cs) (hM:TxM w b ms) (hB:BtB w 0 (.slice al lo.length capl) lo) (hP:BtB w 0 (.slice ap ps.length cp) ps):
  Calls Tryz.prog 149 #[.pointer (some ⟨b,0,none⟩),hdV c0 m0 r0 (.slice al lo.length capl) (.slice ai ni capi),itV x,.slice ap ps.length cp] w fun en w'=>But (fun _=>False) w w'∧en= .returned (.int .u8 (du cs ms lo x.op x.cls x.num ps).toNat):=by
 obtain⟨pl,op,cl,nu,pa,pn,pc⟩:=x;unfold itV hdV;dsimp only;have a0:But (fun _=>False) w ((w.alloc (.cells #[.int .u8 c0.toNat,.int .i64 m0,.int .u8 r0.toNat,.slice al lo.length capl,.slice ai ni capi] 115)).alloc (.cells #[.int .i64 pl,.int .u8 op.toNat,.int .u8 cl.toNat,.int .i64 nu,.slice pa pn pc] 219)):=(But.alloc _ _ _).trans (But.alloc _ _ _);have a5:=BtB.but hP a0 (fun _ _ h=>h)
 by_cases h1:op.toNat=115∨op.toNat=112∨op.toNat=119∨op.toNat=111
 ·rw[show du cs ms lo op cl nu ps=105 from by simp[du,h1]];rcases h1 with h|h|h|h
  ·try (have a2:((op.toNat:Int)==115)=false:=by rw[beq_eq_false_iff_ne];omega)
   try (have a1:((op.toNat:Int)==112)=false:=by rw[beq_eq_false_iff_ne];omega)
   try (have a3:((op.toNat:Int)==119)=false:=by rw[beq_eq_false_iff_ne];omega)
   have a2:((op.toNat:Int)==115)=true:=by rw[beq_iff_eq];omega
   clear h
   go_in
   go_wp2_with fail;go_ret;exact⟨a0,rfl⟩
  ·try (have a2:((op.toNat:Int)==115)=false:=by rw[beq_eq_false_iff_ne];omega)
   try (have a1:((op.toNat:Int)==112)=false:=by rw[beq_eq_false_iff_ne];omega)
   try (have a3:((op.toNat:Int)==119)=false:=by rw[beq_eq_false_iff_ne];omega)
   have a1:((op.toNat:Int)==112)=true:=by rw[beq_iff_eq];omega
   clear h
   go_in
   go_wp2_with fail;go_ret;exact⟨a0,rfl⟩
  ·try (have a2:((op.toNat:Int)==115)=false:=by rw[beq_eq_false_iff_ne];omega)
   try (have a1:((op.toNat:Int)==112)=false:=by rw[beq_eq_false_iff_ne];omega)
   try (have a3:((op.toNat:Int)==119)=false:=by rw[beq_eq_false_iff_ne];omega)
   have a3:((op.toNat:Int)==119)=true:=by rw[beq_iff_eq];omega
   clear h
   go_in
   go_wp2_with fail;go_ret;exact⟨a0,rfl⟩
  ·try (have a2:((op.toNat:Int)==115)=false:=by rw[beq_eq_false_iff_ne];omega)
   try (have a1:((op.toNat:Int)==112)=false:=by rw[beq_eq_false_iff_ne];omega)
   try (have a3:((op.toNat:Int)==119)=false:=by rw[beq_eq_false_iff_ne];omega)
   have a7:((op.toNat:Int)==111)=true:=by rw[beq_iff_eq];omega
   clear h
   go_in
   go_wp2_with fail;go_ret;exact⟨a0,rfl⟩
 ·have a2:=tf op.toNat 115 (by omega);have a1:=tf op.toNat 112 (by omega);have a3:=tf op.toNat 119 (by omega);have a7:=tf op.toNat 111 (by omega);have b6:=hid a5
  by_cases h2:op.toNat=44
  ·rw[show du cs ms lo op cl nu ps=bM ps 1 from by simp[du,h2]];have b4:((op.toNat:Int)==44)=true:=by rw[beq_iff_eq];omega
   have b3:=hid (dj ap cp ps 1 _ a5);clear h1 h2
   go_in
   go_wp2_with fail;refine b3.out.mono ?_;rintro en wx ⟨rfl,a4⟩;rw[a4];clear a4 wx;go_wp2_with fail;go_ret;exact⟨a0,rfl⟩
  ·have b4:=tf op.toNat 44 (by omega)
   by_cases h3:op.toNat=105
   ·rw[show du cs ms lo op cl nu ps=fq cs (bM ps 1) (bM ps 2)from by simp[du,h3]];have a6:((op.toNat:Int)==105)=true:=by rw[beq_iff_eq];omega
    have b1:=hid (dj ap cp ps 1 _ a5);have b2:=hid (dj ap cp ps 2 _ a5);have b0:=hid (li b cs (bM ps 1) (bM ps 2) _ hn (hT.but a0));clear h1 h2 h3
    go_in
    go_wp2_with fail;refine b1.out.mono ?_;rintro en wx ⟨rfl,a4⟩;rw[a4];clear a4 wx;go_wp2_with fail;refine b2.out.mono ?_;rintro en wx ⟨rfl,a4⟩;rw[a4];clear a4 wx;go_wp2_with fail;refine b0.out.mono ?_;rintro en wx ⟨rfl,a4⟩;rw[a4];clear a4 wx;go_wp2_with fail;go_ret;exact⟨a0,rfl⟩
   ·have a6:=tf op.toNat 105 (by omega);rw[show du cs ms lo op cl nu ps=aF cs ms op cl nu lo from by simp[du,h1,h2,h3]];have a8:=hid (fd b cs ms pl nu op cl al capl lo _ (ap:=pa) (np:=pn) (cp:=pc) hn hm (hT.but a0) (hM.but a0) (BtB.but hB a0 (fun _ _ h=>h)));clear h1 h2 h3
    go_in
    go_wp2_with fail;refine a8.out.mono ?_;rintro en w5 ⟨rfl,b5⟩;go_wp2_with fail;go_ret;exact⟨a0.trans b5,rfl⟩
def jq (cs:List bA) (ak ps:List UInt8):Bool:=(List.range ak.length).all fun i=>bW cs (bM ps i) (ak.getD i 0)
theorem Aq {cs:List bA} {ak ps:List UInt8} {i:Nat} (hi:i<ak.length) (h:bW cs (bM ps i) (ak.getD i 0)=false):jq cs ak ps=false:=by
 unfold jq;rw[List.all_eq_false];exact⟨i,List.mem_range.2 hi,by rw[h];simp⟩
theorem yS {cs:List bA} {ak ps:List UInt8} (h: ∀i,i<ak.length→bW cs (bM ps i) (ak.getD i 0)=true):jq cs ak ps=true:=by
 unfold jq;rw[List.all_eq_true];exact fun i hi=>h i (List.mem_range.1 hi)
theorem qL (ap:Option Addr) (cp:Nat) (ps:List UInt8) (hn:cs.length≤100) (hm:ms.length≤100) (hT:TxC w b cs) (hM:TxM w b ms) (hB:BtB w 0 (.slice al lo.length capl) lo) (hP:BtB w 0 (.slice ap ps.length cp) ps) (hak:(b7 cs ms lo x.op x.cls x.num).length≤100):
  Calls Tryz.prog 148 #[.pointer (some ⟨b,0,none⟩),hdV c0 m0 r0 (.slice al lo.length capl) (.slice ai ni capi),itV x,.slice ap ps.length cp] w fun en w'=>But (fun _=>False) w w'∧en= .returned (.bool (jq cs (b7 cs ms lo x.op x.cls x.num) ps)):=by
 have a5:But (fun _=>False) w ((w.alloc (.cells #[.int .u8 c0.toNat,.int .i64 m0,.int .u8 r0.toNat,.slice al lo.length capl,.slice ai ni capi] 115)).alloc (.cells #[.int .i64 x.place,.int .u8 x.op.toNat,.int .u8 x.cls.toNat,.int .i64 x.num,.slice x.pa x.pn x.pc] 219)):=(But.alloc _ _ _).trans (But.alloc _ _ _);have b1:=hid (wW b cs ms c0 m0 r0 al ai capl ni capi lo x ((w.alloc (.cells #[.int .u8 c0.toNat,.int .i64 m0,.int .u8 r0.toNat,.slice al lo.length capl,.slice ai ni capi] 115)).alloc (.cells #[.int .i64 x.place,.int .u8 x.op.toNat,.int .u8 x.cls.toNat,.int .i64 x.num,.slice x.pa x.pn x.pc] 219)) hn hm (hT.but a5) (hM.but a5) (BtB.but hB a5 (fun _ _ h=>h)))
 obtain⟨A,hA⟩: ∃A,b7 cs ms lo x.op x.cls x.num=A:=⟨_,rfl⟩;rw[hA]at b1 hak⊢;clear hA;obtain⟨R,b4⟩: ∃R,jq cs A ps=R:=⟨_,rfl⟩;rw[b4];have b5:=hid b4;clear b4;unfold itV hdV at*
 go_in
 go_wp2_with fail;refine b1.out.mono ?_;rintro en w1 ⟨a4,v,rfl,hv⟩;obtain⟨av,cv,rfl⟩:=aw hv;have b6:=a5.trans a4;clear b1 a4 a5;go_wp2_with fail
 go_loopg [10] A.length (fun mm ks wr=> ∃(k:Nat),ks= .int .i64 k∧k≤A.length∧k+mm≤A.length∧A.length≤k+mm∧But (fun _=>False) w1 wr∧Hid (∀i,i<k→bW cs (bM ps i) (A.getD i 0)=true))
 case atStart=>exact⟨0,rfl,by omega,by omega,by omega,But.refl _ _,fun i h=>absurd h (by omega)⟩
 case round=>
  obtain⟨k,rfl,e1,e2,e3,b2,HA⟩:=hrel;have b3:=b6.trans b2
  by_cases hlt:k<A.length
  ·have c6:(k:Int)<(A.length:Int):=by omega
   have d6:=BtB.but hv b2 (fun _ _ h=>h);obtain⟨g,rfl,a2,e0,a1⟩:=aI d6 (by omega);have qk:=a1 _ _ (cZ hlt);have a8:=hid (dj ap cp ps k wr.drew (BtB.but hP (b3.trans (But.drew _ _)) (fun _ _ h=>h)));have a7:=hid (nM b cs (bM ps k) (A.getD k 0) wr.drew hn (hT.but (b3.trans (But.drew _ _))))
   have HX:Hid ((bW cs (bM ps k) (A.getD k 0)=false→R=false)∧(bW cs (bM ps k) (A.getD k 0)=true→ ∀i,i<k+1→bW cs (bM ps i) (A.getD i 0)=true)):=by
    refine hid ⟨fun h=>by rw[←b5.out];exact Aq hlt h,fun h i hi=> ?_⟩;rcases Nat.lt_or_ge i k with h'|h'
    ·exact HA.out i h'
    ·have:i=k:=by omega
     subst this;exact h
   clear a1;revert a7 HX qk a8;generalize bM ps k=P;generalize A.getD k 0=Q;intro qk a8 a7 HX;go_wp2_with fail;have a0:But (fun _=>False) wr wr.drew:=But.drew _ _;refine cB (But (fun _=>False) wr) 10 (by kernel_rfl) ?_;refine aB (k:=0) (v:= ?vA0) rfl (by decide) (by kernel_rfl) (fun _ _ _ h=>h) rfl a0 ?yA0 ?rA0
   case yA0=>intro wS h;have q0:=(h.kc qk a2);clear h;go_simp;try rfl
   dsimp only[Act.put]
   try simp only[aL]
   refine aB (k:=1) (v:= ?vA1) rfl (by decide) (by kernel_rfl) (fun _ _ _ h=>h) rfl a0 ?yA1 ?rA1
   case yA1=>intro wS h;have q0:=(h.kc qk a2);clear h;go_simp;try rfl
   dsimp only[Act.put]
   try simp only[aL]
   refine aB (k:=2) (v:= ?vA2) rfl (by decide) (by kernel_rfl) (fun _ _ _ h=>h) rfl a0 ?yA2 ?rA2
   case yA2=>intro wS h;have q0:=(h.kc qk a2);clear h;go_simp;try rfl
   dsimp only[Act.put]
   try simp only[aL]
   refine aB (k:=4) (v:= ?vA4) rfl (by decide) (by kernel_rfl) (fun _ _ _ h=>h) rfl a0 ?yA4 ?rA4
   case yA4=>intro wS h;have q0:=(h.kc qk a2);clear h;go_simp;try rfl
   dsimp only[Act.put]
   try simp only[aL]
   refine aB (k:=5) (v:= ?vA5) rfl (by decide) (by kernel_rfl) (fun _ _ _ h=>h) rfl a0 ?yA5 ?rA5
   case yA5=>intro wS h;have q0:=(h.kc qk a2);clear h;go_simp;try rfl
   dsimp only[Act.put]
   try simp only[aL]
   refine aB (k:=6) (v:= ?vA6) rfl (by decide) (by kernel_rfl) (fun _ _ _ h=>h) rfl a0 ?yA6 ?rA6
   case yA6=>intro wS h;have q0:=(h.kc qk a2);clear h;go_simp;try rfl
   dsimp only[Act.put]
   try simp only[aL]
   refine aB (k:=7) (v:= ?vA7) rfl (by decide) (by kernel_rfl) (fun _ _ _ h=>h) rfl a0 ?yA7 ?rA7
   case yA7=>intro wS h;have q0:=(h.kc qk a2);clear h;go_simp;try rfl
   dsimp only[Act.put]
   try simp only[aL]
   refine aE (k:=3) rfl (by decide) (by kernel_rfl) ?_;intro KS hKS;go_simp;refine a8.out.mono ?_;rintro en wx ⟨rfl,a6⟩;rw[a6];clear a6 wx;refine hKS.out _ _ (fun _=>a0) ?_;clear hKS KS;refine aE (k:=8) rfl (by decide) (by kernel_rfl) ?_;intro KS hKS;go_simp;refine a7.out.mono ?_;rintro en wx ⟨rfl,a6⟩;rw[a6];clear a6 wx;refine hKS.out _ _ (fun _=>a0) ?_;clear hKS KS;refine aE (k:=9) rfl (by decide) (by kernel_rfl) ?_;intro KS hKS;go_simp;refine hKS.out _ _ (fun _=>a0) ?_;clear hKS KS;refine ck rfl (by kernel_rfl) ?_;have b9:=b2.trans a0;have b0:=HX.out;clear HX a8 a7 qk a0;generalize wr.drew=wd at*
   cases hq:bW cs P Q with
   |false=>
    have a3:R=false:=b0.1 hq;subst a3;clear b0 hq;go_wp2_with fail;go_ret;exact⟨b6.trans b9,rfl⟩
   |true=>
    have HY:=hid (b0.2 hq);clear b0 hq;go_wp2_with fail
    go_roundg (A.length-(k+1))
    case measure=>omega
    case rel=>exact⟨k+1,by simp,by omega,by omega,by omega,b9,HY⟩
  ·have c6: ¬(k:Int)<(A.length:Int):=by omega
   have a3:R=true:=by rw[←b5.out];exact yS (fun i hi=>HA.out i (by omega))
   subst a3;go_wp2_with fail;go_ret;exact⟨b3,rfl⟩
end
end
section
open Go Go.RowKit Sp
def gz (s:ByteArray) (cs:List Cls) (ns nl i:Nat) (bad:Bool):Except Nat (List Ins×Nat):=if bad=true then .error i else mi s cs ns nl i
theorem sE {s:ByteArray} {cs:List Cls} {ns nl i:Nat} {bad:Bool} {j:Nat} {bad':Bool} {Q:List Ins→Prop} (h:(bad'=false∧ ∃is,kM s cs ns nl i bad= .ok (is,j)∧Q is)∨(bad'=true∧kM s cs ns nl i bad= .error j)):
  ((tkP s 46 j bad').2=false∧ ∃is,gz s cs ns nl i bad= .ok (is,(tkP s 46 j bad').1)∧Q is)∨((tkP s 46 j bad').2=true∧gz s cs ns nl i bad= .error (tkP s 46 j bad').1):=by
 unfold kM at h;unfold gz
 cases bad with
 |true=>
  simp only[if_true]at h⊢;rcases h with⟨_,is,h,_⟩ | ⟨rfl,h⟩
  ·cases h
  ·cases h
   rw[ea (Or.inl rfl)];exact Or.inr ⟨rfl,rfl⟩
 |false=>
  simp only[Bool.false_eq_true,if_false]at h⊢;unfold mi;rcases h with⟨rfl,is,h,hq⟩ | ⟨rfl,h⟩
  ·rw[h];simp only
   by_cases hp:pk s j=46
   ·rw[kI hp,if_pos (by rw[hp];rfl)];exact Or.inl ⟨rfl,is,rfl,hq⟩
   ·rw[ea (Or.inr hp),if_neg (fun h=>hp ((u8n (by decide)).1 h))];exact Or.inr ⟨rfl,rfl⟩
  ·rw[h,ea (Or.inl rfl)];exact Or.inr ⟨rfl,rfl⟩
structure BdN (w:World) (base:Nat) (gs:List Sig) (X:bz) (b:Bod):Prop where
 cls:X.cls=(aN gs b).cls
 meth:X.meth=(aN gs b).meth
 ans:X.ans=(aN gs b).ans
 loc:X.locals=b.locals
 its:kj w base X.items b.code
def gC (w:World) (base:Nat) (gs:List Sig) (bs:List bz) (BS:List Bod):Prop:=bs.length=BS.length∧ ∀(k:Nat) X b,bs[k]?=some X→BS[k]?=some b→BdN w base gs X b
theorem gC.nil (w:World) (base:Nat) (gs:List Sig):gC w base gs [] []:=⟨rfl,fun k X b h=>by simp at h⟩
theorem gC.snoc {w:World} {base:Nat} {gs:List Sig} {bs:List bz} {BS:List Bod} {X:bz} {b:Bod} (h:gC w base gs bs BS) (hx:BdN w base gs X b):gC w base gs (bs++ [X]) (BS++ [b]):=by
 refine⟨by simp[h.1],fun k Y c hY hc=> ?_⟩;rcases Nat.lt_or_ge k bs.length with hk|hk
 ·rw[List.getElem?_append_left hk]at hY;rw[List.getElem?_append_left (by rw[←h.1];exact hk)]at hc;exact h.2 k Y c hY hc
 ·rw[List.getElem?_append_right hk]at hY;rw[List.getElem?_append_right (by rw[←h.1];exact hk),←h.1]at hc
  cases hd:k-bs.length with
  |zero=>rw[hd]at hY hc;simp at hY hc;subst hY hc;exact hx
  |succ d=>rw[hd]at hY;simp at hY
theorem gC.heads {w:World} {base:Nat} {gs:List Sig} {bs:List bz} {BS:List Bod} (h:gC w base gs bs BS):bs.map jo=(BS.map (aN gs)).map jo:=by
 apply List.ext_getElem?
 intro k;simp only[List.getElem?_map];rcases Nat.lt_or_ge k bs.length with hk|hk
 ·have a0:k<BS.length:=by rw[←h.1];exact hk
  have h1:=h.2 k _ _ (List.getElem?_eq_getElem hk) (List.getElem?_eq_getElem a0);rw[List.getElem?_eq_getElem hk,List.getElem?_eq_getElem a0];simp[jo,h1.cls,h1.meth]
 ·rw[List.getElem?_eq_none hk,List.getElem?_eq_none (by rw[←h.1];exact hk)]
  rfl
theorem gC.but {F:Nat→Prop} {w w':World} {base:Nat} {gs:List Sig} {bs:List bz} {BS:List Bod} (h:gC w base gs bs BS) (hb:But F w w') (hf: ∀g cur,w.heap[g]?=some (.cells cur 3)→base≤g→ ¬F g):gC w' base gs bs BS:=
 ⟨h.1,fun k X b hX hB=>by
  have h1:=h.2 k X b hX hB
  exact⟨h1.cls,h1.meth,h1.ans,h1.loc,h1.its.len,fun q y x hy hx=>by
   obtain⟨e1,e2,e3,e4,e5⟩:=h1.its.at' q y x hy hx;exact⟨e1,e2,e3,e4,aY e5 hb hf⟩⟩⟩
theorem gC.mono {w:World} {base base':Nat} {gs:List Sig} {bs:List bz} {BS:List Bod} (h:gC w base gs bs BS) (hb:base'≤base):gC w base' gs bs BS:=
 ⟨h.1,fun k X b hX hB=>by
  have h1:=h.2 k X b hX hB;exact⟨h1.cls,h1.meth,h1.ans,h1.loc,h1.its.mono hb⟩⟩
def um (Gd:Prop) (s:ByteArray) (cs:List Cls) (gs:List Sig) (R:Except Nat (List Bod×Nat)) (w:World) (base mm:Nat) (bs:List bz) (j:Nat) (bad:Bool):Prop:=
 (bad=false∧Gd∧ ∃BS,gC w base gs bs BS∧(∀b∈BS,eV b)∧BS.length+mm=6∧kh s cs gs mm BS j=R)∨(bad=true∧R= .error j)
section
variable {Gd:Prop} {s:ByteArray} {cs:List Cls} {gs:List Sig} {R:Except Nat (List Bod×Nat)} {w:World} {base:Nat}
theorem wX {k:Nat} {BS:List Bod} {i:Nat} (h:(pk s i).toNat≠59):kh s cs gs (k+1) BS i=match eO s cs.length gs BS i with
  | .error j=> .error j
  | .ok ((x,m,t),p)=>
   match mi s cs gs.length (t.length+2) p with
   | .error q=> .error q
   | .ok (is,q)=>kh s cs gs k (BS++ [⟨x,m,UInt8.ofNat (65+x)::kk gs m::t,is⟩]) q:=by
 unfold eO;rw[kh,if_neg h]
 cases hU s cs.length i with
 |error j=>rfl
 |ok y=>
  obtain⟨x,j⟩:=y;simp only
  cases eY s gs.length j with
  |error l=>rfl
  |ok z=>
   obtain⟨m,l⟩:=z;simp only
   split
   ·rfl
   ·cases tys s cs.length 58 3 [] l with
    |error p=>rfl
    |ok t=>
     obtain⟨t,p⟩:=t;simp only
     cases mi s cs gs.length (t.length+2) p<;>rfl
theorem um.fin {mm:Nat} {bs:List bz} {j:Nat} {bad:Bool} (h:um Gd s cs gs R w base mm bs j bad) (hx: ¬bs.length<6∨(!bad&& !decide (pk s j=59))=false):
  ((tkP s 59 j bad).2=false∧Gd∧ ∃BS,R= .ok (BS,(tkP s 59 j bad).1)∧gC w base gs bs BS∧ ∀b∈BS,eV b)∨((tkP s 59 j bad).2=true∧R= .error (tkP s 59 j bad).1):=by
 rcases h with⟨rfl,hG,BS,h1,h2,h3,h4⟩ | ⟨rfl,h2⟩
 ·by_cases hp:pk s j=59
  ·left
   rw[kI hp];refine⟨rfl,hG,BS,?_,h1,h2⟩;rw[←h4]
   cases mm<;>simp[kh,hp]
  ·right
   rw[ea (Or.inr hp)];refine⟨rfl,?_⟩
   have hm:mm=0:=by
    rcases hx with h|h
    ·rw[h1.1]at h;omega
    ·simp[hp]at h
   subst hm;rw[←h4];have:(pk s j).toNat≠59:=fun h=>hp ((u8n (by decide)).1 h)
   simp[kh,this]
 ·right
  rw[ea (Or.inl rfl)];exact⟨rfl,h2⟩
theorem um.next {mm:Nat} {bs:List bz} {j:Nat} (h:um Gd s cs gs R w base mm bs j false) (hnc:cs.length≤4) (hl:bs.length<6) (hp:pk s j≠59):
  Gd∧ ∃BS,gC w base gs bs BS∧(∀b∈BS,eV b)∧BS.length≤6∧ ∀c m r l j1 a0,((a0=false∧ ∃x t,eO s cs.length gs BS j= .ok ((x,m,t),j1)∧c=UInt8.ofNat (65+x)∧x<cs.length∧m<gs.length∧r=(cN gs m).ret∧l=c::(cN gs m).arg::t)∨(a0=true∧eO s cs.length gs BS j= .error j1))→
   ∀its w' j2 a1,gC w' base gs bs BS→((a1=false∧ ∃is,gz s cs gs.length l.length j1 a0= .ok (is,j2)∧kj w' base its is)∨(a1=true∧gz s cs gs.length l.length j1 a0= .error j2))→
   ∃m',m'<mm∧um Gd s cs gs R w' base m' (bs++ [⟨c,m,r,l,its⟩]) j2 a1:=by
 rcases h with⟨_,hG,BS,h1,h2,h3,h4⟩ | ⟨h,_⟩
 ·have a5:BS.length<6:=by rw[h1.1]at hl;exact hl
  refine⟨hG,BS,h1,h2,by omega,?_⟩;intro c m r l j1 a0 hh its w' j2 a1 a4 hc;obtain⟨f,rfl⟩: ∃f,mm=f+1:=⟨mm-1,by omega⟩;have a3:(pk s j).toNat≠59:=fun h=>hp ((u8n (by decide)).1 h)
  rw[wX a3]at h4;rcases hh with⟨rfl,x,t,e1,e2,e3,e4,e5,e6⟩ | ⟨rfl,e1⟩
  ·rw[e1]at h4;simp only at h4;unfold gz at hc;simp only[Bool.false_eq_true,if_false]at hc;rw[show l.length=t.length+2 from by rw[e6];rfl]at hc;rcases hc with⟨rfl,is,c1,c2⟩ | ⟨rfl,c1⟩
   ·rw[c1]at h4;have a2: ¬((x:Int)<0):=by omega
    refine⟨f,by omega,Or.inl ⟨rfl,hG,BS++ [⟨x,m,UInt8.ofNat (65+x)::kk gs m::t,is⟩],a4.snoc ⟨?_,?_,?_,?_,c2⟩,?_,by simp;omega,h4⟩⟩
    ·simp[aN,a2,e2]
    ·simp[aN]
    ·simp[aN,a2,e5]
    ·simp[e6,e2,pA e4]
    ·intro b hb;rcases List.mem_append.1 hb with hb|hb
     ·exact h2 b hb
     ·simp at hb;subst hb;exact⟨by simp,by simp;omega,by simp⟩
   ·rw[c1]at h4;exact⟨0,by omega,Or.inr ⟨rfl,h4.symm⟩⟩
  ·rw[e1]at h4;simp only at h4;unfold gz at hc;simp only[if_true]at hc;rcases hc with⟨_,is,c1,_⟩ | ⟨rfl,c1⟩
   ·cases c1
   ·cases c1
    exact⟨0,by omega,Or.inr ⟨rfl,h4.symm⟩⟩
 ·cases h
end
structure dA (w:World) (b:Nat) (im:Img):Prop where
 cls:TxC w b (im.classes.map toX)
 met:TxM w b im.sigs
 bod: ∃bs,TxB w b bs∧gC w 0 im.sigs bs im.bodies
theorem wY {s:ByteArray} {SC:List Cls} {n:Nat} {ms:List Sig} {cs:List bA} {bs:List bz} {l:List UInt8} {its:List XIt} {w:World} {base:Nat} {j0 j1 j2 j3 j4:Nat} {b0 b1 b2 b3 b4:Bool} {R:Except Nat (List Bod×Nat)}
  (hcls:(b0=false∧ ∃SC',eZ s 4 [] 0= .ok (SC',j0)∧SC'=SC∧cs=SC.map toX∧WfC SC)∨(b0=true∧eZ s 4 [] 0= .error j0)) (hn:SC.length=n)
  (hsig:(b1=false∧lm s n j0 b0= .ok (ms,j1))∨(b1=true∧lm s n j0 b0= .error j1))
  (hR:(if b1=true then .error j1 else kh s SC ms 6 [] j1)=R)
  (hbod:(b2=false∧(b1=false)∧ ∃BS,R= .ok (BS,j2)∧gC w base ms bs BS∧ ∀b∈BS,eV b)∨(b2=true∧R= .error j2))
  (hmain:(b3=false∧ej s n 58 3 j2 b2= .ok (l,j3))∨(b3=true∧ej s n 58 3 j2 b2= .error j3))
  (hcode:(b4=false∧ ∃is,gz s SC ms.length l.length j3 b3= .ok (is,j4)∧kj w base its is)∨(b4=true∧gz s SC ms.length l.length j3 b3= .error j4)):
  ((b4||decide (j4<s.size))=true∧gL s= .error j4)∨((b4||decide (j4<s.size))=false∧ ∃im,gL s= .ok im∧im.classes=SC∧cs=SC.map toX∧im.sigs=ms∧gC w base ms (bs++ [⟨45,0,105,l,its⟩]) im.bodies):=by
 unfold gL;rcases hcls with⟨rfl,SC',hc,rfl,a3,a4⟩ | ⟨rfl,hc⟩
 ·rw[hc];simp only;unfold lm at hsig;simp only[Bool.false_eq_true,if_false]at hsig;rw[hn];rcases hsig with⟨rfl,a1⟩ | ⟨rfl,a1⟩
  ·rw[a1];simp only;simp only[Bool.false_eq_true,if_false]at hR;rw[hR];rcases hbod with⟨rfl,_,BS,hb,a2,_⟩ | ⟨rfl,hb⟩
   ·rw[hb];simp only;unfold ej at hmain;simp only[Bool.false_eq_true,if_false]at hmain;rcases hmain with⟨rfl,hm⟩ | ⟨rfl,hm⟩
    ·rw[hm];simp only;unfold gz at hcode;simp only[Bool.false_eq_true,if_false]at hcode;rcases hcode with⟨rfl,is,a0,hX⟩ | ⟨rfl,a0⟩
     ·rw[a0];simp only
      by_cases hlt:j4<s.size
      ·left
       rw[if_pos hlt];exact⟨by simp[hlt],rfl⟩
      ·right
       rw[if_neg hlt];refine⟨by simp[hlt],_,rfl,rfl,a3,rfl,?_⟩;exact a2.snoc ⟨by simp[aN],by simp[aN],by simp[aN],rfl,hX⟩
     ·rw[a0];exact Or.inl ⟨rfl,rfl⟩
    ·rw[hm];unfold gz at hcode;simp only[if_true]at hcode;rcases hcode with⟨_,is,a0,_⟩ | ⟨rfl,a0⟩
     ·cases a0
     ·cases a0
      exact Or.inl ⟨rfl,rfl⟩
   ·rw[hb];unfold ej at hmain;simp only[if_true]at hmain;rcases hmain with⟨_,hm⟩ | ⟨rfl,hm⟩
    ·cases hm
    ·cases hm
     unfold gz at hcode;simp only[if_true]at hcode;rcases hcode with⟨_,is,a0,_⟩ | ⟨rfl,a0⟩
     ·cases a0
     ·cases a0
      exact Or.inl ⟨rfl,rfl⟩
  ·rw[a1];simp only[if_true]at hR;subst hR;rcases hbod with⟨_,h,_⟩ | ⟨rfl,hb⟩
   ·cases h
   ·cases hb
    unfold ej at hmain;simp only[if_true]at hmain;rcases hmain with⟨_,hm⟩ | ⟨rfl,hm⟩
    ·cases hm
    ·cases hm
     unfold gz at hcode;simp only[if_true]at hcode;rcases hcode with⟨_,is,a0,_⟩ | ⟨rfl,a0⟩
     ·cases a0
     ·cases a0
      exact Or.inl ⟨rfl,rfl⟩
 ·rw[hc];unfold lm at hsig;simp only[if_true]at hsig;rcases hsig with⟨_,h⟩ | ⟨rfl,a1⟩
  ·cases h
  ·cases a1
   simp only[if_true]at hR;subst hR;rcases hbod with⟨_,h,_⟩ | ⟨rfl,hb⟩
   ·cases h
   ·cases hb
    unfold ej at hmain;simp only[if_true]at hmain;rcases hmain with⟨_,hm⟩ | ⟨rfl,hm⟩
    ·cases hm
    ·cases hm
     unfold gz at hcode;simp only[if_true]at hcode;rcases hcode with⟨_,is,a0,_⟩ | ⟨rfl,a0⟩
     ·cases a0
     ·cases a0
      exact Or.inl ⟨rfl,rfl⟩
end
section
open Go Go.RowKit Sp
attribute [local go_sem ↓] Go.wp_at_zero Go.wp_at_succ
def yT (s:ByteArray) (SC:List Cls) (ms:List Sig) (cs:List bA) (w:World) (base:Nat) (bs:List bz) (j:Nat) (bad:Bool):Prop:=
 ((bad||decide (j<s.size))=true∧gL s= .error j)∨((bad||decide (j<s.size))=false∧ ∃im,gL s= .ok im∧im.classes=SC∧cs=SC.map toX∧im.sigs=ms∧gC w base ms bs im.bodies)
theorem un (s:ByteArray) (w:World) (hs:s.size≤2000):
  Calls Tryz.prog 90 #[.string s] w fun en w'=>But (fun _=>False) w w'∧ ∃g p,en= .returned (.tuple #[.pointer (some ⟨g,0,none⟩),.int .i64 p])∧w.heap.size≤g∧
   ((∃j,gL s= .error j∧p=(j:Int)∧w'.heap[g]?=some (.cells #[.slice none 0 0,.slice none 0 0,.slice none 0 0] 109))∨(p= -1∧ ∃im,gL s= .ok im∧dA w' g im)):=by
 go_in
 go_wp2_with fail;refine(sc s w).mono ?_;rintro en w0 ⟨rfl,o5,t5,p3⟩;have f4:w.heap.size<w.heap.size+1:=by omega
 go_wp2_with fail;refine(iA w.heap.size (w.heap.size+1) s _ _ w0 hs p3 f4 (by omega)).mono ?_;rintro en w1 ⟨rfl,f6,v0,cs,j0,b0,p4,l4,hcl,p6⟩;obtain⟨a0,cap0,s3⟩:=l4.len;subst s3;have t6:=f6.size;have g1:But (fun k=>k=w.heap.size∨w.heap.size+1≤k) w w1:=(o5.mono (fun _ _ h=>h.elim)).trans f6;clear o5 f6 p3;go_wp2_with fail;refine(iB w.heap.size (w.heap.size+1) s j0 b0 a0 cs.length cap0 _ w1 hs hcl p4 f4 (by omega)).mono ?_;rintro en w2 ⟨rfl,h9,v1,ms,j1,b1,p5,p2,n8,n3⟩;obtain⟨a1,cap1,s4⟩:=aw p2;subst s4;have p0:=l4.but h9 (fun g e cur _ _ hg h=>by omega);have t9:=h9.size;have k0:But (fun k=>k=w.heap.size∨w.heap.size+1≤k) w w2:=g1.next h9 (fun _ _ h=>Or.inl h)
 clear h9 p4 l4 g1
 --the classes,if there are any
 obtain⟨SC,i2,f5⟩: ∃SC:List Cls,SC.length=cs.length∧((b0=false∧ ∃SC',eZ s 4 [] 0= .ok (SC',j0)∧SC'=SC∧cs=SC.map toX∧WfC SC)∨(b0=true∧eZ s 4 [] 0= .error j0)):=by
  rcases p6 with⟨h1,SC,h2,h3,h4⟩ |h
  ·exact⟨SC,by rw[h3,List.length_map],Or.inl ⟨h1,SC,h2,rfl,h3,h4⟩⟩
  ·exact⟨List.replicate cs.length ⟨-1,[]⟩,by simp,Or.inr h⟩
 have e6:b1=false→cs=SC.map toX∧WfC SC:=by
  intro h;rcases n3 with⟨_,h2⟩ | ⟨h2,_⟩
  ·rcases f5 with⟨_,_,_,_,h3⟩ | ⟨h3,_⟩
   ·exact h3
   ·rw[h3]at h2;simp[lm]at h2
  ·rw[h]at h2;cases h2
 obtain⟨R,i1⟩: ∃R,(if b1=true then .error j1 else kh s SC ms 6 [] j1)=R:=⟨_,rfl⟩
 have e1:um (b1=false) s SC ms R w2 (w.heap.size+1) 6 [] j1 b1:=by
  cases b1 with
  |true=>exact Or.inr ⟨rfl,i1.symm⟩
  |false=>exact Or.inl ⟨rfl,rfl,[],gC.nil _ _ _,by simp,rfl,i1⟩
 have j7:=hid e1;have i4:=hid e6;have e4:=hid (fun wz bs l X j2 j3 j4 b2 b3 b4=>wY (its:=X) (w:=wz) (base:=w.heap.size+1) (bs:=bs) (l:=l) (j2:=j2) (j3:=j3) (j4:=j4) (b2:=b2) (b3:=b3) (b4:=b4) f5 i2 n3 i1);have r0:=hid i2;rw[←i2]at p5 p0 hcl;clear e1 e6 p6 n3 f5 i1 i2;go_wp2_with fail
 go_loopg [] 7 (fun mm wr=> ∃(a2:Option Addr) (a8 j:Nat) (bad' mn:Bool) (bs:List bz) (x0 x1 x2 x3 x4:Value),w.heap.size+1≤wr.heap.size∧But (fun k=>k=w.heap.size∨w.heap.size+1≤k) w wr∧XrB wr w.heap.size s j bad' (.slice a0 SC.length cap0) (.slice a1 ms.length cap1) ⟨.slice a2 bs.length a8,x0,x1,x2,x3,x4,mn⟩∧TcV wr (w.heap.size+1) (.slice a0 SC.length cap0) cs∧TmV wr (w.heap.size+1) (.slice a1 ms.length cap1) ms∧TbV wr (w.heap.size+1) (.slice a2 bs.length a8) bs∧Hid ((mn=false∧bs.length≤6∧ ∃m1,mm=m1+1∧um (b1=false) s SC ms R wr (w.heap.size+1) m1 bs j bad')∨(mn=true∧yT s SC ms cs wr (w.heap.size+1) bs j bad')))
 case atStart=>exact⟨none,0,j1,b1,false,[],_,_,_,_,_,by omega,k0,p5,p0,p2,⟨[],fT _ _ _ _,rfl,by simp⟩,hid (Or.inl ⟨rfl,by simp,6,rfl,j7.out⟩)⟩
 case round=>
  obtain⟨a2,a8,j,bad',mn,bs,x0,x1,x2,x3,x4,v2,l3,f7,m0,i0,i3,h7⟩:=hrel
  by_cases hstop:mn=true∨bad'=true
  ·have g6:yT s SC ms cs wr (w.heap.size+1) bs j bad':=by
    rcases h7.out with⟨h1,_,m1,_,hb⟩ | ⟨_,h⟩
    ·have r5:bad'=true:=by
      rcases hstop with h|h
      ·rw[h1]at h;cases h
      ·exact h
     subst r5;rcases hb with⟨h,_⟩ | ⟨_,h⟩
     ·cases h
     ·have:=e4.out wr bs [] [] j j j true true true (Or.inr ⟨rfl,h⟩) (Or.inr ⟨rfl,by simp[ej]⟩) (Or.inr ⟨rfl,by simp[gz]⟩);rcases this with⟨_,h⟩ | ⟨h,_⟩
      ·exact Or.inl ⟨by simp,h⟩
      ·simp at h
    ·exact h
   have HF:=hid g6;have e2:=hid (jH w.heap.size s j bad' _ _ _ wr f7 hstop);clear g6 h7 e4 j7 i4;go_wp2_with fail;refine e2.out.mono ?_;rintro en w3 ⟨rfl,k,rfl⟩;clear e2 hstop;go_wp2_with fail;refine(my w.heap.size s j bad' _ _ _ (wr.drewN k) (f7.drewN k)).mono ?_;rintro en w4 ⟨a5,q0⟩;have c6:But (fun _=>False) w w4:=((l3.next (But.drewN (fun _=>False) wr k) (fun _ _ h=>h.elim)).next a5 (fun _ _ h=>h.elim)).mono (fun k hk h=>by omega);have q5:w.heap.size≤(wr.drewN k).heap.size:=by show w.heap.size≤wr.heap.size;omega
   have g2:But (fun _=>False) wr w4:=(But.drewN _ _ _).trans a5;unfold Bq at q0;rcases q0 with⟨hb,g,hg,rfl,r6⟩ | ⟨hb,rfl⟩
   ·have i7:Hid (gL s= .error j):=by
     rcases HF.out with⟨_,h⟩ | ⟨h,_⟩
     ·exact hid h
     ·rw[hb]at h;cases h
    clear HF;go_wp2_with fail;exact bodyPost_ret (v:= .tuple #[.pointer (some ⟨g,0,none⟩),.int .i64 j]) (by simp[results,Tryz.results90,go_sem]) rfl ⟨c6,g,j,rfl,by omega,Or.inl ⟨j,i7.out,rfl,r6⟩⟩
   ·have r4:=f7.lt
    have i7:Hid (∃im,gL s= .ok im∧dA w4 w.heap.size im):=by
     rcases HF.out with⟨h,_⟩ | ⟨_,im,s2,n5,n6,g7,n7⟩
     ·rw[hb]at h;cases h
     ·have e9:=m0.but g2 (fun _ _ _ _ _ _ h=>h);have g3:=i0.but g2 (fun _ _ _ _ _ _ h=>h);have e5:=i3.but g2 (fun _ _ _ _ _ _ h=>h);have e3:=f7.but g2 (fun h=>h);refine hid ⟨im,s2,?_,?_,?_⟩
      ·rw[n5,←n6];exact e9.tx e3.c0 e3.lt
      ·rw[g7];exact g3.tx e3.c1 e3.lt
      ·exact⟨bs,e5.tx e3.c2 e3.lt,(g7.symm▸n7.but g2 (fun _ _ _ _ h=>h)).mono (Nat.zero_le _)⟩
    clear HF;go_wp2_with fail;exact bodyPost_ret (v:= .tuple #[.pointer (some ⟨w.heap.size,0,none⟩),.int .i64 (-1)]) (by simp[results,Tryz.results90,go_sem]) rfl ⟨c6,w.heap.size,-1,rfl,Nat.le_refl _,Or.inr ⟨rfl,i7.out⟩⟩
  ·have s1:mn=false:=by cases mn;rfl;exact absurd (Or.inl rfl) hstop
   have r3:bad'=false:=by cases bad';rfl;exact absurd (Or.inr rfl) hstop
   subst s1 r3;obtain⟨_,t0,m1,t4,f6⟩:=h7.out.resolve_right (fun h=>by cases h.1);have h0:=hid f6;clear f6;clear hstop h7 j7
   by_cases hgo:bs.length<6∧pk s j≠59
   ·obtain⟨q1,n9⟩:=hgo;obtain⟨hG,BS,k9,q3,r2,q2⟩:=h0.out.next hcl q1 n9;obtain⟨g5,q4⟩:=i4.out hG;have o4:=hid q2;have q8:=hid g5;have r1:=hid q4;have e2:=hid (jI w.heap.size (w.heap.size+1) s j a0 a2 SC.length cap0 bs.length a8 _ x0 x1 x2 x3 x4 wr ms BS bs k9.heads hcl n8 r2 (fun b hb=>Or.inr (q3 b hb)) hs f7 i0 i3 f4 q1 n9);have q6:=hid k9;clear n9 q2 k9 q3 g5 q4 h0;go_wp2_with fail;refine e2.out.mono ?_;rintro en w4 ⟨a5,rfl,i5⟩;obtain⟨c,m,r,al,capl,lo,j4,b9,e3,m3,s0,e5⟩:=i5;clear e2;have e9:=m0.but a5 (fun g e cur _ _ hg h=>by omega);have g3:=i0.but a5 (fun g e cur _ _ hg h=>by omega);have f2:=i3.but a5 (fun g e cur _ _ hg h=>by omega)
    have c6:But (fun k=>k=w.heap.size∨w.heap.size+1≤k) w w4:=l3.next a5 (fun _ _ h=>Or.inl h);have q5:=a5.size;have d6:BtB w4 (w.heap.size+1) (.slice al lo.length capl) lo:=World.ownsRow.mono m3 (by omega);have o3:=hid (o4.out c m r lo j4 b9 e5);clear e5 o4;have g0:=hid (ol w.heap.size (w.heap.size+1) s j4 b9 SC a0 a1 al ms.length lo.length cap0 cap1 capl _ w4 (Or.inr ⟨r1.out,by rw[←q8.out];exact e9⟩) hcl n8 (by omega) hs e3 rfl f4);go_wp2_with fail;refine g0.out.mono ?_;rintro en w5 ⟨b6,i6⟩;obtain⟨ai,capi,items,j5,a7,rfl,n1,m2,r8,g4⟩:=i6;have f9:=hid (sE g4);have l5:=e9.but b6 (fun g e cur _ _ hg h=>by omega)
    have m5:=g3.but b6 (fun g e cur _ _ hg h=>by omega);have a4:=f2.but b6 (fun g e cur _ _ hg h=>by omega);have m4:=d6.but b6 (fun g hg h=>by have:=aA d6 g hg;omega);have s5:=b6.size;clear g4 g0;have f8:=hid (fK w.heap.size (w.heap.size+1) w4.heap.size s j5 a7 false _ _ _ a2 a8 bs ⟨c,m,r,lo,items⟩ al ai capl capi w5 (by omega) (by show items.length≤100;omega) hs n1 a4 m4 m2 f4 (by omega) (by omega));go_wp2_with fail;refine f8.out.mono ?_;rintro en w6 ⟨rfl,a3,a6,e7,s9,n2,f3⟩;clear f8
    have f0:=(fun(is:List Ins) (h:kj w5 w4.heap.size items is)=>(⟨h.len,fun k y x hy hx=>by
      obtain⟨z1,z2,z3,z4,z5⟩:=h.at' k y x hy hx
      exact⟨z1,z2,z3,z4,aY (World.ownsRow.mono z5 (by omega)) a3 (fun g cur hh hg h=>by
       rcases h with h|h
       ·omega
       ·exact a4.apart hh (by decide) h)⟩⟩:kj w6 (w.heap.size+1) items is))
    have l0:=(q6.out.but a5 (fun g cur _ hg h=>by omega)).but b6 (fun g cur _ hg h=>by omega)
    obtain⟨m',t3,o6⟩:=o3.out items w6 (tkP s 46 j5 a7).1 (tkP s 46 j5 a7).2 (l0.but a3 (fun g cur hh hg h=>by
     rcases h with h|h
     ·omega
     ·exact a4.apart hh (by decide) h)) (by
     rcases f9.out with⟨h1,is,h2,h3⟩ |h
     ·exact Or.inl ⟨h1,is,h2,f0 is h3⟩
     ·exact Or.inr h)
    have q7:=hid o6;have n4:=a4.ge
    have l6:=l5.but a3 (fun g e cur hh he hg h=>by
     rcases h with h|h
     ·omega
     ·exact a4.apart hh (by rcases he with he|he<;>(rw[he];decide)) h)
    have n0:=m5.but a3 (fun g e cur hh he hg h=>by
     rcases h with h|h
     ·omega
     ·exact a4.apart hh (by rw[he];decide) h)
    have e8:But (fun k=>k=w.heap.size∨w.heap.size+1≤k) w w6:=(c6.next b6 (fun _ _ h=>Or.inl h)).next a3 (fun k hk h=>by
     rcases h with h|h
     ·exact Or.inl h
     ·exact Or.inr (n4 k h))
    have s6:=a3.size;clear o6 o3 f9;go_wp2_with fail
    go_roundg (m'+1)
    case measure=>omega
    case rel=>exact⟨a6,e7,_,_,false,bs++ [⟨c,m,r,lo,items⟩],_,_,_,_,_,by omega,e8,n2,l6,n0,f3,hid (Or.inl ⟨rfl,by simp;omega,m',rfl,q7.out⟩)⟩
   ·have e0: ¬bs.length<6∨pk s j=59:=by
     by_cases h6:bs.length<6
     ·right
      by_cases hp:pk s j=59
      ·exact hp
      ·exact absurd ⟨h6,hp⟩ hgo
     ·exact Or.inl h6
    have h8:=hid (h0.out.fin (e0.imp id (fun h=>by simp[h])));have e2:=hid (jJ w.heap.size s j a0 a2 SC.length cap0 bs.length a8 _ x0 x1 x2 x3 x4 wr hcl hs f7 e0);clear e0 hgo h0;obtain⟨TK,p8⟩: ∃TK,tkP s 59 j false=TK:=⟨_,rfl⟩;rw[p8]at h8 e2;obtain⟨j2,b2⟩:=TK;dsimp only at h8 e2;have o0:=hid (fun wz l X j3 j4 b3 b4 hbz=>e4.out wz bs l X j2 j3 j4 b2 b3 b4 hbz)
    have o2:Hid (b2=true∨b1=false):=by
     rcases h8.out with⟨_,h,_⟩ | ⟨h,_⟩
     ·exact hid (Or.inr h)
     ·exact hid (Or.inl h)
    clear p8 e4;go_wp2_with fail;refine e2.out.mono ?_;rintro en w4 ⟨a5,rfl,i5⟩;obtain⟨al,capl,lo,j4,b9,e3,m3,s0,e5⟩:=i5;clear e2;have e9:=m0.but a5 (fun g e cur _ _ hg h=>by omega);have g3:=i0.but a5 (fun g e cur _ _ hg h=>by omega);have f2:=i3.but a5 (fun g e cur _ _ hg h=>by omega);have c6:But (fun k=>k=w.heap.size∨w.heap.size+1≤k) w w4:=l3.next a5 (fun _ _ h=>Or.inl h);have q5:=a5.size;have d6:BtB w4 (w.heap.size+1) (.slice al lo.length capl) lo:=World.ownsRow.mono m3 (by omega);have f1:=e5;rw[r0.out]at f1;have o1:=hid (fun wz X j5 b5 hbz=>o0.out wz lo X j4 j5 b9 b5 hbz f1)
    have p1:b9=true∨(WfC SC∧TcV w4 (w.heap.size+1) (.slice a0 SC.length cap0) (SC.map toX)):=by
     rcases o2.out with h|h
     ·left
      rcases e5 with⟨_,h2⟩ | ⟨h2,_⟩
      ·rw[h]at h2;simp[ej]at h2
      ·exact h2
     ·obtain⟨h1,h2⟩:=i4.out h;exact Or.inr ⟨h2,by rw[←h1];exact e9⟩
    have g0:=hid (ol w.heap.size (w.heap.size+1) s j4 b9 SC a0 a1 al ms.length lo.length cap0 cap1 capl _ w4 p1 hcl n8 (by omega) hs e3 rfl f4);clear e5 f1 o0 o2 p1;go_wp2_with fail;refine g0.out.mono ?_;rintro en w5 ⟨b6,i6⟩;obtain⟨ai,capi,items,j5,a7,rfl,n1,m2,r8,g4⟩:=i6;have f9:=hid (sE g4);have l5:=e9.but b6 (fun g e cur _ _ hg h=>by omega);have m5:=g3.but b6 (fun g e cur _ _ hg h=>by omega);have a4:=f2.but b6 (fun g e cur _ _ hg h=>by omega);have m4:=d6.but b6 (fun g hg h=>by have:=aA d6 g hg;omega);have s5:=b6.size;clear g4 g0;have f8:=hid (fK w.heap.size (w.heap.size+1) w4.heap.size s j5 a7 true _ _ _ a2 a8 bs ⟨45,0,105,lo,items⟩ al ai capl capi w5 (by omega) (by show items.length≤100;omega) hs n1 a4 m4 m2 f4 (by omega) (by omega))
    go_wp2_with fail;refine f8.out.mono ?_;rintro en w6 ⟨rfl,a3,a6,e7,s9,n2,f3⟩;clear f8
    have q9:Hid (yT s SC ms cs w6 (w.heap.size+1) (bs++ [⟨45,0,105,lo,items⟩]) (tkP s 46 j5 a7).1 (tkP s 46 j5 a7).2):=by
     have f0:=(fun(is:List Ins) (h:kj w5 w4.heap.size items is)=>(⟨h.len,fun k y x hy hx=>by
      obtain⟨z1,z2,z3,z4,z5⟩:=h.at' k y x hy hx
      exact⟨z1,z2,z3,z4,aY (World.ownsRow.mono z5 (by omega)) a3 (fun g cur hh hg h=>by
       rcases h with h|h
       ·omega
       ·exact a4.apart hh (by decide) h)⟩⟩:kj w6 (w.heap.size+1) items is))
     refine hid (o1.out w6 items _ _ ?_ ?_)
     ·rcases h8.out with⟨h1,h2,BS,h3,h4,h5⟩ |h
      ·refine Or.inl ⟨h1,h2,BS,h3,?_,h5⟩;exact((h4.but a5 (fun g cur _ hg h=>by omega)).but b6 (fun g cur _ hg h=>by omega)).but a3 (fun g cur hh hg h=>by
     rcases h with h|h
     ·omega
     ·exact a4.apart hh (by decide) h)
      ·exact Or.inr h
     ·rcases f9.out with⟨h1,is,h2,h3⟩ |h
      ·exact Or.inl ⟨h1,is,h2,f0 is h3⟩
      ·exact Or.inr h
    have n4:=a4.ge
    have l6:=l5.but a3 (fun g e cur hh he hg h=>by
     rcases h with h|h
     ·omega
     ·exact a4.apart hh (by rcases he with he|he<;>(rw[he];decide)) h)
    have n0:=m5.but a3 (fun g e cur hh he hg h=>by
     rcases h with h|h
     ·omega
     ·exact a4.apart hh (by rw[he];decide) h)
    have e8:But (fun k=>k=w.heap.size∨w.heap.size+1≤k) w w6:=(c6.next b6 (fun _ _ h=>Or.inl h)).next a3 (fun k hk h=>by
     rcases h with h|h
     ·exact Or.inl h
     ·exact Or.inr (n4 k h))
    have s6:=a3.size;clear o1 f9;go_wp2_with fail
    go_roundg 0
    case measure=>omega
    case rel=>exact⟨a6,e7,_,_,true,bs++ [⟨45,0,105,lo,items⟩],_,_,_,_,_,by omega,e8,n2,l6,n0,f3,hid (Or.inr ⟨rfl,q9.out⟩)⟩
end
end Go.Proofs.YtpfkkmacakjmbaaGreatDoor
