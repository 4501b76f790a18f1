import Derived.Test.YtpfkkmacakjmbaaGreatDoorP25
import Derived.Test.YtpfkkmacakjmbaaGreatDoorP20
set_option maxRecDepth 100000
set_option maxHeartbeats 6400000
set_option linter.unusedSimpArgs false
set_option linter.unusedVariables false
namespace Go.Proofs.YtpfkkmacakjmbaaGreatDoor
section
open Go Go.RowKit Sp
attribute [local go_sem ↓] Go.wp_at_zero Go.wp_at_succ
theorem pW (x:XIt) (ps:List Nat) (ty:List UInt8) (ao:Option Addr) (ct:Nat) (w:World) (hl:ps.length≤3) (hps: ∀k∈ps,k≤100) (hP:w.ownsRow 0 3 1 (.slice x.pa x.pn x.pc) ps.length (dy ps)) (hT:BtB w 0 (.slice ao ty.length ct) ty):
  Calls Tryz.prog 147 #[itV x,.slice ao ty.length ct] w fun en w'=>But (fun _=>False) w w'∧ ∃a' c',en= .returned (.slice a' ps.length c')∧BtB w' w.heap.size (.slice a' ps.length c') (ps.map (bH ty)):=by
 obtain⟨i0,e1,e6,e7,e9⟩:=info_parts io;obtain⟨pl,op,cl,nu,pa,pn,pc⟩:=x
 have e5:pn=ps.length:=by
  obtain⟨a',c',h⟩:=aq hP;injection h
 subst e5;unfold itV;dsimp only at hP⊢;have b3:But (fun _=>False) w (w.alloc (.cells #[.int .i64 pl,.int .u8 op.toNat,.int .u8 cl.toNat,.int .i64 nu,.slice pa ps.length pc] 219)):=But.alloc _ _ _;have b0:(w.alloc (.cells #[.int .i64 pl,.int .u8 op.toNat,.int .u8 cl.toNat,.int .i64 nu,.slice pa ps.length pc] 219)).heap[w.heap.size]?=some (.cells #[.int .i64 pl,.int .u8 op.toNat,.int .u8 cl.toNat,.int .i64 nu,.slice pa ps.length pc] 219):=heap_alloc_new _ _
 go_in
 go_wp2_with fail;have f0:(w.alloc (.cells #[.int .i64 pl,.int .u8 op.toNat,.int .u8 cl.toNat,.int .i64 nu,.slice pa ps.length pc] 219)).heap.size=w.heap.size+1:=by simp
 generalize (w.alloc (.cells #[.int .i64 pl,.int .u8 op.toNat,.int .u8 cl.toNat,.int .i64 nu,.slice pa ps.length pc] 219))=w1 at*;have hE:=BtB.empty w1;rw[f0]at hE;have e8:=b3.size;have b6:But (fun _=>False) w (w1.alloc (.cells #[] 5)):=b3.trans (But.alloc _ _ _)
 go_loopg [5,6] ps.length (fun mm vs ks wr=> ∃(a':Option Addr) (c' k:Nat) (l:List UInt8),vs= .slice a' k c'∧ks= .int .i64 k∧k≤ps.length∧k+mm≤ps.length∧ps.length≤k+mm∧wr.ownsRow (w.heap.size+1) 5 1 (.slice a' k c') k (aJ l)∧But (fun _=>False) w wr∧w.heap.size+1≤wr.heap.size∧wr.heap[w.heap.size]?=some (.cells #[.int .i64 pl,.int .u8 op.toNat,.int .u8 cl.toNat,.int .i64 nu,.slice pa ps.length pc] 219)∧Hid (l=(ps.take k).map (bH ty)))
 case atStart=>exact⟨_,0,0,[],rfl,rfl,by omega,by omega,by omega,hE,b6,by simp;omega,((But.alloc (fun _=>False) w1 _).block _ (ae b0) (fun h=>h)).trans b0,rfl⟩
 case round=>
  obtain⟨a',c',k,l,rfl,rfl,f4,f5,f6,a6,a3,f8,b1,HL⟩:=hrel;have q4:=ce4 b1;have d6:=ae b1
  by_cases hlt:k<ps.length
  ·have e3:(k:Int)<(ps.length:Int):=by omega
   obtain⟨g,rfl,f2,f3,a0⟩:=aD (ah hP a3 (fun _ _ h=>h)) (by omega);obtain⟨v,hv⟩: ∃v,ps[k]=v:=⟨_,rfl⟩;have qk:=a0 _ _ (l8 (List.getElem?_eq_getElem hlt));rw[hv]at qk;have b2:=hid (cX ao ct ty v wr (BtB.but hT a3 (fun _ _ h=>h)))
   have HN:Hid (l++ [bH ty v]=(ps.take (k+1)).map (bH ty)):=by
    show _=_
    rw[HL.out,List.take_add_one,List.getElem?_eq_getElem hlt,hv];simp
   clear a0 hv;generalize bH ty v=z at*;go_wp2_with fail;refine b2.out.mono ?_;rintro en wx ⟨rfl,b5⟩;rw[b5];clear b5 wx b2;have b4:=aj a6;go_wp2_with (at_builtin;refine wpList_append_lies _ rfl _ _ _ rfl (w.heap.size+1) 5 i0 _ 1 1 (by kernel_rfl) e1 e6 e7 e9 rfl (by omega) _ k (aJ l) rfl (a6.alloc _) ⟨wr.heap.size,0,none⟩ 1 1 [.int .u8 z.toNat] rfl rfl (World.news_of_block (cs:=#[.int .u8 z.toNat]) (t:=5) (fr:=(0,0)) (heap_alloc_new wr _)) (by simp[Value.oneCell']) (by omega) (by unfold maxLen;omega) (by omega) (by simp;omega) (wr.heap.size+1) (by simp) ?_);intro gg a4 w5 a2 a1 f1 e4;have a7:But (fun k'=>(Value.slice a' k c').ownBlock=some k') wr w5:=(But.alloc _ _ _).trans (aX a1)
   have a5:But (fun _=>False) w w5:=a3.next a7 (fun k' hk' h=>absurd (b4 k' h) (by omega));have e0:=ae b0;have c7:=(a7.block _ d6 (fun h=>absurd (b4 _ h) (by omega))).trans b1;have f7:=a7.size;clear q4 qk;go_wp2_with fail
   go_roundg (ps.length-(k+1))
   case measure=>omega
   case rel=>exact⟨some ⟨gg,0,none⟩,a4,k+1,l++ [z],by simp,by simp,by omega,by omega,by omega,by rw[show aJ (l++ [z])=aJ l++ [.int .u8 z.toNat]from by simp[aJ]];exact a2,a5,by omega,c7,HN⟩
  ·have e3: ¬(k:Int)<(ps.length:Int):=by omega
   have e2:k=ps.length:=by omega
   subst e2
   have a8:BtB wr w.heap.size (.slice a' ps.length c') (ps.map (bH ty)):=by
    have h1:=HL.out;rw[List.take_length]at h1;unfold BtB;rw[←h1,show l.length=ps.length from by rw[h1];simp];exact World.ownsRow.mono a6 (by omega)
   go_wp2_with fail;exact cB (.slice a' ps.length c') Tryz.results147 rfl rfl ⟨a3,a',c',rfl,a8⟩
def bQ (cs:List bz) (ms:List Sig) (lo:List UInt8) (c k:UInt8) (n:Nat):List UInt8:=
 if c.toNat=105∨c.toNat=111 then [105]else if c.toNat=115 then [bH lo n]else az cs ms c k n 45
def dh (cs:List bz) (ms:List Sig) (lo:List UInt8) (c k:UInt8) (n:Nat) (ps:List UInt8):UInt8:=
 if c.toNat=115∨c.toNat=112∨c.toNat=119∨c.toNat=111 then 105 else if c.toNat=44 then bH ps 1 else if c.toNat=105 then eX cs (bH ps 1) (bH ps 2)else aH cs ms c k n lo
section
variable (b:Nat) (cs:List bz) (ms:List Sig) (c0:UInt8) (m0:Nat) (r0:UInt8) (al ai:Option Addr) (capl ni capi:Nat) (lo:List UInt8) (x:XIt) (w:World)
theorem vw (hn:cs.length≤100) (hm:ms.length≤100) (hT:TxC w b cs) (hM:TxM w b ms) (hB:BtB w 0 (.slice al lo.length capl) lo):
  Calls Tryz.prog 203 #[.pointer (some ⟨b,0,none⟩),hdV c0 m0 r0 (.slice al lo.length capl) (.slice ai ni capi),itV x] w fun en w'=>But (fun _=>False) w w'∧ ∃v,en= .returned v∧BtB w' w.heap.size v (bQ cs ms lo x.op x.cls x.num):=by
 obtain⟨pl,op,cl,nu,pa,pn,pc⟩:=x;unfold itV hdV;dsimp only;have a0:But (fun _=>False) w ((w.alloc (.cells #[.int .u8 c0.toNat,.int .i64 m0,.int .u8 r0.toNat,.slice al lo.length capl,.slice ai ni capi] 115)).alloc (.cells #[.int .i64 pl,.int .u8 op.toNat,.int .u8 cl.toNat,.int .i64 nu,.slice pa pn pc] 219)):=(But.alloc _ _ _).trans (But.alloc _ _ _)
 by_cases h1:op.toNat=105∨op.toNat=111
 ·rw[show bQ cs ms lo op cl nu=[105]from by simp[bQ,h1]];have a5:=a0.size;have a1:=fun W h=>BtB.lit W w.heap.size h [105] (by simp)
  rcases h1 with h|h
  ·try (have a2:((op.toNat:Int)==105)=false:=by rw[beq_eq_false_iff_ne];omega)
   have a2:((op.toNat:Int)==105)=true:=by rw[beq_iff_eq];omega
   clear h
   go_in
   go_wp2_with fail;refine cB (.slice (some ⟨w.heap.size+2,0,none⟩) 1 1) Tryz.results203 rfl rfl ⟨a0.trans (But.alloc _ _ _),_,rfl,?_⟩;have h9:=a1 ((w.alloc (.cells #[.int .u8 c0.toNat,.int .i64 m0,.int .u8 r0.toNat,.slice al lo.length capl,.slice ai ni capi] 115)).alloc (.cells #[.int .i64 pl,.int .u8 op.toNat,.int .u8 cl.toNat,.int .i64 nu,.slice pa pn pc] 219)) (by omega);simpa[aJ]using h9
  ·try (have a2:((op.toNat:Int)==105)=false:=by rw[beq_eq_false_iff_ne];omega)
   have a3:((op.toNat:Int)==111)=true:=by rw[beq_iff_eq];omega
   clear h
   go_in
   go_wp2_with fail;refine cB (.slice (some ⟨w.heap.size+2,0,none⟩) 1 1) Tryz.results203 rfl rfl ⟨a0.trans (But.alloc _ _ _),_,rfl,?_⟩;have h9:=a1 ((w.alloc (.cells #[.int .u8 c0.toNat,.int .i64 m0,.int .u8 r0.toNat,.slice al lo.length capl,.slice ai ni capi] 115)).alloc (.cells #[.int .i64 pl,.int .u8 op.toNat,.int .u8 cl.toNat,.int .i64 nu,.slice pa pn pc] 219)) (by omega);simpa[aJ]using h9
 ·have a2:=tf op.toNat 105 (by omega);have a3:=tf op.toNat 111 (by omega)
  by_cases h2:op.toNat=115
  ·rw[show bQ cs ms lo op cl nu=[bH lo nu]from by simp[bQ,h2]];have a4:((op.toNat:Int)==115)=true:=by rw[beq_iff_eq];omega
   have a6:=cX al capl lo nu ((w.alloc (.cells #[.int .u8 c0.toNat,.int .i64 m0,.int .u8 r0.toNat,.slice al lo.length capl,.slice ai ni capi] 115)).alloc (.cells #[.int .i64 pl,.int .u8 op.toNat,.int .u8 cl.toNat,.int .i64 nu,.slice pa pn pc] 219)) (BtB.but hB a0 (fun _ _ h=>h));have a8:=hid a6;have a5:=a0.size;have a1:=fun W h=>BtB.lit W w.heap.size h [bH lo nu] (by simp)
   clear h1 h2 a6;generalize bH lo nu=z at*
   go_in
   go_wp2_with fail;refine a8.out.mono ?_;rintro en wx ⟨rfl,a7⟩;rw[a7];clear a7 wx;go_wp2_with fail;refine cB (.slice (some ⟨w.heap.size+2,0,none⟩) 1 1) Tryz.results203 rfl rfl ⟨a0.trans (But.alloc _ _ _),_,rfl,?_⟩;have h9:=a1 ((w.alloc (.cells #[.int .u8 c0.toNat,.int .i64 m0,.int .u8 r0.toNat,.slice al lo.length capl,.slice ai ni capi] 115)).alloc (.cells #[.int .i64 pl,.int .u8 op.toNat,.int .u8 cl.toNat,.int .i64 nu,.slice pa pn pc] 219)) (by omega);simpa[aJ]using h9
  ·rw[show bQ cs ms lo op cl nu=az cs ms op cl nu 45 from by simp[bQ,h1,h2]];have a4:=tf op.toNat 115 (by omega);have b0:=hid (jU b cs ms pl nu op cl 45 ((w.alloc (.cells #[.int .u8 c0.toNat,.int .i64 m0,.int .u8 r0.toNat,.slice al lo.length capl,.slice ai ni capi] 115)).alloc (.cells #[.int .i64 pl,.int .u8 op.toNat,.int .u8 cl.toNat,.int .i64 nu,.slice pa pn pc] 219)) (ap:=pa) (np:=pn) (cp:=pc) hn hm (hT.but a0) (hM.but a0));have a5:=a0.size;clear h1 h2
   go_in
   go_wp2_with fail;refine b0.out.mono ?_;rintro en w5 ⟨b1,v,rfl,hv⟩;go_wp2_with fail;exact cB (v) Tryz.results203 rfl rfl ⟨a0.trans b1,v,rfl,World.ownsRow.mono hv a5⟩
theorem rH (ap:Option Addr) (cp:Nat) (ps:List UInt8) (hn:cs.length≤100) (hm:ms.length≤100) (hT:TxC w b cs) (hM:TxM w b ms) (hB:BtB w 0 (.slice al lo.length capl) lo) (hP:BtB w 0 (.slice ap ps.length cp) ps):
  Calls Tryz.prog 149 #[.pointer (some ⟨b,0,none⟩),hdV c0 m0 r0 (.slice al lo.length capl) (.slice ai ni capi),itV x,.slice ap ps.length cp] w fun en w'=>But (fun _=>False) w w'∧en= .returned (.int .u8 (dh cs ms lo x.op x.cls x.num ps).toNat):=by
 obtain⟨pl,op,cl,nu,pa,pn,pc⟩:=x;unfold itV hdV;dsimp only;have a0:But (fun _=>False) w ((w.alloc (.cells #[.int .u8 c0.toNat,.int .i64 m0,.int .u8 r0.toNat,.slice al lo.length capl,.slice ai ni capi] 115)).alloc (.cells #[.int .i64 pl,.int .u8 op.toNat,.int .u8 cl.toNat,.int .i64 nu,.slice pa pn pc] 219)):=(But.alloc _ _ _).trans (But.alloc _ _ _);have a5:=BtB.but hP a0 (fun _ _ h=>h)
 by_cases h1:op.toNat=115∨op.toNat=112∨op.toNat=119∨op.toNat=111
 ·rw[show dh cs ms lo op cl nu ps=105 from by simp[dh,h1]];rcases h1 with h|h|h|h
  ·try (have a2:((op.toNat:Int)==115)=false:=by rw[beq_eq_false_iff_ne];omega)
   try (have a1:((op.toNat:Int)==112)=false:=by rw[beq_eq_false_iff_ne];omega)
   try (have a3:((op.toNat:Int)==119)=false:=by rw[beq_eq_false_iff_ne];omega)
   have a2:((op.toNat:Int)==115)=true:=by rw[beq_iff_eq];omega
   clear h
   go_in
   go_wp2_with fail;go_ret;exact⟨a0,rfl⟩
  ·try (have a2:((op.toNat:Int)==115)=false:=by rw[beq_eq_false_iff_ne];omega)
   try (have a1:((op.toNat:Int)==112)=false:=by rw[beq_eq_false_iff_ne];omega)
   try (have a3:((op.toNat:Int)==119)=false:=by rw[beq_eq_false_iff_ne];omega)
   have a1:((op.toNat:Int)==112)=true:=by rw[beq_iff_eq];omega
   clear h
   go_in
   go_wp2_with fail;go_ret;exact⟨a0,rfl⟩
  ·try (have a2:((op.toNat:Int)==115)=false:=by rw[beq_eq_false_iff_ne];omega)
   try (have a1:((op.toNat:Int)==112)=false:=by rw[beq_eq_false_iff_ne];omega)
   try (have a3:((op.toNat:Int)==119)=false:=by rw[beq_eq_false_iff_ne];omega)
   have a3:((op.toNat:Int)==119)=true:=by rw[beq_iff_eq];omega
   clear h
   go_in
   go_wp2_with fail;go_ret;exact⟨a0,rfl⟩
  ·try (have a2:((op.toNat:Int)==115)=false:=by rw[beq_eq_false_iff_ne];omega)
   try (have a1:((op.toNat:Int)==112)=false:=by rw[beq_eq_false_iff_ne];omega)
   try (have a3:((op.toNat:Int)==119)=false:=by rw[beq_eq_false_iff_ne];omega)
   have a7:((op.toNat:Int)==111)=true:=by rw[beq_iff_eq];omega
   clear h
   go_in
   go_wp2_with fail;go_ret;exact⟨a0,rfl⟩
 ·have a2:=tf op.toNat 115 (by omega);have a1:=tf op.toNat 112 (by omega);have a3:=tf op.toNat 119 (by omega);have a7:=tf op.toNat 111 (by omega);have b6:=hid a5
  by_cases h2:op.toNat=44
  ·rw[show dh cs ms lo op cl nu ps=bH ps 1 from by simp[dh,h2]];have b4:((op.toNat:Int)==44)=true:=by rw[beq_iff_eq];omega
   have b3:=hid (cX ap cp ps 1 _ a5);clear h1 h2
   go_in
   go_wp2_with fail;refine b3.out.mono ?_;rintro en wx ⟨rfl,a4⟩;rw[a4];clear a4 wx;go_wp2_with fail;go_ret;exact⟨a0,rfl⟩
  ·have b4:=tf op.toNat 44 (by omega)
   by_cases h3:op.toNat=105
   ·rw[show dh cs ms lo op cl nu ps=eX cs (bH ps 1) (bH ps 2)from by simp[dh,h3]];have a6:((op.toNat:Int)==105)=true:=by rw[beq_iff_eq];omega
    have b1:=hid (cX ap cp ps 1 _ a5);have b2:=hid (cX ap cp ps 2 _ a5);have b0:=hid (ku b cs (bH ps 1) (bH ps 2) _ hn (hT.but a0));clear h1 h2 h3
    go_in
    go_wp2_with fail;refine b1.out.mono ?_;rintro en wx ⟨rfl,a4⟩;rw[a4];clear a4 wx;go_wp2_with fail;refine b2.out.mono ?_;rintro en wx ⟨rfl,a4⟩;rw[a4];clear a4 wx;go_wp2_with fail;refine b0.out.mono ?_;rintro en wx ⟨rfl,a4⟩;rw[a4];clear a4 wx;go_wp2_with fail;go_ret;exact⟨a0,rfl⟩
   ·have a6:=tf op.toNat 105 (by omega);rw[show dh cs ms lo op cl nu ps=aH cs ms op cl nu lo from by simp[dh,h1,h2,h3]];have a8:=hid (ju b cs ms pl nu op cl al capl lo _ (ap:=pa) (np:=pn) (cp:=pc) hn hm (hT.but a0) (hM.but a0) (BtB.but hB a0 (fun _ _ h=>h)));clear h1 h2 h3
    go_in
    go_wp2_with fail;refine a8.out.mono ?_;rintro en w5 ⟨rfl,b5⟩;go_wp2_with fail;go_ret;exact⟨a0.trans b5,rfl⟩
def iM (cs:List bz) (ak ps:List UInt8):Bool:=(List.range ak.length).all fun i=>bL cs (bH ps i) (ak.getD i 0)
theorem zu {cs:List bz} {ak ps:List UInt8} {i:Nat} (hi:i<ak.length) (h:bL cs (bH ps i) (ak.getD i 0)=false):iM cs ak ps=false:=by
 unfold iM;rw[List.all_eq_false];exact⟨i,List.mem_range.2 hi,by rw[h];simp⟩
theorem xU {cs:List bz} {ak ps:List UInt8} (h: ∀i,i<ak.length→bL cs (bH ps i) (ak.getD i 0)=true):iM cs ak ps=true:=by
 unfold iM;rw[List.all_eq_true];exact fun i hi=>h i (List.mem_range.1 hi)
theorem pX (ap:Option Addr) (cp:Nat) (ps:List UInt8) (hn:cs.length≤100) (hm:ms.length≤100) (hT:TxC w b cs) (hM:TxM w b ms) (hB:BtB w 0 (.slice al lo.length capl) lo) (hP:BtB w 0 (.slice ap ps.length cp) ps) (hak:(bQ cs ms lo x.op x.cls x.num).length≤100):
  Calls Tryz.prog 148 #[.pointer (some ⟨b,0,none⟩),hdV c0 m0 r0 (.slice al lo.length capl) (.slice ai ni capi),itV x,.slice ap ps.length cp] w fun en w'=>But (fun _=>False) w w'∧en= .returned (.bool (iM cs (bQ cs ms lo x.op x.cls x.num) ps)):=by
 have a5:But (fun _=>False) w ((w.alloc (.cells #[.int .u8 c0.toNat,.int .i64 m0,.int .u8 r0.toNat,.slice al lo.length capl,.slice ai ni capi] 115)).alloc (.cells #[.int .i64 x.place,.int .u8 x.op.toNat,.int .u8 x.cls.toNat,.int .i64 x.num,.slice x.pa x.pn x.pc] 219)):=(But.alloc _ _ _).trans (But.alloc _ _ _);have b1:=hid (vw b cs ms c0 m0 r0 al ai capl ni capi lo x ((w.alloc (.cells #[.int .u8 c0.toNat,.int .i64 m0,.int .u8 r0.toNat,.slice al lo.length capl,.slice ai ni capi] 115)).alloc (.cells #[.int .i64 x.place,.int .u8 x.op.toNat,.int .u8 x.cls.toNat,.int .i64 x.num,.slice x.pa x.pn x.pc] 219)) hn hm (hT.but a5) (hM.but a5) (BtB.but hB a5 (fun _ _ h=>h)))
 obtain⟨A,hA⟩: ∃A,bQ cs ms lo x.op x.cls x.num=A:=⟨_,rfl⟩;rw[hA]at b1 hak⊢;clear hA;obtain⟨R,b4⟩: ∃R,iM cs A ps=R:=⟨_,rfl⟩;rw[b4];have b5:=hid b4;clear b4;unfold itV hdV at*
 go_in
 go_wp2_with fail;refine b1.out.mono ?_;rintro en w1 ⟨a4,v,rfl,hv⟩;obtain⟨av,cv,rfl⟩:=aq hv;have b6:=a5.trans a4;clear b1 a4 a5;go_wp2_with fail
 go_loopg [10] A.length (fun mm ks wr=> ∃(k:Nat),ks= .int .i64 k∧k≤A.length∧k+mm≤A.length∧A.length≤k+mm∧But (fun _=>False) w1 wr∧Hid (∀i,i<k→bL cs (bH ps i) (A.getD i 0)=true))
 case atStart=>exact⟨0,rfl,by omega,by omega,by omega,But.refl _ _,fun i h=>absurd h (by omega)⟩
 case round=>
  obtain⟨k,rfl,e2,e3,e4,b2,HA⟩:=hrel;have b3:=b6.trans b2
  by_cases hlt:k<A.length
  ·have d6:(k:Int)<(A.length:Int):=by omega
   have e0:=BtB.but hv b2 (fun _ _ h=>h);obtain⟨g,rfl,a2,e1,a1⟩:=aD e0 (by omega);have qk:=a1 _ _ (cN hlt);have a8:=hid (cX ap cp ps k wr.drew (BtB.but hP (b3.trans (But.drew _ _)) (fun _ _ h=>h)));have a7:=hid (mJ b cs (bH ps k) (A.getD k 0) wr.drew hn (hT.but (b3.trans (But.drew _ _))))
   have HX:Hid ((bL cs (bH ps k) (A.getD k 0)=false→R=false)∧(bL cs (bH ps k) (A.getD k 0)=true→ ∀i,i<k+1→bL cs (bH ps i) (A.getD i 0)=true)):=by
    refine hid ⟨fun h=>by rw[←b5.out];exact zu hlt h,fun h i hi=> ?_⟩;rcases Nat.lt_or_ge i k with h'|h'
    ·exact HA.out i h'
    ·have:i=k:=by omega
     subst this;exact h
   clear a1;revert a7 HX qk a8;generalize bH ps k=P;generalize A.getD k 0=Q;intro qk a8 a7 HX;go_wp2_with fail;have a0:But (fun _=>False) wr wr.drew:=But.drew _ _;refine ck (But (fun _=>False) wr) 10 (by kernel_rfl) ?_;refine ay (k:=0) (v:= ?vA0) rfl (by decide) (by kernel_rfl) (fun _ _ _ h=>h) rfl a0 ?yA0 ?rA0
   case yA0=>intro wS h;have q0:=(h.kc qk a2);clear h;go_simp;try rfl
   dsimp only[Act.put]
   try simp only[aK]
   refine ay (k:=1) (v:= ?vA1) rfl (by decide) (by kernel_rfl) (fun _ _ _ h=>h) rfl a0 ?yA1 ?rA1
   case yA1=>intro wS h;have q0:=(h.kc qk a2);clear h;go_simp;try rfl
   dsimp only[Act.put]
   try simp only[aK]
   refine ay (k:=2) (v:= ?vA2) rfl (by decide) (by kernel_rfl) (fun _ _ _ h=>h) rfl a0 ?yA2 ?rA2
   case yA2=>intro wS h;have q0:=(h.kc qk a2);clear h;go_simp;try rfl
   dsimp only[Act.put]
   try simp only[aK]
   refine ay (k:=4) (v:= ?vA4) rfl (by decide) (by kernel_rfl) (fun _ _ _ h=>h) rfl a0 ?yA4 ?rA4
   case yA4=>intro wS h;have q0:=(h.kc qk a2);clear h;go_simp;try rfl
   dsimp only[Act.put]
   try simp only[aK]
   refine ay (k:=5) (v:= ?vA5) rfl (by decide) (by kernel_rfl) (fun _ _ _ h=>h) rfl a0 ?yA5 ?rA5
   case yA5=>intro wS h;have q0:=(h.kc qk a2);clear h;go_simp;try rfl
   dsimp only[Act.put]
   try simp only[aK]
   refine ay (k:=6) (v:= ?vA6) rfl (by decide) (by kernel_rfl) (fun _ _ _ h=>h) rfl a0 ?yA6 ?rA6
   case yA6=>intro wS h;have q0:=(h.kc qk a2);clear h;go_simp;try rfl
   dsimp only[Act.put]
   try simp only[aK]
   refine ay (k:=7) (v:= ?vA7) rfl (by decide) (by kernel_rfl) (fun _ _ _ h=>h) rfl a0 ?yA7 ?rA7
   case yA7=>intro wS h;have q0:=(h.kc qk a2);clear h;go_simp;try rfl
   dsimp only[Act.put]
   try simp only[aK]
   refine aA (k:=3) rfl (by decide) (by kernel_rfl) ?_;intro KS hKS;go_simp;refine a8.out.mono ?_;rintro en wx ⟨rfl,a6⟩;rw[a6];clear a6 wx;refine hKS.out _ _ (fun _=>a0) ?_;clear hKS KS;refine aA (k:=8) rfl (by decide) (by kernel_rfl) ?_;intro KS hKS;go_simp;refine a7.out.mono ?_;rintro en wx ⟨rfl,a6⟩;rw[a6];clear a6 wx;refine hKS.out _ _ (fun _=>a0) ?_;clear hKS KS;refine aA (k:=9) rfl (by decide) (by kernel_rfl) ?_;intro KS hKS;go_simp;refine hKS.out _ _ (fun _=>a0) ?_;clear hKS KS;refine b7 rfl (by kernel_rfl) ?_;have c7:=b2.trans a0;have b0:=HX.out;clear HX a8 a7 qk a0;generalize wr.drew=wd at*
   cases hq:bL cs P Q with
   |false=>
    have a3:R=false:=b0.1 hq;subst a3;clear b0 hq;go_wp2_with fail;go_ret;exact⟨b6.trans c7,rfl⟩
   |true=>
    have HY:=hid (b0.2 hq);clear b0 hq;go_wp2_with fail
    go_roundg (A.length-(k+1))
    case measure=>omega
    case rel=>exact⟨k+1,by simp,by omega,by omega,by omega,c7,HY⟩
  ·have d6: ¬(k:Int)<(A.length:Int):=by omega
   have a3:R=true:=by rw[←b5.out];exact xU (fun i hi=>HA.out i (by omega))
   subst a3;go_wp2_with fail;go_ret;exact⟨b3,rfl⟩
end
end
section
open Go Go.RowKit Sp
def fQ (s:ByteArray) (cs:List Cls) (ns nl i:Nat) (bad:Bool):Except Nat (List Ins×Nat):=if bad=true then .error i else lp s cs ns nl i
theorem rI {s:ByteArray} {cs:List Cls} {ns nl i:Nat} {bad:Bool} {j:Nat} {bad':Bool} {Q:List Ins→Prop} (h:(bad'=false∧ ∃is,jV s cs ns nl i bad= .ok (is,j)∧Q is)∨(bad'=true∧jV s cs ns nl i bad= .error j)):
  ((tkP s 46 j bad').2=false∧ ∃is,fQ s cs ns nl i bad= .ok (is,(tkP s 46 j bad').1)∧Q is)∨((tkP s 46 j bad').2=true∧fQ s cs ns nl i bad= .error (tkP s 46 j bad').1):=by
 unfold jV at h;unfold fQ
 cases bad with
 |true=>
  simp only[if_true]at h⊢;rcases h with⟨_,is,h,_⟩ | ⟨rfl,h⟩
  ·cases h
  ·cases h
   rw[dQ (Or.inl rfl)];exact Or.inr ⟨rfl,rfl⟩
 |false=>
  simp only[Bool.false_eq_true,if_false]at h⊢;unfold lp;rcases h with⟨rfl,is,h,hq⟩ | ⟨rfl,h⟩
  ·rw[h];simp only
   by_cases hp:pk s j=46
   ·rw[jS hp,if_pos (by rw[hp];rfl)];exact Or.inl ⟨rfl,is,rfl,hq⟩
   ·rw[dQ (Or.inr hp),if_neg (fun h=>hp ((u8n (by decide)).1 h))];exact Or.inr ⟨rfl,rfl⟩
  ·rw[h,dQ (Or.inl rfl)];exact Or.inr ⟨rfl,rfl⟩
structure BdN (w:World) (base:Nat) (gs:List Sig) (X:ba) (b:Bod):Prop where
 cls:X.cls=(aW gs b).cls
 meth:X.meth=(aW gs b).meth
 ans:X.ans=(aW gs b).ans
 loc:X.locals=b.locals
 its:jz w base X.items b.code
def fY (w:World) (base:Nat) (gs:List Sig) (bs:List ba) (BS:List Bod):Prop:=bs.length=BS.length∧ ∀(k:Nat) X b,bs[k]?=some X→BS[k]?=some b→BdN w base gs X b
theorem fY.nil (w:World) (base:Nat) (gs:List Sig):fY w base gs [] []:=⟨rfl,fun k X b h=>by simp at h⟩
theorem fY.snoc {w:World} {base:Nat} {gs:List Sig} {bs:List ba} {BS:List Bod} {X:ba} {b:Bod} (h:fY w base gs bs BS) (hx:BdN w base gs X b):fY w base gs (bs++ [X]) (BS++ [b]):=by
 refine⟨by simp[h.1],fun k Y c hY hc=> ?_⟩;rcases Nat.lt_or_ge k bs.length with hk|hk
 ·rw[List.getElem?_append_left hk]at hY;rw[List.getElem?_append_left (by rw[←h.1];exact hk)]at hc;exact h.2 k Y c hY hc
 ·rw[List.getElem?_append_right hk]at hY;rw[List.getElem?_append_right (by rw[←h.1];exact hk),←h.1]at hc
  cases hd:k-bs.length with
  |zero=>rw[hd]at hY hc;simp at hY hc;subst hY hc;exact hx
  |succ d=>rw[hd]at hY;simp at hY
theorem fY.heads {w:World} {base:Nat} {gs:List Sig} {bs:List ba} {BS:List Bod} (h:fY w base gs bs BS):bs.map iL=(BS.map (aW gs)).map iL:=by
 apply List.ext_getElem?
 intro k;simp only[List.getElem?_map];rcases Nat.lt_or_ge k bs.length with hk|hk
 ·have a0:k<BS.length:=by rw[←h.1];exact hk
  have h1:=h.2 k _ _ (List.getElem?_eq_getElem hk) (List.getElem?_eq_getElem a0);rw[List.getElem?_eq_getElem hk,List.getElem?_eq_getElem a0];simp[iL,h1.cls,h1.meth]
 ·rw[List.getElem?_eq_none hk,List.getElem?_eq_none (by rw[←h.1];exact hk)]
  rfl
theorem fY.but {F:Nat→Prop} {w w':World} {base:Nat} {gs:List Sig} {bs:List ba} {BS:List Bod} (h:fY w base gs bs BS) (hb:But F w w') (hf: ∀g cur,w.heap[g]?=some (.cells cur 3)→base≤g→ ¬F g):fY w' base gs bs BS:=
 ⟨h.1,fun k X b hX hB=>by
  have h1:=h.2 k X b hX hB
  exact⟨h1.cls,h1.meth,h1.ans,h1.loc,h1.its.len,fun q y x hy hx=>by
   obtain⟨e1,e2,e3,e4,e5⟩:=h1.its.at' q y x hy hx;exact⟨e1,e2,e3,e4,aU e5 hb hf⟩⟩⟩
theorem fY.mono {w:World} {base base':Nat} {gs:List Sig} {bs:List ba} {BS:List Bod} (h:fY w base gs bs BS) (hb:base'≤base):fY w base' gs bs BS:=
 ⟨h.1,fun k X b hX hB=>by
  have h1:=h.2 k X b hX hB;exact⟨h1.cls,h1.meth,h1.ans,h1.loc,h1.its.mono hb⟩⟩
def tn (Gd:Prop) (s:ByteArray) (cs:List Cls) (gs:List Sig) (R:Except Nat (List Bod×Nat)) (w:World) (base mm:Nat) (bs:List ba) (j:Nat) (bad:Bool):Prop:=
 (bad=false∧Gd∧ ∃BS,fY w base gs bs BS∧(∀b∈BS,eD b)∧BS.length+mm=6∧jx s cs gs mm BS j=R)∨(bad=true∧R= .error j)
section
variable {Gd:Prop} {s:ByteArray} {cs:List Cls} {gs:List Sig} {R:Except Nat (List Bod×Nat)} {w:World} {base:Nat}
theorem vx {k:Nat} {BS:List Bod} {i:Nat} (h:(pk s i).toNat≠59):jx s cs gs (k+1) BS i=match ew s cs.length gs BS i with
  | .error j=> .error j
  | .ok ((x,m,t),p)=>
   match lp s cs gs.length (t.length+2) p with
   | .error q=> .error q
   | .ok (is,q)=>jx s cs gs k (BS++ [⟨x,m,UInt8.ofNat (65+x)::gM gs m::t,is⟩]) q:=by
 unfold ew;rw[jx,if_neg h]
 cases dH s cs.length i with
 |error j=>rfl
 |ok y=>
  obtain⟨x,j⟩:=y;simp only
  cases de s gs.length j with
  |error l=>rfl
  |ok z=>
   obtain⟨m,l⟩:=z;simp only
   split
   ·rfl
   ·cases tys s cs.length 58 3 [] l with
    |error p=>rfl
    |ok t=>
     obtain⟨t,p⟩:=t;simp only
     cases lp s cs gs.length (t.length+2) p<;>rfl
theorem tn.fin {mm:Nat} {bs:List ba} {j:Nat} {bad:Bool} (h:tn Gd s cs gs R w base mm bs j bad) (hx: ¬bs.length<6∨(!bad&& !decide (pk s j=59))=false):
  ((tkP s 59 j bad).2=false∧Gd∧ ∃BS,R= .ok (BS,(tkP s 59 j bad).1)∧fY w base gs bs BS∧ ∀b∈BS,eD b)∨((tkP s 59 j bad).2=true∧R= .error (tkP s 59 j bad).1):=by
 rcases h with⟨rfl,hG,BS,h1,h2,h3,h4⟩ | ⟨rfl,h2⟩
 ·by_cases hp:pk s j=59
  ·left
   rw[jS hp];refine⟨rfl,hG,BS,?_,h1,h2⟩;rw[←h4]
   cases mm<;>simp[jx,hp]
  ·right
   rw[dQ (Or.inr hp)];refine⟨rfl,?_⟩
   have hm:mm=0:=by
    rcases hx with h|h
    ·rw[h1.1]at h;omega
    ·simp[hp]at h
   subst hm;rw[←h4];have:(pk s j).toNat≠59:=fun h=>hp ((u8n (by decide)).1 h)
   simp[jx,this]
 ·right
  rw[dQ (Or.inl rfl)];exact⟨rfl,h2⟩
theorem tn.next {mm:Nat} {bs:List ba} {j:Nat} (h:tn Gd s cs gs R w base mm bs j false) (hnc:cs.length≤4) (hl:bs.length<6) (hp:pk s j≠59):
  Gd∧ ∃BS,fY w base gs bs BS∧(∀b∈BS,eD b)∧BS.length≤6∧ ∀c m r l j1 a0,((a0=false∧ ∃x t,ew s cs.length gs BS j= .ok ((x,m,t),j1)∧c=UInt8.ofNat (65+x)∧x<cs.length∧m<gs.length∧r=(cC gs m).ret∧l=c::(cC gs m).arg::t)∨(a0=true∧ew s cs.length gs BS j= .error j1))→
   ∀its w' j2 a1,fY w' base gs bs BS→((a1=false∧ ∃is,fQ s cs gs.length l.length j1 a0= .ok (is,j2)∧jz w' base its is)∨(a1=true∧fQ s cs gs.length l.length j1 a0= .error j2))→
   ∃m',m'<mm∧tn Gd s cs gs R w' base m' (bs++ [⟨c,m,r,l,its⟩]) j2 a1:=by
 rcases h with⟨_,hG,BS,h1,h2,h3,h4⟩ | ⟨h,_⟩
 ·have a5:BS.length<6:=by rw[h1.1]at hl;exact hl
  refine⟨hG,BS,h1,h2,by omega,?_⟩;intro c m r l j1 a0 hh its w' j2 a1 a4 hc;obtain⟨f,rfl⟩: ∃f,mm=f+1:=⟨mm-1,by omega⟩;have a3:(pk s j).toNat≠59:=fun h=>hp ((u8n (by decide)).1 h)
  rw[vx a3]at h4;rcases hh with⟨rfl,x,t,e1,e2,e3,e4,e5,e6⟩ | ⟨rfl,e1⟩
  ·rw[e1]at h4;simp only at h4;unfold fQ at hc;simp only[Bool.false_eq_true,if_false]at hc;rw[show l.length=t.length+2 from by rw[e6];rfl]at hc;rcases hc with⟨rfl,is,c1,c2⟩ | ⟨rfl,c1⟩
   ·rw[c1]at h4;have a2: ¬((x:Int)<0):=by omega
    refine⟨f,by omega,Or.inl ⟨rfl,hG,BS++ [⟨x,m,UInt8.ofNat (65+x)::gM gs m::t,is⟩],a4.snoc ⟨?_,?_,?_,?_,c2⟩,?_,by simp;omega,h4⟩⟩
    ·simp[aW,a2,e2]
    ·simp[aW]
    ·simp[aW,a2,e5]
    ·simp[e6,e2,oB e4]
    ·intro b hb;rcases List.mem_append.1 hb with hb|hb
     ·exact h2 b hb
     ·simp at hb;subst hb;exact⟨by simp,by simp;omega,by simp⟩
   ·rw[c1]at h4;exact⟨0,by omega,Or.inr ⟨rfl,h4.symm⟩⟩
  ·rw[e1]at h4;simp only at h4;unfold fQ at hc;simp only[if_true]at hc;rcases hc with⟨_,is,c1,_⟩ | ⟨rfl,c1⟩
   ·cases c1
   ·cases c1
    exact⟨0,by omega,Or.inr ⟨rfl,h4.symm⟩⟩
 ·cases h
end
structure eZ (w:World) (b:Nat) (im:Img):Prop where
 cls:TxC w b (im.classes.map toX)
 met:TxM w b im.sigs
 bod: ∃bs,TxB w b bs∧fY w 0 im.sigs bs im.bodies
theorem vy {s:ByteArray} {SC:List Cls} {n:Nat} {ms:List Sig} {cs:List bz} {bs:List ba} {l:List UInt8} {its:List XIt} {w:World} {base:Nat} {j0 j1 j2 j3 j4:Nat} {b0 b1 b2 b3 b4:Bool} {R:Except Nat (List Bod×Nat)}
  (hcls:(b0=false∧ ∃SC',di s 4 [] 0= .ok (SC',j0)∧SC'=SC∧cs=SC.map toX∧WfC SC)∨(b0=true∧di s 4 [] 0= .error j0)) (hn:SC.length=n)
  (hsig:(b1=false∧kw s n j0 b0= .ok (ms,j1))∨(b1=true∧kw s n j0 b0= .error j1))
  (hR:(if b1=true then .error j1 else jx s SC ms 6 [] j1)=R)
  (hbod:(b2=false∧(b1=false)∧ ∃BS,R= .ok (BS,j2)∧fY w base ms bs BS∧ ∀b∈BS,eD b)∨(b2=true∧R= .error j2))
  (hmain:(b3=false∧dU s n 58 3 j2 b2= .ok (l,j3))∨(b3=true∧dU s n 58 3 j2 b2= .error j3))
  (hcode:(b4=false∧ ∃is,fQ s SC ms.length l.length j3 b3= .ok (is,j4)∧jz w base its is)∨(b4=true∧fQ s SC ms.length l.length j3 b3= .error j4)):
  ((b4||decide (j4<s.size))=true∧gh s= .error j4)∨((b4||decide (j4<s.size))=false∧ ∃im,gh s= .ok im∧im.classes=SC∧cs=SC.map toX∧im.sigs=ms∧fY w base ms (bs++ [⟨45,0,105,l,its⟩]) im.bodies):=by
 unfold gh;rcases hcls with⟨rfl,SC',hc,rfl,a3,a4⟩ | ⟨rfl,hc⟩
 ·rw[hc];simp only;unfold kw at hsig;simp only[Bool.false_eq_true,if_false]at hsig;rw[hn];rcases hsig with⟨rfl,a1⟩ | ⟨rfl,a1⟩
  ·rw[a1];simp only;simp only[Bool.false_eq_true,if_false]at hR;rw[hR];rcases hbod with⟨rfl,_,BS,hb,a2,_⟩ | ⟨rfl,hb⟩
   ·rw[hb];simp only;unfold dU at hmain;simp only[Bool.false_eq_true,if_false]at hmain;rcases hmain with⟨rfl,hm⟩ | ⟨rfl,hm⟩
    ·rw[hm];simp only;unfold fQ at hcode;simp only[Bool.false_eq_true,if_false]at hcode;rcases hcode with⟨rfl,is,a0,hX⟩ | ⟨rfl,a0⟩
     ·rw[a0];simp only
      by_cases hlt:j4<s.size
      ·left
       rw[if_pos hlt];exact⟨by simp[hlt],rfl⟩
      ·right
       rw[if_neg hlt];refine⟨by simp[hlt],_,rfl,rfl,a3,rfl,?_⟩;exact a2.snoc ⟨by simp[aW],by simp[aW],by simp[aW],rfl,hX⟩
     ·rw[a0];exact Or.inl ⟨rfl,rfl⟩
    ·rw[hm];unfold fQ at hcode;simp only[if_true]at hcode;rcases hcode with⟨_,is,a0,_⟩ | ⟨rfl,a0⟩
     ·cases a0
     ·cases a0
      exact Or.inl ⟨rfl,rfl⟩
   ·rw[hb];unfold dU at hmain;simp only[if_true]at hmain;rcases hmain with⟨_,hm⟩ | ⟨rfl,hm⟩
    ·cases hm
    ·cases hm
     unfold fQ at hcode;simp only[if_true]at hcode;rcases hcode with⟨_,is,a0,_⟩ | ⟨rfl,a0⟩
     ·cases a0
     ·cases a0
      exact Or.inl ⟨rfl,rfl⟩
  ·rw[a1];simp only[if_true]at hR;subst hR;rcases hbod with⟨_,h,_⟩ | ⟨rfl,hb⟩
   ·cases h
   ·cases hb
    unfold dU at hmain;simp only[if_true]at hmain;rcases hmain with⟨_,hm⟩ | ⟨rfl,hm⟩
    ·cases hm
    ·cases hm
     unfold fQ at hcode;simp only[if_true]at hcode;rcases hcode with⟨_,is,a0,_⟩ | ⟨rfl,a0⟩
     ·cases a0
     ·cases a0
      exact Or.inl ⟨rfl,rfl⟩
 ·rw[hc];unfold kw at hsig;simp only[if_true]at hsig;rcases hsig with⟨_,h⟩ | ⟨rfl,a1⟩
  ·cases h
  ·cases a1
   simp only[if_true]at hR;subst hR;rcases hbod with⟨_,h,_⟩ | ⟨rfl,hb⟩
   ·cases h
   ·cases hb
    unfold dU at hmain;simp only[if_true]at hmain;rcases hmain with⟨_,hm⟩ | ⟨rfl,hm⟩
    ·cases hm
    ·cases hm
     unfold fQ at hcode;simp only[if_true]at hcode;rcases hcode with⟨_,is,a0,_⟩ | ⟨rfl,a0⟩
     ·cases a0
     ·cases a0
      exact Or.inl ⟨rfl,rfl⟩
end
section
open Go Go.RowKit Sp
attribute [local go_sem ↓] Go.wp_at_zero Go.wp_at_succ
def xV (s:ByteArray) (SC:List Cls) (ms:List Sig) (cs:List bz) (w:World) (base:Nat) (bs:List ba) (j:Nat) (bad:Bool):Prop:=
 ((bad||decide (j<s.size))=true∧gh s= .error j)∨((bad||decide (j<s.size))=false∧ ∃im,gh s= .ok im∧im.classes=SC∧cs=SC.map toX∧im.sigs=ms∧fY w base ms bs im.bodies)
theorem tq (s:ByteArray) (w:World) (hs:s.size≤2000):
  Calls Tryz.prog 90 #[.string s] w fun en w'=>But (fun _=>False) w w'∧ ∃g p,en= .returned (.tuple #[.pointer (some ⟨g,0,none⟩),.int .i64 p])∧w.heap.size≤g∧
   ((∃j,gh s= .error j∧p=(j:Int)∧w'.heap[g]?=some (.cells #[.slice none 0 0,.slice none 0 0,.slice none 0 0] 109))∨(p= -1∧ ∃im,gh s= .ok im∧eZ w' g im)):=by
 go_in
 go_wp2_with fail;refine(rv s w).mono ?_;rintro en w0 ⟨rfl,p0,t6,p5⟩;have f5:w.heap.size<w.heap.size+1:=by omega
 go_wp2_with fail;refine(gW w.heap.size (w.heap.size+1) s _ _ w0 hs p5 f5 (by omega)).mono ?_;rintro en w1 ⟨rfl,f8,v0,cs,j0,b0,p6,l4,f6,q0⟩;obtain⟨a0,cap0,s6⟩:=l4.len;subst s6;have v2:=f8.size;have g4:But (fun k=>k=w.heap.size∨w.heap.size+1≤k) w w1:=(p0.mono (fun _ _ h=>h.elim)).trans f8;clear p0 f8 p5;go_wp2_with fail;refine(gX w.heap.size (w.heap.size+1) s j0 b0 a0 cs.length cap0 _ w1 hs f6 p6 f5 (by omega)).mono ?_;rintro en w2 ⟨rfl,i2,v1,ms,j1,b1,p8,p4,o0,n3⟩;obtain⟨a1,cap1,s9⟩:=aq p4;subst s9;have p2:=l4.but i2 (fun g e cur _ _ hg h=>by omega);have v3:=i2.size;have l0:But (fun k=>k=w.heap.size∨w.heap.size+1≤k) w w2:=g4.next i2 (fun _ _ h=>Or.inl h)
 clear i2 p6 l4 g4
 --the classes,if there are any
 obtain⟨SC,i5,f7⟩: ∃SC:List Cls,SC.length=cs.length∧((b0=false∧ ∃SC',di s 4 [] 0= .ok (SC',j0)∧SC'=SC∧cs=SC.map toX∧WfC SC)∨(b0=true∧di s 4 [] 0= .error j0)):=by
  rcases q0 with⟨h1,SC,h2,h3,h4⟩ |h
  ·exact⟨SC,by rw[h3,List.length_map],Or.inl ⟨h1,SC,h2,rfl,h3,h4⟩⟩
  ·exact⟨List.replicate cs.length ⟨-1,[]⟩,by simp,Or.inr h⟩
 have e7:b1=false→cs=SC.map toX∧WfC SC:=by
  intro h;rcases n3 with⟨_,h2⟩ | ⟨h2,_⟩
  ·rcases f7 with⟨_,_,_,_,h3⟩ | ⟨h3,_⟩
   ·exact h3
   ·rw[h3]at h2;simp[kw]at h2
  ·rw[h]at h2;cases h2
 obtain⟨R,i4⟩: ∃R,(if b1=true then .error j1 else jx s SC ms 6 [] j1)=R:=⟨_,rfl⟩
 have e2:tn (b1=false) s SC ms R w2 (w.heap.size+1) 6 [] j1 b1:=by
  cases b1 with
  |true=>exact Or.inr ⟨rfl,i4.symm⟩
  |false=>exact Or.inl ⟨rfl,rfl,[],fY.nil _ _ _,by simp,rfl,i4⟩
 have k9:=hid e2;have i7:=hid e7;have e5:=hid (fun wz bs l X j2 j3 j4 b2 b3 b4=>vy (its:=X) (w:=wz) (base:=w.heap.size+1) (bs:=bs) (l:=l) (j2:=j2) (j3:=j3) (j4:=j4) (b2:=b2) (b3:=b3) (b4:=b4) f7 i5 n3 i4);have r2:=hid i5;rw[←i5]at p8 p2 f6;clear e2 e7 q0 n3 f7 i4 i5;go_wp2_with fail
 go_loopg [] 7 (fun mm wr=> ∃(a2:Option Addr) (a8 j:Nat) (bad' mn:Bool) (bs:List ba) (x0 x1 x2 x3 x4:Value),w.heap.size+1≤wr.heap.size∧But (fun k=>k=w.heap.size∨w.heap.size+1≤k) w wr∧XrB wr w.heap.size s j bad' (.slice a0 SC.length cap0) (.slice a1 ms.length cap1) ⟨.slice a2 bs.length a8,x0,x1,x2,x3,x4,mn⟩∧TcV wr (w.heap.size+1) (.slice a0 SC.length cap0) cs∧TmV wr (w.heap.size+1) (.slice a1 ms.length cap1) ms∧TbV wr (w.heap.size+1) (.slice a2 bs.length a8) bs∧Hid ((mn=false∧bs.length≤6∧ ∃m1,mm=m1+1∧tn (b1=false) s SC ms R wr (w.heap.size+1) m1 bs j bad')∨(mn=true∧xV s SC ms cs wr (w.heap.size+1) bs j bad')))
 case atStart=>exact⟨none,0,j1,b1,false,[],_,_,_,_,_,by omega,l0,p8,p2,p4,⟨[],du _ _ _ _,rfl,by simp⟩,hid (Or.inl ⟨rfl,by simp,6,rfl,k9.out⟩)⟩
 case round=>
  obtain⟨a2,a8,j,bad',mn,bs,x0,x1,x2,x3,x4,v4,l3,g0,m0,i3,i6,i0⟩:=hrel
  by_cases hstop:mn=true∨bad'=true
  ·have h7:xV s SC ms cs wr (w.heap.size+1) bs j bad':=by
    rcases i0.out with⟨h1,_,m1,_,hb⟩ | ⟨_,h⟩
    ·have s0:bad'=true:=by
      rcases hstop with h|h
      ·rw[h1]at h;cases h
      ·exact h
     subst s0;rcases hb with⟨h,_⟩ | ⟨_,h⟩
     ·cases h
     ·have:=e5.out wr bs [] [] j j j true true true (Or.inr ⟨rfl,h⟩) (Or.inr ⟨rfl,by simp[dU]⟩) (Or.inr ⟨rfl,by simp[fQ]⟩);rcases this with⟨_,h⟩ | ⟨h,_⟩
      ·exact Or.inl ⟨by simp,h⟩
      ·simp at h
    ·exact h
   have HF:=hid h7;have e3:=hid (ja w.heap.size s j bad' _ _ _ wr g0 hstop);clear h7 i0 e5 k9 i7;go_wp2_with fail;refine e3.out.mono ?_;rintro en w3 ⟨rfl,k,rfl⟩;clear e3 hstop;go_wp2_with fail;refine(lz w.heap.size s j bad' _ _ _ (wr.drewN k) (g0.drewN k)).mono ?_;rintro en w4 ⟨a5,q2⟩;have d6:But (fun _=>False) w w4:=((l3.next (But.drewN (fun _=>False) wr k) (fun _ _ h=>h.elim)).next a5 (fun _ _ h=>h.elim)).mono (fun k hk h=>by omega);have q7:w.heap.size≤(wr.drewN k).heap.size:=by show w.heap.size≤wr.heap.size;omega
   have g5:But (fun _=>False) wr w4:=(But.drewN _ _ _).trans a5;unfold As at q2;rcases q2 with⟨hb,g,hg,rfl,s1⟩ | ⟨hb,rfl⟩
   ·have k3:Hid (gh s= .error j):=by
     rcases HF.out with⟨_,h⟩ | ⟨h,_⟩
     ·exact hid h
     ·rw[hb]at h;cases h
    clear HF;go_wp2_with fail;exact bodyPost_ret (v:= .tuple #[.pointer (some ⟨g,0,none⟩),.int .i64 j]) (by simp[results,Tryz.results90,go_sem]) rfl ⟨d6,g,j,rfl,by omega,Or.inl ⟨j,k3.out,rfl,s1⟩⟩
   ·have r8:=g0.lt
    have k3:Hid (∃im,gh s= .ok im∧eZ w4 w.heap.size im):=by
     rcases HF.out with⟨h,_⟩ | ⟨_,im,s5,n5,n6,h8,n7⟩
     ·rw[hb]at h;cases h
     ·have f0:=m0.but g5 (fun _ _ _ _ _ _ h=>h);have g6:=i3.but g5 (fun _ _ _ _ _ _ h=>h);have e6:=i6.but g5 (fun _ _ _ _ _ _ h=>h);have e4:=g0.but g5 (fun h=>h);refine hid ⟨im,s5,?_,?_,?_⟩
      ·rw[n5,←n6];exact f0.tx e4.c0 e4.lt
      ·rw[h8];exact g6.tx e4.c1 e4.lt
      ·exact⟨bs,e6.tx e4.c2 e4.lt,(h8.symm▸n7.but g5 (fun _ _ _ _ h=>h)).mono (Nat.zero_le _)⟩
    clear HF;go_wp2_with fail;exact bodyPost_ret (v:= .tuple #[.pointer (some ⟨w.heap.size,0,none⟩),.int .i64 (-1)]) (by simp[results,Tryz.results90,go_sem]) rfl ⟨d6,w.heap.size,-1,rfl,Nat.le_refl _,Or.inr ⟨rfl,k3.out⟩⟩
  ·have s4:mn=false:=by cases mn;rfl;exact absurd (Or.inl rfl) hstop
   have r5:bad'=false:=by cases bad';rfl;exact absurd (Or.inr rfl) hstop
   subst s4 r5;obtain⟨_,t3,m1,t5,f8⟩:=i0.out.resolve_right (fun h=>by cases h.1);have h9:=hid f8;clear f8;clear hstop i0 k9
   by_cases hgo:bs.length<6∧pk s j≠59
   ·obtain⟨q3,o1⟩:=hgo;obtain⟨hG,BS,l1,q5,r4,q4⟩:=h9.out.next f6 q3 o1;obtain⟨h0,q6⟩:=i7.out hG;have o6:=hid q4;have r0:=hid h0;have r3:=hid q6;have e3:=hid (jb w.heap.size (w.heap.size+1) s j a0 a2 SC.length cap0 bs.length a8 _ x0 x1 x2 x3 x4 wr ms BS bs l1.heads f6 o0 r4 (fun b hb=>Or.inr (q5 b hb)) hs g0 i3 i6 f5 q3 o1);have q8:=hid l1;clear o1 q4 l1 q5 h0 q6 h9;go_wp2_with fail;refine e3.out.mono ?_;rintro en w4 ⟨a5,rfl,j7⟩;obtain⟨c,m,r,al,capl,lo,j4,c7,e4,m3,s3,e6⟩:=j7;clear e3;have f0:=m0.but a5 (fun g e cur _ _ hg h=>by omega);have g6:=i3.but a5 (fun g e cur _ _ hg h=>by omega);have f3:=i6.but a5 (fun g e cur _ _ hg h=>by omega)
    have d6:But (fun k=>k=w.heap.size∨w.heap.size+1≤k) w w4:=l3.next a5 (fun _ _ h=>Or.inl h);have q7:=a5.size;have e0:BtB w4 (w.heap.size+1) (.slice al lo.length capl) lo:=World.ownsRow.mono m3 (by omega);have o5:=hid (o6.out c m r lo j4 c7 e6);clear e6 o6;have g3:=hid (mU w.heap.size (w.heap.size+1) s j4 c7 SC a0 a1 al ms.length lo.length cap0 cap1 capl _ w4 (Or.inr ⟨r3.out,by rw[←r0.out];exact f0⟩) f6 o0 (by omega) hs e4 rfl f5);go_wp2_with fail;refine g3.out.mono ?_;rintro en w5 ⟨b6,k0⟩;obtain⟨ai,capi,items,j5,a7,rfl,n1,m2,s2,g7⟩:=k0;have g2:=hid (rI g7);have l5:=f0.but b6 (fun g e cur _ _ hg h=>by omega)
    have m5:=g6.but b6 (fun g e cur _ _ hg h=>by omega);have a4:=f3.but b6 (fun g e cur _ _ hg h=>by omega);have m4:=e0.but b6 (fun g hg h=>by have:=aj e0 g hg;omega);have t0:=b6.size;clear g7 g3;have g1:=hid (fw w.heap.size (w.heap.size+1) w4.heap.size s j5 a7 false _ _ _ a2 a8 bs ⟨c,m,r,lo,items⟩ al ai capl capi w5 (by omega) (by show items.length≤100;omega) hs n1 a4 m4 m2 f5 (by omega) (by omega));go_wp2_with fail;refine g1.out.mono ?_;rintro en w6 ⟨rfl,a3,a6,e8,t2,n2,f4⟩;clear g1
    have f1:=(fun(is:List Ins) (h:jz w5 w4.heap.size items is)=>(⟨h.len,fun k y x hy hx=>by
      obtain⟨z1,z2,z3,z4,z5⟩:=h.at' k y x hy hx
      exact⟨z1,z2,z3,z4,aU (World.ownsRow.mono z5 (by omega)) a3 (fun g cur hh hg h=>by
       rcases h with h|h
       ·omega
       ·exact a4.apart hh (by decide) h)⟩⟩:jz w6 (w.heap.size+1) items is))
    have l2:=(q8.out.but a5 (fun g cur _ hg h=>by omega)).but b6 (fun g cur _ hg h=>by omega)
    obtain⟨m',t4,p1⟩:=o5.out items w6 (tkP s 46 j5 a7).1 (tkP s 46 j5 a7).2 (l2.but a3 (fun g cur hh hg h=>by
     rcases h with h|h
     ·omega
     ·exact a4.apart hh (by decide) h)) (by
     rcases g2.out with⟨h1,is,h2,h3⟩ |h
     ·exact Or.inl ⟨h1,is,h2,f1 is h3⟩
     ·exact Or.inr h)
    have q9:=hid p1;have n4:=a4.ge
    have l6:=l5.but a3 (fun g e cur hh he hg h=>by
     rcases h with h|h
     ·omega
     ·exact a4.apart hh (by rcases he with he|he<;>(rw[he];decide)) h)
    have n0:=m5.but a3 (fun g e cur hh he hg h=>by
     rcases h with h|h
     ·omega
     ·exact a4.apart hh (by rw[he];decide) h)
    have e9:But (fun k=>k=w.heap.size∨w.heap.size+1≤k) w w6:=(d6.next b6 (fun _ _ h=>Or.inl h)).next a3 (fun k hk h=>by
     rcases h with h|h
     ·exact Or.inl h
     ·exact Or.inr (n4 k h))
    have t1:=a3.size;clear p1 o5 g2;go_wp2_with fail
    go_roundg (m'+1)
    case measure=>omega
    case rel=>exact⟨a6,e8,_,_,false,bs++ [⟨c,m,r,lo,items⟩],_,_,_,_,_,by omega,e9,n2,l6,n0,f4,hid (Or.inl ⟨rfl,by simp;omega,m',rfl,q9.out⟩)⟩
   ·have e1: ¬bs.length<6∨pk s j=59:=by
     by_cases h6:bs.length<6
     ·right
      by_cases hp:pk s j=59
      ·exact hp
      ·exact absurd ⟨h6,hp⟩ hgo
     ·exact Or.inl h6
    have i1:=hid (h9.out.fin (e1.imp id (fun h=>by simp[h])));have e3:=hid (jc w.heap.size s j a0 a2 SC.length cap0 bs.length a8 _ x0 x1 x2 x3 x4 wr f6 hs g0 e1);clear e1 hgo h9;obtain⟨TK,q1⟩: ∃TK,tkP s 59 j false=TK:=⟨_,rfl⟩;rw[q1]at i1 e3;obtain⟨j2,b2⟩:=TK;dsimp only at i1 e3;have o2:=hid (fun wz l X j3 j4 b3 b4 hbz=>e5.out wz bs l X j2 j3 j4 b2 b3 b4 hbz)
    have o4:Hid (b2=true∨b1=false):=by
     rcases i1.out with⟨_,h,_⟩ | ⟨h,_⟩
     ·exact hid (Or.inr h)
     ·exact hid (Or.inl h)
    clear q1 e5;go_wp2_with fail;refine e3.out.mono ?_;rintro en w4 ⟨a5,rfl,j7⟩;obtain⟨al,capl,lo,j4,c7,e4,m3,s3,e6⟩:=j7;clear e3;have f0:=m0.but a5 (fun g e cur _ _ hg h=>by omega);have g6:=i3.but a5 (fun g e cur _ _ hg h=>by omega);have f3:=i6.but a5 (fun g e cur _ _ hg h=>by omega);have d6:But (fun k=>k=w.heap.size∨w.heap.size+1≤k) w w4:=l3.next a5 (fun _ _ h=>Or.inl h);have q7:=a5.size;have e0:BtB w4 (w.heap.size+1) (.slice al lo.length capl) lo:=World.ownsRow.mono m3 (by omega);have f2:=e6;rw[r2.out]at f2;have o3:=hid (fun wz X j5 b5 hbz=>o2.out wz lo X j4 j5 c7 b5 hbz f2)
    have p3:c7=true∨(WfC SC∧TcV w4 (w.heap.size+1) (.slice a0 SC.length cap0) (SC.map toX)):=by
     rcases o4.out with h|h
     ·left
      rcases e6 with⟨_,h2⟩ | ⟨h2,_⟩
      ·rw[h]at h2;simp[dU]at h2
      ·exact h2
     ·obtain⟨h1,h2⟩:=i7.out h;exact Or.inr ⟨h2,by rw[←h1];exact f0⟩
    have g3:=hid (mU w.heap.size (w.heap.size+1) s j4 c7 SC a0 a1 al ms.length lo.length cap0 cap1 capl _ w4 p3 f6 o0 (by omega) hs e4 rfl f5);clear e6 f2 o2 o4 p3;go_wp2_with fail;refine g3.out.mono ?_;rintro en w5 ⟨b6,k0⟩;obtain⟨ai,capi,items,j5,a7,rfl,n1,m2,s2,g7⟩:=k0;have g2:=hid (rI g7);have l5:=f0.but b6 (fun g e cur _ _ hg h=>by omega);have m5:=g6.but b6 (fun g e cur _ _ hg h=>by omega);have a4:=f3.but b6 (fun g e cur _ _ hg h=>by omega);have m4:=e0.but b6 (fun g hg h=>by have:=aj e0 g hg;omega);have t0:=b6.size;clear g7 g3;have g1:=hid (fw w.heap.size (w.heap.size+1) w4.heap.size s j5 a7 true _ _ _ a2 a8 bs ⟨45,0,105,lo,items⟩ al ai capl capi w5 (by omega) (by show items.length≤100;omega) hs n1 a4 m4 m2 f5 (by omega) (by omega))
    go_wp2_with fail;refine g1.out.mono ?_;rintro en w6 ⟨rfl,a3,a6,e8,t2,n2,f4⟩;clear g1
    have r1:Hid (xV s SC ms cs w6 (w.heap.size+1) (bs++ [⟨45,0,105,lo,items⟩]) (tkP s 46 j5 a7).1 (tkP s 46 j5 a7).2):=by
     have f1:=(fun(is:List Ins) (h:jz w5 w4.heap.size items is)=>(⟨h.len,fun k y x hy hx=>by
      obtain⟨z1,z2,z3,z4,z5⟩:=h.at' k y x hy hx
      exact⟨z1,z2,z3,z4,aU (World.ownsRow.mono z5 (by omega)) a3 (fun g cur hh hg h=>by
       rcases h with h|h
       ·omega
       ·exact a4.apart hh (by decide) h)⟩⟩:jz w6 (w.heap.size+1) items is))
     refine hid (o3.out w6 items _ _ ?_ ?_)
     ·rcases i1.out with⟨h1,h2,BS,h3,h4,h5⟩ |h
      ·refine Or.inl ⟨h1,h2,BS,h3,?_,h5⟩;exact((h4.but a5 (fun g cur _ hg h=>by omega)).but b6 (fun g cur _ hg h=>by omega)).but a3 (fun g cur hh hg h=>by
     rcases h with h|h
     ·omega
     ·exact a4.apart hh (by decide) h)
      ·exact Or.inr h
     ·rcases g2.out with⟨h1,is,h2,h3⟩ |h
      ·exact Or.inl ⟨h1,is,h2,f1 is h3⟩
      ·exact Or.inr h
    have n4:=a4.ge
    have l6:=l5.but a3 (fun g e cur hh he hg h=>by
     rcases h with h|h
     ·omega
     ·exact a4.apart hh (by rcases he with he|he<;>(rw[he];decide)) h)
    have n0:=m5.but a3 (fun g e cur hh he hg h=>by
     rcases h with h|h
     ·omega
     ·exact a4.apart hh (by rw[he];decide) h)
    have e9:But (fun k=>k=w.heap.size∨w.heap.size+1≤k) w w6:=(d6.next b6 (fun _ _ h=>Or.inl h)).next a3 (fun k hk h=>by
     rcases h with h|h
     ·exact Or.inl h
     ·exact Or.inr (n4 k h))
    have t1:=a3.size;clear o3 g2;go_wp2_with fail
    go_roundg 0
    case measure=>omega
    case rel=>exact⟨a6,e8,_,_,true,bs++ [⟨45,0,105,lo,items⟩],_,_,_,_,_,by omega,e9,n2,l6,n0,f4,hid (Or.inr ⟨rfl,r1.out⟩)⟩
end
end Go.Proofs.YtpfkkmacakjmbaaGreatDoor
