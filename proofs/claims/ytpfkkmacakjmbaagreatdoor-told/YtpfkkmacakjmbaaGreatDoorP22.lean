import Derived.Test.YtpfkkmacakjmbaaGreatDoorP21
import Derived.Test.YtpfkkmacakjmbaaGreatDoorP16
set_option maxRecDepth 100000
set_option maxHeartbeats 6400000
set_option linter.unusedSimpArgs false
set_option linter.unusedVariables false
namespace Go.Proofs.YtpfkkmacakjmbaaGreatDoor
section
open Go Go.RowKit Sp
attribute [local go_sem ↓] Go.wp_at_zero Go.wp_at_succ
theorem qv (x:XIt) (ps:List Nat) (ty:List UInt8) (ao:Option Addr) (ct:Nat) (w:World) (hl:ps.length≤3) (hps: ∀k∈ps,k≤100) (hP:w.ownsRow 0 3 1 (.slice x.pa x.pn x.pc) ps.length (dM ps)) (hT:BtB w 0 (.slice ao ty.length ct) ty):
  Calls Tryz.prog 147 #[itV x,.slice ao ty.length ct] w fun en w'=>But (fun _=>False) w w'∧ ∃a' c',en= .returned (.slice a' ps.length c')∧BtB w' w.heap.size (.slice a' ps.length c') (ps.map (bM ty)):=by
 obtain⟨i0,d6,e4,e5,e7⟩:=info_parts iG;obtain⟨pl,op,cl,nu,pa,pn,pc⟩:=x
 have e3:pn=ps.length:=by
  obtain⟨a',c',h⟩:=aw hP;injection h
 subst e3;unfold itV;dsimp only at hP⊢;have b2:But (fun _=>False) w (w.alloc (.cells #[.int .i64 pl,.int .u8 op.toNat,.int .u8 cl.toNat,.int .i64 nu,.slice pa ps.length pc] 219)):=But.alloc _ _ _;have a9:(w.alloc (.cells #[.int .i64 pl,.int .u8 op.toNat,.int .u8 cl.toNat,.int .i64 nu,.slice pa ps.length pc] 219)).heap[w.heap.size]?=some (.cells #[.int .i64 pl,.int .u8 op.toNat,.int .u8 cl.toNat,.int .i64 nu,.slice pa ps.length pc] 219):=heap_alloc_new _ _
 go_in
 go_wp2_with fail;have e8:(w.alloc (.cells #[.int .i64 pl,.int .u8 op.toNat,.int .u8 cl.toNat,.int .i64 nu,.slice pa ps.length pc] 219)).heap.size=w.heap.size+1:=by simp
 generalize (w.alloc (.cells #[.int .i64 pl,.int .u8 op.toNat,.int .u8 cl.toNat,.int .i64 nu,.slice pa ps.length pc] 219))=w1 at*;have hE:=BtB.empty w1;rw[e8]at hE;have e6:=b2.size;have b5:But (fun _=>False) w (w1.alloc (.cells #[] 5)):=b2.trans (But.alloc _ _ _)
 go_loopg [5,6] ps.length (fun mm vs ks wr=> ∃(a':Option Addr) (c' k:Nat) (l:List UInt8),vs= .slice a' k c'∧ks= .int .i64 k∧k≤ps.length∧k+mm≤ps.length∧ps.length≤k+mm∧wr.ownsRow (w.heap.size+1) 5 1 (.slice a' k c') k (aM l)∧But (fun _=>False) w wr∧w.heap.size+1≤wr.heap.size∧wr.heap[w.heap.size]?=some (.cells #[.int .i64 pl,.int .u8 op.toNat,.int .u8 cl.toNat,.int .i64 nu,.slice pa ps.length pc] 219)∧Hid (l=(ps.take k).map (bM ty)))
 case atStart=>exact⟨_,0,0,[],rfl,rfl,by omega,by omega,by omega,hE,b5,by simp;omega,((But.alloc (fun _=>False) w1 _).block _ (ae a9) (fun h=>h)).trans a9,rfl⟩
 case round=>
  obtain⟨a',c',k,l,rfl,rfl,f2,f3,f4,a6,a3,f6,b0,HL⟩:=hrel;have q4:=ce4 b0;have b9:=ae b0
  by_cases hlt:k<ps.length
  ·have e1:(k:Int)<(ps.length:Int):=by omega
   obtain⟨g,rfl,f0,f1,a0⟩:=aI (ah hP a3 (fun _ _ h=>h)) (by omega);obtain⟨v,hv⟩: ∃v,ps[k]=v:=⟨_,rfl⟩;have qk:=a0 _ _ (mI (List.getElem?_eq_getElem hlt));rw[hv]at qk;have b1:=hid (dm ao ct ty v wr (BtB.but hT a3 (fun _ _ h=>h)))
   have HN:Hid (l++ [bM ty v]=(ps.take (k+1)).map (bM ty)):=by
    show _=_
    rw[HL.out,List.take_add_one,List.getElem?_eq_getElem hlt,hv];simp
   clear a0 hv;generalize bM ty v=z at*;go_wp2_with fail;refine b1.out.mono ?_;rintro en wx ⟨rfl,b4⟩;rw[b4];clear b4 wx b1;have b3:=aA a6;go_wp2_with (at_builtin;refine wpList_append_lies _ rfl _ _ _ rfl (w.heap.size+1) 5 i0 _ 1 1 (by kernel_rfl) d6 e4 e5 e7 rfl (by omega) _ k (aM l) rfl (a6.alloc _) ⟨wr.heap.size,0,none⟩ 1 1 [.int .u8 z.toNat] rfl rfl (World.news_of_block (cs:=#[.int .u8 z.toNat]) (t:=5) (fr:=(0,0)) (heap_alloc_new wr _)) (by simp[Value.oneCell']) (by omega) (by unfold maxLen;omega) (by omega) (by simp;omega) (wr.heap.size+1) (by simp) ?_);intro gg a4 w5 a2 a1 e9 e2;have a7:But (fun k'=>(Value.slice a' k c').ownBlock=some k') wr w5:=(But.alloc _ _ _).trans (ba a1)
   have a5:But (fun _=>False) w w5:=a3.next a7 (fun k' hk' h=>absurd (b3 k' h) (by omega));have c6:=ae a9;have b6:=(a7.block _ b9 (fun h=>absurd (b3 _ h) (by omega))).trans b0;have f5:=a7.size;clear q4 qk;go_wp2_with fail
   go_roundg (ps.length-(k+1))
   case measure=>omega
   case rel=>exact⟨some ⟨gg,0,none⟩,a4,k+1,l++ [z],by simp,by simp,by omega,by omega,by omega,by rw[show aM (l++ [z])=aM l++ [.int .u8 z.toNat]from by simp[aM]];exact a2,a5,by omega,b6,HN⟩
  ·have e1: ¬(k:Int)<(ps.length:Int):=by omega
   have e0:k=ps.length:=by omega
   subst e0
   have a8:BtB wr w.heap.size (.slice a' ps.length c') (ps.map (bM ty)):=by
    have h1:=HL.out;rw[List.take_length]at h1;unfold BtB;rw[←h1,show l.length=ps.length from by rw[h1];simp];exact World.ownsRow.mono a6 (by omega)
   go_wp2_with fail;exact b8 (.slice a' ps.length c') Tryz.results147 rfl rfl ⟨a3,a',c',rfl,a8⟩
def b7 (cs:List bv) (ms:List Sig) (lo:List UInt8) (c k:UInt8) (n:Nat):List UInt8:=
 if c.toNat=105∨c.toNat=111 then [105]else if c.toNat=115 then [bM lo n]else ay cs ms c k n 45
def dx (cs:List bv) (ms:List Sig) (lo:List UInt8) (c k:UInt8) (n:Nat) (ps:List UInt8):UInt8:=
 if c.toNat=115∨c.toNat=112∨c.toNat=119∨c.toNat=111 then 105 else if c.toNat=44 then bM ps 1 else if c.toNat=105 then fk cs (bM ps 1) (bM ps 2)else aF cs ms c k n lo
section
variable (b:Nat) (cs:List bv) (ms:List Sig) (c0:UInt8) (m0:Nat) (r0:UInt8) (al ai:Option Addr) (capl ni capi:Nat) (lo:List UInt8) (x:XIt) (w:World)
theorem wb (hn:cs.length≤100) (hm:ms.length≤100) (hT:TxC w b cs) (hM:TxM w b ms) (hB:BtB w 0 (.slice al lo.length capl) lo):
  Calls Tryz.prog 203 #[.pointer (some ⟨b,0,none⟩),hdV c0 m0 r0 (.slice al lo.length capl) (.slice ai ni capi),itV x] w fun en w'=>But (fun _=>False) w w'∧ ∃v,en= .returned v∧BtB w' w.heap.size v (b7 cs ms lo x.op x.cls x.num):=by
 obtain⟨pl,op,cl,nu,pa,pn,pc⟩:=x;unfold itV hdV;dsimp only;have a0:But (fun _=>False) w ((w.alloc (.cells #[.int .u8 c0.toNat,.int .i64 m0,.int .u8 r0.toNat,.slice al lo.length capl,.slice ai ni capi] 115)).alloc (.cells #[.int .i64 pl,.int .u8 op.toNat,.int .u8 cl.toNat,.int .i64 nu,.slice pa pn pc] 219)):=(But.alloc _ _ _).trans (But.alloc _ _ _)
 by_cases h1:op.toNat=105∨op.toNat=111
 ·rw[show b7 cs ms lo op cl nu=[105]from by simp[b7,h1]];have a5:=a0.size;have a1:=fun W h=>BtB.lit W w.heap.size h [105] (by simp)
  rcases h1 with h|h
  ·try (have a2:((op.toNat:Int)==105)=false:=by rw[beq_eq_false_iff_ne];omega)
   have a2:((op.toNat:Int)==105)=true:=by rw[beq_iff_eq];omega
   clear h
   go_in
   go_wp2_with fail;refine b8 (.slice (some ⟨w.heap.size+2,0,none⟩) 1 1) Tryz.results203 rfl rfl ⟨a0.trans (But.alloc _ _ _),_,rfl,?_⟩;have h9:=a1 ((w.alloc (.cells #[.int .u8 c0.toNat,.int .i64 m0,.int .u8 r0.toNat,.slice al lo.length capl,.slice ai ni capi] 115)).alloc (.cells #[.int .i64 pl,.int .u8 op.toNat,.int .u8 cl.toNat,.int .i64 nu,.slice pa pn pc] 219)) (by omega);simpa[aM]using h9
  ·try (have a2:((op.toNat:Int)==105)=false:=by rw[beq_eq_false_iff_ne];omega)
   have a3:((op.toNat:Int)==111)=true:=by rw[beq_iff_eq];omega
   clear h
   go_in
   go_wp2_with fail;refine b8 (.slice (some ⟨w.heap.size+2,0,none⟩) 1 1) Tryz.results203 rfl rfl ⟨a0.trans (But.alloc _ _ _),_,rfl,?_⟩;have h9:=a1 ((w.alloc (.cells #[.int .u8 c0.toNat,.int .i64 m0,.int .u8 r0.toNat,.slice al lo.length capl,.slice ai ni capi] 115)).alloc (.cells #[.int .i64 pl,.int .u8 op.toNat,.int .u8 cl.toNat,.int .i64 nu,.slice pa pn pc] 219)) (by omega);simpa[aM]using h9
 ·have a2:=tf op.toNat 105 (by omega);have a3:=tf op.toNat 111 (by omega)
  by_cases h2:op.toNat=115
  ·rw[show b7 cs ms lo op cl nu=[bM lo nu]from by simp[b7,h2]];have a4:((op.toNat:Int)==115)=true:=by rw[beq_iff_eq];omega
   have a6:=dm al capl lo nu ((w.alloc (.cells #[.int .u8 c0.toNat,.int .i64 m0,.int .u8 r0.toNat,.slice al lo.length capl,.slice ai ni capi] 115)).alloc (.cells #[.int .i64 pl,.int .u8 op.toNat,.int .u8 cl.toNat,.int .i64 nu,.slice pa pn pc] 219)) (BtB.but hB a0 (fun _ _ h=>h));have a8:=hid a6;have a5:=a0.size;have a1:=fun W h=>BtB.lit W w.heap.size h [bM lo nu] (by simp)
   clear h1 h2 a6;generalize bM lo nu=z at*
   go_in
   go_wp2_with fail;refine a8.out.mono ?_;rintro en wx ⟨rfl,a7⟩;rw[a7];clear a7 wx;go_wp2_with fail;refine b8 (.slice (some ⟨w.heap.size+2,0,none⟩) 1 1) Tryz.results203 rfl rfl ⟨a0.trans (But.alloc _ _ _),_,rfl,?_⟩;have h9:=a1 ((w.alloc (.cells #[.int .u8 c0.toNat,.int .i64 m0,.int .u8 r0.toNat,.slice al lo.length capl,.slice ai ni capi] 115)).alloc (.cells #[.int .i64 pl,.int .u8 op.toNat,.int .u8 cl.toNat,.int .i64 nu,.slice pa pn pc] 219)) (by omega);simpa[aM]using h9
  ·rw[show b7 cs ms lo op cl nu=ay cs ms op cl nu 45 from by simp[b7,h1,h2]];have a4:=tf op.toNat 115 (by omega);have a9:=hid (kA b cs ms pl nu op cl 45 ((w.alloc (.cells #[.int .u8 c0.toNat,.int .i64 m0,.int .u8 r0.toNat,.slice al lo.length capl,.slice ai ni capi] 115)).alloc (.cells #[.int .i64 pl,.int .u8 op.toNat,.int .u8 cl.toNat,.int .i64 nu,.slice pa pn pc] 219)) (ap:=pa) (np:=pn) (cp:=pc) hn hm (hT.but a0) (hM.but a0));have a5:=a0.size;clear h1 h2
   go_in
   go_wp2_with fail;refine a9.out.mono ?_;rintro en w5 ⟨b0,v,rfl,hv⟩;go_wp2_with fail;exact b8 (v) Tryz.results203 rfl rfl ⟨a0.trans b0,v,rfl,World.ownsRow.mono hv a5⟩
theorem rZ (ap:Option Addr) (cp:Nat) (ps:List UInt8) (hn:cs.length≤100) (hm:ms.length≤100) (hT:TxC w b cs) (hM:TxM w b ms) (hB:BtB w 0 (.slice al lo.length capl) lo) (hP:BtB w 0 (.slice ap ps.length cp) ps):
  Calls Tryz.prog 149 #[.pointer (some ⟨b,0,none⟩),hdV c0 m0 r0 (.slice al lo.length capl) (.slice ai ni capi),itV x,.slice ap ps.length cp] w fun en w'=>But (fun _=>False) w w'∧en= .returned (.int .u8 (dx cs ms lo x.op x.cls x.num ps).toNat):=by
 obtain⟨pl,op,cl,nu,pa,pn,pc⟩:=x;unfold itV hdV;dsimp only;have a0:But (fun _=>False) w ((w.alloc (.cells #[.int .u8 c0.toNat,.int .i64 m0,.int .u8 r0.toNat,.slice al lo.length capl,.slice ai ni capi] 115)).alloc (.cells #[.int .i64 pl,.int .u8 op.toNat,.int .u8 cl.toNat,.int .i64 nu,.slice pa pn pc] 219)):=(But.alloc _ _ _).trans (But.alloc _ _ _);have a5:=BtB.but hP a0 (fun _ _ h=>h)
 by_cases h1:op.toNat=115∨op.toNat=112∨op.toNat=119∨op.toNat=111
 ·rw[show dx cs ms lo op cl nu ps=105 from by simp[dx,h1]];rcases h1 with h|h|h|h
  ·try (have a2:((op.toNat:Int)==115)=false:=by rw[beq_eq_false_iff_ne];omega)
   try (have a1:((op.toNat:Int)==112)=false:=by rw[beq_eq_false_iff_ne];omega)
   try (have a3:((op.toNat:Int)==119)=false:=by rw[beq_eq_false_iff_ne];omega)
   have a2:((op.toNat:Int)==115)=true:=by rw[beq_iff_eq];omega
   clear h
   go_in
   go_wp2_with fail;go_ret;exact⟨a0,rfl⟩
  ·try (have a2:((op.toNat:Int)==115)=false:=by rw[beq_eq_false_iff_ne];omega)
   try (have a1:((op.toNat:Int)==112)=false:=by rw[beq_eq_false_iff_ne];omega)
   try (have a3:((op.toNat:Int)==119)=false:=by rw[beq_eq_false_iff_ne];omega)
   have a1:((op.toNat:Int)==112)=true:=by rw[beq_iff_eq];omega
   clear h
   go_in
   go_wp2_with fail;go_ret;exact⟨a0,rfl⟩
  ·try (have a2:((op.toNat:Int)==115)=false:=by rw[beq_eq_false_iff_ne];omega)
   try (have a1:((op.toNat:Int)==112)=false:=by rw[beq_eq_false_iff_ne];omega)
   try (have a3:((op.toNat:Int)==119)=false:=by rw[beq_eq_false_iff_ne];omega)
   have a3:((op.toNat:Int)==119)=true:=by rw[beq_iff_eq];omega
   clear h
   go_in
   go_wp2_with fail;go_ret;exact⟨a0,rfl⟩
  ·try (have a2:((op.toNat:Int)==115)=false:=by rw[beq_eq_false_iff_ne];omega)
   try (have a1:((op.toNat:Int)==112)=false:=by rw[beq_eq_false_iff_ne];omega)
   try (have a3:((op.toNat:Int)==119)=false:=by rw[beq_eq_false_iff_ne];omega)
   have a7:((op.toNat:Int)==111)=true:=by rw[beq_iff_eq];omega
   clear h
   go_in
   go_wp2_with fail;go_ret;exact⟨a0,rfl⟩
 ·have a2:=tf op.toNat 115 (by omega);have a1:=tf op.toNat 112 (by omega);have a3:=tf op.toNat 119 (by omega);have a7:=tf op.toNat 111 (by omega);have b5:=hid a5
  by_cases h2:op.toNat=44
  ·rw[show dx cs ms lo op cl nu ps=bM ps 1 from by simp[dx,h2]];have b3:((op.toNat:Int)==44)=true:=by rw[beq_iff_eq];omega
   have b2:=hid (dm ap cp ps 1 _ a5);clear h1 h2
   go_in
   go_wp2_with fail;refine b2.out.mono ?_;rintro en wx ⟨rfl,a4⟩;rw[a4];clear a4 wx;go_wp2_with fail;go_ret;exact⟨a0,rfl⟩
  ·have b3:=tf op.toNat 44 (by omega)
   by_cases h3:op.toNat=105
   ·rw[show dx cs ms lo op cl nu ps=fk cs (bM ps 1) (bM ps 2)from by simp[dx,h3]];have a6:((op.toNat:Int)==105)=true:=by rw[beq_iff_eq];omega
    have b0:=hid (dm ap cp ps 1 _ a5);have b1:=hid (dm ap cp ps 2 _ a5);have a9:=hid (kT b cs (bM ps 1) (bM ps 2) _ hn (hT.but a0));clear h1 h2 h3
    go_in
    go_wp2_with fail;refine b0.out.mono ?_;rintro en wx ⟨rfl,a4⟩;rw[a4];clear a4 wx;go_wp2_with fail;refine b1.out.mono ?_;rintro en wx ⟨rfl,a4⟩;rw[a4];clear a4 wx;go_wp2_with fail;refine a9.out.mono ?_;rintro en wx ⟨rfl,a4⟩;rw[a4];clear a4 wx;go_wp2_with fail;go_ret;exact⟨a0,rfl⟩
   ·have a6:=tf op.toNat 105 (by omega);rw[show dx cs ms lo op cl nu ps=aF cs ms op cl nu lo from by simp[dx,h1,h2,h3]];have a8:=hid (eY b cs ms pl nu op cl al capl lo _ (ap:=pa) (np:=pn) (cp:=pc) hn hm (hT.but a0) (hM.but a0) (BtB.but hB a0 (fun _ _ h=>h)));clear h1 h2 h3
    go_in
    go_wp2_with fail;refine a8.out.mono ?_;rintro en w5 ⟨rfl,b4⟩;go_wp2_with fail;go_ret;exact⟨a0.trans b4,rfl⟩
def jd (cs:List bv) (ak ps:List UInt8):Bool:=(List.range ak.length).all fun i=>bW cs (bM ps i) (ak.getD i 0)
theorem zK {cs:List bv} {ak ps:List UInt8} {i:Nat} (hi:i<ak.length) (h:bW cs (bM ps i) (ak.getD i 0)=false):jd cs ak ps=false:=by
 unfold jd;rw[List.all_eq_false];exact⟨i,List.mem_range.2 hi,by rw[h];simp⟩
theorem yi {cs:List bv} {ak ps:List UInt8} (h: ∀i,i<ak.length→bW cs (bM ps i) (ak.getD i 0)=true):jd cs ak ps=true:=by
 unfold jd;rw[List.all_eq_true];exact fun i hi=>h i (List.mem_range.1 hi)
theorem qw (ap:Option Addr) (cp:Nat) (ps:List UInt8) (hn:cs.length≤100) (hm:ms.length≤100) (hT:TxC w b cs) (hM:TxM w b ms) (hB:BtB w 0 (.slice al lo.length capl) lo) (hP:BtB w 0 (.slice ap ps.length cp) ps) (hak:(b7 cs ms lo x.op x.cls x.num).length≤100):
  Calls Tryz.prog 148 #[.pointer (some ⟨b,0,none⟩),hdV c0 m0 r0 (.slice al lo.length capl) (.slice ai ni capi),itV x,.slice ap ps.length cp] w fun en w'=>But (fun _=>False) w w'∧en= .returned (.bool (jd cs (b7 cs ms lo x.op x.cls x.num) ps)):=by
 have a5:But (fun _=>False) w ((w.alloc (.cells #[.int .u8 c0.toNat,.int .i64 m0,.int .u8 r0.toNat,.slice al lo.length capl,.slice ai ni capi] 115)).alloc (.cells #[.int .i64 x.place,.int .u8 x.op.toNat,.int .u8 x.cls.toNat,.int .i64 x.num,.slice x.pa x.pn x.pc] 219)):=(But.alloc _ _ _).trans (But.alloc _ _ _);have b0:=hid (wb b cs ms c0 m0 r0 al ai capl ni capi lo x ((w.alloc (.cells #[.int .u8 c0.toNat,.int .i64 m0,.int .u8 r0.toNat,.slice al lo.length capl,.slice ai ni capi] 115)).alloc (.cells #[.int .i64 x.place,.int .u8 x.op.toNat,.int .u8 x.cls.toNat,.int .i64 x.num,.slice x.pa x.pn x.pc] 219)) hn hm (hT.but a5) (hM.but a5) (BtB.but hB a5 (fun _ _ h=>h)))
 obtain⟨A,hA⟩: ∃A,b7 cs ms lo x.op x.cls x.num=A:=⟨_,rfl⟩;rw[hA]at b0 hak⊢;clear hA;obtain⟨R,b3⟩: ∃R,jd cs A ps=R:=⟨_,rfl⟩;rw[b3];have b4:=hid b3;clear b3;unfold itV hdV at*
 go_in
 go_wp2_with fail;refine b0.out.mono ?_;rintro en w1 ⟨a4,v,rfl,hv⟩;obtain⟨av,cv,rfl⟩:=aw hv;have b5:=a5.trans a4;clear b0 a4 a5;go_wp2_with fail
 go_loopg [10] A.length (fun mm ks wr=> ∃(k:Nat),ks= .int .i64 k∧k≤A.length∧k+mm≤A.length∧A.length≤k+mm∧But (fun _=>False) w1 wr∧Hid (∀i,i<k→bW cs (bM ps i) (A.getD i 0)=true))
 case atStart=>exact⟨0,rfl,by omega,by omega,by omega,But.refl _ _,fun i h=>absurd h (by omega)⟩
 case round=>
  obtain⟨k,rfl,e0,e1,e2,b1,HA⟩:=hrel;have b2:=b5.trans b1
  by_cases hlt:k<A.length
  ·have b9:(k:Int)<(A.length:Int):=by omega
   have c6:=BtB.but hv b1 (fun _ _ h=>h);obtain⟨g,rfl,a2,d6,a1⟩:=aI c6 (by omega);have qk:=a1 _ _ (cZ hlt);have a8:=hid (dm ap cp ps k wr.drew (BtB.but hP (b2.trans (But.drew _ _)) (fun _ _ h=>h)));have a7:=hid (nk b cs (bM ps k) (A.getD k 0) wr.drew hn (hT.but (b2.trans (But.drew _ _))))
   have HX:Hid ((bW cs (bM ps k) (A.getD k 0)=false→R=false)∧(bW cs (bM ps k) (A.getD k 0)=true→ ∀i,i<k+1→bW cs (bM ps i) (A.getD i 0)=true)):=by
    refine hid ⟨fun h=>by rw[←b4.out];exact zK hlt h,fun h i hi=> ?_⟩;rcases Nat.lt_or_ge i k with h'|h'
    ·exact HA.out i h'
    ·have:i=k:=by omega
     subst this;exact h
   clear a1;revert a7 HX qk a8;generalize bM ps k=P;generalize A.getD k 0=Q;intro qk a8 a7 HX;go_wp2_with fail;have a0:But (fun _=>False) wr wr.drew:=But.drew _ _;refine cA (But (fun _=>False) wr) 10 (by kernel_rfl) ?_;refine aB (k:=0) (v:= ?vA0) rfl (by decide) (by kernel_rfl) (fun _ _ _ h=>h) rfl a0 ?yA0 ?rA0
   case yA0=>intro wS h;have q0:=(h.kc qk a2);clear h;go_simp;try rfl
   dsimp only[Act.put]
   try simp only[aK]
   refine aB (k:=1) (v:= ?vA1) rfl (by decide) (by kernel_rfl) (fun _ _ _ h=>h) rfl a0 ?yA1 ?rA1
   case yA1=>intro wS h;have q0:=(h.kc qk a2);clear h;go_simp;try rfl
   dsimp only[Act.put]
   try simp only[aK]
   refine aB (k:=2) (v:= ?vA2) rfl (by decide) (by kernel_rfl) (fun _ _ _ h=>h) rfl a0 ?yA2 ?rA2
   case yA2=>intro wS h;have q0:=(h.kc qk a2);clear h;go_simp;try rfl
   dsimp only[Act.put]
   try simp only[aK]
   refine aB (k:=4) (v:= ?vA4) rfl (by decide) (by kernel_rfl) (fun _ _ _ h=>h) rfl a0 ?yA4 ?rA4
   case yA4=>intro wS h;have q0:=(h.kc qk a2);clear h;go_simp;try rfl
   dsimp only[Act.put]
   try simp only[aK]
   refine aB (k:=5) (v:= ?vA5) rfl (by decide) (by kernel_rfl) (fun _ _ _ h=>h) rfl a0 ?yA5 ?rA5
   case yA5=>intro wS h;have q0:=(h.kc qk a2);clear h;go_simp;try rfl
   dsimp only[Act.put]
   try simp only[aK]
   refine aB (k:=6) (v:= ?vA6) rfl (by decide) (by kernel_rfl) (fun _ _ _ h=>h) rfl a0 ?yA6 ?rA6
   case yA6=>intro wS h;have q0:=(h.kc qk a2);clear h;go_simp;try rfl
   dsimp only[Act.put]
   try simp only[aK]
   refine aB (k:=7) (v:= ?vA7) rfl (by decide) (by kernel_rfl) (fun _ _ _ h=>h) rfl a0 ?yA7 ?rA7
   case yA7=>intro wS h;have q0:=(h.kc qk a2);clear h;go_simp;try rfl
   dsimp only[Act.put]
   try simp only[aK]
   refine aE (k:=3) rfl (by decide) (by kernel_rfl) ?_;intro KS hKS;go_simp;refine a8.out.mono ?_;rintro en wx ⟨rfl,a6⟩;rw[a6];clear a6 wx;refine hKS.out _ _ (fun _=>a0) ?_;clear hKS KS;refine aE (k:=8) rfl (by decide) (by kernel_rfl) ?_;intro KS hKS;go_simp;refine a7.out.mono ?_;rintro en wx ⟨rfl,a6⟩;rw[a6];clear a6 wx;refine hKS.out _ _ (fun _=>a0) ?_;clear hKS KS;refine aE (k:=9) rfl (by decide) (by kernel_rfl) ?_;intro KS hKS;go_simp;refine hKS.out _ _ (fun _=>a0) ?_;clear hKS KS;refine ck rfl (by kernel_rfl) ?_;have b6:=b1.trans a0;have a9:=HX.out;clear HX a8 a7 qk a0;generalize wr.drew=wd at*
   cases hq:bW cs P Q with
   |false=>
    have a3:R=false:=a9.1 hq;subst a3;clear a9 hq;go_wp2_with fail;go_ret;exact⟨b5.trans b6,rfl⟩
   |true=>
    have HY:=hid (a9.2 hq);clear a9 hq;go_wp2_with fail
    go_roundg (A.length-(k+1))
    case measure=>omega
    case rel=>exact⟨k+1,by simp,by omega,by omega,by omega,b6,HY⟩
  ·have b9: ¬(k:Int)<(A.length:Int):=by omega
   have a3:R=true:=by rw[←b4.out];exact yi (fun i hi=>HA.out i (by omega))
   subst a3;go_wp2_with fail;go_ret;exact⟨b2,rfl⟩
end
end
section
open Go Go.RowKit Sp
def f9 (s:ByteArray) (cs:List Cls) (ns nl i:Nat) (bad:Bool):Except Nat (List Ins×Nat):=if bad=true then .error i else lW s cs ns nl i
theorem r7 {s:ByteArray} {cs:List Cls} {ns nl i:Nat} {bad:Bool} {j:Nat} {bad':Bool} {Q:List Ins→Prop} (h:(bad'=false∧ ∃is,kC s cs ns nl i bad= .ok (is,j)∧Q is)∨(bad'=true∧kC s cs ns nl i bad= .error j)):
  ((tkP s 46 j bad').2=false∧ ∃is,f9 s cs ns nl i bad= .ok (is,(tkP s 46 j bad').1)∧Q is)∨((tkP s 46 j bad').2=true∧f9 s cs ns nl i bad= .error (tkP s 46 j bad').1):=by
 unfold kC at h;unfold f9
 cases bad with
 |true=>
  simp only[if_true]at h⊢;rcases h with⟨_,is,h,_⟩ | ⟨rfl,h⟩
  ·cases h
  ·cases h
   rw[ea (Or.inl rfl)];exact Or.inr ⟨rfl,rfl⟩
 |false=>
  simp only[Bool.false_eq_true,if_false]at h⊢;unfold lW;rcases h with⟨rfl,is,h,hq⟩ | ⟨rfl,h⟩
  ·rw[h];simp only
   by_cases hp:pk s j=46
   ·rw[kx hp,if_pos (by rw[hp];rfl)];exact Or.inl ⟨rfl,is,rfl,hq⟩
   ·rw[ea (Or.inr hp),if_neg (fun h=>hp ((u8n (by decide)).1 h))];exact Or.inr ⟨rfl,rfl⟩
  ·rw[h,ea (Or.inl rfl)];exact Or.inr ⟨rfl,rfl⟩
structure BdN (w:World) (base:Nat) (gs:List Sig) (X:bu) (b:Bod):Prop where
 cls:X.cls=(aN gs b).cls
 meth:X.meth=(aN gs b).meth
 ans:X.ans=(aN gs b).ans
 loc:X.locals=b.locals
 its:jY w base X.items b.code
def gc (w:World) (base:Nat) (gs:List Sig) (bs:List bu) (BS:List Bod):Prop:=bs.length=BS.length∧ ∀(k:Nat) X b,bs[k]?=some X→BS[k]?=some b→BdN w base gs X b
theorem gc.nil (w:World) (base:Nat) (gs:List Sig):gc w base gs [] []:=⟨rfl,fun k X b h=>by simp at h⟩
theorem gc.snoc {w:World} {base:Nat} {gs:List Sig} {bs:List bu} {BS:List Bod} {X:bu} {b:Bod} (h:gc w base gs bs BS) (hx:BdN w base gs X b):gc w base gs (bs++ [X]) (BS++ [b]):=by
 refine⟨by simp[h.1],fun k Y c hY hc=> ?_⟩;rcases Nat.lt_or_ge k bs.length with hk|hk
 ·rw[List.getElem?_append_left hk]at hY;rw[List.getElem?_append_left (by rw[←h.1];exact hk)]at hc;exact h.2 k Y c hY hc
 ·rw[List.getElem?_append_right hk]at hY;rw[List.getElem?_append_right (by rw[←h.1];exact hk),←h.1]at hc
  cases hd:k-bs.length with
  |zero=>rw[hd]at hY hc;simp at hY hc;subst hY hc;exact hx
  |succ d=>rw[hd]at hY;simp at hY
theorem gc.heads {w:World} {base:Nat} {gs:List Sig} {bs:List bu} {BS:List Bod} (h:gc w base gs bs BS):bs.map jb=(BS.map (aN gs)).map jb:=by
 apply List.ext_getElem?
 intro k;simp only[List.getElem?_map];rcases Nat.lt_or_ge k bs.length with hk|hk
 ·have a0:k<BS.length:=by rw[←h.1];exact hk
  have h1:=h.2 k _ _ (List.getElem?_eq_getElem hk) (List.getElem?_eq_getElem a0);rw[List.getElem?_eq_getElem hk,List.getElem?_eq_getElem a0];simp[jb,h1.cls,h1.meth]
 ·rw[List.getElem?_eq_none hk,List.getElem?_eq_none (by rw[←h.1];exact hk)]
  rfl
theorem gc.but {F:Nat→Prop} {w w':World} {base:Nat} {gs:List Sig} {bs:List bu} {BS:List Bod} (h:gc w base gs bs BS) (hb:But F w w') (hf: ∀g cur,w.heap[g]?=some (.cells cur 3)→base≤g→ ¬F g):gc w' base gs bs BS:=
 ⟨h.1,fun k X b hX hB=>by
  have h1:=h.2 k X b hX hB
  exact⟨h1.cls,h1.meth,h1.ans,h1.loc,h1.its.len,fun q y x hy hx=>by
   obtain⟨e1,e2,e3,e4,e5⟩:=h1.its.at' q y x hy hx;exact⟨e1,e2,e3,e4,aY e5 hb hf⟩⟩⟩
theorem gc.mono {w:World} {base base':Nat} {gs:List Sig} {bs:List bu} {BS:List Bod} (h:gc w base gs bs BS) (hb:base'≤base):gc w base' gs bs BS:=
 ⟨h.1,fun k X b hX hB=>by
  have h1:=h.2 k X b hX hB;exact⟨h1.cls,h1.meth,h1.ans,h1.loc,h1.its.mono hb⟩⟩
def tR (Gd:Prop) (s:ByteArray) (cs:List Cls) (gs:List Sig) (R:Except Nat (List Bod×Nat)) (w:World) (base mm:Nat) (bs:List bu) (j:Nat) (bad:Bool):Prop:=
 (bad=false∧Gd∧ ∃BS,gc w base gs bs BS∧(∀b∈BS,eQ b)∧BS.length+mm=6∧jV s cs gs mm BS j=R)∨(bad=true∧R= .error j)
section
variable {Gd:Prop} {s:ByteArray} {cs:List Cls} {gs:List Sig} {R:Except Nat (List Bod×Nat)} {w:World} {base:Nat}
theorem wc {k:Nat} {BS:List Bod} {i:Nat} (h:(pk s i).toNat≠59):jV s cs gs (k+1) BS i=match eI s cs.length gs BS i with
  | .error j=> .error j
  | .ok ((x,m,t),p)=>
   match lW s cs gs.length (t.length+2) p with
   | .error q=> .error q
   | .ok (is,q)=>jV s cs gs k (BS++ [⟨x,m,UInt8.ofNat (65+x)::jZ gs m::t,is⟩]) q:=by
 unfold eI;rw[jV,if_neg h]
 cases gT s cs.length i with
 |error j=>rfl
 |ok y=>
  obtain⟨x,j⟩:=y;simp only
  cases eS s gs.length j with
  |error l=>rfl
  |ok z=>
   obtain⟨m,l⟩:=z;simp only
   split
   ·rfl
   ·cases tys s cs.length 58 3 [] l with
    |error p=>rfl
    |ok t=>
     obtain⟨t,p⟩:=t;simp only
     cases lW s cs gs.length (t.length+2) p<;>rfl
theorem tR.fin {mm:Nat} {bs:List bu} {j:Nat} {bad:Bool} (h:tR Gd s cs gs R w base mm bs j bad) (hx: ¬bs.length<6∨(!bad&& !decide (pk s j=59))=false):
  ((tkP s 59 j bad).2=false∧Gd∧ ∃BS,R= .ok (BS,(tkP s 59 j bad).1)∧gc w base gs bs BS∧ ∀b∈BS,eQ b)∨((tkP s 59 j bad).2=true∧R= .error (tkP s 59 j bad).1):=by
 rcases h with⟨rfl,hG,BS,h1,h2,h3,h4⟩ | ⟨rfl,h2⟩
 ·by_cases hp:pk s j=59
  ·left
   rw[kx hp];refine⟨rfl,hG,BS,?_,h1,h2⟩;rw[←h4]
   cases mm<;>simp[jV,hp]
  ·right
   rw[ea (Or.inr hp)];refine⟨rfl,?_⟩
   have hm:mm=0:=by
    rcases hx with h|h
    ·rw[h1.1]at h;omega
    ·simp[hp]at h
   subst hm;rw[←h4];have:(pk s j).toNat≠59:=fun h=>hp ((u8n (by decide)).1 h)
   simp[jV,this]
 ·right
  rw[ea (Or.inl rfl)];exact⟨rfl,h2⟩
theorem tR.next {mm:Nat} {bs:List bu} {j:Nat} (h:tR Gd s cs gs R w base mm bs j false) (hnc:cs.length≤4) (hl:bs.length<6) (hp:pk s j≠59):
  Gd∧ ∃BS,gc w base gs bs BS∧(∀b∈BS,eQ b)∧BS.length≤6∧ ∀c m r l j1 a0,((a0=false∧ ∃x t,eI s cs.length gs BS j= .ok ((x,m,t),j1)∧c=UInt8.ofNat (65+x)∧x<cs.length∧m<gs.length∧r=(cM gs m).ret∧l=c::(cM gs m).arg::t)∨(a0=true∧eI s cs.length gs BS j= .error j1))→
   ∀its w' j2 a1,gc w' base gs bs BS→((a1=false∧ ∃is,f9 s cs gs.length l.length j1 a0= .ok (is,j2)∧jY w' base its is)∨(a1=true∧f9 s cs gs.length l.length j1 a0= .error j2))→
   ∃m',m'<mm∧tR Gd s cs gs R w' base m' (bs++ [⟨c,m,r,l,its⟩]) j2 a1:=by
 rcases h with⟨_,hG,BS,h1,h2,h3,h4⟩ | ⟨h,_⟩
 ·have a5:BS.length<6:=by rw[h1.1]at hl;exact hl
  refine⟨hG,BS,h1,h2,by omega,?_⟩;intro c m r l j1 a0 hh its w' j2 a1 a4 hc;obtain⟨f,rfl⟩: ∃f,mm=f+1:=⟨mm-1,by omega⟩;have a3:(pk s j).toNat≠59:=fun h=>hp ((u8n (by decide)).1 h)
  rw[wc a3]at h4;rcases hh with⟨rfl,x,t,e1,e2,e3,e4,e5,e6⟩ | ⟨rfl,e1⟩
  ·rw[e1]at h4;simp only at h4;unfold f9 at hc;simp only[Bool.false_eq_true,if_false]at hc;rw[show l.length=t.length+2 from by rw[e6];rfl]at hc;rcases hc with⟨rfl,is,c1,c2⟩ | ⟨rfl,c1⟩
   ·rw[c1]at h4;have a2: ¬((x:Int)<0):=by omega
    refine⟨f,by omega,Or.inl ⟨rfl,hG,BS++ [⟨x,m,UInt8.ofNat (65+x)::jZ gs m::t,is⟩],a4.snoc ⟨?_,?_,?_,?_,c2⟩,?_,by simp;omega,h4⟩⟩
    ·simp[aN,a2,e2]
    ·simp[aN]
    ·simp[aN,a2,e5]
    ·simp[e6,e2,pe e4]
    ·intro b hb;rcases List.mem_append.1 hb with hb|hb
     ·exact h2 b hb
     ·simp at hb;subst hb;exact⟨by simp,by simp;omega,by simp⟩
   ·rw[c1]at h4;exact⟨0,by omega,Or.inr ⟨rfl,h4.symm⟩⟩
  ·rw[e1]at h4;simp only at h4;unfold f9 at hc;simp only[if_true]at hc;rcases hc with⟨_,is,c1,_⟩ | ⟨rfl,c1⟩
   ·cases c1
   ·cases c1
    exact⟨0,by omega,Or.inr ⟨rfl,h4.symm⟩⟩
 ·cases h
end
structure dC (w:World) (b:Nat) (im:Img):Prop where
 cls:TxC w b (im.classes.map toX)
 met:TxM w b im.sigs
 bod: ∃bs,TxB w b bs∧gc w 0 im.sigs bs im.bodies
theorem wg {s:ByteArray} {SC:List Cls} {n:Nat} {ms:List Sig} {cs:List bv} {bs:List bu} {l:List UInt8} {its:List XIt} {w:World} {base:Nat} {j0 j1 j2 j3 j4:Nat} {b0 b1 b2 b3 b4:Bool} {R:Except Nat (List Bod×Nat)}
  (hcls:(b0=false∧ ∃SC',eT s 4 [] 0= .ok (SC',j0)∧SC'=SC∧cs=SC.map toX∧WfC SC)∨(b0=true∧eT s 4 [] 0= .error j0)) (hn:SC.length=n)
  (hsig:(b1=false∧kV s n j0 b0= .ok (ms,j1))∨(b1=true∧kV s n j0 b0= .error j1))
  (hR:(if b1=true then .error j1 else jV s SC ms 6 [] j1)=R)
  (hbod:(b2=false∧(b1=false)∧ ∃BS,R= .ok (BS,j2)∧gc w base ms bs BS∧ ∀b∈BS,eQ b)∨(b2=true∧R= .error j2))
  (hmain:(b3=false∧eg s n 58 3 j2 b2= .ok (l,j3))∨(b3=true∧eg s n 58 3 j2 b2= .error j3))
  (hcode:(b4=false∧ ∃is,f9 s SC ms.length l.length j3 b3= .ok (is,j4)∧jY w base its is)∨(b4=true∧f9 s SC ms.length l.length j3 b3= .error j4)):
  ((b4||decide (j4<s.size))=true∧gv s= .error j4)∨((b4||decide (j4<s.size))=false∧ ∃im,gv s= .ok im∧im.classes=SC∧cs=SC.map toX∧im.sigs=ms∧gc w base ms (bs++ [⟨45,0,105,l,its⟩]) im.bodies):=by
 unfold gv;rcases hcls with⟨rfl,SC',hc,rfl,a3,a4⟩ | ⟨rfl,hc⟩
 ·rw[hc];simp only;unfold kV at hsig;simp only[Bool.false_eq_true,if_false]at hsig;rw[hn];rcases hsig with⟨rfl,a1⟩ | ⟨rfl,a1⟩
  ·rw[a1];simp only;simp only[Bool.false_eq_true,if_false]at hR;rw[hR];rcases hbod with⟨rfl,_,BS,hb,a2,_⟩ | ⟨rfl,hb⟩
   ·rw[hb];simp only;unfold eg at hmain;simp only[Bool.false_eq_true,if_false]at hmain;rcases hmain with⟨rfl,hm⟩ | ⟨rfl,hm⟩
    ·rw[hm];simp only;unfold f9 at hcode;simp only[Bool.false_eq_true,if_false]at hcode;rcases hcode with⟨rfl,is,a0,hX⟩ | ⟨rfl,a0⟩
     ·rw[a0];simp only
      by_cases hlt:j4<s.size
      ·left
       rw[if_pos hlt];exact⟨by simp[hlt],rfl⟩
      ·right
       rw[if_neg hlt];refine⟨by simp[hlt],_,rfl,rfl,a3,rfl,?_⟩;exact a2.snoc ⟨by simp[aN],by simp[aN],by simp[aN],rfl,hX⟩
     ·rw[a0];exact Or.inl ⟨rfl,rfl⟩
    ·rw[hm];unfold f9 at hcode;simp only[if_true]at hcode;rcases hcode with⟨_,is,a0,_⟩ | ⟨rfl,a0⟩
     ·cases a0
     ·cases a0
      exact Or.inl ⟨rfl,rfl⟩
   ·rw[hb];unfold eg at hmain;simp only[if_true]at hmain;rcases hmain with⟨_,hm⟩ | ⟨rfl,hm⟩
    ·cases hm
    ·cases hm
     unfold f9 at hcode;simp only[if_true]at hcode;rcases hcode with⟨_,is,a0,_⟩ | ⟨rfl,a0⟩
     ·cases a0
     ·cases a0
      exact Or.inl ⟨rfl,rfl⟩
  ·rw[a1];simp only[if_true]at hR;subst hR;rcases hbod with⟨_,h,_⟩ | ⟨rfl,hb⟩
   ·cases h
   ·cases hb
    unfold eg at hmain;simp only[if_true]at hmain;rcases hmain with⟨_,hm⟩ | ⟨rfl,hm⟩
    ·cases hm
    ·cases hm
     unfold f9 at hcode;simp only[if_true]at hcode;rcases hcode with⟨_,is,a0,_⟩ | ⟨rfl,a0⟩
     ·cases a0
     ·cases a0
      exact Or.inl ⟨rfl,rfl⟩
 ·rw[hc];unfold kV at hsig;simp only[if_true]at hsig;rcases hsig with⟨_,h⟩ | ⟨rfl,a1⟩
  ·cases h
  ·cases a1
   simp only[if_true]at hR;subst hR;rcases hbod with⟨_,h,_⟩ | ⟨rfl,hb⟩
   ·cases h
   ·cases hb
    unfold eg at hmain;simp only[if_true]at hmain;rcases hmain with⟨_,hm⟩ | ⟨rfl,hm⟩
    ·cases hm
    ·cases hm
     unfold f9 at hcode;simp only[if_true]at hcode;rcases hcode with⟨_,is,a0,_⟩ | ⟨rfl,a0⟩
     ·cases a0
     ·cases a0
      exact Or.inl ⟨rfl,rfl⟩
end
section
open Go Go.RowKit Sp
attribute [local go_sem ↓] Go.wp_at_zero Go.wp_at_succ
def yj (s:ByteArray) (SC:List Cls) (ms:List Sig) (cs:List bv) (w:World) (base:Nat) (bs:List bu) (j:Nat) (bad:Bool):Prop:=
 ((bad||decide (j<s.size))=true∧gv s= .error j)∨((bad||decide (j<s.size))=false∧ ∃im,gv s= .ok im∧im.classes=SC∧cs=SC.map toX∧im.sigs=ms∧gc w base ms bs im.bodies)
theorem tS (s:ByteArray) (w:World) (hs:s.size≤2000):
  Calls Tryz.prog 90 #[.string s] w fun en w'=>But (fun _=>False) w w'∧ ∃g p,en= .returned (.tuple #[.pointer (some ⟨g,0,none⟩),.int .i64 p])∧w.heap.size≤g∧
   ((∃j,gv s= .error j∧p=(j:Int)∧w'.heap[g]?=some (.cells #[.slice none 0 0,.slice none 0 0,.slice none 0 0] 109))∨(p= -1∧ ∃im,gv s= .ok im∧dC w' g im)):=by
 go_in
 go_wp2_with fail;refine(rK s w).mono ?_;rintro en w0 ⟨rfl,o4,t4,p2⟩;have f3:w.heap.size<w.heap.size+1:=by omega
 go_wp2_with fail;refine(il w.heap.size (w.heap.size+1) s _ _ w0 hs p2 f3 (by omega)).mono ?_;rintro en w1 ⟨rfl,f5,v0,cs,j0,b0,p3,l3,hcl,p5⟩;obtain⟨a0,cap0,s2⟩:=l3.len;subst s2;have t5:=f5.size;have g1:But (fun k=>k=w.heap.size∨w.heap.size+1≤k) w w1:=(o4.mono (fun _ _ h=>h.elim)).trans f5;clear o4 f5 p2;go_wp2_with fail;refine(io w.heap.size (w.heap.size+1) s j0 b0 a0 cs.length cap0 _ w1 hs hcl p3 f3 (by omega)).mono ?_;rintro en w2 ⟨rfl,h9,v1,ms,j1,b1,p4,p1,n7,n2⟩;obtain⟨a1,cap1,s3⟩:=aw p1;subst s3;have o6:=l3.but h9 (fun g e cur _ _ hg h=>by omega);have t6:=h9.size;have j7:But (fun k=>k=w.heap.size∨w.heap.size+1≤k) w w2:=g1.next h9 (fun _ _ h=>Or.inl h)
 clear h9 p3 l3 g1
 --the classes,if there are any
 obtain⟨SC,i2,f4⟩: ∃SC:List Cls,SC.length=cs.length∧((b0=false∧ ∃SC',eT s 4 [] 0= .ok (SC',j0)∧SC'=SC∧cs=SC.map toX∧WfC SC)∨(b0=true∧eT s 4 [] 0= .error j0)):=by
  rcases p5 with⟨h1,SC,h2,h3,h4⟩ |h
  ·exact⟨SC,by rw[h3,List.length_map],Or.inl ⟨h1,SC,h2,rfl,h3,h4⟩⟩
  ·exact⟨List.replicate cs.length ⟨-1,[]⟩,by simp,Or.inr h⟩
 have e5:b1=false→cs=SC.map toX∧WfC SC:=by
  intro h;rcases n2 with⟨_,h2⟩ | ⟨h2,_⟩
  ·rcases f4 with⟨_,_,_,_,h3⟩ | ⟨h3,_⟩
   ·exact h3
   ·rw[h3]at h2;simp[kV]at h2
  ·rw[h]at h2;cases h2
 obtain⟨R,i1⟩: ∃R,(if b1=true then .error j1 else jV s SC ms 6 [] j1)=R:=⟨_,rfl⟩
 have e0:tR (b1=false) s SC ms R w2 (w.heap.size+1) 6 [] j1 b1:=by
  cases b1 with
  |true=>exact Or.inr ⟨rfl,i1.symm⟩
  |false=>exact Or.inl ⟨rfl,rfl,[],gc.nil _ _ _,by simp,rfl,i1⟩
 have i9:=hid e0;have i4:=hid e5;have e3:=hid (fun wz bs l X j2 j3 j4 b2 b3 b4=>wg (its:=X) (w:=wz) (base:=w.heap.size+1) (bs:=bs) (l:=l) (j2:=j2) (j3:=j3) (j4:=j4) (b2:=b2) (b3:=b3) (b4:=b4) f4 i2 n2 i1);have q9:=hid i2;rw[←i2]at p4 o6 hcl;clear e0 e5 p5 n2 f4 i1 i2;go_wp2_with fail
 go_loopg [] 7 (fun mm wr=> ∃(a2:Option Addr) (a8 j:Nat) (bad' mn:Bool) (bs:List bu) (x0 x1 x2 x3 x4:Value),w.heap.size+1≤wr.heap.size∧But (fun k=>k=w.heap.size∨w.heap.size+1≤k) w wr∧XrB wr w.heap.size s j bad' (.slice a0 SC.length cap0) (.slice a1 ms.length cap1) ⟨.slice a2 bs.length a8,x0,x1,x2,x3,x4,mn⟩∧TcV wr (w.heap.size+1) (.slice a0 SC.length cap0) cs∧TmV wr (w.heap.size+1) (.slice a1 ms.length cap1) ms∧TbV wr (w.heap.size+1) (.slice a2 bs.length a8) bs∧Hid ((mn=false∧bs.length≤6∧ ∃m1,mm=m1+1∧tR (b1=false) s SC ms R wr (w.heap.size+1) m1 bs j bad')∨(mn=true∧yj s SC ms cs wr (w.heap.size+1) bs j bad')))
 case atStart=>exact⟨none,0,j1,b1,false,[],_,_,_,_,_,by omega,j7,p4,o6,p1,⟨[],fN _ _ _ _,rfl,by simp⟩,hid (Or.inl ⟨rfl,by simp,6,rfl,i9.out⟩)⟩
 case round=>
  obtain⟨a2,a8,j,bad',mn,bs,x0,x1,x2,x3,x4,t9,l0,f6,l6,i0,i3,h7⟩:=hrel
  by_cases hstop:mn=true∨bad'=true
  ·have g6:yj s SC ms cs wr (w.heap.size+1) bs j bad':=by
    rcases h7.out with⟨h1,_,m1,_,hb⟩ | ⟨_,h⟩
    ·have r4:bad'=true:=by
      rcases hstop with h|h
      ·rw[h1]at h;cases h
      ·exact h
     subst r4;rcases hb with⟨h,_⟩ | ⟨_,h⟩
     ·cases h
     ·have:=e3.out wr bs [] [] j j j true true true (Or.inr ⟨rfl,h⟩) (Or.inr ⟨rfl,by simp[eg]⟩) (Or.inr ⟨rfl,by simp[f9]⟩);rcases this with⟨_,h⟩ | ⟨h,_⟩
      ·exact Or.inl ⟨by simp,h⟩
      ·simp at h
    ·exact h
   have HF:=hid g6;have e1:=hid (jw w.heap.size s j bad' _ _ _ wr f6 hstop);clear g6 h7 e3 i9 i4;go_wp2_with fail;refine e1.out.mono ?_;rintro en w3 ⟨rfl,k,rfl⟩;clear e1 hstop;go_wp2_with fail;refine(me w.heap.size s j bad' _ _ _ (wr.drewN k) (f6.drewN k)).mono ?_;rintro en w4 ⟨a5,p8⟩;have b9:But (fun _=>False) w w4:=((l0.next (But.drewN (fun _=>False) wr k) (fun _ _ h=>h.elim)).next a5 (fun _ _ h=>h.elim)).mono (fun k hk h=>by omega);have q4:w.heap.size≤(wr.drewN k).heap.size:=by show w.heap.size≤wr.heap.size;omega
   have g2:But (fun _=>False) wr w4:=(But.drewN _ _ _).trans a5;unfold AP at p8;rcases p8 with⟨hb,g,hg,rfl,r5⟩ | ⟨hb,rfl⟩
   ·have i7:Hid (gv s= .error j):=by
     rcases HF.out with⟨_,h⟩ | ⟨h,_⟩
     ·exact hid h
     ·rw[hb]at h;cases h
    clear HF;go_wp2_with fail;exact bodyPost_ret (v:= .tuple #[.pointer (some ⟨g,0,none⟩),.int .i64 j]) (by simp[results,Tryz.results90,go_sem]) rfl ⟨b9,g,j,rfl,by omega,Or.inl ⟨j,i7.out,rfl,r5⟩⟩
   ·have r3:=f6.lt
    have i7:Hid (∃im,gv s= .ok im∧dC w4 w.heap.size im):=by
     rcases HF.out with⟨h,_⟩ | ⟨_,im,s1,n4,n5,g7,n6⟩
     ·rw[hb]at h;cases h
     ·have e8:=l6.but g2 (fun _ _ _ _ _ _ h=>h);have g3:=i0.but g2 (fun _ _ _ _ _ _ h=>h);have e4:=i3.but g2 (fun _ _ _ _ _ _ h=>h);have e2:=f6.but g2 (fun h=>h);refine hid ⟨im,s1,?_,?_,?_⟩
      ·rw[n4,←n5];exact e8.tx e2.c0 e2.lt
      ·rw[g7];exact g3.tx e2.c1 e2.lt
      ·exact⟨bs,e4.tx e2.c2 e2.lt,(g7.symm▸n6.but g2 (fun _ _ _ _ h=>h)).mono (Nat.zero_le _)⟩
    clear HF;go_wp2_with fail;exact bodyPost_ret (v:= .tuple #[.pointer (some ⟨w.heap.size,0,none⟩),.int .i64 (-1)]) (by simp[results,Tryz.results90,go_sem]) rfl ⟨b9,w.heap.size,-1,rfl,Nat.le_refl _,Or.inr ⟨rfl,i7.out⟩⟩
  ·have s0:mn=false:=by cases mn;rfl;exact absurd (Or.inl rfl) hstop
   have r2:bad'=false:=by cases bad';rfl;exact absurd (Or.inr rfl) hstop
   subst s0 r2;obtain⟨_,s9,m1,t3,f5⟩:=h7.out.resolve_right (fun h=>by cases h.1);have h0:=hid f5;clear f5;clear hstop h7 i9
   by_cases hgo:bs.length<6∧pk s j≠59
   ·obtain⟨q0,n8⟩:=hgo;obtain⟨hG,BS,k0,q2,r1,q1⟩:=h0.out.next hcl q0 n8;obtain⟨g5,q3⟩:=i4.out hG;have o3:=hid q1;have q7:=hid g5;have r0:=hid q3;have e1:=hid (jx w.heap.size (w.heap.size+1) s j a0 a2 SC.length cap0 bs.length a8 _ x0 x1 x2 x3 x4 wr ms BS bs k0.heads hcl n7 r1 (fun b hb=>Or.inr (q2 b hb)) hs f6 i0 i3 f3 q0 n8);have q5:=hid k0;clear n8 q1 k0 q2 g5 q3 h0;go_wp2_with fail;refine e1.out.mono ?_;rintro en w4 ⟨a5,rfl,i5⟩;obtain⟨c,m,r,al,capl,lo,j4,b6,e2,m2,r8,e4⟩:=i5;clear e1;have e8:=l6.but a5 (fun g e cur _ _ hg h=>by omega);have g3:=i0.but a5 (fun g e cur _ _ hg h=>by omega);have f1:=i3.but a5 (fun g e cur _ _ hg h=>by omega)
    have b9:But (fun k=>k=w.heap.size∨w.heap.size+1≤k) w w4:=l0.next a5 (fun _ _ h=>Or.inl h);have q4:=a5.size;have c6:BtB w4 (w.heap.size+1) (.slice al lo.length capl) lo:=World.ownsRow.mono m2 (by omega);have o2:=hid (o3.out c m r lo j4 b6 e4);clear e4 o3;have g0:=hid (nR w.heap.size (w.heap.size+1) s j4 b6 SC a0 a1 al ms.length lo.length cap0 cap1 capl _ w4 (Or.inr ⟨r0.out,by rw[←q7.out];exact e8⟩) hcl n7 (by omega) hs e2 rfl f3);go_wp2_with fail;refine g0.out.mono ?_;rintro en w5 ⟨a9,i6⟩;obtain⟨ai,capi,items,j5,a7,rfl,n0,m0,r6,g4⟩:=i6;have f8:=hid (r7 g4);have l4:=e8.but a9 (fun g e cur _ _ hg h=>by omega)
    have m4:=g3.but a9 (fun g e cur _ _ hg h=>by omega);have a4:=f1.but a9 (fun g e cur _ _ hg h=>by omega);have m3:=c6.but a9 (fun g hg h=>by have:=aA c6 g hg;omega);have s4:=a9.size;clear g4 g0;have f7:=hid (fF w.heap.size (w.heap.size+1) w4.heap.size s j5 a7 false _ _ _ a2 a8 bs ⟨c,m,r,lo,items⟩ al ai capl capi w5 (by omega) (by show items.length≤100;omega) hs n0 a4 m3 m0 f3 (by omega) (by omega));go_wp2_with fail;refine f7.out.mono ?_;rintro en w6 ⟨rfl,a3,a6,e6,s6,n1,f2⟩;clear f7
    have e9:=(fun(is:List Ins) (h:jY w5 w4.heap.size items is)=>(⟨h.len,fun k y x hy hx=>by
      obtain⟨z1,z2,z3,z4,z5⟩:=h.at' k y x hy hx
      exact⟨z1,z2,z3,z4,aY (World.ownsRow.mono z5 (by omega)) a3 (fun g cur hh hg h=>by
       rcases h with h|h
       ·omega
       ·exact a4.apart hh (by decide) h)⟩⟩:jY w6 (w.heap.size+1) items is))
    have k9:=(q5.out.but a5 (fun g cur _ hg h=>by omega)).but a9 (fun g cur _ hg h=>by omega)
    obtain⟨m',t0,o5⟩:=o2.out items w6 (tkP s 46 j5 a7).1 (tkP s 46 j5 a7).2 (k9.but a3 (fun g cur hh hg h=>by
     rcases h with h|h
     ·omega
     ·exact a4.apart hh (by decide) h)) (by
     rcases f8.out with⟨h1,is,h2,h3⟩ |h
     ·exact Or.inl ⟨h1,is,h2,e9 is h3⟩
     ·exact Or.inr h)
    have q6:=hid o5;have n3:=a4.ge
    have l5:=l4.but a3 (fun g e cur hh he hg h=>by
     rcases h with h|h
     ·omega
     ·exact a4.apart hh (by rcases he with he|he<;>(rw[he];decide)) h)
    have m5:=m4.but a3 (fun g e cur hh he hg h=>by
     rcases h with h|h
     ·omega
     ·exact a4.apart hh (by rw[he];decide) h)
    have e7:But (fun k=>k=w.heap.size∨w.heap.size+1≤k) w w6:=(b9.next a9 (fun _ _ h=>Or.inl h)).next a3 (fun k hk h=>by
     rcases h with h|h
     ·exact Or.inl h
     ·exact Or.inr (n3 k h))
    have s5:=a3.size;clear o5 o2 f8;go_wp2_with fail
    go_roundg (m'+1)
    case measure=>omega
    case rel=>exact⟨a6,e6,_,_,false,bs++ [⟨c,m,r,lo,items⟩],_,_,_,_,_,by omega,e7,n1,l5,m5,f2,hid (Or.inl ⟨rfl,by simp;omega,m',rfl,q6.out⟩)⟩
   ·have d6: ¬bs.length<6∨pk s j=59:=by
     by_cases h6:bs.length<6
     ·right
      by_cases hp:pk s j=59
      ·exact hp
      ·exact absurd ⟨h6,hp⟩ hgo
     ·exact Or.inl h6
    have h8:=hid (h0.out.fin (d6.imp id (fun h=>by simp[h])));have e1:=hid (jy w.heap.size s j a0 a2 SC.length cap0 bs.length a8 _ x0 x1 x2 x3 x4 wr hcl hs f6 d6);clear d6 hgo h0;obtain⟨TK,p6⟩: ∃TK,tkP s 59 j false=TK:=⟨_,rfl⟩;rw[p6]at h8 e1;obtain⟨j2,b2⟩:=TK;dsimp only at h8 e1;have n9:=hid (fun wz l X j3 j4 b3 b4 hbz=>e3.out wz bs l X j2 j3 j4 b2 b3 b4 hbz)
    have o1:Hid (b2=true∨b1=false):=by
     rcases h8.out with⟨_,h,_⟩ | ⟨h,_⟩
     ·exact hid (Or.inr h)
     ·exact hid (Or.inl h)
    clear p6 e3;go_wp2_with fail;refine e1.out.mono ?_;rintro en w4 ⟨a5,rfl,i5⟩;obtain⟨al,capl,lo,j4,b6,e2,m2,r8,e4⟩:=i5;clear e1;have e8:=l6.but a5 (fun g e cur _ _ hg h=>by omega);have g3:=i0.but a5 (fun g e cur _ _ hg h=>by omega);have f1:=i3.but a5 (fun g e cur _ _ hg h=>by omega);have b9:But (fun k=>k=w.heap.size∨w.heap.size+1≤k) w w4:=l0.next a5 (fun _ _ h=>Or.inl h);have q4:=a5.size;have c6:BtB w4 (w.heap.size+1) (.slice al lo.length capl) lo:=World.ownsRow.mono m2 (by omega);have f0:=e4;rw[q9.out]at f0;have o0:=hid (fun wz X j5 b5 hbz=>n9.out wz lo X j4 j5 b6 b5 hbz f0)
    have p0:b6=true∨(WfC SC∧TcV w4 (w.heap.size+1) (.slice a0 SC.length cap0) (SC.map toX)):=by
     rcases o1.out with h|h
     ·left
      rcases e4 with⟨_,h2⟩ | ⟨h2,_⟩
      ·rw[h]at h2;simp[eg]at h2
      ·exact h2
     ·obtain⟨h1,h2⟩:=i4.out h;exact Or.inr ⟨h2,by rw[←h1];exact e8⟩
    have g0:=hid (nR w.heap.size (w.heap.size+1) s j4 b6 SC a0 a1 al ms.length lo.length cap0 cap1 capl _ w4 p0 hcl n7 (by omega) hs e2 rfl f3);clear e4 f0 n9 o1 p0;go_wp2_with fail;refine g0.out.mono ?_;rintro en w5 ⟨a9,i6⟩;obtain⟨ai,capi,items,j5,a7,rfl,n0,m0,r6,g4⟩:=i6;have f8:=hid (r7 g4);have l4:=e8.but a9 (fun g e cur _ _ hg h=>by omega);have m4:=g3.but a9 (fun g e cur _ _ hg h=>by omega);have a4:=f1.but a9 (fun g e cur _ _ hg h=>by omega);have m3:=c6.but a9 (fun g hg h=>by have:=aA c6 g hg;omega);have s4:=a9.size;clear g4 g0;have f7:=hid (fF w.heap.size (w.heap.size+1) w4.heap.size s j5 a7 true _ _ _ a2 a8 bs ⟨45,0,105,lo,items⟩ al ai capl capi w5 (by omega) (by show items.length≤100;omega) hs n0 a4 m3 m0 f3 (by omega) (by omega))
    go_wp2_with fail;refine f7.out.mono ?_;rintro en w6 ⟨rfl,a3,a6,e6,s6,n1,f2⟩;clear f7
    have q8:Hid (yj s SC ms cs w6 (w.heap.size+1) (bs++ [⟨45,0,105,lo,items⟩]) (tkP s 46 j5 a7).1 (tkP s 46 j5 a7).2):=by
     have e9:=(fun(is:List Ins) (h:jY w5 w4.heap.size items is)=>(⟨h.len,fun k y x hy hx=>by
      obtain⟨z1,z2,z3,z4,z5⟩:=h.at' k y x hy hx
      exact⟨z1,z2,z3,z4,aY (World.ownsRow.mono z5 (by omega)) a3 (fun g cur hh hg h=>by
       rcases h with h|h
       ·omega
       ·exact a4.apart hh (by decide) h)⟩⟩:jY w6 (w.heap.size+1) items is))
     refine hid (o0.out w6 items _ _ ?_ ?_)
     ·rcases h8.out with⟨h1,h2,BS,h3,h4,h5⟩ |h
      ·refine Or.inl ⟨h1,h2,BS,h3,?_,h5⟩;exact((h4.but a5 (fun g cur _ hg h=>by omega)).but a9 (fun g cur _ hg h=>by omega)).but a3 (fun g cur hh hg h=>by
     rcases h with h|h
     ·omega
     ·exact a4.apart hh (by decide) h)
      ·exact Or.inr h
     ·rcases f8.out with⟨h1,is,h2,h3⟩ |h
      ·exact Or.inl ⟨h1,is,h2,e9 is h3⟩
      ·exact Or.inr h
    have n3:=a4.ge
    have l5:=l4.but a3 (fun g e cur hh he hg h=>by
     rcases h with h|h
     ·omega
     ·exact a4.apart hh (by rcases he with he|he<;>(rw[he];decide)) h)
    have m5:=m4.but a3 (fun g e cur hh he hg h=>by
     rcases h with h|h
     ·omega
     ·exact a4.apart hh (by rw[he];decide) h)
    have e7:But (fun k=>k=w.heap.size∨w.heap.size+1≤k) w w6:=(b9.next a9 (fun _ _ h=>Or.inl h)).next a3 (fun k hk h=>by
     rcases h with h|h
     ·exact Or.inl h
     ·exact Or.inr (n3 k h))
    have s5:=a3.size;clear o0 f8;go_wp2_with fail
    go_roundg 0
    case measure=>omega
    case rel=>exact⟨a6,e6,_,_,true,bs++ [⟨45,0,105,lo,items⟩],_,_,_,_,_,by omega,e7,n1,l5,m5,f2,hid (Or.inr ⟨rfl,q8.out⟩)⟩
end
end Go.Proofs.YtpfkkmacakjmbaaGreatDoor
