import Derived.Test.YtpfkkmacakjmbaaGreatDoorP18
import Derived.Test.YtpfkkmacakjmbaaGreatDoorP14
set_option maxRecDepth 100000
set_option maxHeartbeats 6400000
set_option linter.all false
namespace Go.Proofs.YtpfkkmacakjmbaaGreatDoor
open Proofs.Tryz
section
open Go Go.RowKit Sp
attribute [local go_sem ↓] dG dH
theorem sF (x:XIt) (ps:List Nat) (ty:L_) (ao:Option Addr) (ct:Nat) (w:World) (hl:ps.length<=3) (hps: ∀k∈ps,k<=100) (hP:w.ownsRow 0 3 1 (.slice x.pa x.pn x.pc) ps.length (eJ ps)) (hT:BtB w 0 (.slice ao ty.length ct) ty):
  Calls prog 147 #[itV x,.slice ao ty.length ct] w λen w'=>B_ w w'/\ ∃a' c',en= .returned (.slice a' ps.length c')/\BtB w' w.heap.size (.slice a' ps.length c') (ps.map (cB ty)):=by
 obtain⟨i0,c9,e3,e4,e6⟩:=info_parts ke;obtain⟨pl,op,cl,nu,pa,pn,pc⟩:=x
 have e2:pn=ps.length:=by
  obtain⟨a',c',h⟩:=aw hP;injection h
 subst e2;unfold itV;dsimp only at hP⊢;have b2:B_ w (w.alloc (.cells #[.int .i64 pl,.int .u8 op.toNat,.int .u8 cl.toNat,.int .i64 nu,.slice pa ps.length pc] 219)):=ag _ _ _;have a8:(w.alloc (.cells #[.int .i64 pl,.int .u8 op.toNat,.int .u8 cl.toNat,.int .i64 nu,.slice pa ps.length pc] 219)).heap[w.heap.size]?=some (.cells #[.int .i64 pl,.int .u8 op.toNat,.int .u8 cl.toNat,.int .i64 nu,.slice pa ps.length pc] 219):=aO _ _
 go_in
 go_wp2_with fail;have e7:(w.alloc (.cells #[.int .i64 pl,.int .u8 op.toNat,.int .u8 cl.toNat,.int .i64 nu,.slice pa ps.length pc] 219)).heap.size=w.heap.size+1:=by simp
 generalize (w.alloc (.cells #[.int .i64 pl,.int .u8 op.toNat,.int .u8 cl.toNat,.int .i64 nu,.slice pa ps.length pc] 219))=w1 at*;have hE:=BtB.empty w1;rw[e7]at hE;have e5:=b2.size;have b5:B_ w (w1.alloc (.cells #[] 5)):=b2.trans (ag _ _ _)
 go_loopg [5,6] ps.length (λmm vs ks wr=> ∃(a':Option Addr) (c' k:Nat) (l:L_),vs= .slice a' k c'/\ks= .int .i64 k/\k<=ps.length/\k+mm<=ps.length/\ps.length<=k+mm/\wr.ownsRow (w.heap.size+1) 5 1 (.slice a' k c') k (aP l)/\B_ w wr/\w.heap.size+1<=wr.heap.size/\wr.heap[w.heap.size]?=some (.cells #[.int .i64 pl,.int .u8 op.toNat,.int .u8 cl.toNat,.int .i64 nu,.slice pa ps.length pc] 219)/\Hid (l=(ps.take k).map (cB ty)))
 case atStart=>exact⟨_,0,0,[],rfl,rfl,by omega,by omega,by omega,hE,b5,by simp;omega,((ag (λ_=>False) w1 _).block _ (ae a8) (λh=>h)).trans a8,rfl⟩
 case round=>
  obtain⟨a',c',k,l,rfl,rfl,f1,f2,f3,a5,a3,f5,b0,HL⟩:=hrel;have q4:=ce4 b0;have b9:=ae b0
  by_cases hlt:k<ps.length
  .have e0:(k:Int)<(ps.length:Int):=by omega
   obtain⟨g,rfl,e9,f0,a0⟩:=aF (aj hP a3 (λ_ _ h=>h)) (by omega);obtain⟨v,hv⟩: ∃v,ps[k]=v:=⟨_,rfl⟩;have qk:=a0 _ _ (oU (aH hlt));rw[hv]at qk;have b1:=hid (dZ ao ct ty v wr (BtB.but hT a3 (λ_ _ h=>h)))
   have HN:Hid (l++ [cB ty v]=(ps.take (k+1)).map (cB ty)):=by
    show _=_
    rw[HL.out,List.take_add_one,aH hlt,hv];simp
   clear a0 hv;generalize cB ty v=z at*;go_wp2_with fail;refine b1.out.mono ?_;rintro en wx ⟨rfl,b4⟩;rw[b4];clear b4 wx b1;have b3:=ay a5;go_wp2_with (at_builtin;refine wpList_append_lies _ rfl _ _ _ rfl (w.heap.size+1) 5 i0 _ 1 1 (by kernel_rfl) c9 e3 e4 e6 rfl (by omega) _ k (aP l) rfl (a5.alloc _) ⟨wr.heap.size,0,none⟩ 1 1 [.int .u8 z.toNat] rfl rfl (fX (cs:=#[.int .u8 z.toNat]) (t:=5) (fr:=(0,0)) (aO wr _)) (by simp[Value.oneCell']) (by omega) (by unfold maxLen;omega) (by omega) (by simp;omega) (wr.heap.size+1) (by simp) ?_);intro gg cap3 w5 a2 a1 e8 e1;have a6:But (λk'=>(Value.slice a' k c').ownBlock=some k') wr w5:=(ag _ _ _).trans (bc a1)
   have a4:B_ w w5:=a3.next a6 (λk' hk' h=>absurd (b3 k' h) (by omega));have c7:=ae a8;have b6:=(a6.block _ b9 (λh=>absurd (b3 _ h) (by omega))).trans b0;have f4:=a6.size;clear q4 qk;go_wp2_with fail
   go_roundg (ps.length-(k+1))
   case measure=>omega
   case rel=>exact⟨some ⟨gg,0,none⟩,cap3,k+1,l++ [z],by simp,by simp,by omega,by omega,by omega,by rw[show aP (l++ [z])=aP l++ [.int .u8 z.toNat]from by simp[aP]];exact a2,a4,by omega,b6,HN⟩
  .have e0: ¬(k:Int)<(ps.length:Int):=by omega
   have d6:k=ps.length:=by omega
   subst d6
   have a7:BtB wr w.heap.size (.slice a' ps.length c') (ps.map (cB ty)):=by
    have h1:=HL.out;rw[List.take_length]at h1;unfold BtB;rw[<-h1,show l.length=ps.length from by rw[h1];simp];exact dn a5 (by omega)
   go_wp2_with fail;exact du (.slice a' ps.length c') results147 rfl rfl ⟨a3,a',c',rfl,a7⟩
def cR (cs:List bV) (ms:List Sig) (lo:L_) (c k:UInt8) (n:Nat):L_:=
 if c.toNat=105\/c.toNat=111 then [105]else if c.toNat=115 then [cB lo n]else aE cs ms c k n 45
def el (cs:List bV) (ms:List Sig) (lo:L_) (c k:UInt8) (n:Nat) (ps:L_):UInt8:=
 if c.toNat=115\/c.toNat=112\/c.toNat=119\/c.toNat=111 then 105 else if c.toNat=44 then cB ps 1 else if c.toNat=105 then hU cs (cB ps 1) (cB ps 2)else aM cs ms c k n lo
section
variable (b:Nat) (cs:List bV) (ms:List Sig) (c0:UInt8) (m0:Nat) (r0:UInt8) (al ai:Option Addr) (capl ni capi:Nat) (lo:L_) (x:XIt) (w:World)
theorem yP (hn:cs.length<=100) (hm:ms.length<=100) (hT:TxC w b cs) (hM:TxM w b ms) (hB:BtB w 0 (.slice al lo.length capl) lo):
  Calls prog 203 #[.pointer (some ⟨b,0,none⟩),hdV c0 m0 r0 (.slice al lo.length capl) (.slice ai ni capi),itV x] w λen w'=>B_ w w'/\ ∃v,en= .returned v/\BtB w' w.heap.size v (cR cs ms lo x.op x.cls x.num):=by
 obtain⟨pl,op,cl,nu,pa,pn,pc⟩:=x;unfold itV hdV;dsimp only;have a0:B_ w ((w.alloc (.cells #[.int .u8 c0.toNat,.int .i64 m0,.int .u8 r0.toNat,.slice al lo.length capl,.slice ai ni capi] 115)).alloc (.cells #[.int .i64 pl,.int .u8 op.toNat,.int .u8 cl.toNat,.int .i64 nu,.slice pa pn pc] 219)):=(ag _ _ _).trans (ag _ _ _)
 by_cases h1:op.toNat=105\/op.toNat=111
 .rw[show cR cs ms lo op cl nu=[105]from by simp[cR,h1]];have a5:=a0.size;have a1:=λW h=>BtB.lit W w.heap.size h [105] (by simp)
  obtain h|h:=h1
  .try (have a2:((op.toNat:Int)==105)=false:=by rw[eA];omega)
   have a2:((op.toNat:Int)==105)=true:=by rw[beq_iff_eq];omega
   clear h
   go_in
   go_wp2_with fail;refine du (.slice (some ⟨w.heap.size+2,0,none⟩) 1 1) results203 rfl rfl ⟨a0.trans (ag _ _ _),_,rfl,?_⟩;have h9:=a1 ((w.alloc (.cells #[.int .u8 c0.toNat,.int .i64 m0,.int .u8 r0.toNat,.slice al lo.length capl,.slice ai ni capi] 115)).alloc (.cells #[.int .i64 pl,.int .u8 op.toNat,.int .u8 cl.toNat,.int .i64 nu,.slice pa pn pc] 219)) (by omega);simpa[aP]using h9
  .try (have a2:((op.toNat:Int)==105)=false:=by rw[eA];omega)
   have a3:((op.toNat:Int)==111)=true:=by rw[beq_iff_eq];omega
   clear h
   go_in
   go_wp2_with fail;refine du (.slice (some ⟨w.heap.size+2,0,none⟩) 1 1) results203 rfl rfl ⟨a0.trans (ag _ _ _),_,rfl,?_⟩;have h9:=a1 ((w.alloc (.cells #[.int .u8 c0.toNat,.int .i64 m0,.int .u8 r0.toNat,.slice al lo.length capl,.slice ai ni capi] 115)).alloc (.cells #[.int .i64 pl,.int .u8 op.toNat,.int .u8 cl.toNat,.int .i64 nu,.slice pa pn pc] 219)) (by omega);simpa[aP]using h9
 .have a2:=tf op.toNat 105 (by omega);have a3:=tf op.toNat 111 (by omega)
  by_cases h2:op.toNat=115
  .rw[show cR cs ms lo op cl nu=[cB lo nu]from by simp[cR,h2]];have a4:((op.toNat:Int)==115)=true:=by rw[beq_iff_eq];omega
   have a6:=dZ al capl lo nu ((w.alloc (.cells #[.int .u8 c0.toNat,.int .i64 m0,.int .u8 r0.toNat,.slice al lo.length capl,.slice ai ni capi] 115)).alloc (.cells #[.int .i64 pl,.int .u8 op.toNat,.int .u8 cl.toNat,.int .i64 nu,.slice pa pn pc] 219)) (BtB.but hB a0 (λ_ _ h=>h));have a8:=hid a6;have a5:=a0.size;have a1:=λW h=>BtB.lit W w.heap.size h [cB lo nu] (by simp)
   clear h1 h2 a6;generalize cB lo nu=z at*
   go_in
   go_wp2_with fail;refine a8.out.mono ?_;rintro en wx ⟨rfl,a7⟩;rw[a7];clear a7 wx;go_wp2_with fail;refine du (.slice (some ⟨w.heap.size+2,0,none⟩) 1 1) results203 rfl rfl ⟨a0.trans (ag _ _ _),_,rfl,?_⟩;have h9:=a1 ((w.alloc (.cells #[.int .u8 c0.toNat,.int .i64 m0,.int .u8 r0.toNat,.slice al lo.length capl,.slice ai ni capi] 115)).alloc (.cells #[.int .i64 pl,.int .u8 op.toNat,.int .u8 cl.toNat,.int .i64 nu,.slice pa pn pc] 219)) (by omega);simpa[aP]using h9
  .rw[show cR cs ms lo op cl nu=aE cs ms op cl nu 45 from by simp[cR,h1,h2]];have a4:=tf op.toNat 115 (by omega);have b0:=hid (mo b cs ms pl nu op cl 45 ((w.alloc (.cells #[.int .u8 c0.toNat,.int .i64 m0,.int .u8 r0.toNat,.slice al lo.length capl,.slice ai ni capi] 115)).alloc (.cells #[.int .i64 pl,.int .u8 op.toNat,.int .u8 cl.toNat,.int .i64 nu,.slice pa pn pc] 219)) (ap:=pa) (np:=pn) (cp:=pc) hn hm (hT.but a0) (hM.but a0));have a5:=a0.size;clear h1 h2
   go_in
   go_wp2_with fail;refine b0.out.mono ?_;rintro en w5 ⟨b1,v,rfl,hv⟩;go_wp2_with fail;exact du (v) results203 rfl rfl ⟨a0.trans b1,v,rfl,dn hv a5⟩
theorem uy (ap:Option Addr) (cp:Nat) (ps:L_) (hn:cs.length<=100) (hm:ms.length<=100) (hT:TxC w b cs) (hM:TxM w b ms) (hB:BtB w 0 (.slice al lo.length capl) lo) (hP:BtB w 0 (.slice ap ps.length cp) ps):
  Calls prog 149 #[.pointer (some ⟨b,0,none⟩),hdV c0 m0 r0 (.slice al lo.length capl) (.slice ai ni capi),itV x,.slice ap ps.length cp] w λen w'=>B_ w w'/\en= .returned (.int .u8 (el cs ms lo x.op x.cls x.num ps).toNat):=by
 obtain⟨pl,op,cl,nu,pa,pn,pc⟩:=x;unfold itV hdV;dsimp only;have a0:B_ w ((w.alloc (.cells #[.int .u8 c0.toNat,.int .i64 m0,.int .u8 r0.toNat,.slice al lo.length capl,.slice ai ni capi] 115)).alloc (.cells #[.int .i64 pl,.int .u8 op.toNat,.int .u8 cl.toNat,.int .i64 nu,.slice pa pn pc] 219)):=(ag _ _ _).trans (ag _ _ _);have a5:=BtB.but hP a0 (λ_ _ h=>h)
 by_cases h1:op.toNat=115\/op.toNat=112\/op.toNat=119\/op.toNat=111
 .rw[show el cs ms lo op cl nu ps=105 from by simp[el,h1]];obtain h|h|h|h:=h1
  .try (have a2:((op.toNat:Int)==115)=false:=by rw[eA];omega)
   try (have a1:((op.toNat:Int)==112)=false:=by rw[eA];omega)
   try (have a3:((op.toNat:Int)==119)=false:=by rw[eA];omega)
   have a2:((op.toNat:Int)==115)=true:=by rw[beq_iff_eq];omega
   clear h
   go_in
   go_wp2_with fail;go_ret;exact⟨a0,rfl⟩
  .try (have a2:((op.toNat:Int)==115)=false:=by rw[eA];omega)
   try (have a1:((op.toNat:Int)==112)=false:=by rw[eA];omega)
   try (have a3:((op.toNat:Int)==119)=false:=by rw[eA];omega)
   have a1:((op.toNat:Int)==112)=true:=by rw[beq_iff_eq];omega
   clear h
   go_in
   go_wp2_with fail;go_ret;exact⟨a0,rfl⟩
  .try (have a2:((op.toNat:Int)==115)=false:=by rw[eA];omega)
   try (have a1:((op.toNat:Int)==112)=false:=by rw[eA];omega)
   try (have a3:((op.toNat:Int)==119)=false:=by rw[eA];omega)
   have a3:((op.toNat:Int)==119)=true:=by rw[beq_iff_eq];omega
   clear h
   go_in
   go_wp2_with fail;go_ret;exact⟨a0,rfl⟩
  .try (have a2:((op.toNat:Int)==115)=false:=by rw[eA];omega)
   try (have a1:((op.toNat:Int)==112)=false:=by rw[eA];omega)
   try (have a3:((op.toNat:Int)==119)=false:=by rw[eA];omega)
   have a7:((op.toNat:Int)==111)=true:=by rw[beq_iff_eq];omega
   clear h
   go_in
   go_wp2_with fail;go_ret;exact⟨a0,rfl⟩
 .have a2:=tf op.toNat 115 (by omega);have a1:=tf op.toNat 112 (by omega);have a3:=tf op.toNat 119 (by omega);have a7:=tf op.toNat 111 (by omega);have b6:=hid a5
  by_cases h2:op.toNat=44
  .rw[show el cs ms lo op cl nu ps=cB ps 1 from by simp[el,h2]];have b4:((op.toNat:Int)==44)=true:=by rw[beq_iff_eq];omega
   have b3:=hid (dZ ap cp ps 1 _ a5);clear h1 h2
   go_in
   go_wp2_with fail;refine b3.out.mono ?_;rintro en wx ⟨rfl,a4⟩;rw[a4];clear a4 wx;go_wp2_with fail;go_ret;exact⟨a0,rfl⟩
  .have b4:=tf op.toNat 44 (by omega)
   by_cases h3:op.toNat=105
   .rw[show el cs ms lo op cl nu ps=hU cs (cB ps 1) (cB ps 2)from by simp[el,h3]];have a6:((op.toNat:Int)==105)=true:=by rw[beq_iff_eq];omega
    have b1:=hid (dZ ap cp ps 1 _ a5);have b2:=hid (dZ ap cp ps 2 _ a5);have b0:=hid (mR b cs (cB ps 1) (cB ps 2) _ hn (hT.but a0));clear h1 h2 h3
    go_in
    go_wp2_with fail;refine b1.out.mono ?_;rintro en wx ⟨rfl,a4⟩;rw[a4];clear a4 wx;go_wp2_with fail;refine b2.out.mono ?_;rintro en wx ⟨rfl,a4⟩;rw[a4];clear a4 wx;go_wp2_with fail;refine b0.out.mono ?_;rintro en wx ⟨rfl,a4⟩;rw[a4];clear a4 wx;go_wp2_with fail;go_ret;exact⟨a0,rfl⟩
   .have a6:=tf op.toNat 105 (by omega);rw[show el cs ms lo op cl nu ps=aM cs ms op cl nu lo from by simp[el,h1,h2,h3]];have a8:=hid (lG b cs ms pl nu op cl al capl lo _ (ap:=pa) (np:=pn) (cp:=pc) hn hm (hT.but a0) (hM.but a0) (BtB.but hB a0 (λ_ _ h=>h)));clear h1 h2 h3
    go_in
    go_wp2_with fail;refine a8.out.mono ?_;rintro en w5 ⟨rfl,b5⟩;go_wp2_with fail;go_ret;exact⟨a0.trans b5,rfl⟩
def kL (cs:List bV) (ak ps:L_):Bool:=(List.range ak.length).all λi=>cJ cs (cB ps i) (ak.getD i 0)
theorem Ci {cs:List bV} {ak ps:L_} {i:Nat} (hi:i<ak.length) (h:cJ cs (cB ps i) (ak.getD i 0)=false):kL cs ak ps=false:=by
 unfold kL;rw[List.all_eq_false];exact⟨i,List.mem_range.2 hi,by rw[h];simp⟩
theorem AZ {cs:List bV} {ak ps:L_} (h: ∀i,i<ak.length->cJ cs (cB ps i) (ak.getD i 0)=true):kL cs ak ps=true:=by
 unfold kL;rw[List.all_eq_true];exact λi hi=>h i (List.mem_range.1 hi)
theorem sG (ap:Option Addr) (cp:Nat) (ps:L_) (hn:cs.length<=100) (hm:ms.length<=100) (hT:TxC w b cs) (hM:TxM w b ms) (hB:BtB w 0 (.slice al lo.length capl) lo) (hP:BtB w 0 (.slice ap ps.length cp) ps) (hak:(cR cs ms lo x.op x.cls x.num).length<=100):
  Calls prog 148 #[.pointer (some ⟨b,0,none⟩),hdV c0 m0 r0 (.slice al lo.length capl) (.slice ai ni capi),itV x,.slice ap ps.length cp] w λen w'=>B_ w w'/\en= .returned (.bool (kL cs (cR cs ms lo x.op x.cls x.num) ps)):=by
 have a4:B_ w ((w.alloc (.cells #[.int .u8 c0.toNat,.int .i64 m0,.int .u8 r0.toNat,.slice al lo.length capl,.slice ai ni capi] 115)).alloc (.cells #[.int .i64 x.place,.int .u8 x.op.toNat,.int .u8 x.cls.toNat,.int .i64 x.num,.slice x.pa x.pn x.pc] 219)):=(ag _ _ _).trans (ag _ _ _);have b0:=hid (yP b cs ms c0 m0 r0 al ai capl ni capi lo x ((w.alloc (.cells #[.int .u8 c0.toNat,.int .i64 m0,.int .u8 r0.toNat,.slice al lo.length capl,.slice ai ni capi] 115)).alloc (.cells #[.int .i64 x.place,.int .u8 x.op.toNat,.int .u8 x.cls.toNat,.int .i64 x.num,.slice x.pa x.pn x.pc] 219)) hn hm (hT.but a4) (hM.but a4) (BtB.but hB a4 (λ_ _ h=>h)))
 obtain⟨A,hA⟩: ∃A,cR cs ms lo x.op x.cls x.num=A:=⟨_,rfl⟩;rw[hA]at b0 hak⊢;clear hA;obtain⟨R,b3⟩: ∃R,kL cs A ps=R:=⟨_,rfl⟩;rw[b3];have b4:=hid b3;clear b3;unfold itV hdV at*
 go_in
 go_wp2_with fail;refine b0.out.mono ?_;rintro en w1 ⟨a3,v,rfl,hv⟩;obtain⟨av,cv,rfl⟩:=aw hv;have b5:=a4.trans a3;clear b0 a3 a4;go_wp2_with fail
 go_loopg [10] A.length (λmm ks wr=> ∃(k:Nat),ks= .int .i64 k/\k<=A.length/\k+mm<=A.length/\A.length<=k+mm/\B_ w1 wr/\Hid (∀i,i<k->cJ cs (cB ps i) (A.getD i 0)=true))
 case atStart=>exact⟨0,rfl,by omega,by omega,by omega,But.refl _ _,λi h=>absurd h (by omega)⟩
 case round=>
  obtain⟨k,rfl,e0,e1,e2,b1,HA⟩:=hrel;have b2:=b5.trans b1
  by_cases hlt:k<A.length
  .have c7:(k:Int)<(A.length:Int):=by omega
   have c9:=BtB.but hv b1 (λ_ _ h=>h);obtain⟨g,rfl,b9,d6,a0⟩:=aF c9 (by omega);have qk:=a0 _ _ (dP hlt);have a7:=hid (dZ ap cp ps k wr.drew (BtB.but hP (b2.trans (aD _ _)) (λ_ _ h=>h)));have a6:=hid (pz b cs (cB ps k) (A.getD k 0) wr.drew hn (hT.but (b2.trans (aD _ _))))
   have HX:Hid ((cJ cs (cB ps k) (A.getD k 0)=false->R=false)/\(cJ cs (cB ps k) (A.getD k 0)=true-> ∀i,i<k+1->cJ cs (cB ps i) (A.getD i 0)=true)):=by
    refine hid ⟨λh=>by rw[<-b4.out];exact Ci hlt h,λh i hi=> ?_⟩;obtain h'|h':=Nat.lt_or_ge i k
    .exact HA.out i h'
    .have:i=k:=by omega
     subst this;exact h
   clear a0;revert a6 HX qk a7;generalize cB ps k=P;generalize A.getD k 0=Q;intro qk a7 a6 HX;go_wp2_with fail;have a2:B_ wr wr.drew:=aD _ _;refine dv (B_ wr) 10 ?_;refine dg [0,1,2,4,5,6,7] ?_
   iterate 7 (refine dw (v:=?_) rfl a2 ?_ ?_;rotate_left;(focus (intro wS h;have q0:=(h.kc qk b9);clear h;go_simp;try rfl));dsimp only[Act.put];try simp only[cH])
   refine aG (k:=3) rfl ?_;intro KS hKS;go_simp;refine a7.out.mono ?_;rintro en wx ⟨rfl,a5⟩;rw[a5];clear a5 wx;refine hKS.out _ _ (λ_=>a2) ?_;clear hKS KS;refine aG (k:=8) rfl ?_;intro KS hKS;go_simp;refine a6.out.mono ?_;rintro en wx ⟨rfl,a5⟩;rw[a5];clear a5 wx;refine hKS.out _ _ (λ_=>a2) ?_;clear hKS KS;refine aG (k:=9) rfl ?_;intro KS hKS;go_simp;refine hKS.out _ _ (λ_=>a2) ?_;clear hKS KS;refine dl rfl ?_;have b6:=b1.trans a2;have a8:=HX.out;clear HX a7 a6 qk a2;generalize wr.drew=wd at*
   cases hq:cJ cs P Q with
   |false=>
    have a1:R=false:=a8.1 hq;subst a1;clear a8 hq;go_wp2_with fail;go_ret;exact⟨b5.trans b6,rfl⟩
   |true=>
    have HY:=hid (a8.2 hq);clear a8 hq;go_wp2_with fail
    go_roundg (A.length-(k+1))
    case measure=>omega
    case rel=>exact⟨k+1,by simp,by omega,by omega,by omega,b6,HY⟩
  .have c7: ¬(k:Int)<(A.length:Int):=by omega
   have a1:R=true:=by rw[<-b4.out];exact AZ (λi hi=>HA.out i (by omega))
   subst a1;go_wp2_with fail;go_ret;exact⟨b2,rfl⟩
end
end
section
open Go Go.RowKit Sp
def iY (s:ByteArray) (cs:List Cls) (ns nl i:Nat) (bad:Bool):Except Nat (List Ins×Nat):=if bad=true then .error i else oe s cs ns nl i
theorem uz {s:ByteArray} {cs:List Cls} {ns nl i:Nat} {bad:Bool} {j:Nat} {bad':Bool} {Q:List Ins->Prop} (h:(bad'=false/\ ∃is,mq s cs ns nl i bad= .ok (is,j)/\Q is)\/(bad'=true/\mq s cs ns nl i bad= .error j)):
  ((tkP s 46 j bad').2=false/\ ∃is,iY s cs ns nl i bad= .ok (is,(tkP s 46 j bad').1)/\Q is)\/((tkP s 46 j bad').2=true/\iY s cs ns nl i bad= .error (tkP s 46 j bad').1):=by
 unfold mq at h;unfold iY
 cases bad with
 |true=>
  simp only[if_true]at h⊢;obtain⟨_,is,h,_⟩ | ⟨rfl,h⟩:=h
  .cases h
  .cases h
   rw[fi (Or.inl rfl)];exact Or.inr ⟨rfl,rfl⟩
 |false=>
  simp only[dj,if_false]at h⊢;unfold oe;obtain⟨rfl,is,h,hq⟩ | ⟨rfl,h⟩:=h
  .rw[h];simp only
   by_cases hp:pk s j=46
   .rw[mj hp,if_pos (by rw[hp];rfl)];exact Or.inl ⟨rfl,is,rfl,hq⟩
   .rw[fi (Or.inr hp),if_neg (λh=>hp ((u8n (by decide)).1 h))];exact Or.inr ⟨rfl,rfl⟩
  .rw[h,fi (Or.inl rfl)];exact Or.inr ⟨rfl,rfl⟩
structure BdN (w:World) (base:Nat) (gs:List Sig) (X:bM) (b:Bod):Prop where
 cls:X.cls=(bu gs b).cls
 meth:X.meth=(bu gs b).meth
 ans:X.ans=(bu gs b).ans
 loc:X.locals=b.locals
 its:lN w base X.items b.code
def jc (w:World) (base:Nat) (gs:List Sig) (bs:List bM) (BS:List Bod):Prop:=bs.length=BS.length/\ ∀(k:Nat) X b,bs[k]?=some X->BS[k]?=some b->BdN w base gs X b
theorem jc.nil (w:World) (base:Nat) (gs:List Sig):jc w base gs [] []:=⟨rfl,λk X b h=>by simp at h⟩
theorem jc.snoc {w:World} {base:Nat} {gs:List Sig} {bs:List bM} {BS:List Bod} {X:bM} {b:Bod} (h:jc w base gs bs BS) (hx:BdN w base gs X b):jc w base gs (bs++ [X]) (BS++ [b]):=by
 refine⟨by simp[h.1],λk Y c hY hc=> ?_⟩;obtain hk|hk:=Nat.lt_or_ge k bs.length
 .rw[fN hk]at hY;rw[fN (by rw[<-h.1];exact hk)]at hc;exact h.2 k Y c hY hc
 .rw[List.getElem?_append_right hk]at hY;rw[List.getElem?_append_right (by rw[<-h.1];exact hk),<-h.1]at hc
  cases hd:k-bs.length with
  |zero=>rw[hd]at hY hc;simp at hY hc;subst hY hc;exact hx
  |succ d=>rw[hd]at hY;simp at hY
theorem jc.heads {w:World} {base:Nat} {gs:List Sig} {bs:List bM} {BS:List Bod} (h:jc w base gs bs BS):bs.map kK=(BS.map (bu gs)).map kK:=by
 apply List.ext_getElem?
 intro k;simp only[cg];obtain hk|hk:=Nat.lt_or_ge k bs.length
 .have a0:k<BS.length:=by rw[<-h.1];exact hk
  have h1:=h.2 k _ _ (aH hk) (aH a0);rw[aH hk,aH a0];simp[kK,h1.cls,h1.meth]
 .rw[List.getElem?_eq_none hk,List.getElem?_eq_none (by rw[<-h.1];exact hk)]
  rfl
theorem jc.but {F:Nat->Prop} {w w':World} {base:Nat} {gs:List Sig} {bs:List bM} {BS:List Bod} (h:jc w base gs bs BS) (hb:But F w w') (hf: ∀g cur,w.heap[g]?=some (.cells cur 3)->base<=g-> ¬F g):jc w' base gs bs BS:=
 ⟨h.1,λk X b hX hB=>by
  have h1:=h.2 k X b hX hB
  exact⟨h1.cls,h1.meth,h1.ans,h1.loc,h1.its.len,λq y x hy hx=>by
   obtain⟨e1,e2,e3,e4,e5⟩:=h1.its.at' q y x hy hx;exact⟨e1,e2,e3,e4,bj e5 hb hf⟩⟩⟩
theorem jc.mono {w:World} {base base':Nat} {gs:List Sig} {bs:List bM} {BS:List Bod} (h:jc w base gs bs BS) (hb:base'<=base):jc w base' gs bs BS:=
 ⟨h.1,λk X b hX hB=>by
  have h1:=h.2 k X b hX hB;exact⟨h1.cls,h1.meth,h1.ans,h1.loc,h1.its.mono hb⟩⟩
def wm (Gd:Prop) (s:ByteArray) (cs:List Cls) (gs:List Sig) (R:Except Nat (List Bod×Nat)) (w:World) (base mm:Nat) (bs:List bM) (j:Nat) (bad:Bool):Prop:=
 (bad=false/\Gd/\ ∃BS,jc w base gs bs BS/\(∀b∈BS,gF b)/\BS.length+mm=6/\lL s cs gs mm BS j=R)\/(bad=true/\R= .error j)
section
variable {Gd:Prop} {s:ByteArray} {cs:List Cls} {gs:List Sig} {R:Except Nat (List Bod×Nat)} {w:World} {base:Nat}
theorem yQ {k:Nat} {BS:List Bod} {i:Nat} (h:(pk s i).toNat≠59):lL s cs gs (k+1) BS i=match gj s cs.length gs BS i with
  | .error j=> .error j
  | .ok ((x,m,t),p)=>
   match oe s cs gs.length (t.length+2) p with
   | .error q=> .error q
   | .ok (is,q)=>lL s cs gs k (BS++ [⟨x,m,UInt8.ofNat (65+x)::jD gs m::t,is⟩]) q:=by
 unfold gj;rw[lL,if_neg h]
 cases eX s cs.length i with
 |error j=>rfl
 |ok y=>
  obtain⟨x,j⟩:=y;simp only
  cases ej s gs.length j with
  |error l=>rfl
  |ok z=>
   obtain⟨m,l⟩:=z;simp only
   split
   .rfl
   .cases tys s cs.length 58 3 [] l with
    |error p=>rfl
    |ok t=>
     obtain⟨t,p⟩:=t;simp only
     cases oe s cs gs.length (t.length+2) p<;>rfl
theorem wm.fin {mm:Nat} {bs:List bM} {j:Nat} {bad:Bool} (h:wm Gd s cs gs R w base mm bs j bad) (hx: ¬bs.length<6\/(!bad&& !decide (pk s j=59))=false):
  ((tkP s 59 j bad).2=false/\Gd/\ ∃BS,R= .ok (BS,(tkP s 59 j bad).1)/\jc w base gs bs BS/\ ∀b∈BS,gF b)\/((tkP s 59 j bad).2=true/\R= .error (tkP s 59 j bad).1):=by
 obtain⟨rfl,hG,BS,h1,h2,h3,h4⟩ | ⟨rfl,h2⟩:=h
 .by_cases hp:pk s j=59
  .left
   rw[mj hp];refine⟨rfl,hG,BS,?_,h1,h2⟩;rw[<-h4]
   cases mm<;>simp[lL,hp]
  .right
   rw[fi (Or.inr hp)];refine⟨rfl,?_⟩
   have hm:mm=0:=by
    obtain h|h:=hx
    .rw[h1.1]at h;omega
    .simp[hp]at h
   subst hm;rw[<-h4];have:(pk s j).toNat≠59:=λh=>hp ((u8n (by decide)).1 h)
   simp[lL,this]
 .right
  rw[fi (Or.inl rfl)];exact⟨rfl,h2⟩
theorem wm.next {mm:Nat} {bs:List bM} {j:Nat} (h:wm Gd s cs gs R w base mm bs j false) (hnc:cs.length<=4) (hl:bs.length<6) (hp:pk s j≠59):
  Gd/\ ∃BS,jc w base gs bs BS/\(∀b∈BS,gF b)/\BS.length<=6/\ ∀c m r l j1 a0,((a0=false/\ ∃x t,gj s cs.length gs BS j= .ok ((x,m,t),j1)/\c=UInt8.ofNat (65+x)/\x<cs.length/\m<gs.length/\r=(dx gs m).ret/\l=c::(dx gs m).arg::t)\/(a0=true/\gj s cs.length gs BS j= .error j1))->
   ∀its w' j2 a1,jc w' base gs bs BS->((a1=false/\ ∃is,iY s cs gs.length l.length j1 a0= .ok (is,j2)/\lN w' base its is)\/(a1=true/\iY s cs gs.length l.length j1 a0= .error j2))->
   ∃m',m'<mm/\wm Gd s cs gs R w' base m' (bs++ [⟨c,m,r,l,its⟩]) j2 a1:=by
 obtain⟨_,hG,BS,h1,h2,h3,h4⟩ | ⟨h,_⟩:=h
 .have a5:BS.length<6:=by rw[h1.1]at hl;exact hl
  refine⟨hG,BS,h1,h2,by omega,?_⟩;intro c m r l j1 a0 hh its w' j2 a1 a4 hc;obtain⟨f,rfl⟩: ∃f,mm=f+1:=⟨mm-1,by omega⟩;have a3:(pk s j).toNat≠59:=λh=>hp ((u8n (by decide)).1 h)
  rw[yQ a3]at h4;obtain⟨rfl,x,t,e1,e2,e3,e4,e5,e6⟩ | ⟨rfl,e1⟩:=hh
  .rw[e1]at h4;simp only at h4;unfold iY at hc;simp only[dj,if_false]at hc;rw[show l.length=t.length+2 from by rw[e6];rfl]at hc;obtain⟨rfl,is,c1,c2⟩ | ⟨rfl,c1⟩:=hc
   .rw[c1]at h4;have a2: ¬((x:Int)<0):=by omega
    refine⟨f,by omega,Or.inl ⟨rfl,hG,BS++ [⟨x,m,UInt8.ofNat (65+x)::jD gs m::t,is⟩],a4.snoc ⟨?_,?_,?_,?_,c2⟩,?_,by simp;omega,h4⟩⟩
    .simp[bu,a2,e2]
    .simp[bu]
    .simp[bu,a2,e5]
    .simp[e6,e2,ra e4]
    .intro b hb;obtain hb|hb:=List.mem_append.1 hb
     .exact h2 b hb
     .simp at hb;subst hb;exact⟨by simp,by simp;omega,by simp⟩
   .rw[c1]at h4;exact⟨0,by omega,Or.inr ⟨rfl,h4.symm⟩⟩
  .rw[e1]at h4;simp only at h4;unfold iY at hc;simp only[if_true]at hc;obtain⟨_,is,c1,_⟩ | ⟨rfl,c1⟩:=hc
   .cases c1
   .cases c1
    exact⟨0,by omega,Or.inr ⟨rfl,h4.symm⟩⟩
 .cases h
end
structure ii (w:World) (b:Nat) (im:Img):Prop where
 cls:TxC w b (im.zz.map toX)
 met:TxM w b im.zj
 bod: ∃bs,TxB w b bs/\jc w 0 im.zj bs im.zq
theorem yR {s:ByteArray} {SC:List Cls} {n:Nat} {ms:List Sig} {cs:List bV} {bs:List bM} {l:L_} {its:List XIt} {w:World} {base:Nat} {j0 j1 j2 j3 j4:Nat} {b0 b1 b2 b3 b4:Bool} {R:Except Nat (List Bod×Nat)}
  (hcls:(b0=false/\ ∃SC',ep s 4 [] 0= .ok (SC',j0)/\SC'=SC/\cs=SC.map toX/\WfC SC)\/(b0=true/\ep s 4 [] 0= .error j0)) (hn:SC.length=n)
  (hsig:(b1=false/\mU s n j0 b0= .ok (ms,j1))\/(b1=true/\mU s n j0 b0= .error j1))
  (hR:(if b1=true then .error j1 else lL s SC ms 6 [] j1)=R)
  (hbod:(b2=false/\(b1=false)/\ ∃BS,R= .ok (BS,j2)/\jc w base ms bs BS/\ ∀b∈BS,gF b)\/(b2=true/\R= .error j2))
  (hmain:(b3=false/\fw s n 58 3 j2 b2= .ok (l,j3))\/(b3=true/\fw s n 58 3 j2 b2= .error j3))
  (hcode:(b4=false/\ ∃is,iY s SC ms.length l.length j3 b3= .ok (is,j4)/\lN w base its is)\/(b4=true/\iY s SC ms.length l.length j3 b3= .error j4)):
  ((b4||decide (j4<s.size))=true/\jf s= .error j4)\/((b4||decide (j4<s.size))=false/\ ∃im,jf s= .ok im/\im.zz=SC/\cs=SC.map toX/\im.zj=ms/\jc w base ms (bs++ [⟨45,0,105,l,its⟩]) im.zq):=by
 unfold jf;obtain⟨rfl,SC',hc,rfl,a3,a4⟩ | ⟨rfl,hc⟩:=hcls
 .rw[hc];simp only;unfold mU at hsig;simp only[dj,if_false]at hsig;rw[hn];obtain⟨rfl,a1⟩ | ⟨rfl,a1⟩:=hsig
  .rw[a1];simp only;simp only[dj,if_false]at hR;rw[hR];obtain⟨rfl,_,BS,hb,a2,_⟩ | ⟨rfl,hb⟩:=hbod
   .rw[hb];simp only;unfold fw at hmain;simp only[dj,if_false]at hmain;obtain⟨rfl,hm⟩ | ⟨rfl,hm⟩:=hmain
    .rw[hm];simp only;unfold iY at hcode;simp only[dj,if_false]at hcode;obtain⟨rfl,is,a0,hX⟩ | ⟨rfl,a0⟩:=hcode
     .rw[a0];simp only
      by_cases hlt:j4<s.size
      .left
       rw[if_pos hlt];exact⟨by simp[hlt],rfl⟩
      .right
       rw[if_neg hlt];refine⟨by simp[hlt],_,rfl,rfl,a3,rfl,?_⟩;exact a2.snoc ⟨by simp[bu],by simp[bu],by simp[bu],rfl,hX⟩
     .rw[a0];exact Or.inl ⟨rfl,rfl⟩
    .rw[hm];unfold iY at hcode;simp only[if_true]at hcode;obtain⟨_,is,a0,_⟩ | ⟨rfl,a0⟩:=hcode
     .cases a0
     .cases a0
      exact Or.inl ⟨rfl,rfl⟩
   .rw[hb];unfold fw at hmain;simp only[if_true]at hmain;obtain⟨_,hm⟩ | ⟨rfl,hm⟩:=hmain
    .cases hm
    .cases hm
     unfold iY at hcode;simp only[if_true]at hcode;obtain⟨_,is,a0,_⟩ | ⟨rfl,a0⟩:=hcode
     .cases a0
     .cases a0
      exact Or.inl ⟨rfl,rfl⟩
  .rw[a1];simp only[if_true]at hR;subst hR;obtain⟨_,h,_⟩ | ⟨rfl,hb⟩:=hbod
   .cases h
   .cases hb
    unfold fw at hmain;simp only[if_true]at hmain;obtain⟨_,hm⟩ | ⟨rfl,hm⟩:=hmain
    .cases hm
    .cases hm
     unfold iY at hcode;simp only[if_true]at hcode;obtain⟨_,is,a0,_⟩ | ⟨rfl,a0⟩:=hcode
     .cases a0
     .cases a0
      exact Or.inl ⟨rfl,rfl⟩
 .rw[hc];unfold mU at hsig;simp only[if_true]at hsig;obtain⟨_,h⟩ | ⟨rfl,a1⟩:=hsig
  .cases h
  .cases a1
   simp only[if_true]at hR;subst hR;obtain⟨_,h,_⟩ | ⟨rfl,hb⟩:=hbod
   .cases h
   .cases hb
    unfold fw at hmain;simp only[if_true]at hmain;obtain⟨_,hm⟩ | ⟨rfl,hm⟩:=hmain
    .cases hm
    .cases hm
     unfold iY at hcode;simp only[if_true]at hcode;obtain⟨_,is,a0,_⟩ | ⟨rfl,a0⟩:=hcode
     .cases a0
     .cases a0
      exact Or.inl ⟨rfl,rfl⟩
end
section
open Go Go.RowKit Sp
attribute [local go_sem ↓] dG dH
def A0 (s:ByteArray) (SC:List Cls) (ms:List Sig) (cs:List bV) (w:World) (base:Nat) (bs:List bM) (j:Nat) (bad:Bool):Prop:=
 ((bad||decide (j<s.size))=true/\jf s= .error j)\/((bad||decide (j<s.size))=false/\ ∃im,jf s= .ok im/\im.zz=SC/\cs=SC.map toX/\im.zj=ms/\jc w base ms bs im.zq)
theorem wn (s:ByteArray) (w:World) (hs:s.size<=2000):
  Calls prog 90 #[.string s] w λen w'=>B_ w w'/\ ∃g p,en= .returned (.tuple #[.pointer (some ⟨g,0,none⟩),.int .i64 p])/\w.heap.size<=g/\
   ((∃j,jf s= .error j/\p=(j:Int)/\w'.heap[g]?=some (.cells #[S_,S_,S_] 109))\/(p= -1/\ ∃im,jf s= .ok im/\ii w' g im)):=by
 go_in
 go_wp2_with fail;refine(ug s w).mono ?_;rintro en w0 ⟨rfl,o5,t5,p3⟩;have f3:w.heap.size<w.heap.size+1:=by omega
 go_wp2_with fail;refine(jM w.heap.size (w.heap.size+1) s _ _ w0 hs p3 f3 (by omega)).mono ?_;rintro en w1 ⟨rfl,f6,v0,cs,j0,b0,p4,l4,f4,p6⟩;obtain⟨a0,cap0,s3⟩:=l4.len;subst s3;have t6:=f6.size;have g2:But (λk=>k=w.heap.size\/w.heap.size+1<=k) w w1:=(o5.mono (λ_ _ h=>h.elim)).trans f6;clear o5 f6 p3;go_wp2_with fail;refine(jN w.heap.size (w.heap.size+1) s j0 b0 a0 cs.length cap0 _ w1 hs f4 p4 f3 (by omega)).mono ?_;rintro en w2 ⟨rfl,i0,v1,ms,j1,b1,p5,p2,n8,n3⟩;obtain⟨a1,cap1,s4⟩:=aw p2;subst s4;have p0:=l4.but i0 (λg e cur _ _ hg h=>by omega);have v2:=i0.size;have k3:But (λk=>k=w.heap.size\/w.heap.size+1<=k) w w2:=g2.next i0 (λ_ _ h=>Or.inl h)
 clear i0 p4 l4 g2
 --the zz,if there are any
 obtain⟨SC,i3,f5⟩: ∃SC:List Cls,SC.length=cs.length/\((b0=false/\ ∃SC',ep s 4 [] 0= .ok (SC',j0)/\SC'=SC/\cs=SC.map toX/\WfC SC)\/(b0=true/\ep s 4 [] 0= .error j0)):=by
  obtain⟨h1,SC,h2,h3,h4⟩ |h:=p6
  .exact⟨SC,by rw[h3,cP],Or.inl ⟨h1,SC,h2,rfl,h3,h4⟩⟩
  .exact⟨List.replicate cs.length ⟨-1,[]⟩,by simp,Or.inr h⟩
 have e5:b1=false->cs=SC.map toX/\WfC SC:=by
  intro h;obtain⟨_,h2⟩ | ⟨h2,_⟩:=n3
  .obtain⟨_,_,_,_,h3⟩ | ⟨h3,_⟩:=f5
   .exact h3
   .rw[h3]at h2;simp[mU]at h2
  .rw[h]at h2;cases h2
 obtain⟨R,i2⟩: ∃R,(if b1=true then .error j1 else lL s SC ms 6 [] j1)=R:=⟨_,rfl⟩
 have e0:wm (b1=false) s SC ms R w2 (w.heap.size+1) 6 [] j1 b1:=by
  cases b1 with
  |true=>exact Or.inr ⟨rfl,i2.symm⟩
  |false=>exact Or.inl ⟨rfl,rfl,[],jc.nil _ _ _,by simp,rfl,i2⟩
 have k0:=hid e0;have i5:=hid e5;have e3:=hid (λwz bs l X j2 j3 j4 b2 b3 b4=>yR (its:=X) (w:=wz) (base:=w.heap.size+1) (bs:=bs) (l:=l) (j2:=j2) (j3:=j3) (j4:=j4) (b2:=b2) (b3:=b3) (b4:=b4) f5 i3 n3 i2);have r0:=hid i3;rw[<-i3]at p5 p0 f4;clear e0 e5 p6 n3 f5 i2 i3;go_wp2_with fail
 go_loopg [] 7 (λmm wr=> ∃(a2:Option Addr) (a8 j:Nat) (bad' mn:Bool) (bs:List bM) (x0 x1 x2 x3 x4:Value),w.heap.size+1<=wr.heap.size/\But (λk=>k=w.heap.size\/w.heap.size+1<=k) w wr/\XrB wr w.heap.size s j bad' (.slice a0 SC.length cap0) (.slice a1 ms.length cap1) ⟨.slice a2 bs.length a8,x0,x1,x2,x3,x4,mn⟩/\TcV wr (w.heap.size+1) (.slice a0 SC.length cap0) cs/\TmV wr (w.heap.size+1) (.slice a1 ms.length cap1) ms/\TbV wr (w.heap.size+1) (.slice a2 bs.length a8) bs/\Hid ((mn=false/\bs.length<=6/\ ∃m1,mm=m1+1/\wm (b1=false) s SC ms R wr (w.heap.size+1) m1 bs j bad')\/(mn=true/\A0 s SC ms cs wr (w.heap.size+1) bs j bad')))
 case atStart=>exact⟨none,0,j1,b1,false,[],_,_,_,_,_,by omega,k3,p5,p0,p2,⟨[],df _ _ _ _,rfl,by simp⟩,hid (Or.inl ⟨rfl,by simp,6,rfl,k0.out⟩)⟩
 case round=>
  obtain⟨a2,a8,j,bad',mn,bs,x0,x1,x2,x3,x4,v3,l3,f7,m0,i1,i4,h8⟩:=hrel
  by_cases hstop:mn=true\/bad'=true
  .have g7:A0 s SC ms cs wr (w.heap.size+1) bs j bad':=by
    obtain⟨h1,_,m1,_,hb⟩ | ⟨_,h⟩:=h8.out
    .have r5:bad'=true:=by
      obtain h|h:=hstop
      .rw[h1]at h;cases h
      .exact h
     subst r5;obtain⟨h,_⟩ | ⟨_,h⟩:=hb
     .cases h
     .have:=e3.out wr bs [] [] j j j true true true (Or.inr ⟨rfl,h⟩) (Or.inr ⟨rfl,by simp[fw]⟩) (Or.inr ⟨rfl,by simp[iY]⟩);obtain⟨_,h⟩ | ⟨h,_⟩:=this
      .exact Or.inl ⟨by simp,h⟩
      .simp at h
    .exact h
   have HF:=hid g7;have e1:=hid (kZ w.heap.size s j bad' _ _ _ wr f7 hstop);clear g7 h8 e3 k0 i5;go_wp2_with fail;refine e1.out.mono ?_;rintro en w3 ⟨rfl,k,rfl⟩;clear e1 hstop;go_wp2_with fail;refine(ov w.heap.size s j bad' _ _ _ (wr.drewN k) (f7.drewN k)).mono ?_;rintro en w4 ⟨a5,q0⟩;have c7:B_ w w4:=((l3.next (aK (λ_=>False) wr k) (λ_ _ h=>h.elim)).next a5 (λ_ _ h=>h.elim)).mono (λk hk h=>by omega);have q5:w.heap.size<=(wr.drewN k).heap.size:=by show w.heap.size<=wr.heap.size;omega
   have g3:B_ wr w4:=(aK _ _ _).trans a5;unfold Dn at q0;obtain⟨hb,g,hg,rfl,r6⟩ | ⟨hb,rfl⟩:=q0
   .have j7:Hid (jf s= .error j):=by
     obtain⟨_,h⟩ | ⟨h,_⟩:=HF.out
     .exact hid h
     .rw[hb]at h;cases h
    clear HF;go_wp2_with fail;exact cW (v:= .tuple #[.pointer (some ⟨g,0,none⟩),.int .i64 j]) (by simp[results,results90,go_sem]) rfl ⟨c7,g,j,rfl,by omega,Or.inl ⟨j,j7.out,rfl,r6⟩⟩
   .have r4:=f7.lt
    have j7:Hid (∃im,jf s= .ok im/\ii w4 w.heap.size im):=by
     obtain⟨h,_⟩ | ⟨_,im,s2,n5,n6,h0,n7⟩:=HF.out
     .rw[hb]at h;cases h
     .have e8:=m0.but g3 (λ_ _ _ _ _ _ h=>h);have g4:=i1.but g3 (λ_ _ _ _ _ _ h=>h);have e4:=i4.but g3 (λ_ _ _ _ _ _ h=>h);have e2:=f7.but g3 (λh=>h);refine hid ⟨im,s2,?_,?_,?_⟩
      .rw[n5,<-n6];exact e8.tx e2.c0 e2.lt
      .rw[h0];exact g4.tx e2.c1 e2.lt
      .exact⟨bs,e4.tx e2.c2 e2.lt,(h0.symm▸n7.but g3 (λ_ _ _ _ h=>h)).mono (Nat.zero_le _)⟩
    clear HF;go_wp2_with fail;exact cW (v:= .tuple #[.pointer (some ⟨w.heap.size,0,none⟩),.int .i64 (-1)]) (by simp[results,results90,go_sem]) rfl ⟨c7,w.heap.size,-1,rfl,b8 _,Or.inr ⟨rfl,j7.out⟩⟩
  .have s1:mn=false:=by cases mn;rfl;exact absurd (Or.inl rfl) hstop
   have r3:bad'=false:=by cases bad';rfl;exact absurd (Or.inr rfl) hstop
   subst s1 r3;obtain⟨_,t0,m1,t4,f6⟩:=h8.out.resolve_right (λh=>by cases h.1);have h7:=hid f6;clear f6;clear hstop h8 k0
   by_cases hgo:bs.length<6/\pk s j≠59
   .obtain⟨q1,n9⟩:=hgo;obtain⟨hG,BS,k9,q3,r2,q2⟩:=h7.out.next f4 q1 n9;obtain⟨g6,q4⟩:=i5.out hG;have o4:=hid q2;have q8:=hid g6;have r1:=hid q4;have e1:=hid (ld w.heap.size (w.heap.size+1) s j a0 a2 SC.length cap0 bs.length a8 _ x0 x1 x2 x3 x4 wr ms BS bs k9.heads f4 n8 r2 (λb hb=>Or.inr (q3 b hb)) hs f7 i1 i4 f3 q1 n9);have q6:=hid k9;clear n9 q2 k9 q3 g6 q4 h7;go_wp2_with fail;refine e1.out.mono ?_;rintro en w4 ⟨a5,rfl,i6⟩;obtain⟨c,m,r,al,capl,lo,j4,b9,e2,m3,s0,e4⟩:=i6;clear e1;have e8:=m0.but a5 (λg e cur _ _ hg h=>by omega);have g4:=i1.but a5 (λg e cur _ _ hg h=>by omega);have f1:=i4.but a5 (λg e cur _ _ hg h=>by omega)
    have c7:But (λk=>k=w.heap.size\/w.heap.size+1<=k) w w4:=l3.next a5 (λ_ _ h=>Or.inl h);have q5:=a5.size;have c9:BtB w4 (w.heap.size+1) (.slice al lo.length capl) lo:=dn m3 (by omega);have o3:=hid (o4.out c m r lo j4 b9 e4);clear e4 o4;have g1:=hid (pV w.heap.size (w.heap.size+1) s j4 b9 SC a0 a1 al ms.length lo.length cap0 cap1 capl _ w4 (Or.inr ⟨r1.out,by rw[<-q8.out];exact e8⟩) f4 n8 (by omega) hs e2 rfl f3);go_wp2_with fail;refine g1.out.mono ?_;rintro en w5 ⟨b6,i7⟩;obtain⟨ai,capi,items,j5,a7,rfl,n1,m2,r8,g5⟩:=i7;have g0:=hid (uz g5);have l5:=e8.but b6 (λg e cur _ _ hg h=>by omega)
    have m5:=g4.but b6 (λg e cur _ _ hg h=>by omega);have a4:=f1.but b6 (λg e cur _ _ hg h=>by omega);have m4:=c9.but b6 (λg hg h=>by have:=ay c9 g hg;omega);have s5:=b6.size;clear g5 g1;have f8:=hid (iB w.heap.size (w.heap.size+1) w4.heap.size s j5 a7 false _ _ _ a2 a8 bs ⟨c,m,r,lo,items⟩ al ai capl capi w5 (by omega) (by show items.length<=100;omega) hs n1 a4 m4 m2 f3 (by omega) (by omega));go_wp2_with fail;refine f8.out.mono ?_;rintro en w6 ⟨rfl,a3,a6,e6,s9,n2,f2⟩;clear f8
    have e9:=(λ(is:List Ins) (h:lN w5 w4.heap.size items is)=>(⟨h.len,λk y x hy hx=>by
      obtain⟨z1,z2,z3,z4,z5⟩:=h.at' k y x hy hx
      exact⟨z1,z2,z3,z4,bj (dn z5 (by omega)) a3 (λg cur hh hg h=>by
       obtain h|h:=h
       .omega
       .exact a4.apart hh (by decide) h)⟩⟩:lN w6 (w.heap.size+1) items is))
    have l0:=(q6.out.but a5 (λg cur _ hg h=>by omega)).but b6 (λg cur _ hg h=>by omega)
    obtain⟨m',t3,o6⟩:=o3.out items w6 (tkP s 46 j5 a7).1 (tkP s 46 j5 a7).2 (l0.but a3 (λg cur hh hg h=>by
     obtain h|h:=h
     .omega
     .exact a4.apart hh (by decide) h)) (by
     obtain⟨h1,is,h2,h3⟩ |h:=g0.out
     .exact Or.inl ⟨h1,is,h2,e9 is h3⟩
     .exact Or.inr h)
    have q7:=hid o6;have n4:=a4.ge
    have l6:=l5.but a3 (λg e cur hh he hg h=>by
     obtain h|h:=h
     .omega
     .exact a4.apart hh (by rcases he with he|he<;>(rw[he];decide)) h)
    have n0:=m5.but a3 (λg e cur hh he hg h=>by
     obtain h|h:=h
     .omega
     .exact a4.apart hh (by rw[he];decide) h)
    have e7:But (λk=>k=w.heap.size\/w.heap.size+1<=k) w w6:=(c7.next b6 (λ_ _ h=>Or.inl h)).next a3 (λk hk h=>by
     obtain h|h:=h
     .exact Or.inl h
     .exact Or.inr (n4 k h))
    have s6:=a3.size;clear o6 o3 g0;go_wp2_with fail
    go_roundg (m'+1)
    case measure=>omega
    case rel=>exact⟨a6,e6,_,_,false,bs++ [⟨c,m,r,lo,items⟩],_,_,_,_,_,by omega,e7,n2,l6,n0,f2,hid (Or.inl ⟨rfl,by simp;omega,m',rfl,q7.out⟩)⟩
   .have d6: ¬bs.length<6\/pk s j=59:=by
     by_cases h6:bs.length<6
     .right
      by_cases hp:pk s j=59
      .exact hp
      .exact absurd ⟨h6,hp⟩ hgo
     .exact Or.inl h6
    have h9:=hid (h7.out.fin (d6.imp id (λh=>by simp[h])));have e1:=hid (lh w.heap.size s j a0 a2 SC.length cap0 bs.length a8 _ x0 x1 x2 x3 x4 wr f4 hs f7 d6);clear d6 hgo h7;obtain⟨TK,p8⟩: ∃TK,tkP s 59 j false=TK:=⟨_,rfl⟩;rw[p8]at h9 e1;obtain⟨j2,b2⟩:=TK;dsimp only at h9 e1;have o0:=hid (λwz l X j3 j4 b3 b4 hbz=>e3.out wz bs l X j2 j3 j4 b2 b3 b4 hbz)
    have o2:Hid (b2=true\/b1=false):=by
     obtain⟨_,h,_⟩ | ⟨h,_⟩:=h9.out
     .exact hid (Or.inr h)
     .exact hid (Or.inl h)
    clear p8 e3;go_wp2_with fail;refine e1.out.mono ?_;rintro en w4 ⟨a5,rfl,i6⟩;obtain⟨al,capl,lo,j4,b9,e2,m3,s0,e4⟩:=i6;clear e1;have e8:=m0.but a5 (λg e cur _ _ hg h=>by omega);have g4:=i1.but a5 (λg e cur _ _ hg h=>by omega);have f1:=i4.but a5 (λg e cur _ _ hg h=>by omega);have c7:But (λk=>k=w.heap.size\/w.heap.size+1<=k) w w4:=l3.next a5 (λ_ _ h=>Or.inl h);have q5:=a5.size;have c9:BtB w4 (w.heap.size+1) (.slice al lo.length capl) lo:=dn m3 (by omega);have f0:=e4;rw[r0.out]at f0;have o1:=hid (λwz X j5 b5 hbz=>o0.out wz lo X j4 j5 b9 b5 hbz f0)
    have p1:b9=true\/(WfC SC/\TcV w4 (w.heap.size+1) (.slice a0 SC.length cap0) (SC.map toX)):=by
     obtain h|h:=o2.out
     .left
      obtain⟨_,h2⟩ | ⟨h2,_⟩:=e4
      .rw[h]at h2;simp[fw]at h2
      .exact h2
     .obtain⟨h1,h2⟩:=i5.out h;exact Or.inr ⟨h2,by rw[<-h1];exact e8⟩
    have g1:=hid (pV w.heap.size (w.heap.size+1) s j4 b9 SC a0 a1 al ms.length lo.length cap0 cap1 capl _ w4 p1 f4 n8 (by omega) hs e2 rfl f3);clear e4 f0 o0 o2 p1;go_wp2_with fail;refine g1.out.mono ?_;rintro en w5 ⟨b6,i7⟩;obtain⟨ai,capi,items,j5,a7,rfl,n1,m2,r8,g5⟩:=i7;have g0:=hid (uz g5);have l5:=e8.but b6 (λg e cur _ _ hg h=>by omega);have m5:=g4.but b6 (λg e cur _ _ hg h=>by omega);have a4:=f1.but b6 (λg e cur _ _ hg h=>by omega);have m4:=c9.but b6 (λg hg h=>by have:=ay c9 g hg;omega);have s5:=b6.size;clear g5 g1;have f8:=hid (iB w.heap.size (w.heap.size+1) w4.heap.size s j5 a7 true _ _ _ a2 a8 bs ⟨45,0,105,lo,items⟩ al ai capl capi w5 (by omega) (by show items.length<=100;omega) hs n1 a4 m4 m2 f3 (by omega) (by omega))
    go_wp2_with fail;refine f8.out.mono ?_;rintro en w6 ⟨rfl,a3,a6,e6,s9,n2,f2⟩;clear f8
    have q9:Hid (A0 s SC ms cs w6 (w.heap.size+1) (bs++ [⟨45,0,105,lo,items⟩]) (tkP s 46 j5 a7).1 (tkP s 46 j5 a7).2):=by
     have e9:=(λ(is:List Ins) (h:lN w5 w4.heap.size items is)=>(⟨h.len,λk y x hy hx=>by
      obtain⟨z1,z2,z3,z4,z5⟩:=h.at' k y x hy hx
      exact⟨z1,z2,z3,z4,bj (dn z5 (by omega)) a3 (λg cur hh hg h=>by
       obtain h|h:=h
       .omega
       .exact a4.apart hh (by decide) h)⟩⟩:lN w6 (w.heap.size+1) items is))
     refine hid (o1.out w6 items _ _ ?_ ?_)
     .obtain⟨h1,h2,BS,h3,h4,h5⟩ |h:=h9.out
      .refine Or.inl ⟨h1,h2,BS,h3,?_,h5⟩;exact((h4.but a5 (λg cur _ hg h=>by omega)).but b6 (λg cur _ hg h=>by omega)).but a3 (λg cur hh hg h=>by
     obtain h|h:=h
     .omega
     .exact a4.apart hh (by decide) h)
      .exact Or.inr h
     .obtain⟨h1,is,h2,h3⟩ |h:=g0.out
      .exact Or.inl ⟨h1,is,h2,e9 is h3⟩
      .exact Or.inr h
    have n4:=a4.ge
    have l6:=l5.but a3 (λg e cur hh he hg h=>by
     obtain h|h:=h
     .omega
     .exact a4.apart hh (by rcases he with he|he<;>(rw[he];decide)) h)
    have n0:=m5.but a3 (λg e cur hh he hg h=>by
     obtain h|h:=h
     .omega
     .exact a4.apart hh (by rw[he];decide) h)
    have e7:But (λk=>k=w.heap.size\/w.heap.size+1<=k) w w6:=(c7.next b6 (λ_ _ h=>Or.inl h)).next a3 (λk hk h=>by
     obtain h|h:=h
     .exact Or.inl h
     .exact Or.inr (n4 k h))
    have s6:=a3.size;clear o1 g0;go_wp2_with fail
    go_roundg 0
    case measure=>omega
    case rel=>exact⟨a6,e6,_,_,true,bs++ [⟨45,0,105,lo,items⟩],_,_,_,_,_,by omega,e7,n2,l6,n0,f2,hid (Or.inr ⟨rfl,q9.out⟩)⟩
end
end Go.Proofs.YtpfkkmacakjmbaaGreatDoor
