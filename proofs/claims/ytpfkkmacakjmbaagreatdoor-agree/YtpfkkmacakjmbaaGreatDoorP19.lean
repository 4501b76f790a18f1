import Derived.Test.YtpfkkmacakjmbaaGreatDoorP18
import Derived.Test.YtpfkkmacakjmbaaGreatDoorP11
set_option maxRecDepth 100000
set_option maxHeartbeats 6400000
set_option linter.all false
namespace Go.Proofs.YtpfkkmacakjmbaaGreatDoor
open Proofs.Tryz
section
open Go Go.RowKit Sp
attribute [local go_sem ↓] eF eG
theorem tQ (x:XIt) (ps:List Nat) (ty:L_) (ao:Option Addr) (ct:Nat) (w:World) (hl:ps.length<=3) (hps: ∀k∈ps,k<=100) (hP:w.ownsRow 0 3 1 (.slice x.pa x.pn x.pc) ps.length (fi ps)) (hT:BtB w 0 (.slice ao ty.length ct) ty):
  Calls prog 147 #[itV x,.slice ao ty.length ct] w λen w'=>B_ w w'/\ ∃a' c',en= .returned (.slice a' ps.length c')/\BtB w' w.heap.size (.slice a' ps.length c') (ps.map (cC ty)):=by
 obtain⟨i0,E,J,L,M⟩:=info_parts kL;obtain⟨pl,op,cl,nu,pa,pn,pc⟩:=x
 have H:pn=ps.length:=by
  obtain⟨a',c',h⟩:=aA hP;injection h
 subst H;unfold itV;dsimp only at hP⊢;have p:B_ w (w.alloc (.cells #[.int .i64 pl,.int .u8 op.toNat,.int .u8 cl.toNat,.int .i64 nu,.slice pa ps.length pc] 219)):=ag _ _ _;have e:(w.alloc (.cells #[.int .i64 pl,.int .u8 op.toNat,.int .u8 cl.toNat,.int .i64 nu,.slice pa ps.length pc] 219)).heap[w.heap.size]?=some (.cells #[.int .i64 pl,.int .u8 op.toNat,.int .u8 cl.toNat,.int .i64 nu,.slice pa ps.length pc] 219):=bj _ _
 go_in
 go_wp2_with fail;have O:(w.alloc (.cells #[.int .i64 pl,.int .u8 op.toNat,.int .u8 cl.toNat,.int .i64 nu,.slice pa ps.length pc] 219)).heap.size=w.heap.size+1:=by simp
 generalize (w.alloc (.cells #[.int .i64 pl,.int .u8 op.toNat,.int .u8 cl.toNat,.int .i64 nu,.slice pa ps.length pc] 219))=w1 at*;have Q:=BtB.empty w1;rw[O]at Q;have X:=p.size;have B:B_ w (w1.alloc (.cells #[] 5)):=p.trans (ag _ _ _)
 go_loopg [5,6] ps.length (λmm vs ks wr=> ∃(a':Option Addr) (c' k:Nat) (l:L_),vs= .slice a' k c'/\ks= .int .i64 k/\k<=ps.length/\k+mm<=ps.length/\ps.length<=k+mm/\wr.ownsRow (w.heap.size+1) 5 1 (.slice a' k c') k (aU l)/\B_ w wr/\w.heap.size+1<=wr.heap.size/\wr.heap[w.heap.size]?=some (.cells #[.int .i64 pl,.int .u8 op.toNat,.int .u8 cl.toNat,.int .i64 nu,.slice pa ps.length pc] 219)/\Hid (l=(ps.take k).map (cC ty)))
 case atStart=>exact⟨_,0,0,[],rfl,rfl,by omega,by omega,by omega,Q,B,by simp;omega,((ag (λ_=>False) w1 _).block _ (ae e) (λh=>h)).trans e,rfl⟩
 case round=>
  obtain⟨a',c',k,l,rfl,rfl,a3,a4,a5,c,b,a7,f,P⟩:=hrel;have q4:=ce4 f;have D:=ae f
  by_cases hlt:k<ps.length
  .have G:(k:Int)<(ps.length:Int):=by omega
   obtain⟨g,rfl,a1,a2,a⟩:=aL (ah hP b (λ_ _ h=>h)) (by omega);obtain⟨v,I⟩: ∃v,ps[k]=v:=⟨_,rfl⟩;have qk:=a _ _ (pP (aM hlt));rw[I]at qk;have m:=hid (d8 ao ct ty v wr (BtB.but hT b (λ_ _ h=>h)))
   have Z:Hid (l++ [cC ty v]=(ps.take (k+1)).map (cC ty)):=by
    show _=_
    rw[P.out,List.take_add_one,aM hlt,I];simp
   clear a I;generalize cC ty v=z at*;go_wp2_with fail;refine m.out.mono ?_;rintro en wx ⟨rfl,y⟩;rw[y];clear y wx m;have s:=aC c;go_wp2_with (at_builtin;refine wpList_append_lies _ rfl _ _ _ rfl (w.heap.size+1) 5 i0 _ 1 1 (by kernel_rfl) E J L M rfl (by omega) _ k (aU l) rfl (c.alloc _) ⟨wr.heap.size,0,none⟩ 1 1 [.int .u8 z.toNat] rfl rfl (iO (cs:=#[.int .u8 z.toNat]) (t:=5) (fr:=(0,0)) (bj wr _)) (by simp[Value.oneCell']) (by omega) (by unfold maxLen;omega) (by omega) (by simp;omega) (wr.heap.size+1) (by simp) ?_);intro gg n Y j i a0 T;have d:But (λk'=>(Value.slice a' k c').ownBlock=some k') wr Y:=(ag _ _ _).trans (bD i)
   have q:B_ w Y:=b.next d (λk' hk' h=>absurd (s k' h) (by omega));have S:=ae e;have C:=(d.block _ D (λh=>absurd (s _ h) (by omega))).trans f;have a6:=d.size;clear q4 qk;go_wp2_with fail
   go_roundg (ps.length-(k+1))
   case measure=>omega
   case rel=>exact⟨some ⟨gg,0,none⟩,n,k+1,l++ [z],by simp,by simp,by omega,by omega,by omega,by rw[show aU (l++ [z])=aU l++ [.int .u8 z.toNat]from by simp[aU]];exact j,q,by omega,C,Z⟩
  .have G: ¬(k:Int)<(ps.length:Int):=by omega
   have F:k=ps.length:=by omega
   subst F
   have r:BtB wr w.heap.size (.slice a' ps.length c') (ps.map (cC ty)):=by
    have A:=P.out;rw[List.take_length]at A;unfold BtB;rw[<-A,show l.length=ps.length from by rw[A];simp];exact dh c (by omega)
   go_wp2_with fail;exact cV (.slice a' ps.length c') results147 rfl rfl ⟨b,a',c',rfl,r⟩
def cQ (cs:List bP) (ms:List Sig) (lo:L_) (c k:UInt8) (n:Nat):L_:=
 if c.toNat=105\/c.toNat=111 then [105]else if c.toNat=115 then [cC lo n]else aB cs ms c k n 45
def eI (cs:List bP) (ms:List Sig) (lo:L_) (c k:UInt8) (n:Nat) (ps:L_):UInt8:=
 if c.toNat=115\/c.toNat=112\/c.toNat=119\/c.toNat=111 then 105 else if c.toNat=44 then cC ps 1 else if c.toNat=105 then iC cs (cC ps 1) (cC ps 2)else aH cs ms c k n lo
section
variable (b:Nat) (cs:List bP) (ms:List Sig) (c0:UInt8) (m0:Nat) (r0:UInt8) (al ai:Option Addr) (capl ni capi:Nat) (lo:L_) (x:XIt) (w:World)
theorem Am (hn:cs.length<=100) (hm:ms.length<=100) (hT:TxC w b cs) (hM:TxM w b ms) (hB:BtB w 0 (.slice al lo.length capl) lo):
  Calls prog 203 #[.pointer (some ⟨b,0,none⟩),hdV c0 m0 r0 (.slice al lo.length capl) (.slice ai ni capi),itV x] w λen w'=>B_ w w'/\ ∃v,en= .returned v/\BtB w' w.heap.size v (cQ cs ms lo x.op x.cls x.num):=by
 obtain⟨pl,op,cl,nu,pa,pn,pc⟩:=x;unfold itV hdV;dsimp only;have a:B_ w ((w.alloc (.cells #[.int .u8 c0.toNat,.int .i64 m0,.int .u8 r0.toNat,.slice al lo.length capl,.slice ai ni capi] 115)).alloc (.cells #[.int .i64 pl,.int .u8 op.toNat,.int .u8 cl.toNat,.int .i64 nu,.slice pa pn pc] 219)):=(ag _ _ _).trans (ag _ _ _)
 by_cases h1:op.toNat=105\/op.toNat=111
 .rw[show cQ cs ms lo op cl nu=[105]from by simp[cQ,h1]];have e:=a.size;have c:=λW h=>BtB.lit W w.heap.size h [105] (by simp)
  obtain h|h:=h1
  .try (have d:((op.toNat:Int)==105)=false:=by rw[fh];omega)
   have d:((op.toNat:Int)==105)=true:=by rw[dS];omega
   clear h
   go_in
   go_wp2_with fail;refine cV (.slice (some ⟨w.heap.size+2,0,none⟩) 1 1) results203 rfl rfl ⟨a.trans (ag _ _ _),_,rfl,?_⟩;have i:=c ((w.alloc (.cells #[.int .u8 c0.toNat,.int .i64 m0,.int .u8 r0.toNat,.slice al lo.length capl,.slice ai ni capi] 115)).alloc (.cells #[.int .i64 pl,.int .u8 op.toNat,.int .u8 cl.toNat,.int .i64 nu,.slice pa pn pc] 219)) (by omega);simpa[aU]using i
  .try (have d:((op.toNat:Int)==105)=false:=by rw[fh];omega)
   have f:((op.toNat:Int)==111)=true:=by rw[dS];omega
   clear h
   go_in
   go_wp2_with fail;refine cV (.slice (some ⟨w.heap.size+2,0,none⟩) 1 1) results203 rfl rfl ⟨a.trans (ag _ _ _),_,rfl,?_⟩;have i:=c ((w.alloc (.cells #[.int .u8 c0.toNat,.int .i64 m0,.int .u8 r0.toNat,.slice al lo.length capl,.slice ai ni capi] 115)).alloc (.cells #[.int .i64 pl,.int .u8 op.toNat,.int .u8 cl.toNat,.int .i64 nu,.slice pa pn pc] 219)) (by omega);simpa[aU]using i
 .have d:=tf op.toNat 105 (by omega);have f:=tf op.toNat 111 (by omega)
  by_cases h2:op.toNat=115
  .rw[show cQ cs ms lo op cl nu=[cC lo nu]from by simp[cQ,h2]];have g:((op.toNat:Int)==115)=true:=by rw[dS];omega
   have j:=d8 al capl lo nu ((w.alloc (.cells #[.int .u8 c0.toNat,.int .i64 m0,.int .u8 r0.toNat,.slice al lo.length capl,.slice ai ni capi] 115)).alloc (.cells #[.int .i64 pl,.int .u8 op.toNat,.int .u8 cl.toNat,.int .i64 nu,.slice pa pn pc] 219)) (BtB.but hB a (λ_ _ h=>h));have l:=hid j;have e:=a.size;have c:=λW h=>BtB.lit W w.heap.size h [cC lo nu] (by simp)
   clear h1 h2 j;generalize cC lo nu=z at*
   go_in
   go_wp2_with fail;refine l.out.mono ?_;rintro en wx ⟨rfl,k⟩;rw[k];clear k wx;go_wp2_with fail;refine cV (.slice (some ⟨w.heap.size+2,0,none⟩) 1 1) results203 rfl rfl ⟨a.trans (ag _ _ _),_,rfl,?_⟩;have i:=c ((w.alloc (.cells #[.int .u8 c0.toNat,.int .i64 m0,.int .u8 r0.toNat,.slice al lo.length capl,.slice ai ni capi] 115)).alloc (.cells #[.int .i64 pl,.int .u8 op.toNat,.int .u8 cl.toNat,.int .i64 nu,.slice pa pn pc] 219)) (by omega);simpa[aU]using i
  .rw[show cQ cs ms lo op cl nu=aB cs ms op cl nu 45 from by simp[cQ,h1,h2]];have g:=tf op.toNat 115 (by omega);have m:=hid (mX b cs ms pl nu op cl 45 ((w.alloc (.cells #[.int .u8 c0.toNat,.int .i64 m0,.int .u8 r0.toNat,.slice al lo.length capl,.slice ai ni capi] 115)).alloc (.cells #[.int .i64 pl,.int .u8 op.toNat,.int .u8 cl.toNat,.int .i64 nu,.slice pa pn pc] 219)) (ap:=pa) (np:=pn) (cp:=pc) hn hm (hT.but a) (hM.but a));have e:=a.size;clear h1 h2
   go_in
   go_wp2_with fail;refine m.out.mono ?_;rintro en q ⟨n,v,rfl,p⟩;go_wp2_with fail;exact cV (v) results203 rfl rfl ⟨a.trans n,v,rfl,dh p e⟩
theorem vz (ap:Option Addr) (cp:Nat) (ps:L_) (hn:cs.length<=100) (hm:ms.length<=100) (hT:TxC w b cs) (hM:TxM w b ms) (hB:BtB w 0 (.slice al lo.length capl) lo) (hP:BtB w 0 (.slice ap ps.length cp) ps):
  Calls prog 149 #[.pointer (some ⟨b,0,none⟩),hdV c0 m0 r0 (.slice al lo.length capl) (.slice ai ni capi),itV x,.slice ap ps.length cp] w λen w'=>B_ w w'/\en= .returned (.int .u8 (eI cs ms lo x.op x.cls x.num ps).toNat):=by
 obtain⟨pl,op,cl,nu,pa,pn,pc⟩:=x;unfold itV hdV;dsimp only;have a:B_ w ((w.alloc (.cells #[.int .u8 c0.toNat,.int .i64 m0,.int .u8 r0.toNat,.slice al lo.length capl,.slice ai ni capi] 115)).alloc (.cells #[.int .i64 pl,.int .u8 op.toNat,.int .u8 cl.toNat,.int .i64 nu,.slice pa pn pc] 219)):=(ag _ _ _).trans (ag _ _ _);have g:=BtB.but hP a (λ_ _ h=>h)
 by_cases h1:op.toNat=115\/op.toNat=112\/op.toNat=119\/op.toNat=111
 .rw[show eI cs ms lo op cl nu ps=105 from by simp[eI,h1]];obtain h|h|h|h:=h1
  .try (have e:((op.toNat:Int)==115)=false:=by rw[fh];omega)
   try (have d:((op.toNat:Int)==112)=false:=by rw[fh];omega)
   try (have f:((op.toNat:Int)==119)=false:=by rw[fh];omega)
   have e:((op.toNat:Int)==115)=true:=by rw[dS];omega
   clear h
   go_in
   go_wp2_with fail;go_ret;exact⟨a,rfl⟩
  .try (have e:((op.toNat:Int)==115)=false:=by rw[fh];omega)
   try (have d:((op.toNat:Int)==112)=false:=by rw[fh];omega)
   try (have f:((op.toNat:Int)==119)=false:=by rw[fh];omega)
   have d:((op.toNat:Int)==112)=true:=by rw[dS];omega
   clear h
   go_in
   go_wp2_with fail;go_ret;exact⟨a,rfl⟩
  .try (have e:((op.toNat:Int)==115)=false:=by rw[fh];omega)
   try (have d:((op.toNat:Int)==112)=false:=by rw[fh];omega)
   try (have f:((op.toNat:Int)==119)=false:=by rw[fh];omega)
   have f:((op.toNat:Int)==119)=true:=by rw[dS];omega
   clear h
   go_in
   go_wp2_with fail;go_ret;exact⟨a,rfl⟩
  .try (have e:((op.toNat:Int)==115)=false:=by rw[fh];omega)
   try (have d:((op.toNat:Int)==112)=false:=by rw[fh];omega)
   try (have f:((op.toNat:Int)==119)=false:=by rw[fh];omega)
   have j:((op.toNat:Int)==111)=true:=by rw[dS];omega
   clear h
   go_in
   go_wp2_with fail;go_ret;exact⟨a,rfl⟩
 .have e:=tf op.toNat 115 (by omega);have d:=tf op.toNat 112 (by omega);have f:=tf op.toNat 119 (by omega);have j:=tf op.toNat 111 (by omega);have s:=hid g
  by_cases h2:op.toNat=44
  .rw[show eI cs ms lo op cl nu ps=cC ps 1 from by simp[eI,h2]];have q:((op.toNat:Int)==44)=true:=by rw[dS];omega
   have p:=hid (d8 ap cp ps 1 _ g);clear h1 h2
   go_in
   go_wp2_with fail;refine p.out.mono ?_;rintro en wx ⟨rfl,c⟩;rw[c];clear c wx;go_wp2_with fail;go_ret;exact⟨a,rfl⟩
  .have q:=tf op.toNat 44 (by omega)
   by_cases h3:op.toNat=105
   .rw[show eI cs ms lo op cl nu ps=iC cs (cC ps 1) (cC ps 2)from by simp[eI,h3]];have i:((op.toNat:Int)==105)=true:=by rw[dS];omega
    have m:=hid (d8 ap cp ps 1 _ g);have n:=hid (d8 ap cp ps 2 _ g);have l:=hid (nN b cs (cC ps 1) (cC ps 2) _ hn (hT.but a));clear h1 h2 h3
    go_in
    go_wp2_with fail;refine m.out.mono ?_;rintro en wx ⟨rfl,c⟩;rw[c];clear c wx;go_wp2_with fail;refine n.out.mono ?_;rintro en wx ⟨rfl,c⟩;rw[c];clear c wx;go_wp2_with fail;refine l.out.mono ?_;rintro en wx ⟨rfl,c⟩;rw[c];clear c wx;go_wp2_with fail;go_ret;exact⟨a,rfl⟩
   .have i:=tf op.toNat 105 (by omega);rw[show eI cs ms lo op cl nu ps=aH cs ms op cl nu lo from by simp[eI,h1,h2,h3]];have k:=hid (ik b cs ms pl nu op cl al capl lo _ (ap:=pa) (np:=pn) (cp:=pc) hn hm (hT.but a) (hM.but a) (BtB.but hB a (λ_ _ h=>h)));clear h1 h2 h3
    go_in
    go_wp2_with fail;refine k.out.mono ?_;rintro en t ⟨rfl,r⟩;go_wp2_with fail;go_ret;exact⟨a.trans r,rfl⟩
def ly (cs:List bP) (ak ps:L_):Bool:=(List.range ak.length).all λi=>cL cs (cC ps i) (ak.getD i 0)
theorem Du {cs:List bP} {ak ps:L_} {i:Nat} (hi:i<ak.length) (h:cL cs (cC ps i) (ak.getD i 0)=false):ly cs ak ps=false:=by
 unfold ly;rw[List.all_eq_false];exact⟨i,List.mem_range.2 hi,by rw[h];simp⟩
theorem B0 {cs:List bP} {ak ps:L_} (h: ∀i,i<ak.length->cL cs (cC ps i) (ak.getD i 0)=true):ly cs ak ps=true:=by
 unfold ly;rw[List.all_eq_true];exact λi hi=>h i (List.mem_range.1 hi)
theorem tR (ap:Option Addr) (cp:Nat) (ps:L_) (hn:cs.length<=100) (hm:ms.length<=100) (hT:TxC w b cs) (hM:TxM w b ms) (hB:BtB w 0 (.slice al lo.length capl) lo) (hP:BtB w 0 (.slice ap ps.length cp) ps) (hak:(cQ cs ms lo x.op x.cls x.num).length<=100):
  Calls prog 148 #[.pointer (some ⟨b,0,none⟩),hdV c0 m0 r0 (.slice al lo.length capl) (.slice ai ni capi),itV x,.slice ap ps.length cp] w λen w'=>B_ w w'/\en= .returned (.bool (ly cs (cQ cs ms lo x.op x.cls x.num) ps)):=by
 have c:B_ w ((w.alloc (.cells #[.int .u8 c0.toNat,.int .i64 m0,.int .u8 r0.toNat,.slice al lo.length capl,.slice ai ni capi] 115)).alloc (.cells #[.int .i64 x.place,.int .u8 x.op.toNat,.int .u8 x.cls.toNat,.int .i64 x.num,.slice x.pa x.pn x.pc] 219)):=(ag _ _ _).trans (ag _ _ _);have p:=hid (Am b cs ms c0 m0 r0 al ai capl ni capi lo x ((w.alloc (.cells #[.int .u8 c0.toNat,.int .i64 m0,.int .u8 r0.toNat,.slice al lo.length capl,.slice ai ni capi] 115)).alloc (.cells #[.int .i64 x.place,.int .u8 x.op.toNat,.int .u8 x.cls.toNat,.int .i64 x.num,.slice x.pa x.pn x.pc] 219)) hn hm (hT.but c) (hM.but c) (BtB.but hB c (λ_ _ h=>h)))
 obtain⟨A,G⟩: ∃A,cQ cs ms lo x.op x.cls x.num=A:=⟨_,rfl⟩;rw[G]at p hak⊢;clear G;obtain⟨R,s⟩: ∃R,ly cs A ps=R:=⟨_,rfl⟩;rw[s];have t:=hid s;clear s;unfold itV hdV at*
 go_in
 go_wp2_with fail;refine p.out.mono ?_;rintro en w1 ⟨n,v,rfl,H⟩;obtain⟨av,cv,rfl⟩:=aA H;have y:=c.trans n;clear p n c;go_wp2_with fail
 go_loopg [10] A.length (λmm ks wr=> ∃(k:Nat),ks= .int .i64 k/\k<=A.length/\k+mm<=A.length/\A.length<=k+mm/\B_ w1 wr/\Hid (∀i,i<k->cL cs (cC ps i) (A.getD i 0)=true))
 case atStart=>exact⟨0,rfl,by omega,by omega,by omega,cq _ _,λi h=>absurd h (by omega)⟩
 case round=>
  obtain⟨k,rfl,L,M,O,q,F⟩:=hrel;have r:=y.trans q
  by_cases hlt:k<A.length
  .have D:(k:Int)<(A.length:Int):=by omega
   have E:=BtB.but H q (λ_ _ h=>h);obtain⟨g,rfl,C,J,d⟩:=aL E (by omega);have qk:=d _ _ (dR hlt);have l:=hid (d8 ap cp ps k wr.drew (BtB.but hP (r.trans (aD _ _)) (λ_ _ h=>h)));have j:=hid (qn b cs (cC ps k) (A.getD k 0) wr.drew hn (hT.but (r.trans (aD _ _))))
   have B:Hid ((cL cs (cC ps k) (A.getD k 0)=false->R=false)/\(cL cs (cC ps k) (A.getD k 0)=true-> ∀i,i<k+1->cL cs (cC ps i) (A.getD i 0)=true)):=by
    refine hid ⟨λh=>by rw[<-t.out];exact Du hlt h,λh i hi=> ?_⟩;obtain h'|h':=ju i k
    .exact F.out i h'
    .have:i=k:=by omega
     subst this;exact h
   clear d;revert j B qk l;generalize cC ps k=P;generalize A.getD k 0=Q;intro qk l j B;go_wp2_with fail;have a:B_ wr wr.drew:=aD _ _;refine dr (B_ wr) 10 ?_;refine cW [0,1,2,4,5,6,7] ?_
   iterate 7 (refine dt (v:=?_) rfl a ?_ ?_;rotate_left;(focus (intro wS h;have S:=(h.kc qk C);clear h;go_simp;try rfl));dsimp only[Act.put];try simp only[bW])
   refine aG (k:=3) rfl ?_;intro KS hKS;go_simp;refine l.out.mono ?_;rintro en wx ⟨rfl,f⟩;rw[f];clear f wx;refine hKS.out _ _ (λ_=>a) ?_;clear hKS KS;refine aG (k:=8) rfl ?_;intro KS hKS;go_simp;refine j.out.mono ?_;rintro en wx ⟨rfl,f⟩;rw[f];clear f wx;refine hKS.out _ _ (λ_=>a) ?_;clear hKS KS;refine aG (k:=9) rfl ?_;intro KS hKS;go_simp;refine hKS.out _ _ (λ_=>a) ?_;clear hKS KS;refine dg rfl ?_;have z:=q.trans a;have m:=B.out;clear B l j qk a;generalize wr.drew=wd at*
   cases hq:cL cs P Q with
   |false=>
    have e:R=false:=m.1 hq;subst e;clear m hq;go_wp2_with fail;go_ret;exact⟨y.trans z,rfl⟩
   |true=>
    have I:=hid (m.2 hq);clear m hq;go_wp2_with fail
    go_roundg (A.length-(k+1))
    case measure=>omega
    case rel=>exact⟨k+1,by simp,by omega,by omega,by omega,z,I⟩
  .have D: ¬(k:Int)<(A.length:Int):=by omega
   have e:R=true:=by rw[<-t.out];exact B0 (λi hi=>F.out i (by omega))
   subst e;go_wp2_with fail;go_ret;exact⟨r,rfl⟩
end
end
section
open Go Go.RowKit Sp
def jo (s:ByteArray) (cs:List Cls) (ns nl i:Nat) (bad:Bool):Except Nat (List Ins×Nat):=if bad=true then .error i else mD s cs ns nl i
theorem vA {s:ByteArray} {cs:List Cls} {ns nl i:Nat} {bad:Bool} {j:Nat} {bad':Bool} {Q:List Ins->Prop} (h:(bad'=false/\ ∃is,m6 s cs ns nl i bad= .ok (is,j)/\Q is)\/(bad'=true/\m6 s cs ns nl i bad= .error j)):
  ((tkP s 46 j bad').2=false/\ ∃is,jo s cs ns nl i bad= .ok (is,(tkP s 46 j bad').1)/\Q is)\/((tkP s 46 j bad').2=true/\jo s cs ns nl i bad= .error (tkP s 46 j bad').1):=by
 unfold m6 at h;unfold jo
 cases bad with
 |true=>
  simp only[if_true]at h⊢;obtain⟨_,is,h,_⟩ | ⟨rfl,h⟩:=h
  .cases h
  .cases h
   rw[fN (Or.inl rfl)];exact Or.inr ⟨rfl,rfl⟩
 |false=>
  simp only[dx,if_false]at h⊢;unfold mD;obtain⟨rfl,is,h,a⟩ | ⟨rfl,h⟩:=h
  .rw[h];simp only
   by_cases hp:pk s j=46
   .rw[mV hp,if_pos (by rw[hp];rfl)];exact Or.inl ⟨rfl,is,rfl,a⟩
   .rw[fN (Or.inr hp),if_neg (λh=>hp ((u8n (by decide)).1 h))];exact Or.inr ⟨rfl,rfl⟩
  .rw[h,fN (Or.inl rfl)];exact Or.inr ⟨rfl,rfl⟩
structure BdN (w:World) (base:Nat) (gs:List Sig) (X:bK) (b:Bod):Prop where
 cls:X.cls=(aR gs b).cls
 meth:X.meth=(aR gs b).meth
 ans:X.ans=(aR gs b).ans
 loc:X.zy=b.zy
 its:mB w base X.items b.code
def jp (w:World) (base:Nat) (gs:List Sig) (bs:List bK) (BS:List Bod):Prop:=bs.length=BS.length/\ ∀(k:Nat) X b,bs[k]?=some X->BS[k]?=some b->BdN w base gs X b
theorem jp.nil (w:World) (base:Nat) (gs:List Sig):jp w base gs [] []:=⟨rfl,λk X b h=>by simp at h⟩
theorem jp.snoc {w:World} {base:Nat} {gs:List Sig} {bs:List bK} {BS:List Bod} {X:bK} {b:Bod} (h:jp w base gs bs BS) (hx:BdN w base gs X b):jp w base gs (bs++ [X]) (BS++ [b]):=by
 refine⟨by simp[h.1],λk Y c hY hc=> ?_⟩;obtain hk|hk:=ju k bs.length
 .rw[eQ hk]at hY;rw[eQ (by rw[<-h.1];exact hk)]at hc;exact h.2 k Y c hY hc
 .rw[gG hk]at hY;rw[gG (by rw[<-h.1];exact hk),<-h.1]at hc
  cases hd:k-bs.length with
  |zero=>rw[hd]at hY hc;simp at hY hc;subst hY hc;exact hx
  |succ d=>rw[hd]at hY;simp at hY
theorem jp.heads {w:World} {base:Nat} {gs:List Sig} {bs:List bK} {BS:List Bod} (h:jp w base gs bs BS):bs.map lw=(BS.map (aR gs)).map lw:=by
 apply List.ext_getElem?
 intro k;simp only[cg];obtain hk|hk:=ju k bs.length
 .have a:k<BS.length:=by rw[<-h.1];exact hk
  have b:=h.2 k _ _ (aM hk) (aM a);rw[aM hk,aM a];simp[lw,b.cls,b.meth]
 .rw[List.getElem?_eq_none hk,List.getElem?_eq_none (by rw[<-h.1];exact hk)]
  rfl
theorem jp.but {F:Nat->Prop} {w w':World} {base:Nat} {gs:List Sig} {bs:List bK} {BS:List Bod} (h:jp w base gs bs BS) (hb:But F w w') (hf: ∀g cur,w.heap[g]?=some (.cells cur 3)->base<=g-> ¬F g):jp w' base gs bs BS:=
 ⟨h.1,λk X b hX hB=>by
  have a:=h.2 k X b hX hB
  exact⟨a.cls,a.meth,a.ans,a.loc,a.its.len,λq y x hy hx=>by
   obtain⟨c,d,e,f,i⟩:=a.its.at' q y x hy hx;exact⟨c,d,e,f,bz i hb hf⟩⟩⟩
theorem jp.mono {w:World} {base base':Nat} {gs:List Sig} {bs:List bK} {BS:List Bod} (h:jp w base gs bs BS) (hb:base'<=base):jp w base' gs bs BS:=
 ⟨h.1,λk X b hX hB=>by
  have a:=h.2 k X b hX hB;exact⟨a.cls,a.meth,a.ans,a.loc,a.its.mono hb⟩⟩
def xE (Gd:Prop) (s:ByteArray) (cs:List Cls) (gs:List Sig) (R:Except Nat (List Bod×Nat)) (w:World) (base mm:Nat) (bs:List bK) (j:Nat) (bad:Bool):Prop:=
 (bad=false/\Gd/\ ∃BS,jp w base gs bs BS/\(∀b∈BS,hU b)/\BS.length+mm=6/\kG s cs gs mm BS j=R)\/(bad=true/\R= .error j)
section
variable {Gd:Prop} {s:ByteArray} {cs:List Cls} {gs:List Sig} {R:Except Nat (List Bod×Nat)} {w:World} {base:Nat}
theorem An {k:Nat} {BS:List Bod} {i:Nat} (h:(pk s i).toNat≠59):kG s cs gs (k+1) BS i=match gP s cs.length gs BS i with
  | .error j=> .error j
  | .ok ((x,m,t),p)=>
   match mD s cs gs.length (t.length+2) p with
   | .error q=> .error q
   | .ok (is,q)=>kG s cs gs k (BS++ [⟨x,m,UInt8.ofNat (65+x)::jc gs m::t,is⟩]) q:=by
 unfold gP;rw[kG,if_neg h]
 cases jb s cs.length i with
 |error j=>rfl
 |ok y=>
  obtain⟨x,j⟩:=y;simp only
  cases gE s gs.length j with
  |error l=>rfl
  |ok z=>
   obtain⟨m,l⟩:=z;simp only
   split
   .rfl
   .cases tys s cs.length 58 3 [] l with
    |error p=>rfl
    |ok t=>
     obtain⟨t,p⟩:=t;simp only
     cases mD s cs gs.length (t.length+2) p<;>rfl
theorem xE.fin {mm:Nat} {bs:List bK} {j:Nat} {bad:Bool} (h:xE Gd s cs gs R w base mm bs j bad) (hx: ¬bs.length<6\/(!bad&& !decide (pk s j=59))=false):
  ((tkP s 59 j bad).2=false/\Gd/\ ∃BS,R= .ok (BS,(tkP s 59 j bad).1)/\jp w base gs bs BS/\ ∀b∈BS,hU b)\/((tkP s 59 j bad).2=true/\R= .error (tkP s 59 j bad).1):=by
 obtain⟨rfl,e,BS,c,a,f,d⟩ | ⟨rfl,a⟩:=h
 .by_cases hp:pk s j=59
  .left
   rw[mV hp];refine⟨rfl,e,BS,?_,c,a⟩;rw[<-d]
   cases mm<;>simp[kG,hp]
  .right
   rw[fN (Or.inr hp)];refine⟨rfl,?_⟩
   have hm:mm=0:=by
    obtain h|h:=hx
    .rw[c.1]at h;omega
    .simp[hp]at h
   subst hm;rw[<-d];have:(pk s j).toNat≠59:=λh=>hp ((u8n (by decide)).1 h)
   simp[kG,this]
 .right
  rw[fN (Or.inl rfl)];exact⟨rfl,a⟩
theorem xE.next {mm:Nat} {bs:List bK} {j:Nat} (h:xE Gd s cs gs R w base mm bs j false) (hnc:cs.length<=4) (hl:bs.length<6) (hp:pk s j≠59):
  Gd/\ ∃BS,jp w base gs bs BS/\(∀b∈BS,hU b)/\BS.length<=6/\ ∀c m r l i a,((a=false/\ ∃x t,gP s cs.length gs BS j= .ok ((x,m,t),i)/\c=UInt8.ofNat (65+x)/\x<cs.length/\m<gs.length/\r=(dC gs m).ret/\l=c::(dC gs m).arg::t)\/(a=true/\gP s cs.length gs BS j= .error i))->
   ∀its w' j2 d,jp w' base gs bs BS->((d=false/\ ∃is,jo s cs gs.length l.length i a= .ok (is,j2)/\mB w' base its is)\/(d=true/\jo s cs gs.length l.length i a= .error j2))->
   ∃m',m'<mm/\xE Gd s cs gs R w' base m' (bs++ [⟨c,m,r,l,its⟩]) j2 d:=by
 obtain⟨_,A,BS,y,z,G,e⟩ | ⟨h,_⟩:=h
 .have E:BS.length<6:=by rw[y.1]at hl;exact hl
  refine⟨A,BS,y,z,by omega,?_⟩;intro c m r l i a D its w' j2 d p hc;obtain⟨f,rfl⟩: ∃f,mm=f+1:=⟨mm-1,by omega⟩;have n:(pk s j).toNat≠59:=λh=>hp ((u8n (by decide)).1 h)
  rw[An n]at e;obtain⟨rfl,x,t,k,q,F,B,C,v⟩ | ⟨rfl,k⟩:=D
  .rw[k]at e;simp only at e;unfold jo at hc;simp only[dx,if_false]at hc;rw[show l.length=t.length+2 from by rw[v];rfl]at hc;obtain⟨rfl,is,c1,c2⟩ | ⟨rfl,c1⟩:=hc
   .rw[c1]at e;have g: ¬((x:Int)<0):=by omega
    refine⟨f,by omega,Or.inl ⟨rfl,A,BS++ [⟨x,m,UInt8.ofNat (65+x)::jc gs m::t,is⟩],p.snoc ⟨?_,?_,?_,?_,c2⟩,?_,by simp;omega,e⟩⟩
    .simp[aR,g,q]
    .simp[aR]
    .simp[aR,g,C]
    .simp[v,q,rZ B]
    .intro b hb;obtain hb|hb:=gH hb
     .exact z b hb
     .simp at hb;subst hb;exact⟨by simp,by simp;omega,by simp⟩
   .rw[c1]at e;exact⟨0,by omega,Or.inr ⟨rfl,e.symm⟩⟩
  .rw[k]at e;simp only at e;unfold jo at hc;simp only[if_true]at hc;obtain⟨_,is,c1,_⟩ | ⟨rfl,c1⟩:=hc
   .cases c1
   .cases c1
    exact⟨0,by omega,Or.inr ⟨rfl,e.symm⟩⟩
 .cases h
end
structure eS (w:World) (b:Nat) (im:Img):Prop where
 cls:TxC w b (im.zq.map toX)
 met:TxM w b im.zx
 bod: ∃bs,TxB w b bs/\jp w 0 im.zx bs im.zj
theorem Ao {s:ByteArray} {SC:List Cls} {n:Nat} {ms:List Sig} {cs:List bP} {bs:List bK} {l:L_} {its:List XIt} {w:World} {base:Nat} {j0 j1 j2 j3 j4:Nat} {b0 b1 b2 b3 b4:Bool} {R:Except Nat (List Bod×Nat)}
  (hcls:(b0=false/\ ∃SC',fw s 4 [] 0= .ok (SC',j0)/\SC'=SC/\cs=SC.map toX/\WfC SC)\/(b0=true/\fw s 4 [] 0= .error j0)) (hn:SC.length=n)
  (hsig:(b1=false/\nP s n j0 b0= .ok (ms,j1))\/(b1=true/\nP s n j0 b0= .error j1))
  (hR:(if b1=true then .error j1 else kG s SC ms 6 [] j1)=R)
  (hbod:(b2=false/\(b1=false)/\ ∃BS,R= .ok (BS,j2)/\jp w base ms bs BS/\ ∀b∈BS,hU b)\/(b2=true/\R= .error j2))
  (hmain:(b3=false/\fR s n 58 3 j2 b2= .ok (l,j3))\/(b3=true/\fR s n 58 3 j2 b2= .error j3))
  (hcode:(b4=false/\ ∃is,jo s SC ms.length l.length j3 b3= .ok (is,j4)/\mB w base its is)\/(b4=true/\jo s SC ms.length l.length j3 b3= .error j4)):
  ((b4||decide (j4<s.size))=true/\gJ s= .error j4)\/((b4||decide (j4<s.size))=false/\ ∃im,gJ s= .ok im/\im.zq=SC/\cs=SC.map toX/\im.zx=ms/\jp w base ms (bs++ [⟨45,0,105,l,its⟩]) im.zj):=by
 unfold gJ;obtain⟨rfl,SC',hc,rfl,e,g⟩ | ⟨rfl,hc⟩:=hcls
 .rw[hc];simp only;unfold nP at hsig;simp only[dx,if_false]at hsig;rw[hn];obtain⟨rfl,c⟩ | ⟨rfl,c⟩:=hsig
  .rw[c];simp only;simp only[dx,if_false]at hR;rw[hR];obtain⟨rfl,_,BS,hb,d,_⟩ | ⟨rfl,hb⟩:=hbod
   .rw[hb];simp only;unfold fR at hmain;simp only[dx,if_false]at hmain;obtain⟨rfl,hm⟩ | ⟨rfl,hm⟩:=hmain
    .rw[hm];simp only;unfold jo at hcode;simp only[dx,if_false]at hcode;obtain⟨rfl,is,a,f⟩ | ⟨rfl,a⟩:=hcode
     .rw[a];simp only
      by_cases hlt:j4<s.size
      .left
       rw[if_pos hlt];exact⟨by simp[hlt],rfl⟩
      .right
       rw[if_neg hlt];refine⟨by simp[hlt],_,rfl,rfl,e,rfl,?_⟩;exact d.snoc ⟨by simp[aR],by simp[aR],by simp[aR],rfl,f⟩
     .rw[a];exact Or.inl ⟨rfl,rfl⟩
    .rw[hm];unfold jo at hcode;simp only[if_true]at hcode;obtain⟨_,is,a,_⟩ | ⟨rfl,a⟩:=hcode
     .cases a
     .cases a
      exact Or.inl ⟨rfl,rfl⟩
   .rw[hb];unfold fR at hmain;simp only[if_true]at hmain;obtain⟨_,hm⟩ | ⟨rfl,hm⟩:=hmain
    .cases hm
    .cases hm
     unfold jo at hcode;simp only[if_true]at hcode;obtain⟨_,is,a,_⟩ | ⟨rfl,a⟩:=hcode
     .cases a
     .cases a
      exact Or.inl ⟨rfl,rfl⟩
  .rw[c];simp only[if_true]at hR;subst hR;obtain⟨_,h,_⟩ | ⟨rfl,hb⟩:=hbod
   .cases h
   .cases hb
    unfold fR at hmain;simp only[if_true]at hmain;obtain⟨_,hm⟩ | ⟨rfl,hm⟩:=hmain
    .cases hm
    .cases hm
     unfold jo at hcode;simp only[if_true]at hcode;obtain⟨_,is,a,_⟩ | ⟨rfl,a⟩:=hcode
     .cases a
     .cases a
      exact Or.inl ⟨rfl,rfl⟩
 .rw[hc];unfold nP at hsig;simp only[if_true]at hsig;obtain⟨_,h⟩ | ⟨rfl,c⟩:=hsig
  .cases h
  .cases c
   simp only[if_true]at hR;subst hR;obtain⟨_,h,_⟩ | ⟨rfl,hb⟩:=hbod
   .cases h
   .cases hb
    unfold fR at hmain;simp only[if_true]at hmain;obtain⟨_,hm⟩ | ⟨rfl,hm⟩:=hmain
    .cases hm
    .cases hm
     unfold jo at hcode;simp only[if_true]at hcode;obtain⟨_,is,a,_⟩ | ⟨rfl,a⟩:=hcode
     .cases a
     .cases a
      exact Or.inl ⟨rfl,rfl⟩
end
section
open Go Go.RowKit Sp
attribute [local go_sem ↓] eF eG
def B1 (s:ByteArray) (SC:List Cls) (ms:List Sig) (cs:List bP) (w:World) (base:Nat) (bs:List bK) (j:Nat) (bad:Bool):Prop:=
 ((bad||decide (j<s.size))=true/\gJ s= .error j)\/((bad||decide (j<s.size))=false/\ ∃im,gJ s= .ok im/\im.zq=SC/\cs=SC.map toX/\im.zx=ms/\jp w base ms bs im.zj)
theorem xF (s:ByteArray) (w:World) (hs:s.size<=2000):
  Calls prog 90 #[.string s] w λen w'=>B_ w w'/\ ∃g p,en= .returned (.tuple #[.pointer (some ⟨g,0,none⟩),.int .i64 p])/\w.heap.size<=g/\
   ((∃j,gJ s= .error j/\p=(j:Int)/\w'.heap[g]?=some (.cells #[S_,S_,S_] 109))\/(p= -1/\ ∃im,gJ s= .ok im/\eS w' g im)):=by
 go_in
 go_wp2_with fail;refine(uZ s w).mono ?_;rintro en w0 ⟨rfl,l4,q6,m3⟩;have I:w.heap.size<w.heap.size+1:=by omega
 go_wp2_with fail;refine(kr w.heap.size (w.heap.size+1) s _ _ w0 hs m3 I (by omega)).mono ?_;rintro en w1 ⟨rfl,O,v0,cs,j0,b0,m4,g2,hcl,n0⟩;obtain⟨a0,cap0,p6⟩:=g2.len;subst p6;have q7:=O.size;have b9:But (λk=>k=w.heap.size\/w.heap.size+1<=k) w w1:=(l4.mono (λ_ _ h=>h.elim)).trans O;clear l4 O m3;go_wp2_with fail;refine(kt w.heap.size (w.heap.size+1) s j0 b0 a0 cs.length cap0 _ w1 hs hcl m4 I (by omega)).mono ?_;rintro en w2 ⟨rfl,e7,v1,ms,j1,b1,m5,m2,i6,i1⟩;obtain⟨a1,cap1,p8⟩:=aA m2;subst p8;have l6:=g2.but e7 (λg e cur _ _ n h=>by omega);have q8:=e7.size;have f7:But (λk=>k=w.heap.size\/w.heap.size+1<=k) w w2:=b9.next e7 (λ_ _ h=>Or.inl h)
 clear e7 m4 g2 b9
 --the zq,if there are any
 obtain⟨SC,f0,b8⟩: ∃SC:List Cls,SC.length=cs.length/\((b0=false/\ ∃SC',fw s 4 [] 0= .ok (SC',j0)/\SC'=SC/\cs=SC.map toX/\WfC SC)\/(b0=true/\fw s 4 [] 0= .error j0)):=by
  obtain⟨h1,SC,C,S,h4⟩ |h:=n0
  .exact⟨SC,by rw[S,bZ],Or.inl ⟨h1,SC,C,rfl,S,h4⟩⟩
  .exact⟨List.replicate cs.length ⟨-1,[]⟩,by simp,Or.inr h⟩
 have a3:b1=false->cs=SC.map toX/\WfC SC:=by
  intro h;obtain⟨_,C⟩ | ⟨C,_⟩:=i1
  .obtain⟨_,_,_,_,S⟩ | ⟨S,_⟩:=b8
   .exact S
   .rw[S]at C;simp[nP]at C
  .rw[h]at C;cases C
 obtain⟨R,e9⟩: ∃R,(if b1=true then .error j1 else kG s SC ms 6 [] j1)=R:=⟨_,rfl⟩
 have M:xE (b1=false) s SC ms R w2 (w.heap.size+1) 6 [] j1 b1:=by
  cases b1 with
  |true=>exact Or.inr ⟨rfl,e9.symm⟩
  |false=>exact Or.inl ⟨rfl,rfl,[],jp.nil _ _ _,by simp,rfl,e9⟩
 have f6:=hid M;have f2:=hid a3;have L:=hid (λwz bs l X j2 j3 j4 b2 b3 b4=>Ao (its:=X) (w:=wz) (base:=w.heap.size+1) (bs:=bs) (l:=l) (j2:=j2) (j3:=j3) (j4:=j4) (b2:=b2) (b3:=b3) (b4:=b4) b8 f0 i1 e9);have o2:=hid f0;rw[<-f0]at m5 l6 hcl;clear M a3 n0 i1 b8 e9 f0;go_wp2_with fail
 go_loopg [] 7 (λmm wr=> ∃(a2:Option Addr) (t j:Nat) (bad' mn:Bool) (bs:List bK) (x0 x1 x2 x3 x4:Value),w.heap.size+1<=wr.heap.size/\But (λk=>k=w.heap.size\/w.heap.size+1<=k) w wr/\XrB wr w.heap.size s j bad' (.slice a0 SC.length cap0) (.slice a1 ms.length cap1) ⟨.slice a2 bs.length t,x0,x1,x2,x3,x4,mn⟩/\TcV wr (w.heap.size+1) (.slice a0 SC.length cap0) cs/\TmV wr (w.heap.size+1) (.slice a1 ms.length cap1) ms/\TbV wr (w.heap.size+1) (.slice a2 bs.length t) bs/\Hid ((mn=false/\bs.length<=6/\ ∃m1,mm=m1+1/\xE (b1=false) s SC ms R wr (w.heap.size+1) m1 bs j bad')\/(mn=true/\B1 s SC ms cs wr (w.heap.size+1) bs j bad')))
 case atStart=>exact⟨none,0,j1,b1,false,[],_,_,_,_,_,by omega,f7,m5,l6,m2,⟨[],jd _ _ _ _,rfl,by simp⟩,hid (Or.inl ⟨rfl,by simp,6,rfl,f6.out⟩)⟩
 case round=>
  obtain⟨a2,t,j,bad',mn,bs,x0,x1,x2,x3,x4,q9,g1,P,g5,e8,f1,e5⟩:=hrel
  by_cases hstop:mn=true\/bad'=true
  .have e2:B1 s SC ms cs wr (w.heap.size+1) bs j bad':=by
    obtain⟨h1,_,m1,_,hb⟩ | ⟨_,h⟩:=e5.out
    .have p0:bad'=true:=by
      obtain h|h:=hstop
      .rw[h1]at h;cases h
      .exact h
     subst p0;obtain⟨h,_⟩ | ⟨_,h⟩:=hb
     .cases h
     .have:=L.out wr bs [] [] j j j true true true (Or.inr ⟨rfl,h⟩) (Or.inr ⟨rfl,by simp[fR]⟩) (Or.inr ⟨rfl,by simp[jo]⟩);obtain⟨_,h⟩ | ⟨h,_⟩:=this
      .exact Or.inl ⟨by simp,h⟩
      .simp at h
    .exact h
   have HF:=hid e2;have z:=hid (lP w.heap.size s j bad' _ _ _ wr P hstop);clear e2 e5 L f6 f2;go_wp2_with fail;refine z.out.mono ?_;rintro en w3 ⟨rfl,k,rfl⟩;clear z hstop;go_wp2_with fail;refine(ph w.heap.size s j bad' _ _ _ (wr.drewN k) (P.drewN k)).mono ?_;rintro en G ⟨f,n2⟩;have D:B_ w G:=((g1.next (bp (λ_=>False) wr k) (λ_ _ h=>h.elim)).next f (λ_ _ h=>h.elim)).mono (λk hk h=>by omega);have n7:w.heap.size<=(wr.drewN k).heap.size:=by show w.heap.size<=wr.heap.size;omega
   have c6:B_ wr G:=(bp _ _ _).trans f;unfold Ex at n2;obtain⟨hb,g,n,rfl,p1⟩ | ⟨hb,rfl⟩:=n2
   .have f5:Hid (gJ s= .error j):=by
     obtain⟨_,h⟩ | ⟨h,_⟩:=HF.out
     .exact hid h
     .rw[hb]at h;cases h
    clear HF;go_wp2_with fail;exact cU (v:= .tuple #[.pointer (some ⟨g,0,none⟩),.int .i64 j]) (by simp[results,results90,go_sem]) rfl ⟨D,g,j,rfl,by omega,Or.inl ⟨j,f5.out,rfl,p1⟩⟩
   .have o6:=P.lt
    have f5:Hid (∃im,gJ s= .ok im/\eS G w.heap.size im):=by
     obtain⟨h,_⟩ | ⟨_,im,p5,i3,i4,e3,i5⟩:=HF.out
     .rw[hb]at h;cases h
     .have H:=g5.but c6 (λ_ _ _ _ _ _ h=>h);have d6:=e8.but c6 (λ_ _ _ _ _ _ h=>h);have F:=f1.but c6 (λ_ _ _ _ _ _ h=>h);have A:=P.but c6 (λh=>h);refine hid ⟨im,p5,?_,?_,?_⟩
      .rw[i3,<-i4];exact H.tx A.c0 A.lt
      .rw[e3];exact d6.tx A.c1 A.lt
      .exact⟨bs,F.tx A.c2 A.lt,(e3.symm▸i5.but c6 (λ_ _ _ _ h=>h)).mono (Nat.zero_le _)⟩
    clear HF;go_wp2_with fail;exact cU (v:= .tuple #[.pointer (some ⟨w.heap.size,0,none⟩),.int .i64 (-1)]) (by simp[results,results90,go_sem]) rfl ⟨D,w.heap.size,-1,rfl,bG _,Or.inr ⟨rfl,f5.out⟩⟩
  .have p4:mn=false:=by cases mn;rfl;exact absurd (Or.inl rfl) hstop
   have o5:bad'=false:=by cases bad';rfl;exact absurd (Or.inr rfl) hstop
   subst p4 o5;obtain⟨_,q3,m1,q5,O⟩:=e5.out.resolve_right (λh=>by cases h.1);have e4:=hid O;clear O;clear hstop e5 f6
   by_cases hgo:bs.length<6/\pk s j≠59
   .obtain⟨n3,i7⟩:=hgo;obtain⟨hG,BS,f8,n5,o4,n4⟩:=e4.out.next hcl n3 i7;obtain⟨e1,n6⟩:=f2.out hG;have l3:=hid n4;have o0:=hid e1;have o3:=hid n6;have z:=hid (lQ w.heap.size (w.heap.size+1) s j a0 a2 SC.length cap0 bs.length t _ x0 x1 x2 x3 x4 wr ms BS bs f8.heads hcl i6 o4 (λb hb=>Or.inr (n5 b hb)) hs P e8 f1 I n3 i7);have n8:=hid f8;clear i7 n4 f8 n5 e1 n6 e4;go_wp2_with fail;refine z.out.mono ?_;rintro en G ⟨f,rfl,f3⟩;obtain⟨c,m,r,al,capl,lo,j4,B,A,g7,p3,F⟩:=f3;clear z;have H:=g5.but f (λg e cur _ _ n h=>by omega);have d6:=e8.but f (λg e cur _ _ n h=>by omega);have b6:=f1.but f (λg e cur _ _ n h=>by omega)
    have D:But (λk=>k=w.heap.size\/w.heap.size+1<=k) w G:=g1.next f (λ_ _ h=>Or.inl h);have n7:=f.size;have E:BtB G (w.heap.size+1) (.slice al lo.length capl) lo:=dh g7 (by omega);have l0:=hid (l3.out c m r lo j4 B F);clear F l3;have Z:=hid (qL w.heap.size (w.heap.size+1) s j4 B SC a0 a1 al ms.length lo.length cap0 cap1 capl _ G (Or.inr ⟨o3.out,by rw[<-o0.out];exact H⟩) hcl i6 (by omega) hs A rfl I);go_wp2_with fail;refine Z.out.mono ?_;rintro en w5 ⟨i,f4⟩;obtain⟨ai,capi,items,j5,q,rfl,h9,g6,p2,e0⟩:=f4;have Y:=hid (vA e0);have g3:=H.but i (λg e cur _ _ n h=>by omega);have h7:=d6.but i (λg e cur _ _ n h=>by omega)
    have d:=b6.but i (λg e cur _ _ n h=>by omega);have h0:=E.but i (λg n h=>by have:=aC E g n;omega);have q0:=i.size;clear e0 Z;have T:=hid (iV w.heap.size (w.heap.size+1) G.heap.size s j5 q false _ _ _ a2 t bs ⟨c,m,r,lo,items⟩ al ai capl capi w5 (by omega) (by show items.length<=100;omega) hs h9 d h0 g6 I (by omega) (by omega));go_wp2_with fail;refine T.out.mono ?_;rintro en w6 ⟨rfl,a,a6,a4,q2,i0,b7⟩;clear T
    have a7:=(λ(is:List Ins) (h:mB w5 G.heap.size items is)=>(⟨h.len,λk y x hy hx=>by
      obtain⟨z1,z2,z3,z4,z5⟩:=h.at' k y x hy hx
      exact⟨z1,z2,z3,z4,bz (dh z5 (by omega)) a (λg cur hh n h=>by
       obtain h|h:=h
       .omega
       .exact d.apart hh (by decide) h)⟩⟩:mB w6 (w.heap.size+1) items is))
    have g0:=(n8.out.but f (λg cur _ n h=>by omega)).but i (λg cur _ n h=>by omega)
    obtain⟨m',q4,l5⟩:=l0.out items w6 (tkP s 46 j5 q).1 (tkP s 46 j5 q).2 (g0.but a (λg cur hh n h=>by
     obtain h|h:=h
     .omega
     .exact d.apart hh (by decide) h)) (by
     obtain⟨h1,is,C,S⟩ |h:=Y.out
     .exact Or.inl ⟨h1,is,C,a7 is S⟩
     .exact Or.inr h)
    have n9:=hid l5;have i2:=d.ge
    have g4:=g3.but a (λg e cur hh Q n h=>by
     obtain h|h:=h
     .omega
     .exact d.apart hh (by rcases Q with Q|Q<;>(rw[Q];decide)) h)
    have h8:=h7.but a (λg e cur hh Q n h=>by
     obtain h|h:=h
     .omega
     .exact d.apart hh (by rw[Q];decide) h)
    have a5:But (λk=>k=w.heap.size\/w.heap.size+1<=k) w w6:=(D.next i (λ_ _ h=>Or.inl h)).next a (λk hk h=>by
     obtain h|h:=h
     .exact Or.inl h
     .exact Or.inr (i2 k h))
    have q1:=a.size;clear l5 l0 Y;go_wp2_with fail
    go_roundg (m'+1)
    case measure=>omega
    case rel=>exact⟨a6,a4,_,_,false,bs++ [⟨c,m,r,lo,items⟩],_,_,_,_,_,by omega,a5,i0,g4,h8,b7,hid (Or.inl ⟨rfl,by simp;omega,m',rfl,n9.out⟩)⟩
   .have J: ¬bs.length<6\/pk s j=59:=by
     by_cases h6:bs.length<6
     .right
      by_cases hp:pk s j=59
      .exact hp
      .exact absurd ⟨h6,hp⟩ hgo
     .exact Or.inl h6
    have e6:=hid (e4.out.fin (J.imp id (λh=>by simp[h])));have z:=hid (lR w.heap.size s j a0 a2 SC.length cap0 bs.length t _ x0 x1 x2 x3 x4 wr hcl hs P J);clear J hgo e4;obtain⟨TK,n1⟩: ∃TK,tkP s 59 j false=TK:=⟨_,rfl⟩;rw[n1]at e6 z;obtain⟨j2,b2⟩:=TK;dsimp only at e6 z;have j7:=hid (λwz l X j3 j4 b3 b4 hbz=>L.out wz bs l X j2 j3 j4 b2 b3 b4 hbz)
    have k9:Hid (b2=true\/b1=false):=by
     obtain⟨_,h,_⟩ | ⟨h,_⟩:=e6.out
     .exact hid (Or.inr h)
     .exact hid (Or.inl h)
    clear n1 L;go_wp2_with fail;refine z.out.mono ?_;rintro en G ⟨f,rfl,f3⟩;obtain⟨al,capl,lo,j4,B,A,g7,p3,F⟩:=f3;clear z;have H:=g5.but f (λg e cur _ _ n h=>by omega);have d6:=e8.but f (λg e cur _ _ n h=>by omega);have b6:=f1.but f (λg e cur _ _ n h=>by omega);have D:But (λk=>k=w.heap.size\/w.heap.size+1<=k) w G:=g1.next f (λ_ _ h=>Or.inl h);have n7:=f.size;have E:BtB G (w.heap.size+1) (.slice al lo.length capl) lo:=dh g7 (by omega);have a8:=F;rw[o2.out]at a8;have k0:=hid (λwz X j5 b5 hbz=>j7.out wz lo X j4 j5 B b5 hbz a8)
    have m0:B=true\/(WfC SC/\TcV G (w.heap.size+1) (.slice a0 SC.length cap0) (SC.map toX)):=by
     obtain h|h:=k9.out
     .left
      obtain⟨_,C⟩ | ⟨C,_⟩:=F
      .rw[h]at C;simp[fR]at C
      .exact C
     .obtain⟨h1,C⟩:=f2.out h;exact Or.inr ⟨C,by rw[<-h1];exact H⟩
    have Z:=hid (qL w.heap.size (w.heap.size+1) s j4 B SC a0 a1 al ms.length lo.length cap0 cap1 capl _ G m0 hcl i6 (by omega) hs A rfl I);clear F a8 j7 k9 m0;go_wp2_with fail;refine Z.out.mono ?_;rintro en w5 ⟨i,f4⟩;obtain⟨ai,capi,items,j5,q,rfl,h9,g6,p2,e0⟩:=f4;have Y:=hid (vA e0);have g3:=H.but i (λg e cur _ _ n h=>by omega);have h7:=d6.but i (λg e cur _ _ n h=>by omega);have d:=b6.but i (λg e cur _ _ n h=>by omega);have h0:=E.but i (λg n h=>by have:=aC E g n;omega);have q0:=i.size;clear e0 Z;have T:=hid (iV w.heap.size (w.heap.size+1) G.heap.size s j5 q true _ _ _ a2 t bs ⟨45,0,105,lo,items⟩ al ai capl capi w5 (by omega) (by show items.length<=100;omega) hs h9 d h0 g6 I (by omega) (by omega))
    go_wp2_with fail;refine T.out.mono ?_;rintro en w6 ⟨rfl,a,a6,a4,q2,i0,b7⟩;clear T
    have o1:Hid (B1 s SC ms cs w6 (w.heap.size+1) (bs++ [⟨45,0,105,lo,items⟩]) (tkP s 46 j5 q).1 (tkP s 46 j5 q).2):=by
     have a7:=(λ(is:List Ins) (h:mB w5 G.heap.size items is)=>(⟨h.len,λk y x hy hx=>by
      obtain⟨z1,z2,z3,z4,z5⟩:=h.at' k y x hy hx
      exact⟨z1,z2,z3,z4,bz (dh z5 (by omega)) a (λg cur hh n h=>by
       obtain h|h:=h
       .omega
       .exact d.apart hh (by decide) h)⟩⟩:mB w6 (w.heap.size+1) items is))
     refine hid (k0.out w6 items _ _ ?_ ?_)
     .obtain⟨h1,C,BS,S,h4,h5⟩ |h:=e6.out
      .refine Or.inl ⟨h1,C,BS,S,?_,h5⟩;exact((h4.but f (λg cur _ n h=>by omega)).but i (λg cur _ n h=>by omega)).but a (λg cur hh n h=>by
     obtain h|h:=h
     .omega
     .exact d.apart hh (by decide) h)
      .exact Or.inr h
     .obtain⟨h1,is,C,S⟩ |h:=Y.out
      .exact Or.inl ⟨h1,is,C,a7 is S⟩
      .exact Or.inr h
    have i2:=d.ge
    have g4:=g3.but a (λg e cur hh Q n h=>by
     obtain h|h:=h
     .omega
     .exact d.apart hh (by rcases Q with Q|Q<;>(rw[Q];decide)) h)
    have h8:=h7.but a (λg e cur hh Q n h=>by
     obtain h|h:=h
     .omega
     .exact d.apart hh (by rw[Q];decide) h)
    have a5:But (λk=>k=w.heap.size\/w.heap.size+1<=k) w w6:=(D.next i (λ_ _ h=>Or.inl h)).next a (λk hk h=>by
     obtain h|h:=h
     .exact Or.inl h
     .exact Or.inr (i2 k h))
    have q1:=a.size;clear k0 Y;go_wp2_with fail
    go_roundg 0
    case measure=>omega
    case rel=>exact⟨a6,a4,_,_,true,bs++ [⟨45,0,105,lo,items⟩],_,_,_,_,_,by omega,a5,i0,g4,h8,b7,hid (Or.inr ⟨rfl,o1.out⟩)⟩
end
end Go.Proofs.YtpfkkmacakjmbaaGreatDoor
