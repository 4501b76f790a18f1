import Derived.Test.YtpfkkmacakjmbaaGreatDoorP24
set_option maxRecDepth 100000
set_option maxHeartbeats 6400000
set_option linter.all false
namespace Go.Proofs.YtpfkkmacakjmbaaGreatDoor
open Proofs.Tryz
section
open Go Go.RowKit Sp
attribute [local go_sem ↓] eY eZ
theorem uo (x:XIt) (ps:List Nat) (ty:L_) (ao:Option Addr) (ct:Nat) (w:World) (hl:ps.length<=3) (hps: ∀k∈ps,k<=100) (hP:w.ownsRow 0 3 1 (.slice x.pa x.pn x.pc) ps.length (gL ps)) (hT:BtB w 0 (.slice ao ty.length ct) ty):
  Calls prog 147 #[itV x,.slice ao ty.length ct] w λen w'=>B_ w w'/\ ∃a' c',en= .returned (.slice a' ps.length c')/\BtB w' w.heap.size (.slice a' ps.length c') (ps.map (cM ty)):=by
 obtain⟨i0,D,H,I,J⟩:=info_parts nN;obtain⟨pl,op,cl,nu,pa,pn,pc⟩:=x
 have G:pn=ps.length:=by
  obtain⟨a',c',h⟩:=ay hP;injection h
 subst G;unfold itV;dsimp only at hP⊢;have n:B_ w (w.alloc (.cells #[.int .i64 pl,.int .u8 op.toNat,.int .u8 cl.toNat,.int .i64 nu,.slice pa ps.length pc] 219)):=aa _ _ _;have e:(w.alloc (.cells #[.int .i64 pl,.int .u8 op.toNat,.int .u8 cl.toNat,.int .i64 nu,.slice pa ps.length pc] 219)).heap[w.heap.size]?=some (.cells #[.int .i64 pl,.int .u8 op.toNat,.int .u8 cl.toNat,.int .i64 nu,.slice pa ps.length pc] 219):=aO _ _
 go_in
 go_wp2_with fail;have L:(w.alloc (.cells #[.int .i64 pl,.int .u8 op.toNat,.int .u8 cl.toNat,.int .i64 nu,.slice pa ps.length pc] 219)).heap.size=w.heap.size+1:=by simp
 generalize (w.alloc (.cells #[.int .i64 pl,.int .u8 op.toNat,.int .u8 cl.toNat,.int .i64 nu,.slice pa ps.length pc] 219))=w1 at*;have O:=BtB.empty w1;rw[L]at O;have S:=n.size;have A:B_ w (w1.alloc (.cells #[] 5)):=n.trans (aa _ _ _)
 go_loopg [5,6] ps.length (λmm vs ks wr=> ∃(a':Option Addr) (c' k:Nat) (l:L_),vs= .slice a' k c'/\ks= .int .i64 k/\k<=ps.length/\k+mm<=ps.length/\ps.length<=k+mm/\wr.ownsRow (w.heap.size+1) 5 1 (.slice a' k c') k (a7 l)/\B_ w wr/\w.heap.size+1<=wr.heap.size/\wr.heap[w.heap.size]?=some (.cells #[.int .i64 pl,.int .u8 op.toNat,.int .u8 cl.toNat,.int .i64 nu,.slice pa ps.length pc] 219)/\Hid (l=(ps.take k).map (cM ty)))
 case atStart=>exact⟨_,0,0,[],rfl,rfl,by omega,by omega,by omega,O,A,by simp;omega,((aa (λ_=>False) w1 _).block _ (ae e) (λh=>h)).trans e,rfl⟩
 case round=>
  obtain⟨a',c',k,l,rfl,rfl,a1,a2,a3,c,b,a5,f,M⟩:=hrel;have q4:=ce4 f;have C:=ae f
  by_cases hlt:k<ps.length
  .have F:(k:Int)<(ps.length:Int):=by omega
   obtain⟨g,rfl,Z,a0,a⟩:=aE (ag hP b (λ_ _ h=>h)) (by omega);obtain⟨v,hv⟩: ∃v,ps[k]=v:=⟨_,rfl⟩;have qk:=a _ _ (qa (aG hlt));rw[hv]at qk;have m:=hid (d7 ao ct ty v wr (BtB.but hT b (λ_ _ h=>h)))
   have X:Hid (l++ [cM ty v]=(ps.take (k+1)).map (cM ty)):=by
    show _=_
    rw[M.out,List.take_add_one,aG hlt,hv];simp
   clear a hv;generalize cM ty v=z at*;go_wp2_with fail;refine m.out.mono ?_;rintro en wx ⟨rfl,s⟩;rw[s];clear s wx m;have r:=aw c;go_wp2_with (at_builtin;refine wpList_append_lies _ rfl _ _ _ rfl (w.heap.size+1) 5 i0 _ 1 1 (by kernel_rfl) D H I J rfl (by omega) _ k (a7 l) rfl (c.alloc _) ⟨wr.heap.size,0,none⟩ 1 1 [.int .u8 z.toNat] rfl rfl (iu (cs:=#[.int .u8 z.toNat]) (t:=5) (fr:=(0,0)) (aO wr _)) (by simp[Value.oneCell']) (by omega) (by unfold maxLen;omega) (by omega) (by simp;omega) (wr.heap.size+1) (by simp) ?_);intro gg cap3 T j i Y Q;have d:But (λk'=>(Value.slice a' k c').ownBlock=some k') wr T:=(aa _ _ _).trans (a8 i)
   have p:B_ w T:=b.next d (λk' hk' h=>absurd (r k' h) (by omega));have P:=ae e;have B:=(d.block _ C (λh=>absurd (r _ h) (by omega))).trans f;have a4:=d.size;clear q4 qk;go_wp2_with fail
   go_roundg (ps.length-(k+1))
   case measure=>omega
   case rel=>exact⟨some ⟨gg,0,none⟩,cap3,k+1,l++ [z],by simp,by simp,by omega,by omega,by omega,by rw[show a7 (l++ [z])=a7 l++ [.int .u8 z.toNat]from by simp[a7]];exact j,p,by omega,B,X⟩
  .have F: ¬(k:Int)<(ps.length:Int):=by omega
   have E:k=ps.length:=by omega
   subst E
   have q:BtB wr w.heap.size (.slice a' ps.length c') (ps.map (cM ty)):=by
    have y:=M.out;rw[List.take_length]at y;unfold BtB;rw[<-y,show l.length=ps.length from by rw[y];simp];exact ie c (by omega)
   go_wp2_with fail;exact eh (.slice a' ps.length c') results147 rfl rfl ⟨b,a',c',rfl,q⟩
def cP (cs:List cd) (ms:List Sig) (lo:L_) (c k:UInt8) (n:Nat):L_:=
 if c.toNat=105\/c.toNat=111 then [105]else if c.toNat=115 then [cM lo n]else aS cs ms c k n 45
def ez (cs:List cd) (ms:List Sig) (lo:L_) (c k:UInt8) (n:Nat) (ps:L_):UInt8:=
 if c.toNat=115\/c.toNat=112\/c.toNat=119\/c.toNat=111 then 105 else if c.toNat=44 then cM ps 1 else if c.toNat=105 then mN cs (cM ps 1) (cM ps 2)else bC cs ms c k n lo
section
variable (b:Nat) (cs:List cd) (ms:List Sig) (c0:UInt8) (m0:Nat) (r0:UInt8) (al ai:Option Addr) (capl ni capi:Nat) (lo:L_) (x:XIt) (w:World)
theorem As (hn:cs.length<=100) (hm:ms.length<=100) (hT:TxC w b cs) (hM:TxM w b ms) (hB:BtB w 0 (.slice al lo.length capl) lo):
  Calls prog 203 #[.pointer (some ⟨b,0,none⟩),hdV c0 m0 r0 (.slice al lo.length capl) (.slice ai ni capi),itV x] w λen w'=>B_ w w'/\ ∃v,en= .returned v/\BtB w' w.heap.size v (cP cs ms lo x.op x.cls x.num):=by
 obtain⟨pl,op,cl,nu,pa,pn,pc⟩:=x;unfold itV hdV;dsimp only;have a:B_ w ((w.alloc (.cells #[.int .u8 c0.toNat,.int .i64 m0,.int .u8 r0.toNat,.slice al lo.length capl,.slice ai ni capi] 115)).alloc (.cells #[.int .i64 pl,.int .u8 op.toNat,.int .u8 cl.toNat,.int .i64 nu,.slice pa pn pc] 219)):=(aa _ _ _).trans (aa _ _ _)
 by_cases h1:op.toNat=105\/op.toNat=111
 .rw[show cP cs ms lo op cl nu=[105]from by simp[cP,h1]];have e:=a.size;have c:=λW h=>BtB.lit W w.heap.size h [105] (by simp)
  obtain h|h:=h1
  .try (have d:((op.toNat:Int)==105)=false:=by rw[eu];omega)
   have d:((op.toNat:Int)==105)=true:=by rw[aX];omega
   clear h
   go_in
   go_wp2_with fail;refine eh (.slice (some ⟨w.heap.size+2,0,none⟩) 1 1) results203 rfl rfl ⟨a.trans (aa _ _ _),_,rfl,?_⟩;have i:=c ((w.alloc (.cells #[.int .u8 c0.toNat,.int .i64 m0,.int .u8 r0.toNat,.slice al lo.length capl,.slice ai ni capi] 115)).alloc (.cells #[.int .i64 pl,.int .u8 op.toNat,.int .u8 cl.toNat,.int .i64 nu,.slice pa pn pc] 219)) (by omega);simpa[a7]using i
  .try (have d:((op.toNat:Int)==105)=false:=by rw[eu];omega)
   have f:((op.toNat:Int)==111)=true:=by rw[aX];omega
   clear h
   go_in
   go_wp2_with fail;refine eh (.slice (some ⟨w.heap.size+2,0,none⟩) 1 1) results203 rfl rfl ⟨a.trans (aa _ _ _),_,rfl,?_⟩;have i:=c ((w.alloc (.cells #[.int .u8 c0.toNat,.int .i64 m0,.int .u8 r0.toNat,.slice al lo.length capl,.slice ai ni capi] 115)).alloc (.cells #[.int .i64 pl,.int .u8 op.toNat,.int .u8 cl.toNat,.int .i64 nu,.slice pa pn pc] 219)) (by omega);simpa[a7]using i
 .have d:=tf op.toNat 105 (by omega);have f:=tf op.toNat 111 (by omega)
  by_cases h2:op.toNat=115
  .rw[show cP cs ms lo op cl nu=[cM lo nu]from by simp[cP,h2]];have g:((op.toNat:Int)==115)=true:=by rw[aX];omega
   have j:=d7 al capl lo nu ((w.alloc (.cells #[.int .u8 c0.toNat,.int .i64 m0,.int .u8 r0.toNat,.slice al lo.length capl,.slice ai ni capi] 115)).alloc (.cells #[.int .i64 pl,.int .u8 op.toNat,.int .u8 cl.toNat,.int .i64 nu,.slice pa pn pc] 219)) (BtB.but hB a (λ_ _ h=>h));have l:=hid j;have e:=a.size;have c:=λW h=>BtB.lit W w.heap.size h [cM lo nu] (by simp)
   clear h1 h2 j;generalize cM lo nu=z at*
   go_in
   go_wp2_with fail;refine l.out.mono ?_;rintro en wx ⟨rfl,k⟩;rw[k];clear k wx;go_wp2_with fail;refine eh (.slice (some ⟨w.heap.size+2,0,none⟩) 1 1) results203 rfl rfl ⟨a.trans (aa _ _ _),_,rfl,?_⟩;have i:=c ((w.alloc (.cells #[.int .u8 c0.toNat,.int .i64 m0,.int .u8 r0.toNat,.slice al lo.length capl,.slice ai ni capi] 115)).alloc (.cells #[.int .i64 pl,.int .u8 op.toNat,.int .u8 cl.toNat,.int .i64 nu,.slice pa pn pc] 219)) (by omega);simpa[a7]using i
  .rw[show cP cs ms lo op cl nu=aS cs ms op cl nu 45 from by simp[cP,h1,h2]];have g:=tf op.toNat 115 (by omega);have m:=hid (xA b cs ms pl nu op cl 45 ((w.alloc (.cells #[.int .u8 c0.toNat,.int .i64 m0,.int .u8 r0.toNat,.slice al lo.length capl,.slice ai ni capi] 115)).alloc (.cells #[.int .i64 pl,.int .u8 op.toNat,.int .u8 cl.toNat,.int .i64 nu,.slice pa pn pc] 219)) (ap:=pa) (np:=pn) (cp:=pc) hn hm (hT.but a) (hM.but a));have e:=a.size;clear h1 h2
   go_in
   go_wp2_with fail;refine m.out.mono ?_;rintro en p ⟨n,v,rfl,hv⟩;go_wp2_with fail;exact eh (v) results203 rfl rfl ⟨a.trans n,v,rfl,ie hv e⟩
theorem vW (ap:Option Addr) (cp:Nat) (ps:L_) (hn:cs.length<=100) (hm:ms.length<=100) (hT:TxC w b cs) (hM:TxM w b ms) (hB:BtB w 0 (.slice al lo.length capl) lo) (hP:BtB w 0 (.slice ap ps.length cp) ps):
  Calls prog 149 #[.pointer (some ⟨b,0,none⟩),hdV c0 m0 r0 (.slice al lo.length capl) (.slice ai ni capi),itV x,.slice ap ps.length cp] w λen w'=>B_ w w'/\en= .returned (.int .u8 (ez cs ms lo x.op x.cls x.num ps).toNat):=by
 obtain⟨pl,op,cl,nu,pa,pn,pc⟩:=x;unfold itV hdV;dsimp only;have a:B_ w ((w.alloc (.cells #[.int .u8 c0.toNat,.int .i64 m0,.int .u8 r0.toNat,.slice al lo.length capl,.slice ai ni capi] 115)).alloc (.cells #[.int .i64 pl,.int .u8 op.toNat,.int .u8 cl.toNat,.int .i64 nu,.slice pa pn pc] 219)):=(aa _ _ _).trans (aa _ _ _);have g:=BtB.but hP a (λ_ _ h=>h)
 by_cases h1:op.toNat=115\/op.toNat=112\/op.toNat=119\/op.toNat=111
 .rw[show ez cs ms lo op cl nu ps=105 from by simp[ez,h1]];obtain h|h|h|h:=h1
  .try (have e:((op.toNat:Int)==115)=false:=by rw[eu];omega)
   try (have d:((op.toNat:Int)==112)=false:=by rw[eu];omega)
   try (have f:((op.toNat:Int)==119)=false:=by rw[eu];omega)
   have e:((op.toNat:Int)==115)=true:=by rw[aX];omega
   clear h
   go_in
   go_wp2_with fail;go_ret;exact⟨a,rfl⟩
  .try (have e:((op.toNat:Int)==115)=false:=by rw[eu];omega)
   try (have d:((op.toNat:Int)==112)=false:=by rw[eu];omega)
   try (have f:((op.toNat:Int)==119)=false:=by rw[eu];omega)
   have d:((op.toNat:Int)==112)=true:=by rw[aX];omega
   clear h
   go_in
   go_wp2_with fail;go_ret;exact⟨a,rfl⟩
  .try (have e:((op.toNat:Int)==115)=false:=by rw[eu];omega)
   try (have d:((op.toNat:Int)==112)=false:=by rw[eu];omega)
   try (have f:((op.toNat:Int)==119)=false:=by rw[eu];omega)
   have f:((op.toNat:Int)==119)=true:=by rw[aX];omega
   clear h
   go_in
   go_wp2_with fail;go_ret;exact⟨a,rfl⟩
  .try (have e:((op.toNat:Int)==115)=false:=by rw[eu];omega)
   try (have d:((op.toNat:Int)==112)=false:=by rw[eu];omega)
   try (have f:((op.toNat:Int)==119)=false:=by rw[eu];omega)
   have j:((op.toNat:Int)==111)=true:=by rw[aX];omega
   clear h
   go_in
   go_wp2_with fail;go_ret;exact⟨a,rfl⟩
 .have e:=tf op.toNat 115 (by omega);have d:=tf op.toNat 112 (by omega);have f:=tf op.toNat 119 (by omega);have j:=tf op.toNat 111 (by omega);have s:=hid g
  by_cases h2:op.toNat=44
  .rw[show ez cs ms lo op cl nu ps=cM ps 1 from by simp[ez,h2]];have q:((op.toNat:Int)==44)=true:=by rw[aX];omega
   have p:=hid (d7 ap cp ps 1 _ g);clear h1 h2
   go_in
   go_wp2_with fail;refine p.out.mono ?_;rintro en wx ⟨rfl,c⟩;rw[c];clear c wx;go_wp2_with fail;go_ret;exact⟨a,rfl⟩
  .have q:=tf op.toNat 44 (by omega)
   by_cases h3:op.toNat=105
   .rw[show ez cs ms lo op cl nu ps=mN cs (cM ps 1) (cM ps 2)from by simp[ez,h3]];have i:((op.toNat:Int)==105)=true:=by rw[aX];omega
    have m:=hid (d7 ap cp ps 1 _ g);have n:=hid (d7 ap cp ps 2 _ g);have l:=hid (tM b cs (cM ps 1) (cM ps 2) _ hn (hT.but a));clear h1 h2 h3
    go_in
    go_wp2_with fail;refine m.out.mono ?_;rintro en wx ⟨rfl,c⟩;rw[c];clear c wx;go_wp2_with fail;refine n.out.mono ?_;rintro en wx ⟨rfl,c⟩;rw[c];clear c wx;go_wp2_with fail;refine l.out.mono ?_;rintro en wx ⟨rfl,c⟩;rw[c];clear c wx;go_wp2_with fail;go_ret;exact⟨a,rfl⟩
   .have i:=tf op.toNat 105 (by omega);rw[show ez cs ms lo op cl nu ps=bC cs ms op cl nu lo from by simp[ez,h1,h2,h3]];have k:=hid (zG b cs ms pl nu op cl al capl lo _ (ap:=pa) (np:=pn) (cp:=pc) hn hm (hT.but a) (hM.but a) (BtB.but hB a (λ_ _ h=>h)));clear h1 h2 h3
    go_in
    go_wp2_with fail;refine k.out.mono ?_;rintro en t ⟨rfl,r⟩;go_wp2_with fail;go_ret;exact⟨a.trans r,rfl⟩
def lA (cs:List cd) (ak ps:L_):Bool:=(List.range ak.length).all λi=>dE cs (cM ps i) (ak.getD i 0)
theorem Dw {cs:List cd} {ak ps:L_} {i:Nat} (hi:i<ak.length) (h:dE cs (cM ps i) (ak.getD i 0)=false):lA cs ak ps=false:=by
 unfold lA;rw[List.all_eq_false];exact⟨i,List.mem_range.2 hi,by rw[h];simp⟩
theorem Cm {cs:List cd} {ak ps:L_} (h: ∀i,i<ak.length->dE cs (cM ps i) (ak.getD i 0)=true):lA cs ak ps=true:=by
 unfold lA;rw[List.all_eq_true];exact λi hi=>h i (List.mem_range.1 hi)
theorem uq (ap:Option Addr) (cp:Nat) (ps:L_) (hn:cs.length<=100) (hm:ms.length<=100) (hT:TxC w b cs) (hM:TxM w b ms) (hB:BtB w 0 (.slice al lo.length capl) lo) (hP:BtB w 0 (.slice ap ps.length cp) ps) (hak:(cP cs ms lo x.op x.cls x.num).length<=100):
  Calls prog 148 #[.pointer (some ⟨b,0,none⟩),hdV c0 m0 r0 (.slice al lo.length capl) (.slice ai ni capi),itV x,.slice ap ps.length cp] w λen w'=>B_ w w'/\en= .returned (.bool (lA cs (cP cs ms lo x.op x.cls x.num) ps)):=by
 have c:B_ w ((w.alloc (.cells #[.int .u8 c0.toNat,.int .i64 m0,.int .u8 r0.toNat,.slice al lo.length capl,.slice ai ni capi] 115)).alloc (.cells #[.int .i64 x.place,.int .u8 x.op.toNat,.int .u8 x.cls.toNat,.int .i64 x.num,.slice x.pa x.pn x.pc] 219)):=(aa _ _ _).trans (aa _ _ _);have p:=hid (As b cs ms c0 m0 r0 al ai capl ni capi lo x ((w.alloc (.cells #[.int .u8 c0.toNat,.int .i64 m0,.int .u8 r0.toNat,.slice al lo.length capl,.slice ai ni capi] 115)).alloc (.cells #[.int .i64 x.place,.int .u8 x.op.toNat,.int .u8 x.cls.toNat,.int .i64 x.num,.slice x.pa x.pn x.pc] 219)) hn hm (hT.but c) (hM.but c) (BtB.but hB c (λ_ _ h=>h)))
 obtain⟨A,G⟩: ∃A,cP cs ms lo x.op x.cls x.num=A:=⟨_,rfl⟩;rw[G]at p hak⊢;clear G;obtain⟨R,s⟩: ∃R,lA cs A ps=R:=⟨_,rfl⟩;rw[s];have t:=hid s;clear s;unfold itV hdV at*
 go_in
 go_wp2_with fail;refine p.out.mono ?_;rintro en w1 ⟨n,v,rfl,hv⟩;obtain⟨av,cv,rfl⟩:=ay hv;have y:=c.trans n;clear p n c;go_wp2_with fail
 go_loopg [10] A.length (λmm ks wr=> ∃(k:Nat),ks= .int .i64 k/\k<=A.length/\k+mm<=A.length/\A.length<=k+mm/\B_ w1 wr/\Hid (∀i,i<k->dE cs (cM ps i) (A.getD i 0)=true))
 case atStart=>exact⟨0,rfl,by omega,by omega,by omega,bf _ _,λi h=>absurd h (by omega)⟩
 case round=>
  obtain⟨k,rfl,J,L,M,q,F⟩:=hrel;have r:=y.trans q
  by_cases hlt:k<A.length
  .have D:(k:Int)<(A.length:Int):=by omega
   have E:=BtB.but hv q (λ_ _ h=>h);obtain⟨g,rfl,C,I,d⟩:=aE E (by omega);have qk:=d _ _ (jN hlt);have l:=hid (d7 ap cp ps k wr.drew (BtB.but hP (r.trans (aA _ _)) (λ_ _ h=>h)));have j:=hid (xu b cs (cM ps k) (A.getD k 0) wr.drew hn (hT.but (r.trans (aA _ _))))
   have B:Hid ((dE cs (cM ps k) (A.getD k 0)=false->R=false)/\(dE cs (cM ps k) (A.getD k 0)=true-> ∀i,i<k+1->dE cs (cM ps i) (A.getD i 0)=true)):=by
    refine hid ⟨λh=>by rw[<-t.out];exact Dw hlt h,λh i hi=> ?_⟩;obtain h'|h':=gC i k
    .exact F.out i h'
    .have:i=k:=by omega
     subst this;exact h
   clear d;revert j B qk l;generalize cM ps k=P;generalize A.getD k 0=Q;intro qk l j B;go_wp2_with fail;have a:B_ wr wr.drew:=aA _ _;refine fR (B_ wr) 10 ?_;refine eR [0,1,2,4,5,6,7] ?_
   iterate 7 (refine fS (v:=?_) rfl a ?_ ?_;rotate_left;(focus (intro wS h;have O:=(h.kc qk C);clear h;go_simp;try rfl));dsimp only[Act.put];try simp only[bW])
   refine aM (k:=3) rfl ?_;intro KS hKS;go_simp;refine l.out.mono ?_;rintro en wx ⟨rfl,f⟩;rw[f];clear f wx;refine hKS.out _ _ (λ_=>a) ?_;clear hKS KS;refine aM (k:=8) rfl ?_;intro KS hKS;go_simp;refine j.out.mono ?_;rintro en wx ⟨rfl,f⟩;rw[f];clear f wx;refine hKS.out _ _ (λ_=>a) ?_;clear hKS KS;refine aM (k:=9) rfl ?_;intro KS hKS;go_simp;refine hKS.out _ _ (λ_=>a) ?_;clear hKS KS;refine eE rfl ?_;have z:=q.trans a;have m:=B.out;clear B l j qk a;generalize wr.drew=wd at*
   cases hq:dE cs P Q with
   |false=>
    have e:R=false:=m.1 hq;subst e;clear m hq;go_wp2_with fail;go_ret;exact⟨y.trans z,rfl⟩
   |true=>
    have H:=hid (m.2 hq);clear m hq;go_wp2_with fail
    go_roundg (A.length-(k+1))
    case measure=>omega
    case rel=>exact⟨k+1,by simp,by omega,by omega,by omega,z,H⟩
  .have D: ¬(k:Int)<(A.length:Int):=by omega
   have e:R=true:=by rw[<-t.out];exact Cm (λi hi=>F.out i (by omega))
   subst e;go_wp2_with fail;go_ret;exact⟨r,rfl⟩
end
end
section
open Go Go.RowKit Sp
def jV (s:ByteArray) (cs:List Cls) (ns nl i:Nat) (bad:Bool):Except Nat (List Ins×Nat):=if bad=true then .error i else fX s cs ns nl i
theorem vX {s:ByteArray} {cs:List Cls} {ns nl i:Nat} {bad:Bool} {j:Nat} {bad':Bool} {Q:List Ins->Prop} (h:(bad'=false/\ ∃is,nj s cs ns nl i bad= .ok (is,j)/\Q is)\/(bad'=true/\nj s cs ns nl i bad= .error j)):
  ((tkP s 46 j bad').2=false/\ ∃is,jV s cs ns nl i bad= .ok (is,(tkP s 46 j bad').1)/\Q is)\/((tkP s 46 j bad').2=true/\jV s cs ns nl i bad= .error (tkP s 46 j bad').1):=by
 unfold nj at h;unfold jV
 cases bad with
 |true=>
  simp only[if_true]at h⊢;obtain⟨_,is,h,_⟩ | ⟨rfl,h⟩:=h
  .cases h
  .cases h
   rw[jf (Or.inl rfl)];exact Or.inr ⟨rfl,rfl⟩
 |false=>
  simp only[dS,if_false]at h⊢;unfold fX;obtain⟨rfl,is,h,a⟩ | ⟨rfl,h⟩:=h
  .rw[h];simp only
   by_cases hp:pk s j=46
   .rw[qD hp,if_pos (by rw[hp];rfl)];exact Or.inl ⟨rfl,is,rfl,a⟩
   .rw[jf (Or.inr hp),if_neg (λh=>hp ((u8n (by decide)).1 h))];exact Or.inr ⟨rfl,rfl⟩
  .rw[h,jf (Or.inl rfl)];exact Or.inr ⟨rfl,rfl⟩
structure BdN (w:World) (base:Nat) (gs:List Sig) (X:cZ) (b:Bod):Prop where
 cls:X.cls=(fG gs b).cls
 meth:X.meth=(fG gs b).meth
 ans:X.ans=(fG gs b).ans
 loc:X.zy=b.zy
 its:mG w base X.items b.code
def j6 (w:World) (base:Nat) (gs:List Sig) (bs:List cZ) (BS:List Bod):Prop:=bs.length=BS.length/\ ∀(k:Nat) X b,bs[k]?=some X->BS[k]?=some b->BdN w base gs X b
theorem j6.nil (w:World) (base:Nat) (gs:List Sig):j6 w base gs [] []:=⟨rfl,λk X b h=>by simp at h⟩
theorem j6.snoc {w:World} {base:Nat} {gs:List Sig} {bs:List cZ} {BS:List Bod} {X:cZ} {b:Bod} (h:j6 w base gs bs BS) (hx:BdN w base gs X b):j6 w base gs (bs++ [X]) (BS++ [b]):=by
 refine⟨by simp[h.1],λk Y c hY hc=> ?_⟩;obtain hk|hk:=gC k bs.length
 .rw[dy hk]at hY;rw[dy (by rw[<-h.1];exact hk)]at hc;exact h.2 k Y c hY hc
 .rw[f8 hk]at hY;rw[f8 (by rw[<-h.1];exact hk),<-h.1]at hc
  cases hd:k-bs.length with
  |zero=>rw[hd]at hY hc;simp at hY hc;subst hY hc;exact hx
  |succ d=>rw[hd]at hY;simp at hY
theorem j6.heads {w:World} {base:Nat} {gs:List Sig} {bs:List cZ} {BS:List Bod} (h:j6 w base gs bs BS):bs.map ly=(BS.map (fG gs)).map ly:=by
 apply List.ext_getElem?
 intro k;simp only[cV];obtain hk|hk:=gC k bs.length
 .have a:k<BS.length:=by rw[<-h.1];exact hk
  have b:=h.2 k _ _ (aG hk) (aG a);rw[aG hk,aG a];simp[ly,b.cls,b.meth]
 .rw[List.getElem?_eq_none hk,List.getElem?_eq_none (by rw[<-h.1];exact hk)]
  rfl
theorem j6.but {F:Nat->Prop} {w w':World} {base:Nat} {gs:List Sig} {bs:List cZ} {BS:List Bod} (h:j6 w base gs bs BS) (hb:But F w w') (hf: ∀g cur,w.heap[g]?=some (.cells cur 3)->base<=g-> ¬F g):j6 w' base gs bs BS:=
 ⟨h.1,λk X b hX hB=>by
  have a:=h.2 k X b hX hB
  exact⟨a.cls,a.meth,a.ans,a.loc,a.its.len,λq y x hy hx=>by
   obtain⟨c,d,e,f,i⟩:=a.its.at' q y x hy hx;exact⟨c,d,e,f,dn i hb hf⟩⟩⟩
theorem j6.mono {w:World} {base base':Nat} {gs:List Sig} {bs:List cZ} {BS:List Bod} (h:j6 w base gs bs BS) (hb:base'<=base):j6 w base' gs bs BS:=
 ⟨h.1,λk X b hX hB=>by
  have a:=h.2 k X b hX hB;exact⟨a.cls,a.meth,a.ans,a.loc,a.its.mono hb⟩⟩
def xK (Gd:Prop) (s:ByteArray) (cs:List Cls) (gs:List Sig) (R:Except Nat (List Bod×Nat)) (w:World) (base mm:Nat) (bs:List cZ) (j:Nat) (bad:Bool):Prop:=
 (bad=false/\Gd/\ ∃BS,j6 w base gs bs BS/\(∀b∈BS,lP b)/\BS.length+mm=6/\fZ s cs gs mm BS j=R)\/(bad=true/\R= .error j)
section
variable {Gd:Prop} {s:ByteArray} {cs:List Cls} {gs:List Sig} {R:Except Nat (List Bod×Nat)} {w:World} {base:Nat}
theorem At {k:Nat} {BS:List Bod} {i:Nat} (h:(pk s i).toNat≠59):fZ s cs gs (k+1) BS i=match jQ s cs.length gs BS i with
  | .error j=> .error j
  | .ok ((x,m,t),p)=>
   match fX s cs gs.length (t.length+2) p with
   | .error q=> .error q
   | .ok (is,q)=>fZ s cs gs k (BS++ [⟨x,m,UInt8.ofNat (65+x)::ib gs m::t,is⟩]) q:=by
 unfold jQ;rw[fZ,if_neg h]
 cases fj s cs.length i with
 |error j=>rfl
 |ok y=>
  obtain⟨x,j⟩:=y;simp only
  cases eB s gs.length j with
  |error l=>rfl
  |ok z=>
   obtain⟨m,l⟩:=z;simp only
   split
   .rfl
   .cases tys s cs.length 58 3 [] l with
    |error p=>rfl
    |ok t=>
     obtain⟨t,p⟩:=t;simp only
     cases fX s cs gs.length (t.length+2) p<;>rfl
theorem xK.fin {mm:Nat} {bs:List cZ} {j:Nat} {bad:Bool} (h:xK Gd s cs gs R w base mm bs j bad) (hx: ¬bs.length<6\/(!bad&& !decide (pk s j=59))=false):
  ((tkP s 59 j bad).2=false/\Gd/\ ∃BS,R= .ok (BS,(tkP s 59 j bad).1)/\j6 w base gs bs BS/\ ∀b∈BS,lP b)\/((tkP s 59 j bad).2=true/\R= .error (tkP s 59 j bad).1):=by
 obtain⟨rfl,e,BS,c,a,f,d⟩ | ⟨rfl,a⟩:=h
 .by_cases hp:pk s j=59
  .left
   rw[qD hp];refine⟨rfl,e,BS,?_,c,a⟩;rw[<-d]
   cases mm<;>simp[fZ,hp]
  .right
   rw[jf (Or.inr hp)];refine⟨rfl,?_⟩
   have hm:mm=0:=by
    obtain h|h:=hx
    .rw[c.1]at h;omega
    .simp[hp]at h
   subst hm;rw[<-d];have:(pk s j).toNat≠59:=λh=>hp ((u8n (by decide)).1 h)
   simp[fZ,this]
 .right
  rw[jf (Or.inl rfl)];exact⟨rfl,a⟩
theorem xK.next {mm:Nat} {bs:List cZ} {j:Nat} (h:xK Gd s cs gs R w base mm bs j false) (hnc:cs.length<=4) (hl:bs.length<6) (hp:pk s j≠59):
  Gd/\ ∃BS,j6 w base gs bs BS/\(∀b∈BS,lP b)/\BS.length<=6/\ ∀c m r l k a,((a=false/\ ∃x t,jQ s cs.length gs BS j= .ok ((x,m,t),k)/\c=UInt8.ofNat (65+x)/\x<cs.length/\m<gs.length/\r=(dO gs m).ret/\l=c::(dO gs m).arg::t)\/(a=true/\jQ s cs.length gs BS j= .error k))->
   ∀its w' j2 d,j6 w' base gs bs BS->((d=false/\ ∃is,jV s cs gs.length l.length k a= .ok (is,j2)/\mG w' base its is)\/(d=true/\jV s cs gs.length l.length k a= .error j2))->
   ∃m',m'<mm/\xK Gd s cs gs R w' base m' (bs++ [⟨c,m,r,l,its⟩]) j2 d:=by
 obtain⟨_,B,BS,z,A,G,e⟩ | ⟨h,_⟩:=h
 .have E:BS.length<6:=by rw[z.1]at hl;exact hl
  refine⟨B,BS,z,A,by omega,?_⟩;intro c m r l k a hh its w' j2 d q hc;obtain⟨f,rfl⟩: ∃f,mm=f+1:=⟨mm-1,by omega⟩;have p:(pk s j).toNat≠59:=λh=>hp ((u8n (by decide)).1 h)
  rw[At p]at e;obtain⟨rfl,x,t,n,v,F,C,D,y⟩ | ⟨rfl,n⟩:=hh
  .rw[n]at e;simp only at e;unfold jV at hc;simp only[dS,if_false]at hc;rw[show l.length=t.length+2 from by rw[y];rfl]at hc;obtain⟨rfl,is,c1,c2⟩ | ⟨rfl,c1⟩:=hc
   .rw[c1]at e;have i: ¬((x:Int)<0):=by omega
    refine⟨f,by omega,Or.inl ⟨rfl,B,BS++ [⟨x,m,UInt8.ofNat (65+x)::ib gs m::t,is⟩],q.snoc ⟨?_,?_,?_,?_,c2⟩,?_,by simp;omega,e⟩⟩
    .simp[fG,i,v]
    .simp[fG]
    .simp[fG,i,D]
    .simp[y,v,zR C]
    .intro b g;obtain g|g:=gz g
     .exact A b g
     .simp at g;subst g;exact⟨by simp,by simp;omega,by simp⟩
   .rw[c1]at e;exact⟨0,by omega,Or.inr ⟨rfl,e.symm⟩⟩
  .rw[n]at e;simp only at e;unfold jV at hc;simp only[if_true]at hc;obtain⟨_,is,c1,_⟩ | ⟨rfl,c1⟩:=hc
   .cases c1
   .cases c1
    exact⟨0,by omega,Or.inr ⟨rfl,e.symm⟩⟩
 .cases h
end
structure ku (w:World) (b:Nat) (im:Img):Prop where
 cls:TxC w b (im.zq.map toX)
 met:TxM w b im.zx
 bod: ∃bs,TxB w b bs/\j6 w 0 im.zx bs im.zj
theorem Au {s:ByteArray} {SC:List Cls} {n:Nat} {ms:List Sig} {cs:List cd} {bs:List cZ} {l:L_} {its:List XIt} {w:World} {base:Nat} {j0 j1 j2 j3 j4:Nat} {b0 b1 b2 b3 b4:Bool} {R:Except Nat (List Bod×Nat)}
  (hcls:(b0=false/\ ∃SC',dR s 4 [] 0= .ok (SC',j0)/\SC'=SC/\cs=SC.map toX/\WfC SC)\/(b0=true/\dR s 4 [] 0= .error j0)) (hn:SC.length=n)
  (hsig:(b1=false/\tR s n j0 b0= .ok (ms,j1))\/(b1=true/\tR s n j0 b0= .error j1))
  (hR:(if b1=true then .error j1 else fZ s SC ms 6 [] j1)=R)
  (hbod:(b2=false/\(b1=false)/\ ∃BS,R= .ok (BS,j2)/\j6 w base ms bs BS/\ ∀b∈BS,lP b)\/(b2=true/\R= .error j2))
  (hmain:(b3=false/\jw s n 58 3 j2 b2= .ok (l,j3))\/(b3=true/\jw s n 58 3 j2 b2= .error j3))
  (hcode:(b4=false/\ ∃is,jV s SC ms.length l.length j3 b3= .ok (is,j4)/\mG w base its is)\/(b4=true/\jV s SC ms.length l.length j3 b3= .error j4)):
  ((b4||decide (j4<s.size))=true/\dH s= .error j4)\/((b4||decide (j4<s.size))=false/\ ∃im,dH s= .ok im/\im.zq=SC/\cs=SC.map toX/\im.zx=ms/\j6 w base ms (bs++ [⟨45,0,105,l,its⟩]) im.zj):=by
 unfold dH;obtain⟨rfl,SC',hc,rfl,f,i⟩ | ⟨rfl,hc⟩:=hcls
 .rw[hc];simp only;unfold tR at hsig;simp only[dS,if_false]at hsig;rw[hn];obtain⟨rfl,c⟩ | ⟨rfl,c⟩:=hsig
  .rw[c];simp only;simp only[dS,if_false]at hR;rw[hR];obtain⟨rfl,_,BS,d,e,_⟩ | ⟨rfl,d⟩:=hbod
   .rw[d];simp only;unfold jw at hmain;simp only[dS,if_false]at hmain;obtain⟨rfl,hm⟩ | ⟨rfl,hm⟩:=hmain
    .rw[hm];simp only;unfold jV at hcode;simp only[dS,if_false]at hcode;obtain⟨rfl,is,a,g⟩ | ⟨rfl,a⟩:=hcode
     .rw[a];simp only
      by_cases hlt:j4<s.size
      .left
       rw[if_pos hlt];exact⟨by simp[hlt],rfl⟩
      .right
       rw[if_neg hlt];refine⟨by simp[hlt],_,rfl,rfl,f,rfl,?_⟩;exact e.snoc ⟨by simp[fG],by simp[fG],by simp[fG],rfl,g⟩
     .rw[a];exact Or.inl ⟨rfl,rfl⟩
    .rw[hm];unfold jV at hcode;simp only[if_true]at hcode;obtain⟨_,is,a,_⟩ | ⟨rfl,a⟩:=hcode
     .cases a
     .cases a
      exact Or.inl ⟨rfl,rfl⟩
   .rw[d];unfold jw at hmain;simp only[if_true]at hmain;obtain⟨_,hm⟩ | ⟨rfl,hm⟩:=hmain
    .cases hm
    .cases hm
     unfold jV at hcode;simp only[if_true]at hcode;obtain⟨_,is,a,_⟩ | ⟨rfl,a⟩:=hcode
     .cases a
     .cases a
      exact Or.inl ⟨rfl,rfl⟩
  .rw[c];simp only[if_true]at hR;subst hR;obtain⟨_,h,_⟩ | ⟨rfl,d⟩:=hbod
   .cases h
   .cases d
    unfold jw at hmain;simp only[if_true]at hmain;obtain⟨_,hm⟩ | ⟨rfl,hm⟩:=hmain
    .cases hm
    .cases hm
     unfold jV at hcode;simp only[if_true]at hcode;obtain⟨_,is,a,_⟩ | ⟨rfl,a⟩:=hcode
     .cases a
     .cases a
      exact Or.inl ⟨rfl,rfl⟩
 .rw[hc];unfold tR at hsig;simp only[if_true]at hsig;obtain⟨_,h⟩ | ⟨rfl,c⟩:=hsig
  .cases h
  .cases c
   simp only[if_true]at hR;subst hR;obtain⟨_,h,_⟩ | ⟨rfl,d⟩:=hbod
   .cases h
   .cases d
    unfold jw at hmain;simp only[if_true]at hmain;obtain⟨_,hm⟩ | ⟨rfl,hm⟩:=hmain
    .cases hm
    .cases hm
     unfold jV at hcode;simp only[if_true]at hcode;obtain⟨_,is,a,_⟩ | ⟨rfl,a⟩:=hcode
     .cases a
     .cases a
      exact Or.inl ⟨rfl,rfl⟩
end
section
open Go Go.RowKit Sp
attribute [local go_sem ↓] eY eZ
def Cn (s:ByteArray) (SC:List Cls) (ms:List Sig) (cs:List cd) (w:World) (base:Nat) (bs:List cZ) (j:Nat) (bad:Bool):Prop:=
 ((bad||decide (j<s.size))=true/\dH s= .error j)\/((bad||decide (j<s.size))=false/\ ∃im,dH s= .ok im/\im.zq=SC/\cs=SC.map toX/\im.zx=ms/\j6 w base ms bs im.zj)
theorem xL (s:ByteArray) (w:World) (hs:s.size<=2000):
  Calls prog 90 #[.string s] w λen w'=>B_ w w'/\ ∃g p,en= .returned (.tuple #[.pointer (some ⟨g,0,none⟩),.int .i64 p])/\w.heap.size<=g/\
   ((∃j,dH s= .error j/\p=(j:Int)/\w'.heap[g]?=some (.cells #[S_,S_,S_] 109))\/(p= -1/\ ∃im,dH s= .ok im/\ku w' g im)):=by
 go_in
 go_wp2_with fail;refine(BO s w).mono ?_;rintro en w0 ⟨rfl,l5,q6,m4⟩;have I:w.heap.size<w.heap.size+1:=by omega
 go_wp2_with fail;refine(oX w.heap.size (w.heap.size+1) s _ _ w0 hs m4 I (by omega)).mono ?_;rintro en w1 ⟨rfl,P,v0,cs,j0,b0,m5,h0,J,m7⟩;obtain⟨a0,cap0,p5⟩:=h0.len;subst p5;have q7:=P.size;have e0:But (λk=>k=w.heap.size\/w.heap.size+1<=k) w w1:=(l5.mono (λ_ _ h=>h.elim)).trans P;clear l5 P m4;go_wp2_with fail;refine(oY w.heap.size (w.heap.size+1) s j0 b0 a0 cs.length cap0 _ w1 hs J m5 I (by omega)).mono ?_;rintro en w2 ⟨rfl,f1,v1,ms,j1,b1,m6,m3,k4,j7⟩;obtain⟨a1,cap1,p6⟩:=ay m3;subst p6;have m0:=h0.but f1 (λg e cur _ _ n h=>by omega);have q8:=f1.size;have g4:But (λk=>k=w.heap.size\/w.heap.size+1<=k) w w2:=e0.next f1 (λ_ _ h=>Or.inl h)
 clear f1 m5 h0 e0
 --the zq,if there are any
 obtain⟨SC,f4,c8⟩: ∃SC:List Cls,SC.length=cs.length/\((b0=false/\ ∃SC',dR s 4 [] 0= .ok (SC',j0)/\SC'=SC/\cs=SC.map toX/\WfC SC)\/(b0=true/\dR s 4 [] 0= .error j0)):=by
  obtain⟨h1,SC,C,T,h4⟩ |h:=m7
  .exact⟨SC,by rw[T,eF],Or.inl ⟨h1,SC,C,rfl,T,h4⟩⟩
  .exact⟨List.replicate cs.length ⟨-1,[]⟩,by simp,Or.inr h⟩
 have a3:b1=false->cs=SC.map toX/\WfC SC:=by
  intro h;obtain⟨_,C⟩ | ⟨C,_⟩:=j7
  .obtain⟨_,_,_,_,T⟩ | ⟨T,_⟩:=c8
   .exact T
   .rw[T]at C;simp[tR]at C
  .rw[h]at C;cases C
 obtain⟨R,f3⟩: ∃R,(if b1=true then .error j1 else fZ s SC ms 6 [] j1)=R:=⟨_,rfl⟩
 have O:xK (b1=false) s SC ms R w2 (w.heap.size+1) 6 [] j1 b1:=by
  cases b1 with
  |true=>exact Or.inr ⟨rfl,f3.symm⟩
  |false=>exact Or.inl ⟨rfl,rfl,[],j6.nil _ _ _,by simp,rfl,f3⟩
 have g3:=hid O;have f6:=hid a3;have M:=hid (λwz bs l X j2 j3 j4 b2 b3 b4=>Au (its:=X) (w:=wz) (base:=w.heap.size+1) (bs:=bs) (l:=l) (j2:=j2) (j3:=j3) (j4:=j4) (b2:=b2) (b3:=b3) (b4:=b4) c8 f4 j7 f3);have o1:=hid f4;rw[<-f4]at m6 m0 J;clear O a3 m7 j7 c8 f3 f4;go_wp2_with fail
 go_loopg [] 7 (λmm wr=> ∃(a2:Option Addr) (t j:Nat) (bad' mn:Bool) (bs:List cZ) (x0 x1 x2 x3 x4:Value),w.heap.size+1<=wr.heap.size/\But (λk=>k=w.heap.size\/w.heap.size+1<=k) w wr/\XrB wr w.heap.size s j bad' (.slice a0 SC.length cap0) (.slice a1 ms.length cap1) ⟨.slice a2 bs.length t,x0,x1,x2,x3,x4,mn⟩/\TcV wr (w.heap.size+1) (.slice a0 SC.length cap0) cs/\TmV wr (w.heap.size+1) (.slice a1 ms.length cap1) ms/\TbV wr (w.heap.size+1) (.slice a2 bs.length t) bs/\Hid ((mn=false/\bs.length<=6/\ ∃m1,mm=m1+1/\xK (b1=false) s SC ms R wr (w.heap.size+1) m1 bs j bad')\/(mn=true/\Cn s SC ms cs wr (w.heap.size+1) bs j bad')))
 case atStart=>exact⟨none,0,j1,b1,false,[],_,_,_,_,_,by omega,g4,m6,m0,m3,⟨[],cR _ _ _ _,rfl,by simp⟩,hid (Or.inl ⟨rfl,by simp,6,rfl,g3.out⟩)⟩
 case round=>
  obtain⟨a2,t,j,bad',mn,bs,x0,x1,x2,x3,x4,q9,g7,Q,h9,f2,f5,e8⟩:=hrel
  by_cases hstop:mn=true\/bad'=true
  .have e5:Cn s SC ms cs wr (w.heap.size+1) bs j bad':=by
    obtain⟨h1,_,m1,_,hb⟩ | ⟨_,h⟩:=e8.out
    .have o6:bad'=true:=by
      obtain h|h:=hstop
      .rw[h1]at h;cases h
      .exact h
     subst o6;obtain⟨h,_⟩ | ⟨_,h⟩:=hb
     .cases h
     .have:=M.out wr bs [] [] j j j true true true (Or.inr ⟨rfl,h⟩) (Or.inr ⟨rfl,by simp[jw]⟩) (Or.inr ⟨rfl,by simp[jV]⟩);obtain⟨_,h⟩ | ⟨h,_⟩:=this
      .exact Or.inl ⟨by simp,h⟩
      .simp at h
    .exact h
   have HF:=hid e5;have z:=hid (qH w.heap.size s j bad' _ _ _ wr Q hstop);clear e5 e8 M g3 f6;go_wp2_with fail;refine z.out.mono ?_;rintro en w3 ⟨rfl,k,rfl⟩;clear z hstop;go_wp2_with fail;refine(vF w.heap.size s j bad' _ _ _ (wr.drewN k) (Q.drewN k)).mono ?_;rintro en G ⟨f,n1⟩;have D:B_ w G:=((g7.next (aH (λ_=>False) wr k) (λ_ _ h=>h.elim)).next f (λ_ _ h=>h.elim)).mono (λk hk h=>by omega);have n6:w.heap.size<=(wr.drewN k).heap.size:=by show w.heap.size<=wr.heap.size;omega
   have e1:B_ wr G:=(aH _ _ _).trans f;unfold E6 at n1;obtain⟨hb,g,n,rfl,p0⟩ | ⟨hb,rfl⟩:=n1
   .have g2:Hid (dH s= .error j):=by
     obtain⟨_,h⟩ | ⟨h,_⟩:=HF.out
     .exact hid h
     .rw[hb]at h;cases h
    clear HF;go_wp2_with fail;exact cA (v:= .tuple #[.pointer (some ⟨g,0,none⟩),.int .i64 j]) (by simp[results,results90,go_sem]) rfl ⟨D,g,j,rfl,by omega,Or.inl ⟨j,g2.out,rfl,p0⟩⟩
   .have o5:=Q.lt
    have g2:Hid (∃im,dH s= .ok im/\ku G w.heap.size im):=by
     obtain⟨h,_⟩ | ⟨_,im,p4,k1,k2,e6,k3⟩:=HF.out
     .rw[hb]at h;cases h
     .have H:=h9.but e1 (λ_ _ _ _ _ _ h=>h);have e2:=f2.but e1 (λ_ _ _ _ _ _ h=>h);have F:=f5.but e1 (λ_ _ _ _ _ _ h=>h);have A:=Q.but e1 (λh=>h);refine hid ⟨im,p4,?_,?_,?_⟩
      .rw[k1,<-k2];exact H.tx A.c0 A.lt
      .rw[e6];exact e2.tx A.c1 A.lt
      .exact⟨bs,F.tx A.c2 A.lt,(e6.symm▸k3.but e1 (λ_ _ _ _ h=>h)).mono (Nat.zero_le _)⟩
    clear HF;go_wp2_with fail;exact cA (v:= .tuple #[.pointer (some ⟨w.heap.size,0,none⟩),.int .i64 (-1)]) (by simp[results,results90,go_sem]) rfl ⟨D,w.heap.size,-1,rfl,bP _,Or.inr ⟨rfl,g2.out⟩⟩
  .have p3:mn=false:=by cases mn;rfl;exact absurd (Or.inl rfl) hstop
   have o4:bad'=false:=by cases bad';rfl;exact absurd (Or.inr rfl) hstop
   subst p3 o4;obtain⟨_,q3,m1,q5,P⟩:=e8.out.resolve_right (λh=>by cases h.1);have e7:=hid P;clear P;clear hstop e8 g3
   by_cases hgo:bs.length<6/\pk s j≠59
   .obtain⟨n2,k5⟩:=hgo;obtain⟨hG,BS,g5,n4,o3,n3⟩:=e7.out.next J n2 k5;obtain⟨e4,n5⟩:=f6.out hG;have l4:=hid n3;have n9:=hid e4;have o2:=hid n5;have z:=hid (qJ w.heap.size (w.heap.size+1) s j a0 a2 SC.length cap0 bs.length t _ x0 x1 x2 x3 x4 wr ms BS bs g5.heads J k4 o3 (λb hb=>Or.inr (n4 b hb)) hs Q f2 f5 I n2 k5);have n7:=hid g5;clear k5 n3 g5 n4 e4 n5 e7;go_wp2_with fail;refine z.out.mono ?_;rintro en G ⟨f,rfl,g0⟩;obtain⟨c,m,r,al,capl,lo,j4,B,A,i1,p2,F⟩:=g0;clear z;have H:=h9.but f (λg e cur _ _ n h=>by omega);have e2:=f2.but f (λg e cur _ _ n h=>by omega);have b8:=f5.but f (λg e cur _ _ n h=>by omega)
    have D:But (λk=>k=w.heap.size\/w.heap.size+1<=k) w G:=g7.next f (λ_ _ h=>Or.inl h);have n6:=f.size;have E:BtB G (w.heap.size+1) (.slice al lo.length capl) lo:=ie i1 (by omega);have l3:=hid (l4.out c m r lo j4 B F);clear F l4;have c9:=hid (ri w.heap.size (w.heap.size+1) s j4 B SC a0 a1 al ms.length lo.length cap0 cap1 capl _ G (Or.inr ⟨o2.out,by rw[<-n9.out];exact H⟩) J k4 (by omega) hs A rfl I);go_wp2_with fail;refine c9.out.mono ?_;rintro en w5 ⟨i,g1⟩;obtain⟨ai,capi,items,j5,q,rfl,i5,i0,p1,e3⟩:=g1;have Z:=hid (vX e3);have h7:=H.but i (λg e cur _ _ n h=>by omega);have i3:=e2.but i (λg e cur _ _ n h=>by omega)
    have d:=b8.but i (λg e cur _ _ n h=>by omega);have i2:=E.but i (λg n h=>by have:=aw E g n;omega);have q0:=i.size;clear e3 c9;have Y:=hid (nT w.heap.size (w.heap.size+1) G.heap.size s j5 q false _ _ _ a2 t bs ⟨c,m,r,lo,items⟩ al ai capl capi w5 (by omega) (by show items.length<=100;omega) hs i5 d i2 i0 I (by omega) (by omega));go_wp2_with fail;refine Y.out.mono ?_;rintro en w6 ⟨rfl,a,a6,a4,q2,i6,b9⟩;clear Y
    have b6:=(λ(is:List Ins) (h:mG w5 G.heap.size items is)=>(⟨h.len,λk y x hy hx=>by
      obtain⟨z1,z2,z3,z4,z5⟩:=h.at' k y x hy hx
      exact⟨z1,z2,z3,z4,dn (ie z5 (by omega)) a (λg cur hh n h=>by
       obtain h|h:=h
       .omega
       .exact d.apart hh (by decide) h)⟩⟩:mG w6 (w.heap.size+1) items is))
    have g6:=(n7.out.but f (λg cur _ n h=>by omega)).but i (λg cur _ n h=>by omega)
    obtain⟨m',q4,l6⟩:=l3.out items w6 (tkP s 46 j5 q).1 (tkP s 46 j5 q).2 (g6.but a (λg cur hh n h=>by
     obtain h|h:=h
     .omega
     .exact d.apart hh (by decide) h)) (by
     obtain⟨h1,is,C,T⟩ |h:=Z.out
     .exact Or.inl ⟨h1,is,C,b6 is T⟩
     .exact Or.inr h)
    have n8:=hid l6;have k0:=d.ge
    have h8:=h7.but a (λg e cur hh S n h=>by
     obtain h|h:=h
     .omega
     .exact d.apart hh (by rcases S with S|S<;>(rw[S];decide)) h)
    have i4:=i3.but a (λg e cur hh S n h=>by
     obtain h|h:=h
     .omega
     .exact d.apart hh (by rw[S];decide) h)
    have a5:But (λk=>k=w.heap.size\/w.heap.size+1<=k) w w6:=(D.next i (λ_ _ h=>Or.inl h)).next a (λk hk h=>by
     obtain h|h:=h
     .exact Or.inl h
     .exact Or.inr (k0 k h))
    have q1:=a.size;clear l6 l3 Z;go_wp2_with fail
    go_roundg (m'+1)
    case measure=>omega
    case rel=>exact⟨a6,a4,_,_,false,bs++ [⟨c,m,r,lo,items⟩],_,_,_,_,_,by omega,a5,i6,h8,i4,b9,hid (Or.inl ⟨rfl,by simp;omega,m',rfl,n8.out⟩)⟩
   .have L: ¬bs.length<6\/pk s j=59:=by
     by_cases h6:bs.length<6
     .right
      by_cases hp:pk s j=59
      .exact hp
      .exact absurd ⟨h6,hp⟩ hgo
     .exact Or.inl h6
    have f0:=hid (e7.out.fin (L.imp id (λh=>by simp[h])));have z:=hid (qK w.heap.size s j a0 a2 SC.length cap0 bs.length t _ x0 x1 x2 x3 x4 wr J hs Q L);clear L hgo e7;obtain⟨TK,n0⟩: ∃TK,tkP s 59 j false=TK:=⟨_,rfl⟩;rw[n0]at f0 z;obtain⟨j2,b2⟩:=TK;dsimp only at f0 z;have k6:=hid (λwz l X j3 j4 b3 b4 hbz=>M.out wz bs l X j2 j3 j4 b2 b3 b4 hbz)
    have l0:Hid (b2=true\/b1=false):=by
     obtain⟨_,h,_⟩ | ⟨h,_⟩:=f0.out
     .exact hid (Or.inr h)
     .exact hid (Or.inl h)
    clear n0 M;go_wp2_with fail;refine z.out.mono ?_;rintro en G ⟨f,rfl,g0⟩;obtain⟨al,capl,lo,j4,B,A,i1,p2,F⟩:=g0;clear z;have H:=h9.but f (λg e cur _ _ n h=>by omega);have e2:=f2.but f (λg e cur _ _ n h=>by omega);have b8:=f5.but f (λg e cur _ _ n h=>by omega);have D:But (λk=>k=w.heap.size\/w.heap.size+1<=k) w G:=g7.next f (λ_ _ h=>Or.inl h);have n6:=f.size;have E:BtB G (w.heap.size+1) (.slice al lo.length capl) lo:=ie i1 (by omega);have b7:=F;rw[o1.out]at b7;have k7:=hid (λwz X j5 b5 hbz=>k6.out wz lo X j4 j5 B b5 hbz b7)
    have m2:B=true\/(WfC SC/\TcV G (w.heap.size+1) (.slice a0 SC.length cap0) (SC.map toX)):=by
     obtain h|h:=l0.out
     .left
      obtain⟨_,C⟩ | ⟨C,_⟩:=F
      .rw[h]at C;simp[jw]at C
      .exact C
     .obtain⟨h1,C⟩:=f6.out h;exact Or.inr ⟨C,by rw[<-h1];exact H⟩
    have c9:=hid (ri w.heap.size (w.heap.size+1) s j4 B SC a0 a1 al ms.length lo.length cap0 cap1 capl _ G m2 J k4 (by omega) hs A rfl I);clear F b7 k6 l0 m2;go_wp2_with fail;refine c9.out.mono ?_;rintro en w5 ⟨i,g1⟩;obtain⟨ai,capi,items,j5,q,rfl,i5,i0,p1,e3⟩:=g1;have Z:=hid (vX e3);have h7:=H.but i (λg e cur _ _ n h=>by omega);have i3:=e2.but i (λg e cur _ _ n h=>by omega);have d:=b8.but i (λg e cur _ _ n h=>by omega);have i2:=E.but i (λg n h=>by have:=aw E g n;omega);have q0:=i.size;clear e3 c9;have Y:=hid (nT w.heap.size (w.heap.size+1) G.heap.size s j5 q true _ _ _ a2 t bs ⟨45,0,105,lo,items⟩ al ai capl capi w5 (by omega) (by show items.length<=100;omega) hs i5 d i2 i0 I (by omega) (by omega))
    go_wp2_with fail;refine Y.out.mono ?_;rintro en w6 ⟨rfl,a,a6,a4,q2,i6,b9⟩;clear Y
    have o0:Hid (Cn s SC ms cs w6 (w.heap.size+1) (bs++ [⟨45,0,105,lo,items⟩]) (tkP s 46 j5 q).1 (tkP s 46 j5 q).2):=by
     have b6:=(λ(is:List Ins) (h:mG w5 G.heap.size items is)=>(⟨h.len,λk y x hy hx=>by
      obtain⟨z1,z2,z3,z4,z5⟩:=h.at' k y x hy hx
      exact⟨z1,z2,z3,z4,dn (ie z5 (by omega)) a (λg cur hh n h=>by
       obtain h|h:=h
       .omega
       .exact d.apart hh (by decide) h)⟩⟩:mG w6 (w.heap.size+1) items is))
     refine hid (k7.out w6 items _ _ ?_ ?_)
     .obtain⟨h1,C,BS,T,h4,h5⟩ |h:=f0.out
      .refine Or.inl ⟨h1,C,BS,T,?_,h5⟩;exact((h4.but f (λg cur _ n h=>by omega)).but i (λg cur _ n h=>by omega)).but a (λg cur hh n h=>by
     obtain h|h:=h
     .omega
     .exact d.apart hh (by decide) h)
      .exact Or.inr h
     .obtain⟨h1,is,C,T⟩ |h:=Z.out
      .exact Or.inl ⟨h1,is,C,b6 is T⟩
      .exact Or.inr h
    have k0:=d.ge
    have h8:=h7.but a (λg e cur hh S n h=>by
     obtain h|h:=h
     .omega
     .exact d.apart hh (by rcases S with S|S<;>(rw[S];decide)) h)
    have i4:=i3.but a (λg e cur hh S n h=>by
     obtain h|h:=h
     .omega
     .exact d.apart hh (by rw[S];decide) h)
    have a5:But (λk=>k=w.heap.size\/w.heap.size+1<=k) w w6:=(D.next i (λ_ _ h=>Or.inl h)).next a (λk hk h=>by
     obtain h|h:=h
     .exact Or.inl h
     .exact Or.inr (k0 k h))
    have q1:=a.size;clear k7 Z;go_wp2_with fail
    go_roundg 0
    case measure=>omega
    case rel=>exact⟨a6,a4,_,_,true,bs++ [⟨45,0,105,lo,items⟩],_,_,_,_,_,by omega,a5,i6,h8,i4,b9,hid (Or.inr ⟨rfl,o0.out⟩)⟩
end
end Go.Proofs.YtpfkkmacakjmbaaGreatDoor
