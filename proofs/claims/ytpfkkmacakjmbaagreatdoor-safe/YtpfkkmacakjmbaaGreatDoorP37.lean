import Derived.Test.YtpfkkmacakjmbaaGreatDoorP26
import Derived.Test.YtpfkkmacakjmbaaGreatDoorP25
set_option maxRecDepth 100000
set_option maxHeartbeats 6400000
set_option linter.all false
namespace Go.Proofs.YtpfkkmacakjmbaaGreatDoor
open Proofs.Tryz
section
open Go Go.RowKit Sp
attribute [local go_sem ↓] dG dH
def CmB (w:World) (cb:Nat) (c m r vl vi v:Value):Prop:=w.heap[cb]?=some (.cells #[c,m,r,vl,vi,v] 246)
def fc (c:UInt8):XIt:=⟨0,c,45,0,none,0,0⟩
def ew (w:World) (v v':Value):Prop:=v'.ownBlock=v.ownBlock\/ ∃g,v'.ownBlock=some g/\w.heap.size<=g
theorem ew.trans {w w':World} {v v' v'':Value} (h:ew w v v') (h':ew w' v' v'') (hs:w.heap.size<=w'.heap.size):ew w v v'':=by
 obtain e| ⟨g,e,hg⟩:=h'
 .obtain h| ⟨g,h,hg⟩:=h
  .exact Or.inl (e.trans h)
  .exact Or.inr ⟨g,e.trans h,hg⟩
 .exact Or.inr ⟨g,e,by omega⟩
theorem ew.own {w:World} {v v':Value} (h:ew w v v') {k:Nat} (hk:k<w.heap.size) (e:v'.ownBlock=some k):v.ownBlock=some k:=by
 obtain h| ⟨g,h,hg⟩:=h
 .exact h▸e
 .rw[h]at e;have:=Option.some.inj e;omega
theorem CmB.but {F:Nat->Prop} {w w':World} {cb:Nat} {c m r vl vi v:Value} (h:CmB w cb c m r vl vi v) (hb:But F w w') (hf: ¬F cb):CmB w' cb c m r vl vi v:=(hb.block cb (ae h) hf).trans h
theorem CmB.set {w:World} {cb:Nat} {c m r vl vi v:Value} (h:CmB w cb c m r vl vi v) (v':Value):CmB (w.setCell ⟨cb,5,none⟩ v') cb c m r vl vi v':=bG w cb 5 _ _ v' h
section
variable {w:World} {cb base:Nat} {c m r vl vi v:Value} {its:List XIt}
theorem xI (h:CmB w cb c m r vl vi v) (hI:ItB w base v its) (hb:base<=w.heap.size) (hl:its.length<=4000) (x:UInt8):
  Calls prog 160 #[.pointer (some ⟨cb,0,none⟩),.int .u8 x.toNat] w λen w'=>en= .returned (.int .i64 its.length)/\But (λk=>k=cb\/v.ownBlock=some k) w w'/\ ∃v',CmB w' cb c m r vl vi v'/\ItB w' base v' (its++ [fc x])/\ew w v v':=by
 obtain⟨i0,b4,b6,b9,c7⟩:=info_parts jO;have a8:v.ownBlock≠some cb:=λe=>aL hI h (by decide) e
 obtain⟨ao,cap,rfl⟩:=aw hI;have c5:=ce5 h;have z5:=b7 w cb 5 _ _ h;have c9:=ae h;have HC:=hid h;have b2:w.ownsRow base 219 5 (.slice ao its.length cap) its.length (bX its):=hI;have b0:=hid a8;clear h hI a8
 go_in
 go_wp2_with (at_builtin;refine wpList_append_lies _ rfl _ _ _ rfl base 219 i0 _ 5 48 (by kernel_rfl) b4 b6 b9 c7 rfl (by omega) _ its.length (bX its) rfl (b2.alloc _) ⟨w.heap.size,0,none⟩ 1 1 [.int .i64 0,.int .u8 x.toNat,.int .u8 45,.int .i64 0,S_] rfl rfl (fX (cs:=#[.int .i64 0,.int .u8 x.toNat,.int .u8 45,.int .i64 0,S_]) (t:=219) (fr:=(0,0)) (aB (by simp) _)) (by simp[Value.oneCell']) (by omega) (by unfold maxLen;omega) (by omega) (by simp;omega) (w.heap.size+1) (by simp) ?_);intro gg cap3 w5 a1 a0 a7 b5;have a6:But (λk=>(Value.slice ao its.length cap).ownBlock=some k) w w5:=(ag _ _ _).trans (bc a0)
 have a2:=HC.out.but a6 b0.out;have y5:=ce5 a2;have f5:=b7 w5 cb 5 _ _ a2;have b3:=ae a2;have a3:=hid a2;have a4:=hid a1;have a5:ew w (.slice ao its.length cap) (.slice (some ⟨gg,0,none⟩) (its.length+1) cap3):=a7.imp (λh=>h.symm) (λh=>⟨gg,rfl,by omega⟩);have b1:=hid a5;clear c5 z5 a0 a7 a2 a1 HC a5;go_wp2_with fail;have hX:CmB (w5.setCell ⟨cb,5,none⟩ (.slice (some ⟨gg,0,none⟩) (its.length+1) cap3)) cb c m r vl vi (.slice (some ⟨gg,0,none⟩) (its.length+1) cap3):=a3.out.set _
 exact du (.int .i64 its.length) results160 rfl rfl ⟨rfl,(a6.mono (λ_ _ h=>Or.inr h)).trans ((au _ _ _ _).mono (λ_ _ h=>Or.inl h)),_,hX,by
  unfold ItB;rw[aZ,f9];exact aj a4.out (au _ _ _ _) (λg hg e=>aL a4.out a3.out (by decide) (e▸hg)),b1.out⟩
theorem zK {w:World} {base g t n len cap k:Nat} {C:List Value} (h:w.ownsRow base t n (.slice (some ⟨g,0,none⟩) len cap) len C) (y:Value):(w.setCell ⟨g,k,none⟩ y).ownsRow base t n (.slice (some ⟨g,0,none⟩) len cap) len (C.set k y):=by
 obtain⟨h1,_⟩ | ⟨g',cap',cur,h1,h2,h3,h4,h5,h6,h7⟩:=h.2
 .cases h1
 .have e1:cap=cap':=congrArg (λv=>match v with|Value.slice _ _ c=>c|_=>0) h1;have e2:g=g':=congrArg (λv=>match v with|Value.slice (some a) _ _=>a.block|_=>0) h1;subst e1 e2;refine⟨by rw[List.length_set];exact h.1,Or.inr ⟨g,cap,cur.setIfInBounds k y,rfl,h2,bG w g k _ _ _ h3,by simpa using h4,h5,by simpa using h6,?_⟩⟩;rw[Array.toList_setIfInBounds,List.take_set,h7]
theorem vn (l:List XIt) (j n:Nat) (x:XIt) (hx:l[j]?=some x):bX (l.set j {x with num:=n})=(bX l).set (j*5+3) (.int .i64 n):=by
 induction l generalizing j with
 |nil=>simp at hx
 |cons y l ih=>
  cases j with
  |zero=>
   simp only[List.getElem?_cons_zero,Option.some.injEq]at hx;subst hx;simp[bX]
  |succ j=>
   simp only[List.getElem?_cons_succ]at hx;have:=ih j hx;have e:(j+1)*5+3=j*5+3+5:=by omega
   simp only[bX,List.set_cons_succ,List.flatMap_cons]at this⊢;rw[this,e];simp
theorem CN (h:CmB w cb c m r vl vi v) (hI:ItB w base v its) (j:Nat) (x:XIt) (hx:its[j]?=some x) (hl:its.length<=4000):
  Calls prog 241 #[.pointer (some ⟨cb,0,none⟩),.int .i64 j] w λen w'=>en= .returned (.tuple #[])/\But (λk=>v.ownBlock=some k) w w'/\CmB w' cb c m r vl vi v/\ItB w' base v (its.set j {x with num:=its.length}):=by
 have hj:=(bC hx).1;have a4:v.ownBlock≠some cb:=λe=>aL hI h (by decide) e
 have HI:=hid hI;unfold ItB at hI;obtain⟨ai,ci,rfl⟩:=aw hI;obtain⟨g,rfl,a5,a6,a0⟩:=aF hI (by omega);have q3:w.cell? ⟨g,j*5+3,none⟩=some _:=a0 _ _ (aS (k:=3) hx (by omega));obtain⟨cur,a1⟩:=fT hI (g:=g) rfl;have z3:=b7 w g (j*5+3) _ _ a1;have c5:=ce5 h;have a3:=ae h;have a7:(0:Int)<=(j:Int):=by omega
 have a8:(j:Int)<(its.length:Int):=by omega
 have HC:=hid h;have HX:=hid hx;clear h hI a0 a1 hx
 go_in
 go_wp2_with fail;have a2:B_ w w.drew:=aD _ _;refine aI (B_ w) 10 ?_
 iterate 10 (refine aQ (v:=?_) rfl a2 ?_ ?_;rotate_left;(focus (intro wS h;have q0:=(h.kc c5 a3);clear h;go_simp;try rfl));dsimp only[Act.put];try simp only[cH])
 refine az rfl ?_;intro KS hKS;go_simp;refine hKS.out _ _ nofun ?_;clear hKS KS;refine az rfl ?_;intro KS hKS;go_simp;refine hKS.out _ _ nofun ?_;clear hKS KS;refine az rfl ?_;intro KS hKS;go_simp;refine hKS.out _ _ nofun ?_;clear hKS KS;refine aR rfl ?_;go_end0;have hB:But (λk=>(Value.slice (some ⟨g,0,none⟩) its.length ci).ownBlock=some k) w (w.setCell ⟨g,j*5+3,none⟩ (.int .i64 its.length)).drew:=((au _ _ _ _).mono (λ_ _ h=>h▸rfl)).trans (aD _ _);have hN:=aj (zK (k:=j*5+3) HI.out (.int .i64 its.length)) (aD (λ_=>False) _) (λ_ _ h=>h)
 exact⟨rfl,hB,HC.out.but hB a4,by
  unfold ItB;rw[List.length_set,vn _ _ _ _ HX.out];exact hN⟩
end
def Bz (w:World) (n:Nat) (en:Ending) (w':World):Prop:= ∃s:ByteArray,en= .returned (.string s)/\s.size<=n/\B_ w w'
theorem lZ (v:Value) (l:L_) (f:Nat) (w:World) (hO:BtB w 0 v l) (hl:l.length<=1000) (hf:f<=1000):
  Calls prog 158 #[v,.int .i64 f] w (Bz w 2000):=by
 obtain⟨av,cv,rfl⟩:=aw hO
 go_in
 go_wp2_with fail;have hE:=BtB.empty w;have a2:B_ w (w.alloc (.cells #[] 5)):=ag _ _ _;revert hE a2;generalize (w.alloc (.cells #[] 5))=W;intro hE a2
 go_loopg [5,6] (f+l.length) (λmm ss ks wr=> ∃(k:Nat) (ao:Option Addr) (cap:Nat) (s:L_),ss= .slice ao s.length cap/\BtB wr w.heap.size (.slice ao s.length cap) s/\s.length<=k/\ks= .int .i64 k/\k<=f+l.length/\k+mm<=f+l.length+f/\f+l.length<=k+mm/\B_ w wr)
 case atStart=>exact⟨f,_,0,[],rfl,hE,by simp,rfl,by omega,by omega,by omega,a2⟩
 case round=>
  obtain⟨k,ao,cap,s,rfl,hS,e5,rfl,e2,e3,e4,a1⟩:=hrel;have e0:(0:Int)<=(k:Int):=by omega
  by_cases hlt:k<l.length
  .have b5:(k:Int)<(l.length:Int):=by omega
   have a7:=hO.but a1 (λ_ _ h=>h);obtain⟨g,e1,c9,d6,a0⟩:=aF a7 (by omega);obtain⟨c,hc⟩: ∃c,l[k]=c:=⟨_,rfl⟩;have q0:wr.cell? ⟨g,k,none⟩=some (.int .u8 c.toNat):=a0 _ _ (by simp[aP,hc,aH hlt])
   cases e1
   have a8:=kt wr _ c rfl wr.heap.size rfl;have a6:=hS.but (ag (λ_=>False) _ (.cells #[.int .u8 c.toNat] 5)) (λ_ _ h=>h);have b4:=ay hS;obtain⟨S2,a4⟩: ∃S2,s++ [c]=S2:=⟨_,rfl⟩;have b6:S2.length<=k+1:=by rw[<-a4];simp;omega
   have b0:=hid a4;have b9:=a1.size;clear a4 a0 hc a7;go_wp2_with (at_builtin;refine bD rfl _ _ rfl w.heap.size 0 _ _ s [c] S2 b0 rfl rfl a6 a8 (by omega) (by simp;omega) ?_);intro b1 cap3 w3 b3 a5 _;have a3:But (λk'=>(Value.slice ao s.length cap).ownBlock=some k') wr w3:=(ag _ _ _).trans a5;have b2:B_ w w3:=a1.next a3 (λk' hk' h=>absurd (b4 k' h) (by omega));clear a8 a6 a5;go_wp2_with fail
   go_roundg (f+l.length-(k+1))
   case measure=>omega
   case rel=>exact⟨k+1,b1,cap3,S2,rfl,b3,by omega,by simp,by omega,by omega,by omega,b2⟩
  .have b5: ¬(k:Int)<(l.length:Int):=by omega
   have c7:=ij hS;go_wp2_with fail;exact du (.string ⟨s.toArray⟩) results158 rfl rfl ⟨_,rfl,by show s.toArray.size<=2000;simp;omega,a1⟩
theorem qp {fn:Func} {Rr:Ending->World->Prop} {a:Act} {w:World} {c:Nat} {s:ByteArray} (hf:fn.results=#[.tmp c]) (hd:a.defers=[]) (hc:a.tmps.getD c undef= .string s) (hR:Rr (.returned (.string s)) w):bodyPost prog fn Rr .ret a w:=by
 refine cW (v:= .string s) ?_ hd hR;have a0:a.tmps[c]?.getD undef= .string s:=by simpa using hc
 simp[results,hf,a0,go_sem]
theorem db (a b:ByteArray):(a++b).size=a.size+b.size:=by simp
theorem il (n:Nat) (h:n<=5000) (w:World) (ht:fj w):Calls prog 181 #[.int .i64 n] w (Bz w 30):=by
 refine(ur n (by omega) (by omega) w ht).mono ?_;rintro en w1 ⟨rfl,hB⟩;refine⟨_,rfl,?_,hB⟩;have:=Lib.itoa_length_le (n:Int) (by omega) (by omega)
 show(Lib.itoa n).toArray.size<=30
 simp;omega
theorem qq (x:XIt) (w:World) (ht:fj w) (hn:x.num<=3000):Calls prog 162 #[dF x] w (Bz w 100):=by
 have HT:=hid ht;obtain⟨pl,op,cl,n,pa,pn,pc⟩:=x;dsimp only at hn;unfold dF;obtain⟨S1,e4,z1⟩: ∃S1:ByteArray,(∀(W:World) (g:Nat),W.heap.size=g->(convert 112 9 (.slice (some ⟨g,0,none⟩) 1 1)).run prog (W.alloc (.cells #[.int .u8 op.toNat] 5))= .ok (.string S1) (W.alloc (.cells #[.int .u8 op.toNat] 5)))/\S1.size=1:=⟨⟨#[op]⟩,λW g h=>h▸wW op W,rfl⟩;obtain⟨S2,e5,z2⟩: ∃S2:ByteArray,(∀(W:World) (g:Nat),W.heap.size=g->(convert 112 9 (.slice (some ⟨g,0,none⟩) 1 1)).run prog (W.alloc (.cells #[.int .u8 cl.toNat] 5))= .ok (.string S2) (W.alloc (.cells #[.int .u8 cl.toNat] 5)))/\S2.size=1:=⟨⟨#[cl]⟩,λW g h=>h▸wW cl W,rfl⟩
 have e9:S1.size+S2.size<=200000:=by omega
 have HZ:=hid (And.intro z1 z2);have hX:(w.alloc (.cells #[.int .i64 pl,.int .u8 op.toNat,.int .u8 cl.toNat,.int .i64 n,.slice pa pn pc] 219)).heap[w.heap.size]?=some (.cells #[.int .i64 pl,.int .u8 op.toNat,.int .u8 cl.toNat,.int .i64 n,.slice pa pn pc] 219):=aO w _;have hB:B_ w (w.alloc (.cells #[.int .i64 pl,.int .u8 op.toNat,.int .u8 cl.toNat,.int .i64 n,.slice pa pn pc] 219)):=ag _ _ _;have c9:(op.toNat=110\/op.toNat=120\/(op.toNat≠110/\op.toNat≠120/\op.toNat≠103/\op.toNat≠112/\op.toNat≠99/\op.toNat≠107/\op.toNat≠108/\op.toNat≠115/\op.toNat≠106/\op.toNat≠102))\/(op.toNat=107\/op.toNat=108\/op.toNat=115\/op.toNat=103\/op.toNat=112\/op.toNat=99)\/(op.toNat=106\/op.toNat=102):=by omega
 clear ht z1 z2;obtain⟨x0,x1,x2,x3,x4⟩:=bN hX;have b9:=ae hX;have HB:=hid hB;clear hB hX
 go_in
 obtain h|h|h:=c9
 .obtain h|h|h:=h
  all_goals
   first|have a5:=aU (c:=op) 110 (by omega) |have a5:=bk (c:=op) 110 (by omega)
   first|have a8:=aU (c:=op) 120 (by omega) |have a8:=bk (c:=op) 120 (by omega)
   first|have a1:=aU (c:=op) 103 (by omega) |have a1:=bk (c:=op) 103 (by omega)
   first|have a6:=aU (c:=op) 112 (by omega) |have a6:=bk (c:=op) 112 (by omega)
   first|have b1:=aU (c:=op) 99 (by omega) |have b1:=bk (c:=op) 99 (by omega)
   first|have a3:=aU (c:=op) 107 (by omega) |have a3:=bk (c:=op) 107 (by omega)
   first|have a4:=aU (c:=op) 108 (by omega) |have a4:=bk (c:=op) 108 (by omega)
   first|have a7:=aU (c:=op) 115 (by omega) |have a7:=bk (c:=op) 115 (by omega)
   first|have a2:=aU (c:=op) 106 (by omega) |have a2:=bk (c:=op) 106 (by omega)
   first|have a0:=aU (c:=op) 102 (by omega) |have a0:=bk (c:=op) 102 (by omega)
   clear h;go_wp2_with fail
  all_goals exact qp results162 rfl rfl ⟨_,rfl,by have:=HZ.out;(try simp only[db]);omega,by first|exact(HB.out.trans (ag _ _ _)).trans (ag _ _ _) |exact HB.out.trans (ag _ _ _)⟩
 .obtain h|h|h|h|h|h:=h
  all_goals
   first|have a5:=aU (c:=op) 110 (by omega) |have a5:=bk (c:=op) 110 (by omega)
   first|have a8:=aU (c:=op) 120 (by omega) |have a8:=bk (c:=op) 120 (by omega)
   first|have a1:=aU (c:=op) 103 (by omega) |have a1:=bk (c:=op) 103 (by omega)
   first|have a6:=aU (c:=op) 112 (by omega) |have a6:=bk (c:=op) 112 (by omega)
   first|have b1:=aU (c:=op) 99 (by omega) |have b1:=bk (c:=op) 99 (by omega)
   first|have a3:=aU (c:=op) 107 (by omega) |have a3:=bk (c:=op) 107 (by omega)
   first|have a4:=aU (c:=op) 108 (by omega) |have a4:=bk (c:=op) 108 (by omega)
   first|have a7:=aU (c:=op) 115 (by omega) |have a7:=bk (c:=op) 115 (by omega)
   first|have a2:=aU (c:=op) 106 (by omega) |have a2:=bk (c:=op) 106 (by omega)
   first|have a0:=aU (c:=op) 102 (by omega) |have a0:=bk (c:=op) 102 (by omega)
   clear h;go_wp2_with fail;refine(il n (by omega) _ (HT.out.but (by first|exact(HB.out.trans (ag _ _ _)).trans (ag _ _ _) |exact HB.out.trans (ag _ _ _)))).mono ?_;rintro en w1 ⟨S3,rfl,z3,b6⟩;have e0:=hid b6;have f0:S1.size+S3.size<=200000:=by have:=HZ.out;omega
   have e2:S1.size+S2.size+S3.size<=200000:=by have:=HZ.out;omega
   clear b6;go_wp2_with fail
  all_goals exact qp results162 rfl rfl ⟨_,rfl,by have:=HZ.out;(try simp only[db]);omega,by first|exact((HB.out.trans (ag _ _ _)).trans (ag _ _ _)).trans e0.out|exact(HB.out.trans (ag _ _ _)).trans e0.out⟩
 .obtain⟨q,hq,e6⟩: ∃q:Nat,Int.tdiv (n:Int) 10=(q:Int)/\q<=3000:=⟨n / 10,(Int.ofNat_tdiv n 10).symm,by omega⟩;obtain⟨r,hr,e7⟩: ∃r:Nat,Int.tmod (n:Int) 10=(r:Int)/\r<=3000:=⟨n % 10,(Int.ofNat_tmod n 10).symm,by omega⟩;have e8:=er (q:Int) (by omega) (by omega);have e1:=er (r:Int) (by omega) (by omega);obtain h|h:=h
  .skip
   first|have a5:=aU (c:=op) 110 (by omega) |have a5:=bk (c:=op) 110 (by omega)
   first|have a8:=aU (c:=op) 120 (by omega) |have a8:=bk (c:=op) 120 (by omega)
   first|have a1:=aU (c:=op) 103 (by omega) |have a1:=bk (c:=op) 103 (by omega)
   first|have a6:=aU (c:=op) 112 (by omega) |have a6:=bk (c:=op) 112 (by omega)
   first|have b1:=aU (c:=op) 99 (by omega) |have b1:=bk (c:=op) 99 (by omega)
   first|have a3:=aU (c:=op) 107 (by omega) |have a3:=bk (c:=op) 107 (by omega)
   first|have a4:=aU (c:=op) 108 (by omega) |have a4:=bk (c:=op) 108 (by omega)
   first|have a7:=aU (c:=op) 115 (by omega) |have a7:=bk (c:=op) 115 (by omega)
   first|have a2:=aU (c:=op) 106 (by omega) |have a2:=bk (c:=op) 106 (by omega)
   first|have a0:=aU (c:=op) 102 (by omega) |have a0:=bk (c:=op) 102 (by omega)
   clear h;go_wp2_with fail;obtain⟨W,hW⟩: ∃W,(w.alloc (.cells #[.int .i64 pl,.int .u8 op.toNat,.int .u8 cl.toNat,.int .i64 n,.slice pa pn pc] 219)).alloc (.cells #[.int .u8 op.toNat] 5)=W:=⟨_,rfl⟩;have b2:B_ w W:=hW▸HB.out.trans (ag _ _ _);have x3W:W.cell? ⟨w.heap.size,3,none⟩=some (.int .i64 n):=hW▸(ag (λ_=>False) _ _).kc x3 b9;have b5:w.heap.size<W.heap.size:=by rw[<-hW];simp;omega
   rw[hW];clear hW x0 x1 x2 x3 x4 b9 HB;have b3:B_ W W.drew:=aD _ _;refine dv (B_ W) 11 ?_;refine dg [0,1,2,3,5,6,7] ?_
   iterate 7 (refine dw (v:=?_) rfl b3 ?_ ?_;rotate_left;(focus (intro wS h;have q0:=(h.kc x3W b5);clear h;go_simp;try rfl));dsimp only[Act.put];try simp only[cH])
   refine aG (k:=4) rfl ?_;intro KS hKS;go_simp;refine(il q (by omega) _ (HT.out.but (b2.trans b3))).mono ?_;rintro en w1 ⟨S3,rfl,z3,b6⟩;have b4:=b3.trans b6;refine hKS.out _ _ (λ_=>b4) ?_;clear hKS KS;refine aG (k:=8) rfl ?_;intro KS hKS;go_simp;refine(il r (by omega) _ (HT.out.but (b2.trans b4))).mono ?_;rintro en w2 ⟨S4,rfl,z4,c7⟩;have b0:=b4.trans c7;refine hKS.out _ _ (λ_=>b0) ?_;clear hKS KS;have e3:S3.size+S4.size<=200000:=by omega
   have d6:S1.size+(S3.size+S4.size)<=200000:=by have:=HZ.out;omega
   refine aG (k:=9) rfl ?_;intro KS hKS;go_simp;rw[if_neg (by omega)];refine hKS.out _ _ (λ_=>b0) ?_;clear hKS KS;refine aG (k:=10) rfl ?_;intro KS hKS;go_simp;rw[if_neg (by omega)];refine hKS.out _ _ (λ_=>b0) ?_;clear hKS KS;refine aG (k:=11) rfl ?_;intro KS hKS;go_simp;refine hKS.out _ _ nofun ?_;clear hKS KS;refine dl rfl ?_;go_wp2_with fail;exact qp results162 rfl rfl ⟨_,rfl,by have:=HZ.out;simp only[db];omega,b2.trans b0⟩
  .skip
   first|have a5:=aU (c:=op) 110 (by omega) |have a5:=bk (c:=op) 110 (by omega)
   first|have a8:=aU (c:=op) 120 (by omega) |have a8:=bk (c:=op) 120 (by omega)
   first|have a1:=aU (c:=op) 103 (by omega) |have a1:=bk (c:=op) 103 (by omega)
   first|have a6:=aU (c:=op) 112 (by omega) |have a6:=bk (c:=op) 112 (by omega)
   first|have b1:=aU (c:=op) 99 (by omega) |have b1:=bk (c:=op) 99 (by omega)
   first|have a3:=aU (c:=op) 107 (by omega) |have a3:=bk (c:=op) 107 (by omega)
   first|have a4:=aU (c:=op) 108 (by omega) |have a4:=bk (c:=op) 108 (by omega)
   first|have a7:=aU (c:=op) 115 (by omega) |have a7:=bk (c:=op) 115 (by omega)
   first|have a2:=aU (c:=op) 106 (by omega) |have a2:=bk (c:=op) 106 (by omega)
   first|have a0:=aU (c:=op) 102 (by omega) |have a0:=bk (c:=op) 102 (by omega)
   clear h;go_wp2_with fail;obtain⟨W,hW⟩: ∃W,(w.alloc (.cells #[.int .i64 pl,.int .u8 op.toNat,.int .u8 cl.toNat,.int .i64 n,.slice pa pn pc] 219)).alloc (.cells #[.int .u8 op.toNat] 5)=W:=⟨_,rfl⟩;have b2:B_ w W:=hW▸HB.out.trans (ag _ _ _);have x3W:W.cell? ⟨w.heap.size,3,none⟩=some (.int .i64 n):=hW▸(ag (λ_=>False) _ _).kc x3 b9;have b5:w.heap.size<W.heap.size:=by rw[<-hW];simp;omega
   rw[hW];clear hW x0 x1 x2 x3 x4 b9 HB;have b3:B_ W W.drew:=aD _ _;refine dv (B_ W) 11 ?_;refine dg [0,1,2,3,5,6,7] ?_
   iterate 7 (refine dw (v:=?_) rfl b3 ?_ ?_;rotate_left;(focus (intro wS h;have q0:=(h.kc x3W b5);clear h;go_simp;try rfl));dsimp only[Act.put];try simp only[cH])
   refine aG (k:=4) rfl ?_;intro KS hKS;go_simp;refine(il q (by omega) _ (HT.out.but (b2.trans b3))).mono ?_;rintro en w1 ⟨S3,rfl,z3,b6⟩;have b4:=b3.trans b6;refine hKS.out _ _ (λ_=>b4) ?_;clear hKS KS;refine aG (k:=8) rfl ?_;intro KS hKS;go_simp;refine(il r (by omega) _ (HT.out.but (b2.trans b4))).mono ?_;rintro en w2 ⟨S4,rfl,z4,c7⟩;have b0:=b4.trans c7;refine hKS.out _ _ (λ_=>b0) ?_;clear hKS KS;have e3:S3.size+S4.size<=200000:=by omega
   have d6:S1.size+(S3.size+S4.size)<=200000:=by have:=HZ.out;omega
   refine aG (k:=9) rfl ?_;intro KS hKS;go_simp;rw[if_neg (by omega)];refine hKS.out _ _ (λ_=>b0) ?_;clear hKS KS;refine aG (k:=10) rfl ?_;intro KS hKS;go_simp;rw[if_neg (by omega)];refine hKS.out _ _ (λ_=>b0) ?_;clear hKS KS;refine aG (k:=11) rfl ?_;intro KS hKS;go_simp;refine hKS.out _ _ nofun ?_;clear hKS KS;refine dl rfl ?_;go_wp2_with fail;exact qp results162 rfl rfl ⟨_,rfl,by have:=HZ.out;simp only[db];omega,b2.trans b0⟩
def iv (x:XIt):List XIt:=⟨0,x.op,x.cls,x.num,none,0,0⟩::if x.op.toNat=115\/x.op.toNat=112\/x.op.toNat=119 then [fc 107]else []
section
variable {w:World} {cb base:Nat} {c m r vl vi v:Value} {its:List XIt}
theorem BA (h:CmB w cb c m r vl vi v) (hI:ItB w base v its) (hb:base<=w.heap.size) (hl:its.length<=3900) (x:XIt):
  Calls prog 213 #[.pointer (some ⟨cb,0,none⟩),dF x] w λen w'=>en= .returned (.tuple #[])/\But (λk=>k=cb\/v.ownBlock=some k) w w'/\ ∃v',CmB w' cb c m r vl vi v'/\ItB w' base v' (its++iv x)/\ew w v v':=by
 obtain⟨i0,f0,f4,f5,f6⟩:=info_parts jO;have b5:v.ownBlock≠some cb:=λe=>aL hI h (by decide) e
 obtain⟨ao,cap,rfl⟩:=aw hI;obtain⟨W,hW⟩: ∃W,w.alloc (.cells #[.int .i64 x.place,.int .u8 x.op.toNat,.int .u8 x.cls.toNat,.int .i64 x.num,.slice x.pa x.pn x.pc] 219)=W:=⟨_,rfl⟩;have a8:B_ w W:=hW▸ag _ _ _;have hX:W.heap[w.heap.size]?=some (.cells #[.int .i64 x.place,.int .u8 x.op.toNat,.int .u8 x.cls.toNat,.int .i64 x.num,.slice x.pa x.pn x.pc] 219):=hW▸aO w _;have hC:=h.but a8 (λh=>h);have e2:W.ownsRow base 219 5 (.slice ao its.length cap) its.length (bX its):=aj hI a8 (λ_ _ h=>h);have f2: ∀k,(Value.slice ao its.length cap).ownBlock=some k->k<w.heap.size:=λk hk=>aW hI k hk
 have f8:=a8.size;have f7:=ae h;clear h hI;unfold dF
 go_in
 go_wp2_with fail
 try rw[hW]
 clear hW;obtain⟨x0,x1,x2,x3,x4⟩:=bN hX;have b3:=ae hX;have c5:=ce5 hC;have z5:=b7 W cb 5 _ _ hC;have c9:=ae hC;have HC:=hid hC;have HX:=hid hX;have d6:=hid a8;have nx:(Value.slice ao its.length cap).ownBlock≠some w.heap.size:=λe=>by have:=f2 _ e;omega
 clear hC hX a8;have e9:But (λk=>(Value.slice ao its.length cap).ownBlock=some k) W W.drew:=aD _ _;refine aI (But (λk=>(Value.slice ao its.length cap).ownBlock=some k) W) 14 ?_
 iterate 12 (refine aQ (v:=?_) rfl e9 ?_ ?_;rotate_left;(focus (intro wS h;have q0:=((h.cell (p:=⟨cb,5,none⟩) c9 b5).trans c5);have q1:=((h.cell (p:=⟨w.heap.size,1,none⟩) b3 nx).trans x1);have q2:=((h.cell (p:=⟨w.heap.size,2,none⟩) b3 nx).trans x2);have q3:=((h.cell (p:=⟨w.heap.size,3,none⟩) b3 nx).trans x3);clear h;go_simp;try rfl));dsimp only[Act.put];try simp only[cH])
 refine az rfl ?_;intro KS hKS;go_simp;refine hKS.out _ _ (λ_=>(ag _ _ _).trans (aD _ _)) ?_;clear hKS KS;refine az rfl ?_;intro KS hKS
 refine step_append_lies _ (by rfl) _ _ _ (by rfl) base 219 i0 _ 5 48 (by kernel_rfl) f0 f4 f5 f6 rfl (by omega) _ its.length (bX its) (by rfl) ((e2.alloc _).drew)
    ⟨W.heap.size,0,none⟩ 1 1 [.int .i64 0,.int .u8 x.op.toNat,.int .u8 x.cls.toNat,.int .i64 x.num,S_] (by rfl) (by rfl) (fX (cs:=#[.int .i64 0,.int .u8 x.op.toNat,.int .u8 x.cls.toNat,.int .i64 x.num,S_]) (t:=219) (fr:=(0,0)) (aO W _)) (by simp[Value.oneCell'])
    (by omega) (by unfold maxLen;omega) (by omega) (by simp;omega) (W.heap.size+1) (by simp) ?_
 intro gg cap3 w4 a0 a3 e3 f3;have a2:But (λk=>(Value.slice ao its.length cap).ownBlock=some k) W w4:=((ag _ _ _).trans (aD _ _)).trans (bc a3);refine hKS.out _ _ (λ_=>a2) ?_;clear hKS KS;have y0:=(a2.cell (p:=⟨cb,5,none⟩) c9 b5).trans c5;have y1:=(a2.frozen (p:=⟨cb,5,none⟩) c9 b5).trans z5;refine az rfl ?_;intro KS hKS;go_simp;refine hKS.out _ _ nofun ?_;clear hKS KS;refine az rfl ?_;intro KS hKS;go_simp;refine hKS.out _ _ nofun ?_;clear hKS KS;refine az rfl ?_;intro KS hKS;go_simp;refine hKS.out _ _ nofun ?_;clear hKS KS;refine aR rfl ?_;have c7:=HC.out.but a2 b5;have b0:=c7.set (.slice (some ⟨gg,0,none⟩) (its.length+1) cap3)
 have a1:But (· =cb) w4 (w4.setCell ⟨cb,5,none⟩ (.slice (some ⟨gg,0,none⟩) (its.length+1) cap3)):=au _ _ _ _
 have b1:ItB (w4.setCell ⟨cb,5,none⟩ (.slice (some ⟨gg,0,none⟩) (its.length+1) cap3)) base (.slice (some ⟨gg,0,none⟩) (its.length+1) cap3) (its++ [⟨0,x.op,x.cls,x.num,none,0,0⟩]):=by
  unfold ItB;rw[aZ,f9];exact aj a0 a1 (λg hg e=>aL a0 c7 (by decide) (e▸hg))
 have b4:=(a1.block w.heap.size (bq b3 a2.size) (by show¬w.heap.size=cb;omega)).trans ((a2.block _ b3 nx).trans HX.out);have b2:ew w (.slice ao its.length cap) (.slice (some ⟨gg,0,none⟩) (its.length+1) cap3):=e3.imp (λh=>h.symm) (λh=>⟨gg,rfl,by omega⟩);have a7:But (λk=>k=cb\/(Value.slice ao its.length cap).ownBlock=some k) w (w4.setCell ⟨cb,5,none⟩ (.slice (some ⟨gg,0,none⟩) (its.length+1) cap3)):=((d6.out.mono (λ_ _ h=>h.elim)).trans (a2.mono (λ_ _ h=>Or.inr h))).trans (a1.mono (λ_ _ h=>Or.inl h));clear y0 y1 a0 a3 a2 a1 c7 c5 z5 x0 x1 x2 x3 x4 e3 HC HX d6;revert b0 b1 b4 a7;generalize (w4.setCell ⟨cb,5,none⟩ (.slice (some ⟨gg,0,none⟩) (its.length+1) cap3))=W5
 intro b0 b1 b4 a7;have x1:=ce1 b4;have f1:(its++ [(⟨0,x.op,x.cls,x.num,none,0,0⟩:XIt)]).length<=4000:=by simp;omega
 have e0:=hid (xI b0 b1 (Nat.le_trans hb a7.size) f1 107);have e4:=hid b0;have e5:=hid b1;have b6:=hid b2;have b9:=hid a7;clear b0 b1 b4 a7 b2 e2
 by_cases hk:x.op.toNat=115\/x.op.toNat=112\/x.op.toNat=119
 .have hL:iv x=[⟨0,x.op,x.cls,x.num,none,0,0⟩,fc 107]:=by unfold iv;rw[if_pos hk]
  have HL:=hid hL;clear hL;obtain h|h|h:=hk
  all_goals
   first|have a5:=aU (c:=x.op) 115 (by omega) |have a5:=bk (c:=x.op) 115 (by omega)
   first|have a4:=aU (c:=x.op) 112 (by omega) |have a4:=bk (c:=x.op) 112 (by omega)
   first|have a6:=aU (c:=x.op) 119 (by omega) |have a6:=bk (c:=x.op) 119 (by omega)
   clear h;go_wp2_with fail;refine e0.out.mono ?_;rintro en w6 ⟨rfl,e6,v6,e7,e1,e8⟩;have hB:=b9.out.next e6 (λk hk h=>h.imp id (λh=>b6.out.own hk h));have hN:=b6.out.trans e8 b9.out.size;rw[List.append_assoc]at e1;go_wp2_with fail;go_end0;exact⟨rfl,hB,v6,e7,by rw[HL.out];exact e1,hN⟩
 .have hL:iv x=[⟨0,x.op,x.cls,x.num,none,0,0⟩]:=by unfold iv;rw[if_neg hk]
  have HL:=hid hL;have a5:=aU (c:=x.op) 115 (by omega);have a4:=aU (c:=x.op) 112 (by omega);have a6:=aU (c:=x.op) 119 (by omega);clear hL hk e0;go_wp2_with fail;go_end0;exact⟨rfl,b9.out,_,e4.out,by rw[HL.out];exact e5.out,b6.out⟩
end
structure CmS (w0 w:World) (cb:Nat) (X:bM) (vl vi v:Value) (l:List XIt):Prop where
 old:B_ w0 w
 blk:CmB w cb (.int .u8 X.cls.toNat) (.int .i64 X.meth) (.int .u8 X.ans.toNat) vl vi v
 its:ItB w w0.heap.size v l
 new:w0.heap.size<=cb
def CmR (w0 w:World) (cb:Nat) (X:bM) (vl vi v:Value) (l:List XIt) (en:Ending) (w':World):Prop:=en= .returned (.tuple #[])/\But (λk=>k=cb\/v.ownBlock=some k) w w'/\ ∃v',CmS w0 w' cb X vl vi v' l/\ew w v v'
theorem ew.refl (w:World) (v:Value):ew w v v:=Or.inl rfl
theorem ew.off {w:World} {v v':Value} (h:ew w v v') {k:Nat} (hk:k<w.heap.size) (hn:v.ownBlock≠some k):v'.ownBlock≠some k:=λe=>hn (h.own hk e)
theorem ew.mono {w w':World} {v v':Value} (h:ew w' v v') (hs:w.heap.size<=w'.heap.size):ew w v v':=h.imp id (λ⟨g,e,hg⟩=>⟨g,e,by omega⟩)
section
variable {w0 w w':World} {cb:Nat} {X:bM} {vl vi v:Value} {l:List XIt}
theorem CmS.ge (h:CmS w0 w cb X vl vi v l): ∀k,k<w0.heap.size-> ¬(k=cb\/v.ownBlock=some k):=λk hk e=>by
 have:=h.new;obtain e|e:=e
 .omega
 .have:=ay h.its k e;omega
theorem CmS.lay (h:CmS w0 w cb X vl vi v l) (hl:l.length<=4000) (x:UInt8):
  Calls prog 160 #[.pointer (some ⟨cb,0,none⟩),.int .u8 x.toNat] w λen w'=>en= .returned (.int .i64 l.length)/\But (λk=>k=cb\/v.ownBlock=some k) w w'/\ ∃v',CmS w0 w' cb X vl vi v' (l++ [fc x])/\ew w v v':=by
 refine(xI h.blk h.its h.old.size hl x).mono ?_;rintro en w1 ⟨rfl,hB,v',hC,hI,hN⟩;exact⟨rfl,hB,v',⟨h.old.next hB (λk hk e=>h.ge k hk e),hC,hI,h.new⟩,hN⟩
theorem CmS.aim (h:CmS w0 w cb X vl vi v l) (j:Nat) (x:XIt) (hx:l[j]?=some x) (hl:l.length<=4000):
  Calls prog 241 #[.pointer (some ⟨cb,0,none⟩),.int .i64 j] w (CmR w0 w cb X vl vi v (l.set j {x with num:=l.length})):=by
 refine(CN h.blk h.its j x hx hl).mono ?_;rintro en w1 ⟨rfl,hB,hC,hI⟩;exact⟨rfl,hB.mono (λ_ _ h=>Or.inr h),v,⟨h.old.next hB (λk hk e=>h.ge k hk (Or.inr e)),hC,hI,h.new⟩,ew.refl _ _⟩
theorem CmS.last (h:CmS w0 w cb X vl vi v l) (hl:l.length<=3900) (x:XIt):
  Calls prog 213 #[.pointer (some ⟨cb,0,none⟩),dF x] w (CmR w0 w cb X vl vi v (l++iv x)):=by
 refine(BA h.blk h.its h.old.size hl x).mono ?_;rintro en w1 ⟨rfl,hB,v',hC,hI,hN⟩;exact⟨rfl,hB,v',⟨h.old.next hB (λk hk e=>h.ge k hk e),hC,hI,h.new⟩,hN⟩
theorem CmS.step (h:CmS w0 w cb X vl vi v l) (hB:B_ w w'):CmS w0 w' cb X vl vi v l:=
 ⟨h.old.trans hB,h.blk.but hB (λh=>h),aj h.its hB (λ_ _ h=>h),h.new⟩
theorem wP (h:CmS w0 w cb X vl vi v l) (x:XIt) (k:Nat) (hk:x.pn<=k) (hk3:k<=3):
  Calls prog 210 #[.pointer (some ⟨cb,0,none⟩),dF x,.int .i64 k] w (CmR w0 w cb X vl vi v l):=by
 have HH:=hid h;have k1:(0:Int)<=(k:Int):=by omega
 have k2: ¬((k:Int)<(x.pn:Int)):=by omega
 clear h;unfold dF
 go_in
 go_wp2_with fail;go_end0;exact⟨rfl,ag _ _ _,v,HH.out.step (ag _ _ _),ew.refl _ _⟩
theorem BB (h:CmS w0 w cb X vl vi v l) (x:XIt) (k j:Nat) (hk3:k<=3) (ps:List Nat) (hk:ps[k]?=some j) (hrow:w0.ownsRow 0 3 1 (.slice x.pa x.pn x.pc) ps.length (eJ ps)) (hps:ps.length<=3) (l':List XIt)
  (IH: ∀Y,CmS w0 Y cb X vl vi v l->Calls prog 159 #[.pointer (some ⟨cb,0,none⟩),.int .i64 j] Y (CmR w0 Y cb X vl vi v l')):
  Calls prog 210 #[.pointer (some ⟨cb,0,none⟩),dF x,.int .i64 k] w (CmR w0 w cb X vl vi v l'):=by
 obtain⟨pl,op,cl,n,pa,pn,pc⟩:=x;have a5:=(bC hk).1;dsimp only at hrow;obtain⟨a',cap',a2⟩:=aw hrow;injection a2 with e1 e2 e3;subst e1 e2 e3;obtain⟨g,rfl,a1,a3,a0⟩:=aF hrow (by omega);have q0:w0.cell? ⟨g,k,none⟩=some (.int .i64 j):=a0 _ _ (by simp[eJ,hk]);replace q0:=h.old.kc q0 a1;replace a1:=bq a1 h.old.size;have HC:=hid (λY (hY:B_ w Y)=>IH Y (h.step hY));have k1:(0:Int)<=(k:Int):=by omega
 have k3:(k:Int)<(ps.length:Int):=by omega
 have a4:g<w.heap.size+1:=by omega
 clear h hk hrow a0 IH;generalize ps.length=np at*;unfold dF
 go_in
 go_wp2_with fail;refine(HC.out _ (ag _ _ _)).mono ?_;rintro en w1 ⟨rfl,hB,v',hS,hN⟩;have HR:=hid (show But (λk=>k=cb\/v.ownBlock=some k) w w1/\ ∃v',CmS w0 w1 cb X vl vi v' l'/\ew w v v' from⟨(ag _ _ _).trans hB,v',hS,hN.mono (by simp)⟩);clear hB hS hN HC;go_wp2_with fail;go_end0;exact⟨rfl,HR.out⟩
end
def aimX (j:Nat) (l:List XIt):List XIt:=match l[j]? with
 |some x=>l.set j {x with num:=l.length}
 |none=>l
theorem fy (j:Nat) (l:List XIt):(aimX j l).length=l.length:=by
 unfold aimX
 split<;>simp
def kA (p:Nat->List XIt->List XIt) (l:List XIt):List XIt:=
 aimX (p 1 (p 0 l++ [fc 102])).length (p 2 (aimX (p 0 l).length (p 1 (p 0 l++ [fc 102])++ [fc 106])))
def oG (p:Nat->List XIt->List XIt) (l:List XIt):List XIt:=
 aimX (p 0 l).length (p 1 (p 0 l++ [fc 102])++ [fc 100]++ [⟨0,106,45,l.length,none,0,0⟩])++ [fc 107]
structure BxC (w:World) (cb b:Nat) (v:Value) (x:XIt):Prop where
 box:w.heap[b]?=some (.cells #[.int .i64 x.place,.int .u8 x.op.toNat,.int .u8 x.cls.toNat,.int .i64 x.num,.slice x.pa x.pn x.pc] 219)
 nc:b≠cb
 nv:v.ownBlock≠some b
theorem BxC.next {w w':World} {cb b:Nat} {v v':Value} {x:XIt} (h:BxC w cb b v x) (hB:But (λk=>k=cb\/v.ownBlock=some k) w w') (hN:ew w v v'):BxC w' cb b v' x:=
 ⟨(hB.block b (ae h.box) (λe=>e.elim h.nc h.nv)).trans h.box,h.nc,hN.off (ae h.box) h.nv⟩
section
variable {w0 w w':World} {cb:Nat} {X:bM} {vl vi v:Value} {l:List XIt}
theorem CmS.aimX (h:CmS w0 w cb X vl vi v l) (j:Nat) (hj:j<l.length) (hl:l.length<=4000):
  Calls prog 241 #[.pointer (some ⟨cb,0,none⟩),.int .i64 j] w (CmR w0 w cb X vl vi v (aimX j l)):=by
 have hx:=aH hj
 have e:Proofs.YtpfkkmacakjmbaaGreatDoor.aimX j l=l.set j {l[j]with num:=l.length}:=by
  unfold Proofs.YtpfkkmacakjmbaaGreatDoor.aimX;rw[hx]
 rw[e];exact h.aim j _ hx hl
end
structure CmG (w0 w W:World) (cb b:Nat) (X:bM) (vl vi v v':Value) (l:List XIt) (x:XIt):Prop where
 s:CmS w0 W cb X vl vi v' l
 t:But (λk=>k=cb\/v.ownBlock=some k) w W
 n:ew w v v'
 b:BxC W cb b v' x
section
variable {w0 w W W':World} {cb b:Nat} {X:bM} {vl vi v v' v'':Value} {l l':List XIt} {x:XIt}
theorem CmG.next (h:CmG w0 w W cb b X vl vi v v' l x) (hB:But (λk=>k=cb\/v'.ownBlock=some k) W W') (hS:CmS w0 W' cb X vl vi v'' l') (hN:ew W v' v''):CmG w0 w W' cb b X vl vi v v'' l' x:=
 ⟨hS,h.t.next hB (λk hk e=>e.imp id (λe=>h.n.own hk e)),h.n.trans hN h.t.size,h.b.next hB hN⟩
theorem CmG.fin (h:CmG w0 w W cb b X vl vi v v' l x):CmR w0 w cb X vl vi v l (.returned (.tuple #[])) W:=⟨rfl,h.t,v',h.s,h.n⟩
theorem CmG.lay (h:CmG w0 w W cb b X vl vi v v' l x) (c:UInt8) (hl:l.length<=4000):Calls prog 160 #[.pointer (some ⟨cb,0,none⟩),.int .u8 c.toNat] W λen w2=>en= .returned (.int .i64 l.length)/\ ∃v2,CmG w0 w w2 cb b X vl vi v v2 (l++ [fc c]) x:=by
 refine(h.s.lay hl c).mono ?_;rintro en w2 ⟨rfl,hB,v2,hS,hN⟩;exact⟨rfl,v2,h.next hB hS hN⟩
theorem CmG.call {f:Nat} {args:Array Value} (h:CmG w0 w W cb b X vl vi v v' l x) (H:Calls prog f args W (CmR w0 W cb X vl vi v' l')):Calls prog f args W λen w2=>en= .returned (.tuple #[])/\ ∃v2,CmG w0 w w2 cb b X vl vi v v2 l' x:=by
 refine H.mono ?_;rintro en w2 ⟨rfl,hB,v2,hS,hN⟩;exact⟨rfl,v2,h.next hB hS hN⟩
theorem CmS.begin (h:CmS w0 w cb X vl vi v l) (hB:B_ w W) (x:XIt):CmG w0 w (W.alloc (.cells #[.int .i64 x.place,.int .u8 x.op.toNat,.int .u8 x.cls.toNat,.int .i64 x.num,.slice x.pa x.pn x.pc] 219)) cb W.heap.size X vl vi v v l x:=by
 have h1:=ae h.blk;have h2:=hB.size;exact⟨(h.step hB).step (ag _ _ _),(hB.mono (λ_ _ h=>h.elim)).trans (ag _ _ _),ew.refl _ _,aO _ _,by omega,λe=>by have:=aW h.its _ e;omega⟩
theorem CmG.at' (h:CmG w0 w W cb b X vl vi v v' l x):b<W.heap.size:=ae h.b.box
theorem wQ (h:CmS w0 w cb X vl vi v l) (x:XIt) (p:Nat->List XIt->List XIt) (hp: ∀k l,l.length<=(p k l).length) (hb:(kA p l).length<=3000)
  (HP: ∀k,k<=2-> ∀Y v l,CmS w0 Y cb X vl vi v l->(p k l).length<=3000->Calls prog 210 #[.pointer (some ⟨cb,0,none⟩),dF x,.int .i64 k] Y (CmR w0 Y cb X vl vi v (p k l))):
  Calls prog 211 #[.pointer (some ⟨cb,0,none⟩),dF x] w (CmR w0 w cb X vl vi v (kA p l)):=by
 have n0:=hp 0 l;have n1:=hp 1 (p 0 l++ [fc 102]);have n2:=hp 2 (aimX (p 0 l).length (p 1 (p 0 l++ [fc 102])++ [fc 106]));rw[fy,aZ,dM]at n2;rw[aZ,dM]at n1;unfold kA at hb⊢;rw[fy]at hb;have HG:=hid (h.begin (But.refl _ _) x);have a0:=hid HP;unfold dF at a0⊢;clear h HP hp
 go_in
 go_wp2_with fail;refine(HG.out.call (a0.out 0 (by omega) _ _ _ HG.out.s (by omega))).mono ?_;rintro en w1 ⟨rfl,v1,h1⟩;have H1:=hid h1;clear HG h1;go_wp2_with fail;refine(H1.out.lay 102 (by omega)).mono ?_;rintro en w2 ⟨rfl,v2,h2⟩;obtain⟨x0,x1,x2,x3,x4⟩:=bN h2.b.box;have a1:=h2.at';have H2:=hid h2;clear H1 h2;go_wp2_with fail;refine(H2.out.call (a0.out 1 (by omega) _ _ _ H2.out.s (by omega))).mono ?_;rintro en w3 ⟨rfl,v3,h3⟩;have H3:=hid h3;clear H2 h3 x0 x1 x2 x3 x4 a1;go_wp2_with fail;refine(H3.out.lay 106 (by omega)).mono ?_;rintro en w4 ⟨rfl,v4,h4⟩;have H4:=hid h4;clear H3 h4;go_wp2_with fail
 refine(H4.out.call (H4.out.s.aimX (p 0 l).length (by rw[aZ];simp;omega) (by rw[aZ];simp;omega))).mono ?_;rintro en w5 ⟨rfl,v5,h5⟩;obtain⟨x0,x1,x2,x3,x4⟩:=bN h5.b.box;have a2:=h5.at';have H5:=hid h5;clear H4 h5;go_wp2_with fail;refine(H5.out.call (a0.out 2 (by omega) _ _ _ H5.out.s (by omega))).mono ?_;rintro en w6 ⟨rfl,v6,h6⟩;have H6:=hid h6;clear H5 h6 x0 x1 x2 x3 x4 a2;go_wp2_with fail;refine(H6.out.call (H6.out.s.aimX (p 1 (p 0 l++ [fc 102])).length (by omega) (by omega))).mono ?_;rintro en w7 ⟨rfl,v7,h7⟩;have H7:=hid h7;clear H6 h7;go_wp2_with fail;go_end0;exact H7.out.fin
end
section
variable {w0 w w':World} {cb:Nat} {X:bM} {vl vi v:Value} {l:List XIt}
theorem zL (h:CmS w0 w cb X vl vi v l) (x:XIt) (p:Nat->List XIt->List XIt) (hp: ∀k l,l.length<=(p k l).length) (hb:(oG p l).length<=3000)
  (HP: ∀k,k<=2-> ∀Y v l,CmS w0 Y cb X vl vi v l->(p k l).length<=3000->Calls prog 210 #[.pointer (some ⟨cb,0,none⟩),dF x,.int .i64 k] Y (CmR w0 Y cb X vl vi v (p k l))):
  Calls prog 212 #[.pointer (some ⟨cb,0,none⟩),dF x] w (CmR w0 w cb X vl vi v (oG p l)):=by
 obtain⟨i0,f0,f7,f8,g0⟩:=info_parts jO;have n0:=hp 0 l;have n1:=hp 1 (p 0 l++ [fc 102]);rw[aZ,dM]at n1;obtain⟨LF,b0⟩: ∃LF,oG p l=LF:=⟨_,rfl⟩;rw[b0];unfold oG at hb b0;have c9:=hid b0;clear b0;rw[aZ,fy,aZ,aZ,dM,dM,dM]at hb;obtain⟨ao,cap,e6⟩:=aw h.its;have c5:=ce5 h.blk;rw[e6]at c5;have HG:=hid (h.begin (But.refl _ _) x);have a7:=hid HP;unfold dF at a7⊢;have g1:=ae h.blk;clear h HP hp e6
 go_in
 go_wp2_with fail;refine(HG.out.call (a7.out 0 (by omega) _ _ _ HG.out.s (by omega))).mono ?_;rintro en w1 ⟨rfl,v1,h1⟩;have H1:=hid h1;clear HG h1 c5;go_wp2_with fail;refine(H1.out.lay 102 (by omega)).mono ?_;rintro en w2 ⟨rfl,v2,h2⟩;obtain⟨x0,x1,x2,x3,x4⟩:=bN h2.b.box;have f1:=h2.at';have H2:=hid h2;clear H1 h2;go_wp2_with fail;refine(H2.out.call (a7.out 1 (by omega) _ _ _ H2.out.s (by omega))).mono ?_;rintro en w3 ⟨rfl,v3,h3⟩;have H3:=hid h3;clear H2 h3 x0 x1 x2 x3 x4 a7 f1;go_wp2_with fail;refine(H3.out.lay 100 (by omega)).mono ?_;rintro en w4 ⟨rfl,v4,h4⟩;have a0:=h4.s;have H4:=hid h4;clear H3 h4
 obtain⟨L4,b5⟩: ∃L4,p 1 (p 0 l++ [fc 102])++ [fc 100]=L4:=⟨_,rfl⟩;have f2:L4.length=(p 1 (p 0 l++ [fc 102])).length+1:=by rw[<-b5];simp
 rw[b5]at a0 c9;have f3:(p 1 (p 0 l++ [fc 102])).length+1<=L4.length:=by omega
 have f4:L4.length<=(p 1 (p 0 l++ [fc 102])).length+1:=by omega
 clear b5 f2;have e5:v4.ownBlock≠some cb:=λe=>aL a0.its a0.blk (by decide) e
 have b9:=a0.ge;have c7:=a0.new;have a5:=hid a0.old;have e4:=a0.old.size;have b4:=a0.its;obtain⟨a8,a1,rfl⟩:=aw b4;have e8:w4.ownsRow w0.heap.size 219 5 (.slice a8 L4.length a1) L4.length (bX L4):=b4;have c5:=ce5 a0.blk;have z5:=b7 w4 cb 5 _ _ a0.blk;have g2:=ae a0.blk;have HC:=hid a0.blk;have e7:=hid e5;clear a0 b4 e5;have g3:L4.length<=3000:=by omega
 go_wp2_with (at_builtin;refine wpList_append_lies _ rfl _ _ _ rfl w0.heap.size 219 i0 _ 5 48 (by kernel_rfl) f0 f7 f8 g0 rfl (by omega) _ L4.length (bX L4) rfl (e8.alloc _) ⟨w4.heap.size,0,none⟩ 1 1 [.int .i64 0,.int .u8 106,.int .u8 45,.int .i64 l.length,S_] rfl rfl (fX (cs:=#[.int .i64 0,.int .u8 106,.int .u8 45,.int .i64 l.length,S_]) (t:=219) (fr:=(0,0)) (aB (by simp) _)) (by simp[Value.oneCell']) (by omega) (by unfold maxLen;omega) (by omega) (by simp;omega) (w4.heap.size+1) (by simp) ?_);intro gg a2 w5 a4 a3 e3 f6;have b6:But (λk=>(Value.slice a8 L4.length a1).ownBlock=some k) w4 w5:=(ag _ _ _).trans (bc a3)
 have a6:=HC.out.but b6 e7.out;have y5:=ce5 a6;have f5:=b7 w5 cb 5 _ _ a6;have e9:=ae a6;have e1:ew w4 (.slice a8 L4.length a1) (.slice (some ⟨gg,0,none⟩) (L4.length+1) a2):=e3.imp (λh=>h.symm) (λh=>⟨gg,rfl,by omega⟩);have b1:=hid a6;have b2:=hid a4;have e0:=hid b6;have d6:=hid e1;clear c5 z5 a3 e3 a6 a4 HC b6 e1;have b3:But (λk=>k=cb\/(Value.slice a8 L4.length a1).ownBlock=some k) w4 (w5.setCell ⟨cb,5,none⟩ (.slice (some ⟨gg,0,none⟩) (L4.length+1) a2)):=(e0.out.mono (λ_ _ h=>Or.inr h)).trans ((au _ _ _ _).mono (λ_ _ h=>Or.inl h))
 have e2:CmS w0 (w5.setCell ⟨cb,5,none⟩ (.slice (some ⟨gg,0,none⟩) (L4.length+1) a2)) cb X vl vi (.slice (some ⟨gg,0,none⟩) (L4.length+1) a2) (L4++ [⟨0,106,45,l.length,none,0,0⟩]):=by
  refine⟨a5.out.next b3 (λk hk e=>b9 k hk e),b1.out.set _,?_,c7⟩;unfold ItB;rw[aZ,f9];exact aj b2.out (au _ _ _ _) (λg hg e=>aL b2.out b1.out (by decide) (e▸hg))
 have H6:=hid (H4.out.next b3 e2 d6.out);clear b3 e2 e0 H4 b1 b2 a5 d6;go_wp2_with fail;refine(H6.out.call (H6.out.s.aimX (p 0 l).length (by rw[aZ];simp;omega) (by rw[aZ];simp;omega))).mono ?_;rintro en w7 ⟨rfl,v7,h7⟩;have H7:=hid h7;clear H6 h7;go_wp2_with fail;refine(H7.out.lay 107 (by rw[fy,aZ];simp;omega)).mono ?_;rintro en w8 ⟨rfl,v8,h8⟩;rw[c9.out]at h8;have H8:=hid h8;clear H7 h8;go_wp2_with fail;go_end0;exact H8.out.fin
end
end
end Go.Proofs.YtpfkkmacakjmbaaGreatDoor
