import Derived.Test.YtpfkkmacakjmbaaGreatDoorP27
import Derived.Test.YtpfkkmacakjmbaaGreatDoorP23
set_option maxRecDepth 100000
set_option maxHeartbeats 6400000
set_option linter.all false
namespace Go.Proofs.YtpfkkmacakjmbaaGreatDoor
open Proofs.Tryz
section
open Go Go.RowKit Sp
attribute [local go_sem ↓] eF eG
def CmB (w:World) (cb:Nat) (c m r vl vi v:Value):Prop:=w.heap[cb]?=some (.cells #[c,m,r,vl,vi,v] 246)
def dj (c:UInt8):XIt:=⟨0,c,45,0,none,0,0⟩
def eM (w:World) (v v':Value):Prop:=v'.ownBlock=v.ownBlock\/ ∃g,v'.ownBlock=some g/\w.heap.size<=g
theorem eM.trans {w w':World} {v v' v'':Value} (h:eM w v v') (h':eM w' v' v'') (hs:w.heap.size<=w'.heap.size):eM w v v'':=by
 obtain e| ⟨g,e,hg⟩:=h'
 .obtain h| ⟨g,h,hg⟩:=h
  .exact Or.inl (e.trans h)
  .exact Or.inr ⟨g,e.trans h,hg⟩
 .exact Or.inr ⟨g,e,by omega⟩
theorem eM.own {w:World} {v v':Value} (h:eM w v v') {k:Nat} (hk:k<w.heap.size) (e:v'.ownBlock=some k):v.ownBlock=some k:=by
 obtain h| ⟨g,h,hg⟩:=h
 .exact h▸e
 .rw[h]at e;have:=Option.some.inj e;omega
theorem CmB.but {F:Nat->Prop} {w w':World} {cb:Nat} {c m r vl vi v:Value} (h:CmB w cb c m r vl vi v) (hb:But F w w') (hf: ¬F cb):CmB w' cb c m r vl vi v:=(hb.block cb (ae h) hf).trans h
theorem CmB.set {w:World} {cb:Nat} {c m r vl vi v:Value} (h:CmB w cb c m r vl vi v) (v':Value):CmB (w.setCell ⟨cb,5,none⟩ v') cb c m r vl vi v':=bS w cb 5 _ _ v' h
section
variable {w:World} {cb base:Nat} {c m r vl vi v:Value} {its:List XIt}
theorem yW (h:CmB w cb c m r vl vi v) (hI:ItB w base v its) (hb:base<=w.heap.size) (hl:its.length<=4000) (x:UInt8):
  Calls prog 160 #[.pointer (some ⟨cb,0,none⟩),.int .u8 x.toNat] w λen w'=>en= .returned (.int .i64 its.length)/\But (λk=>k=cb\/v.ownBlock=some k) w w'/\ ∃v',CmB w' cb c m r vl vi v'/\ItB w' base v' (its++ [dj x])/\eM w v v':=by
 obtain⟨J,A,B,C,D⟩:=info_parts ku;have q:v.ownBlock≠some cb:=λe=>aE hI h (by decide) e
 obtain⟨ao,cap,rfl⟩:=aA hI;have c5:=ce5 h;have L:=cw w cb 5 _ _ h;have hcl:=ae h;have F:=hid h;have z:w.ownsRow base 219 5 (.slice ao its.length cap) its.length (cd its):=hI;have s:=hid q;clear h hI q
 go_in
 go_wp2_with (at_builtin;refine wpList_append_lies _ rfl _ _ _ rfl base 219 J _ 5 48 (by kernel_rfl) A B C D rfl (by omega) _ its.length (cd its) rfl (z.alloc _) ⟨w.heap.size,0,none⟩ 1 1 [.int .i64 0,.int .u8 x.toNat,.int .u8 45,.int .i64 0,S_] rfl rfl (iO (cs:=#[.int .i64 0,.int .u8 x.toNat,.int .u8 45,.int .i64 0,S_]) (t:=219) (fr:=(0,0)) (aw (by simp) _)) (by simp[Value.oneCell']) (by omega) (by unfold maxLen;omega) (by omega) (by simp;omega) (w.heap.size+1) (by simp) ?_);intro gg a E f d p H;have n:But (λk=>(Value.slice ao its.length cap).ownBlock=some k) w E:=(ag _ _ _).trans (bD d)
 have b:=F.out.but n s.out;have O:=ce5 b;have M:=cw E cb 5 _ _ b;have G:=ae b;have i:=hid b;have j:=hid f;have l:eM w (.slice ao its.length cap) (.slice (some ⟨gg,0,none⟩) (its.length+1) a):=p.imp (λh=>h.symm) (λh=>⟨gg,rfl,by omega⟩);have y:=hid l;clear c5 L d p b f F l;go_wp2_with fail;have I:CmB (E.setCell ⟨cb,5,none⟩ (.slice (some ⟨gg,0,none⟩) (its.length+1) a)) cb c m r vl vi (.slice (some ⟨gg,0,none⟩) (its.length+1) a):=i.out.set _
 exact cV (.int .i64 its.length) results160 rfl rfl ⟨rfl,(n.mono (λ_ _ h=>Or.inr h)).trans ((aq _ _ _ _).mono (λ_ _ h=>Or.inl h)),_,I,by
  unfold ItB;rw[aV,gL];exact ah j.out (aq _ _ _ _) (λg hg e=>aE j.out i.out (by decide) (e▸hg)),y.out⟩
theorem A2 {w:World} {base g t n len cap k:Nat} {C:List Value} (h:w.ownsRow base t n (.slice (some ⟨g,0,none⟩) len cap) len C) (y:Value):(w.setCell ⟨g,k,none⟩ y).ownsRow base t n (.slice (some ⟨g,0,none⟩) len cap) len (C.set k y):=by
 obtain⟨b,_⟩ | ⟨g',cap',cur,b,f,i,j,l,m,p⟩:=h.2
 .cases b
 .have d:cap=cap':=congrArg (λv=>match v with|Value.slice _ _ c=>c|_=>0) b;have e:g=g':=congrArg (λv=>match v with|Value.slice (some a) _ _=>a.block|_=>0) b;subst d e;refine⟨by rw[List.length_set];exact h.1,Or.inr ⟨g,cap,cur.setIfInBounds k y,rfl,f,bS w g k _ _ _ i,by simpa using j,l,by simpa using m,?_⟩⟩;rw[Array.toList_setIfInBounds,List.take_set,p]
theorem wD (l:List XIt) (j n:Nat) (x:XIt) (hx:l[j]?=some x):cd (l.set j {x with num:=n})=(cd l).set (j*5+3) (.int .i64 n):=by
 induction l generalizing j with
 |nil=>simp at hx
 |cons y l ih=>
  cases j with
  |zero=>
   simp only[List.getElem?_cons_zero,Option.some.injEq]at hx;subst hx;simp[cd]
  |succ j=>
   simp only[List.getElem?_cons_succ]at hx;have:=ih j hx;have e:(j+1)*5+3=j*5+3+5:=by omega
   simp only[cd,List.set_cons_succ,lu]at this⊢;rw[this,e];simp
theorem DV (h:CmB w cb c m r vl vi v) (hI:ItB w base v its) (j:Nat) (x:XIt) (hx:its[j]?=some x) (hl:its.length<=4000):
  Calls prog 241 #[.pointer (some ⟨cb,0,none⟩),.int .i64 j] w λen w'=>en= .returned (.tuple #[])/\But (λk=>v.ownBlock=some k) w w'/\CmB w' cb c m r vl vi v/\ItB w' base v (its.set j {x with num:=its.length}):=by
 have A:=(bn hx).1;have f:v.ownBlock≠some cb:=λe=>aE hI h (by decide) e
 have n:=hid hI;unfold ItB at hI;obtain⟨ai,ci,rfl⟩:=aA hI;obtain⟨g,rfl,s,t,a⟩:=aL hI (by omega);have C:w.cell? ⟨g,j*5+3,none⟩=some _:=a _ _ (aW (k:=3) hx (by omega));obtain⟨cur,b⟩:=dw hI (g:=g) rfl;have D:=cw w g (j*5+3) _ _ b;have c5:=ce5 h;have hcl:=ae h;have y:(0:Int)<=(j:Int):=by omega
 have z:(j:Int)<(its.length:Int):=by omega
 have l:=hid h;have p:=hid hx;clear h hI a b hx
 go_in
 go_wp2_with fail;have d:B_ w w.drew:=aD _ _;refine aF (B_ w) 10 ?_
 iterate 10 (refine aN (v:=?_) rfl d ?_ ?_;rotate_left;(focus (intro wS h;have B:=(h.kc c5 hcl);clear h;go_simp;try rfl));dsimp only[Act.put];try simp only[bW])
 refine au rfl ?_;intro KS hKS;go_simp;refine hKS.out _ _ nofun ?_;clear hKS KS;refine au rfl ?_;intro KS hKS;go_simp;refine hKS.out _ _ nofun ?_;clear hKS KS;refine au rfl ?_;intro KS hKS;go_simp;refine hKS.out _ _ nofun ?_;clear hKS KS;refine aK rfl ?_;go_end0;have i:But (λk=>(Value.slice (some ⟨g,0,none⟩) its.length ci).ownBlock=some k) w (w.setCell ⟨g,j*5+3,none⟩ (.int .i64 its.length)).drew:=((aq _ _ _ _).mono (λ_ _ h=>h▸rfl)).trans (aD _ _);have q:=ah (A2 (k:=j*5+3) n.out (.int .i64 its.length)) (aD (λ_=>False) _) (λ_ _ h=>h)
 exact⟨rfl,i,l.out.but i f,by
  unfold ItB;rw[List.length_set,wD _ _ _ _ p.out];exact q⟩
end
def CJ (w:World) (n:Nat) (L:L_) (en:Ending) (w':World):Prop:= ∃s:ByteArray,en= .returned (.string s)/\s.size<=n/\s.data.toList=L/\B_ w w'
theorem mL (v:Value) (l:L_) (f:Nat) (w:World) (hO:BtB w 0 v l) (hl:l.length<=1000) (hf:f<=1000):
  Calls prog 158 #[v,.int .i64 f] w (CJ w 2000 (l.drop f)):=by
 obtain⟨av,cv,rfl⟩:=aA hO
 go_in
 go_wp2_with fail;have C:=BtB.empty w;have e:B_ w (w.alloc (.cells #[] 5)):=ag _ _ _;revert C e;generalize (w.alloc (.cells #[] 5))=W;intro C e
 go_loopg [5,6] (f+l.length) (λmm ss ks wr=> ∃(k:Nat) (ao:Option Addr) (cap:Nat) (s:L_),ss= .slice ao s.length cap/\BtB wr w.heap.size (.slice ao s.length cap) s/\s.length<=k/\ks= .int .i64 k/\k<=f+l.length/\k+mm<=f+l.length+f/\f+l.length<=k+mm/\B_ w wr/\f<=k/\s=(l.take k).drop f)
 case atStart=>exact⟨f,_,0,[],rfl,C,by simp,rfl,by omega,by omega,by omega,e,by omega,by simp⟩
 case round=>
  obtain⟨k,ao,cap,s,rfl,E,Z,rfl,T,X,Y,b,O,x⟩:=hrel;have j:=hid x;clear x;have S:(0:Int)<=(k:Int):=by omega
  by_cases hlt:k<l.length
  .have G:(k:Int)<(l.length:Int):=by omega
   have r:=hO.but b (λ_ _ h=>h);obtain⟨g,J,P,Q,a⟩:=aL r (by omega);obtain⟨c,hc⟩: ∃c,l[k]=c:=⟨_,rfl⟩;have q0:wr.cell? ⟨g,k,none⟩=some (.int .u8 c.toNat):=a _ _ (by simp[aU,hc,aM hlt])
   cases J
   have t:=kT wr _ c rfl wr.heap.size rfl;have q:=E.but (ag (λ_=>False) _ (.cells #[.int .u8 c.toNat] 5)) (λ_ _ h=>h);have F:=aC E;obtain⟨i,d⟩: ∃i,s++ [c]=i:=⟨_,rfl⟩;have H:i.length<=k+1:=by rw[<-d];simp;omega
   have y:=hid d;have z:=hid (show i=(l.take (k+1)).drop f from by rw[<-d,j.out,kj hlt,List.drop_append_of_le_length (by simp;omega),hc]);have L:=b.size;clear d a hc r;go_wp2_with (at_builtin;refine bH rfl _ _ rfl w.heap.size 0 _ _ s [c] i y rfl rfl q t (by omega) (by simp;omega) ?_);intro A m I D n _;have p:But (λk'=>(Value.slice ao s.length cap).ownBlock=some k') wr I:=(ag _ _ _).trans n;have B:B_ w I:=b.next p (λk' hk' h=>absurd (F k' h) (by omega));clear t q n;go_wp2_with fail
   go_roundg (f+l.length-(k+1))
   case measure=>omega
   case rel=>exact⟨k+1,A,m,i,rfl,D,by omega,by simp,by omega,by omega,by omega,B,by omega,z.out⟩
  .have G: ¬(k:Int)<(l.length:Int):=by omega
   have M:=iF E;go_wp2_with fail;exact cV (.string ⟨s.toArray⟩) results158 rfl rfl ⟨_,rfl,by show s.toArray.size<=2000;simp;omega,by show s.toArray.toList=_;rw[j.out,g8 (by omega)],b⟩
theorem ra {fn:Func} {Rr:Ending->World->Prop} {a:Act} {w:World} {c:Nat} {s:ByteArray} (hf:fn.results=#[.tmp c]) (hd:a.defers=[]) (hc:a.tmps.getD c undef= .string s) (hR:Rr (.returned (.string s)) w):bodyPost prog fn Rr .ret a w:=by
 refine cU (v:= .string s) ?_ hd hR;have b:a.tmps[c]?.getD undef= .string s:=by simpa using hc
 simp[results,hf,b,go_sem]
theorem da (a b:ByteArray):(a++b).size=a.size+b.size:=by simp
theorem dq (a b:ByteArray):(a++b).data.toList=a.data.toList++b.data.toList:=by simp
def wIx (x:XIt):L_:=x.op::((if x.op.toNat=110\/x.op.toNat=120\/x.op.toNat=103\/x.op.toNat=112\/x.op.toNat=99 then [x.cls]else [])++(if x.op.toNat=107\/x.op.toNat=108\/x.op.toNat=115\/x.op.toNat=103\/x.op.toNat=112\/x.op.toNat=99 then Lib.itoa x.num else if x.op.toNat=106\/x.op.toNat=102 then Lib.itoa (x.num / 10:Nat)++Lib.itoa (x.num % 10:Nat)else []))
theorem iI (n:Nat) (h:n<=5000) (w:World) (ht:fd w):Calls prog 181 #[.int .i64 n] w (CJ w 30 (Lib.itoa n)):=by
 refine(BV n (by omega) (by omega) w ht).mono ?_;rintro en w1 ⟨rfl,a⟩;refine⟨_,rfl,?_,by show(Lib.itoa n).toArray.toList=_;simp,a⟩;have:=Lib.itoa_length_le (n:Int) (by omega) (by omega)
 show(Lib.itoa n).toArray.size<=30
 simp;omega
theorem rc (x:XIt) (w:World) (ht:fd w) (hn:x.num<=3000):Calls prog 162 #[cR x] w (CJ w 100 (wIx x)):=by
 have HT:=hid ht;obtain⟨pl,op,cl,n,pa,pn,pc⟩:=x;dsimp only at hn;unfold cR;obtain⟨H,a7,z1,y1⟩: ∃H:ByteArray,(∀(W:World) (g:Nat),W.heap.size=g->(convert 112 9 (.slice (some ⟨g,0,none⟩) 1 1)).run prog (W.alloc (.cells #[.int .u8 op.toNat] 5))= .ok (.string H) (W.alloc (.cells #[.int .u8 op.toNat] 5)))/\H.size=1/\H.data.toList=[op]:=⟨⟨#[op]⟩,λW g h=>h▸D6 op W,rfl,rfl⟩;obtain⟨X,a8,z2,y2⟩: ∃X:ByteArray,(∀(W:World) (g:Nat),W.heap.size=g->(convert 112 9 (.slice (some ⟨g,0,none⟩) 1 1)).run prog (W.alloc (.cells #[.int .u8 cl.toNat] 5))= .ok (.string X) (W.alloc (.cells #[.int .u8 cl.toNat] 5)))/\X.size=1/\X.data.toList=[cl]:=⟨⟨#[cl]⟩,λW g h=>h▸D6 cl W,rfl,rfl⟩
 have b3:H.size+X.size<=200000:=by omega
 have J:=hid (And.intro z1 z2);have HY:=hid (And.intro y1 y2);have hX:(w.alloc (.cells #[.int .i64 pl,.int .u8 op.toNat,.int .u8 cl.toNat,.int .i64 n,.slice pa pn pc] 219)).heap[w.heap.size]?=some (.cells #[.int .i64 pl,.int .u8 op.toNat,.int .u8 cl.toNat,.int .i64 n,.slice pa pn pc] 219):=bj w _;have hB:B_ w (w.alloc (.cells #[.int .i64 pl,.int .u8 op.toNat,.int .u8 cl.toNat,.int .i64 n,.slice pa pn pc] 219)):=ag _ _ _;have a0:(op.toNat=110\/op.toNat=120\/(op.toNat≠110/\op.toNat≠120/\op.toNat≠103/\op.toNat≠112/\op.toNat≠99/\op.toNat≠107/\op.toNat≠108/\op.toNat≠115/\op.toNat≠106/\op.toNat≠102))\/(op.toNat=107\/op.toNat=108\/op.toNat=115\/op.toNat=103\/op.toNat=112\/op.toNat=99)\/(op.toNat=106\/op.toNat=102):=by omega
 clear ht z1 z2 y1 y2;obtain⟨x0,x1,x2,x3,x4⟩:=bI hX;have I:=ae hX;have G:=hid hB;clear hB hX
 go_in
 obtain h|h|h:=a0
 .obtain h|h|h:=h
  all_goals
   first|have i:=aX (c:=op) 110 (by omega) |have i:=bA (c:=op) 110 (by omega)
   first|have m:=aX (c:=op) 120 (by omega) |have m:=bA (c:=op) 120 (by omega)
   first|have b:=aX (c:=op) 103 (by omega) |have b:=bA (c:=op) 103 (by omega)
   first|have j:=aX (c:=op) 112 (by omega) |have j:=bA (c:=op) 112 (by omega)
   first|have s:=aX (c:=op) 99 (by omega) |have s:=bA (c:=op) 99 (by omega)
   first|have e:=aX (c:=op) 107 (by omega) |have e:=bA (c:=op) 107 (by omega)
   first|have f:=aX (c:=op) 108 (by omega) |have f:=bA (c:=op) 108 (by omega)
   first|have l:=aX (c:=op) 115 (by omega) |have l:=bA (c:=op) 115 (by omega)
   first|have d:=aX (c:=op) 106 (by omega) |have d:=bA (c:=op) 106 (by omega)
   first|have a:=aX (c:=op) 102 (by omega) |have a:=bA (c:=op) 102 (by omega)
   have O:=hid h;clear h;go_wp2_with fail
  all_goals exact ra results162 rfl rfl ⟨_,rfl,by have:=J.out;(try simp only[da]);omega,by have S:=O.out;have T:=HY.out;simp[wIx,dq,S,T],by first|exact(G.out.trans (ag _ _ _)).trans (ag _ _ _) |exact G.out.trans (ag _ _ _)⟩
 .obtain h|h|h|h|h|h:=h
  all_goals
   first|have i:=aX (c:=op) 110 (by omega) |have i:=bA (c:=op) 110 (by omega)
   first|have m:=aX (c:=op) 120 (by omega) |have m:=bA (c:=op) 120 (by omega)
   first|have b:=aX (c:=op) 103 (by omega) |have b:=bA (c:=op) 103 (by omega)
   first|have j:=aX (c:=op) 112 (by omega) |have j:=bA (c:=op) 112 (by omega)
   first|have s:=aX (c:=op) 99 (by omega) |have s:=bA (c:=op) 99 (by omega)
   first|have e:=aX (c:=op) 107 (by omega) |have e:=bA (c:=op) 107 (by omega)
   first|have f:=aX (c:=op) 108 (by omega) |have f:=bA (c:=op) 108 (by omega)
   first|have l:=aX (c:=op) 115 (by omega) |have l:=bA (c:=op) 115 (by omega)
   first|have d:=aX (c:=op) 106 (by omega) |have d:=bA (c:=op) 106 (by omega)
   first|have a:=aX (c:=op) 102 (by omega) |have a:=bA (c:=op) 102 (by omega)
   have O:=hid h;clear h;go_wp2_with fail;refine(iI n (by omega) _ (HT.out.but (by first|exact(G.out.trans (ag _ _ _)).trans (ag _ _ _) |exact G.out.trans (ag _ _ _)))).mono ?_;rintro en w1 ⟨L,rfl,z3,M,B⟩;have Y:=hid B;have C:=hid M;clear M;have b4:H.size+L.size<=200000:=by have:=J.out;omega
   have a5:H.size+X.size+L.size<=200000:=by have:=J.out;omega
   clear B;go_wp2_with fail
  all_goals exact ra results162 rfl rfl ⟨_,rfl,by have:=J.out;(try simp only[da]);omega,by have S:=O.out;have T:=HY.out;have A:=C.out;simp[wIx,dq,S,T,A],by first|exact((G.out.trans (ag _ _ _)).trans (ag _ _ _)).trans Y.out|exact(G.out.trans (ag _ _ _)).trans Y.out⟩
 .obtain⟨q,hq,b0,a2⟩: ∃q:Nat,Int.tdiv (n:Int) 10=(q:Int)/\q<=3000/\q=n / 10:=⟨n / 10,(Int.ofNat_tdiv n 10).symm,by omega,rfl⟩;obtain⟨r,hr,b1,a3⟩: ∃r:Nat,Int.tmod (n:Int) 10=(r:Int)/\r<=3000/\r=n % 10:=⟨n % 10,(Int.ofNat_tmod n 10).symm,by omega,rfl⟩;have HQ:=hid (And.intro a2 a3);clear a2 a3;have b2:=dV (q:Int) (by omega) (by omega);have a4:=dV (r:Int) (by omega) (by omega);obtain h|h:=h
  .skip
   first|have i:=aX (c:=op) 110 (by omega) |have i:=bA (c:=op) 110 (by omega)
   first|have m:=aX (c:=op) 120 (by omega) |have m:=bA (c:=op) 120 (by omega)
   first|have b:=aX (c:=op) 103 (by omega) |have b:=bA (c:=op) 103 (by omega)
   first|have j:=aX (c:=op) 112 (by omega) |have j:=bA (c:=op) 112 (by omega)
   first|have s:=aX (c:=op) 99 (by omega) |have s:=bA (c:=op) 99 (by omega)
   first|have e:=aX (c:=op) 107 (by omega) |have e:=bA (c:=op) 107 (by omega)
   first|have f:=aX (c:=op) 108 (by omega) |have f:=bA (c:=op) 108 (by omega)
   first|have l:=aX (c:=op) 115 (by omega) |have l:=bA (c:=op) 115 (by omega)
   first|have d:=aX (c:=op) 106 (by omega) |have d:=bA (c:=op) 106 (by omega)
   first|have a:=aX (c:=op) 102 (by omega) |have a:=bA (c:=op) 102 (by omega)
   have O:=hid h;clear h;go_wp2_with fail;obtain⟨W,D⟩: ∃W,(w.alloc (.cells #[.int .i64 pl,.int .u8 op.toNat,.int .u8 cl.toNat,.int .i64 n,.slice pa pn pc] 219)).alloc (.cells #[.int .u8 op.toNat] 5)=W:=⟨_,rfl⟩;have t:B_ w W:=D▸G.out.trans (ag _ _ _);have x3W:W.cell? ⟨w.heap.size,3,none⟩=some (.int .i64 n):=D▸(ag (λ_=>False) _ _).kc x3 I;have E:w.heap.size<W.heap.size:=by rw[<-D];simp;omega
   rw[D];clear D x0 x1 x2 x3 x4 I G;have y:B_ W W.drew:=aD _ _;refine dr (B_ W) 11 ?_;refine cW [0,1,2,3,5,6,7] ?_
   iterate 7 (refine dt (v:=?_) rfl y ?_ ?_;rotate_left;(focus (intro wS h;have q0:=(h.kc x3W E);clear h;go_simp;try rfl));dsimp only[Act.put];try simp only[bW])
   refine aG (k:=4) rfl ?_;intro KS hKS;go_simp;refine(iI q (by omega) _ (HT.out.but (t.trans y))).mono ?_;rintro en w1 ⟨L,rfl,z3,M,B⟩;have C:=hid M;clear M;have z:=y.trans B;refine hKS.out _ _ (λ_=>z) ?_;clear hKS KS;refine aG (k:=8) rfl ?_;intro KS hKS;go_simp;refine(iI r (by omega) _ (HT.out.but (t.trans z))).mono ?_;rintro en w2 ⟨Z,rfl,z4,y4,Q⟩;have P:=hid y4;clear y4;have p:=z.trans Q;refine hKS.out _ _ (λ_=>p) ?_;clear hKS KS;have a6:L.size+Z.size<=200000:=by omega
   have a1:H.size+(L.size+Z.size)<=200000:=by have:=J.out;omega
   refine aG (k:=9) rfl ?_;intro KS hKS;go_simp;rw[if_neg (by omega)];refine hKS.out _ _ (λ_=>p) ?_;clear hKS KS;refine aG (k:=10) rfl ?_;intro KS hKS;go_simp;rw[if_neg (by omega)];refine hKS.out _ _ (λ_=>p) ?_;clear hKS KS;refine aG (k:=11) rfl ?_;intro KS hKS;go_simp;refine hKS.out _ _ nofun ?_;clear hKS KS;refine dg rfl ?_;go_wp2_with fail;exact ra results162 rfl rfl ⟨_,rfl,by have:=J.out;simp only[da];omega,by have S:=O.out;have T:=HY.out;have A:=C.out;have F:=P.out;rw[HQ.out.1]at A;rw[HQ.out.2]at F;simp[wIx,dq,S,T,A,F],t.trans p⟩
  .skip
   first|have i:=aX (c:=op) 110 (by omega) |have i:=bA (c:=op) 110 (by omega)
   first|have m:=aX (c:=op) 120 (by omega) |have m:=bA (c:=op) 120 (by omega)
   first|have b:=aX (c:=op) 103 (by omega) |have b:=bA (c:=op) 103 (by omega)
   first|have j:=aX (c:=op) 112 (by omega) |have j:=bA (c:=op) 112 (by omega)
   first|have s:=aX (c:=op) 99 (by omega) |have s:=bA (c:=op) 99 (by omega)
   first|have e:=aX (c:=op) 107 (by omega) |have e:=bA (c:=op) 107 (by omega)
   first|have f:=aX (c:=op) 108 (by omega) |have f:=bA (c:=op) 108 (by omega)
   first|have l:=aX (c:=op) 115 (by omega) |have l:=bA (c:=op) 115 (by omega)
   first|have d:=aX (c:=op) 106 (by omega) |have d:=bA (c:=op) 106 (by omega)
   first|have a:=aX (c:=op) 102 (by omega) |have a:=bA (c:=op) 102 (by omega)
   have O:=hid h;clear h;go_wp2_with fail;obtain⟨W,D⟩: ∃W,(w.alloc (.cells #[.int .i64 pl,.int .u8 op.toNat,.int .u8 cl.toNat,.int .i64 n,.slice pa pn pc] 219)).alloc (.cells #[.int .u8 op.toNat] 5)=W:=⟨_,rfl⟩;have t:B_ w W:=D▸G.out.trans (ag _ _ _);have x3W:W.cell? ⟨w.heap.size,3,none⟩=some (.int .i64 n):=D▸(ag (λ_=>False) _ _).kc x3 I;have E:w.heap.size<W.heap.size:=by rw[<-D];simp;omega
   rw[D];clear D x0 x1 x2 x3 x4 I G;have y:B_ W W.drew:=aD _ _;refine dr (B_ W) 11 ?_;refine cW [0,1,2,3,5,6,7] ?_
   iterate 7 (refine dt (v:=?_) rfl y ?_ ?_;rotate_left;(focus (intro wS h;have q0:=(h.kc x3W E);clear h;go_simp;try rfl));dsimp only[Act.put];try simp only[bW])
   refine aG (k:=4) rfl ?_;intro KS hKS;go_simp;refine(iI q (by omega) _ (HT.out.but (t.trans y))).mono ?_;rintro en w1 ⟨L,rfl,z3,M,B⟩;have C:=hid M;clear M;have z:=y.trans B;refine hKS.out _ _ (λ_=>z) ?_;clear hKS KS;refine aG (k:=8) rfl ?_;intro KS hKS;go_simp;refine(iI r (by omega) _ (HT.out.but (t.trans z))).mono ?_;rintro en w2 ⟨Z,rfl,z4,y4,Q⟩;have P:=hid y4;clear y4;have p:=z.trans Q;refine hKS.out _ _ (λ_=>p) ?_;clear hKS KS;have a6:L.size+Z.size<=200000:=by omega
   have a1:H.size+(L.size+Z.size)<=200000:=by have:=J.out;omega
   refine aG (k:=9) rfl ?_;intro KS hKS;go_simp;rw[if_neg (by omega)];refine hKS.out _ _ (λ_=>p) ?_;clear hKS KS;refine aG (k:=10) rfl ?_;intro KS hKS;go_simp;rw[if_neg (by omega)];refine hKS.out _ _ (λ_=>p) ?_;clear hKS KS;refine aG (k:=11) rfl ?_;intro KS hKS;go_simp;refine hKS.out _ _ nofun ?_;clear hKS KS;refine dg rfl ?_;go_wp2_with fail;exact ra results162 rfl rfl ⟨_,rfl,by have:=J.out;simp only[da];omega,by have S:=O.out;have T:=HY.out;have A:=C.out;have F:=P.out;rw[HQ.out.1]at A;rw[HQ.out.2]at F;simp[wIx,dq,S,T,A,F],t.trans p⟩
def gV (x:XIt):List XIt:=⟨0,x.op,x.cls,x.num,none,0,0⟩::if x.op.toNat=115\/x.op.toNat=112\/x.op.toNat=119 then [dj 107]else []
section
variable {w:World} {cb base:Nat} {c m r vl vi v:Value} {its:List XIt}
theorem CK (h:CmB w cb c m r vl vi v) (hI:ItB w base v its) (hb:base<=w.heap.size) (hl:its.length<=3900) (x:XIt):
  Calls prog 213 #[.pointer (some ⟨cb,0,none⟩),cR x] w λen w'=>en= .returned (.tuple #[])/\But (λk=>k=cb\/v.ownBlock=some k) w w'/\ ∃v',CmB w' cb c m r vl vi v'/\ItB w' base v' (its++gV x)/\eM w v v':=by
 obtain⟨i0,a4,a8,b0,b1⟩:=info_parts ku;have z:v.ownBlock≠some cb:=λe=>aE hI h (by decide) e
 obtain⟨ao,cap,rfl⟩:=aA hI;obtain⟨W,S⟩: ∃W,w.alloc (.cells #[.int .i64 x.place,.int .u8 x.op.toNat,.int .u8 x.cls.toNat,.int .i64 x.num,.slice x.pa x.pn x.pc] 219)=W:=⟨_,rfl⟩;have j:B_ w W:=S▸ag _ _ _;have T:W.heap[w.heap.size]?=some (.cells #[.int .i64 x.place,.int .u8 x.op.toNat,.int .u8 x.cls.toNat,.int .i64 x.num,.slice x.pa x.pn x.pc] 219):=S▸bj w _;have L:=h.but j (λh=>h);have O:W.ownsRow base 219 5 (.slice ao its.length cap) its.length (cd its):=ah hI j (λ_ _ h=>h);have a6: ∀k,(Value.slice ao its.length cap).ownBlock=some k->k<w.heap.size:=λk hk=>bB hI k hk
 have b3:=j.size;have b2:=ae h;clear h hI;unfold cR
 go_in
 go_wp2_with fail
 try rw[S]
 clear S;obtain⟨x0,x1,x2,x3,x4⟩:=bI T;have s:=ae T;have c5:=ce5 L;have z5:=cw W cb 5 _ _ L;have hcl:=ae L;have HC:=hid L;have HX:=hid T;have I:=hid j;have nx:(Value.slice ao its.length cap).ownBlock≠some w.heap.size:=λe=>by have:=a6 _ e;omega
 clear L T j;have a3:But (λk=>(Value.slice ao its.length cap).ownBlock=some k) W W.drew:=aD _ _;refine aF (But (λk=>(Value.slice ao its.length cap).ownBlock=some k) W) 14 ?_
 iterate 12 (refine aN (v:=?_) rfl a3 ?_ ?_;rotate_left;(focus (intro wS h;have q0:=((h.cell (p:=⟨cb,5,none⟩) hcl z).trans c5);have q1:=((h.cell (p:=⟨w.heap.size,1,none⟩) s nx).trans x1);have q2:=((h.cell (p:=⟨w.heap.size,2,none⟩) s nx).trans x2);have q3:=((h.cell (p:=⟨w.heap.size,3,none⟩) s nx).trans x3);clear h;go_simp;try rfl));dsimp only[Act.put];try simp only[bW])
 refine au rfl ?_;intro KS hKS;go_simp;refine hKS.out _ _ (λ_=>(ag _ _ _).trans (aD _ _)) ?_;clear hKS KS;refine au rfl ?_;intro KS hKS
 refine step_append_lies _ (by rfl) _ _ _ (by rfl) base 219 i0 _ 5 48 (by kernel_rfl) a4 a8 b0 b1 rfl (by omega) _ its.length (cd its) (by rfl) ((O.alloc _).drew)
    ⟨W.heap.size,0,none⟩ 1 1 [.int .i64 0,.int .u8 x.op.toNat,.int .u8 x.cls.toNat,.int .i64 x.num,S_] (by rfl) (by rfl) (iO (cs:=#[.int .i64 0,.int .u8 x.op.toNat,.int .u8 x.cls.toNat,.int .i64 x.num,S_]) (t:=219) (fr:=(0,0)) (bj W _)) (by simp[Value.oneCell'])
    (by omega) (by unfold maxLen;omega) (by omega) (by simp;omega) (W.heap.size+1) (by simp) ?_
 intro gg a H d q Q a7;have b:But (λk=>(Value.slice ao its.length cap).ownBlock=some k) W H:=((ag _ _ _).trans (aD _ _)).trans (bD q);refine hKS.out _ _ (λ_=>b) ?_;clear hKS KS;have y0:=(b.cell (p:=⟨cb,5,none⟩) hcl z).trans c5;have y1:=(b.frozen (p:=⟨cb,5,none⟩) hcl z).trans z5;refine au rfl ?_;intro KS hKS;go_simp;refine hKS.out _ _ nofun ?_;clear hKS KS;refine au rfl ?_;intro KS hKS;go_simp;refine hKS.out _ _ nofun ?_;clear hKS KS;refine au rfl ?_;intro KS hKS;go_simp;refine hKS.out _ _ nofun ?_;clear hKS KS;refine aK rfl ?_;have G:=HC.out.but b z;have l:=G.set (.slice (some ⟨gg,0,none⟩) (its.length+1) a)
 have f:But (· =cb) H (H.setCell ⟨cb,5,none⟩ (.slice (some ⟨gg,0,none⟩) (its.length+1) a)):=aq _ _ _ _
 have n:ItB (H.setCell ⟨cb,5,none⟩ (.slice (some ⟨gg,0,none⟩) (its.length+1) a)) base (.slice (some ⟨gg,0,none⟩) (its.length+1) a) (its++ [⟨0,x.op,x.cls,x.num,none,0,0⟩]):=by
  unfold ItB;rw[aV,gL];exact ah d f (λg hg e=>aE d G (by decide) (e▸hg))
 have y:=(f.block w.heap.size (aP s b.size) (by show¬w.heap.size=cb;omega)).trans ((b.block _ s nx).trans HX.out);have D:eM w (.slice ao its.length cap) (.slice (some ⟨gg,0,none⟩) (its.length+1) a):=Q.imp (λh=>h.symm) (λh=>⟨gg,rfl,by omega⟩);have i:But (λk=>k=cb\/(Value.slice ao its.length cap).ownBlock=some k) w (H.setCell ⟨cb,5,none⟩ (.slice (some ⟨gg,0,none⟩) (its.length+1) a)):=((I.out.mono (λ_ _ h=>h.elim)).trans (b.mono (λ_ _ h=>Or.inr h))).trans (f.mono (λ_ _ h=>Or.inl h));clear y0 y1 d q b f G c5 z5 x0 x1 x2 x3 x4 Q HC HX I;revert l n y i;generalize (H.setCell ⟨cb,5,none⟩ (.slice (some ⟨gg,0,none⟩) (its.length+1) a))=W5
 intro l n y i;have x1:=ce1 y;have a5:(its++ [(⟨0,x.op,x.cls,x.num,none,0,0⟩:XIt)]).length<=4000:=by simp;omega
 have J:=hid (yW l n (Nat.le_trans hb i.size) a5 107);have X:=hid l;have Y:=hid n;have E:=hid D;have F:=hid i;clear l n y i D O
 by_cases hk:x.op.toNat=115\/x.op.toNat=112\/x.op.toNat=119
 .have P:gV x=[⟨0,x.op,x.cls,x.num,none,0,0⟩,dj 107]:=by unfold gV;rw[if_pos hk]
  have Z:=hid P;clear P;obtain h|h|h:=hk
  all_goals
   first|have B:=aX (c:=x.op) 115 (by omega) |have B:=bA (c:=x.op) 115 (by omega)
   first|have A:=aX (c:=x.op) 112 (by omega) |have A:=bA (c:=x.op) 112 (by omega)
   first|have C:=aX (c:=x.op) 119 (by omega) |have C:=bA (c:=x.op) 119 (by omega)
   clear h;go_wp2_with fail;refine J.out.mono ?_;rintro en w6 ⟨rfl,a0,v6,a1,M,a2⟩;have hB:=F.out.next a0 (λk hk h=>h.imp id (λh=>E.out.own hk h));have hN:=E.out.trans a2 F.out.size;rw[mP]at M;go_wp2_with fail;go_end0;exact⟨rfl,hB,v6,a1,by rw[Z.out];exact M,hN⟩
 .have P:gV x=[⟨0,x.op,x.cls,x.num,none,0,0⟩]:=by unfold gV;rw[if_neg hk]
  have Z:=hid P;have B:=aX (c:=x.op) 115 (by omega);have A:=aX (c:=x.op) 112 (by omega);have C:=aX (c:=x.op) 119 (by omega);clear P hk J;go_wp2_with fail;go_end0;exact⟨rfl,F.out,_,X.out,by rw[Z.out];exact Y.out,E.out⟩
end
structure CmS (w0 w:World) (cb:Nat) (X:bK) (vl vi v:Value) (l:List XIt):Prop where
 old:B_ w0 w
 blk:CmB w cb (.int .u8 X.cls.toNat) (.int .i64 X.meth) (.int .u8 X.ans.toNat) vl vi v
 its:ItB w w0.heap.size v l
 new:w0.heap.size<=cb
def CmR (w0 w:World) (cb:Nat) (X:bK) (vl vi v:Value) (l:List XIt) (en:Ending) (w':World):Prop:=en= .returned (.tuple #[])/\But (λk=>k=cb\/v.ownBlock=some k) w w'/\ ∃v',CmS w0 w' cb X vl vi v' l/\eM w v v'
theorem eM.refl (w:World) (v:Value):eM w v v:=Or.inl rfl
theorem eM.off {w:World} {v v':Value} (h:eM w v v') {k:Nat} (hk:k<w.heap.size) (hn:v.ownBlock≠some k):v'.ownBlock≠some k:=λe=>hn (h.own hk e)
theorem eM.mono {w w':World} {v v':Value} (h:eM w' v v') (hs:w.heap.size<=w'.heap.size):eM w v v':=h.imp id (λ⟨g,e,hg⟩=>⟨g,e,by omega⟩)
section
variable {w0 w w':World} {cb:Nat} {X:bK} {vl vi v:Value} {l:List XIt}
theorem CmS.ge (h:CmS w0 w cb X vl vi v l): ∀k,k<w0.heap.size-> ¬(k=cb\/v.ownBlock=some k):=λk hk e=>by
 have:=h.new;obtain e|e:=e
 .omega
 .have:=aC h.its k e;omega
theorem CmS.lay (h:CmS w0 w cb X vl vi v l) (hl:l.length<=4000) (x:UInt8):
  Calls prog 160 #[.pointer (some ⟨cb,0,none⟩),.int .u8 x.toNat] w λen w'=>en= .returned (.int .i64 l.length)/\But (λk=>k=cb\/v.ownBlock=some k) w w'/\ ∃v',CmS w0 w' cb X vl vi v' (l++ [dj x])/\eM w v v':=by
 refine(yW h.blk h.its h.old.size hl x).mono ?_;rintro en w1 ⟨rfl,a,v',b,c,d⟩;exact⟨rfl,a,v',⟨h.old.next a (λk hk e=>h.ge k hk e),b,c,h.new⟩,d⟩
theorem CmS.aim (h:CmS w0 w cb X vl vi v l) (j:Nat) (x:XIt) (hx:l[j]?=some x) (hl:l.length<=4000):
  Calls prog 241 #[.pointer (some ⟨cb,0,none⟩),.int .i64 j] w (CmR w0 w cb X vl vi v (l.set j {x with num:=l.length})):=by
 refine(DV h.blk h.its j x hx hl).mono ?_;rintro en w1 ⟨rfl,a,b,c⟩;exact⟨rfl,a.mono (λ_ _ h=>Or.inr h),v,⟨h.old.next a (λk hk e=>h.ge k hk (Or.inr e)),b,c,h.new⟩,eM.refl _ _⟩
theorem CmS.last (h:CmS w0 w cb X vl vi v l) (hl:l.length<=3900) (x:XIt):
  Calls prog 213 #[.pointer (some ⟨cb,0,none⟩),cR x] w (CmR w0 w cb X vl vi v (l++gV x)):=by
 refine(CK h.blk h.its h.old.size hl x).mono ?_;rintro en w1 ⟨rfl,a,v',b,c,d⟩;exact⟨rfl,a,v',⟨h.old.next a (λk hk e=>h.ge k hk e),b,c,h.new⟩,d⟩
theorem CmS.step (h:CmS w0 w cb X vl vi v l) (hB:B_ w w'):CmS w0 w' cb X vl vi v l:=
 ⟨h.old.trans hB,h.blk.but hB (λh=>h),ah h.its hB (λ_ _ h=>h),h.new⟩
theorem yi (h:CmS w0 w cb X vl vi v l) (x:XIt) (k:Nat) (hk:x.pn<=k) (hk3:k<=3):
  Calls prog 210 #[.pointer (some ⟨cb,0,none⟩),cR x,.int .i64 k] w (CmR w0 w cb X vl vi v l):=by
 have a:=hid h;have k1:(0:Int)<=(k:Int):=by omega
 have k2: ¬((k:Int)<(x.pn:Int)):=by omega
 clear h;unfold cR
 go_in
 go_wp2_with fail;go_end0;exact⟨rfl,ag _ _ _,v,a.out.step (ag _ _ _),eM.refl _ _⟩
theorem CL (h:CmS w0 w cb X vl vi v l) (x:XIt) (k j:Nat) (hk3:k<=3) (ps:List Nat) (hk:ps[k]?=some j) (hrow:w0.ownsRow 0 3 1 (.slice x.pa x.pn x.pc) ps.length (fi ps)) (hps:ps.length<=3) (l':List XIt)
  (IH: ∀Y,CmS w0 Y cb X vl vi v l->Calls prog 159 #[.pointer (some ⟨cb,0,none⟩),.int .i64 j] Y (CmR w0 Y cb X vl vi v l')):
  Calls prog 210 #[.pointer (some ⟨cb,0,none⟩),cR x,.int .i64 k] w (CmR w0 w cb X vl vi v l'):=by
 obtain⟨pl,op,cl,n,pa,pn,pc⟩:=x;have s:=(bn hk).1;dsimp only at hrow;obtain⟨a',cap',c⟩:=aA hrow;injection c with e1 e2 e3;subst e1 e2 e3;obtain⟨g,rfl,b,q,a⟩:=aL hrow (by omega);have m:w0.cell? ⟨g,k,none⟩=some (.int .i64 j):=a _ _ (by simp[fi,hk]);replace m:=h.old.kc m b;replace b:=aP b h.old.size;have d:=hid (λY (hY:B_ w Y)=>IH Y (h.step hY));have k1:(0:Int)<=(k:Int):=by omega
 have k3:(k:Int)<(ps.length:Int):=by omega
 have r:g<w.heap.size+1:=by omega
 clear h hk hrow a IH;generalize ps.length=np at*;unfold cR
 go_in
 go_wp2_with fail;refine(d.out _ (ag _ _ _)).mono ?_;rintro en w1 ⟨rfl,e,v',i,f⟩;have p:=hid (show But (λk=>k=cb\/v.ownBlock=some k) w w1/\ ∃v',CmS w0 w1 cb X vl vi v' l'/\eM w v v' from⟨(ag _ _ _).trans e,v',i,f.mono (by simp)⟩);clear e i f d;go_wp2_with fail;go_end0;exact⟨rfl,p.out⟩
end
def aimX (j:Nat) (l:List XIt):List XIt:=match l[j]? with
 |some x=>l.set j {x with num:=l.length}
 |none=>l
theorem fX (j:Nat) (l:List XIt):(aimX j l).length=l.length:=by
 unfold aimX
 split<;>simp
def jT (p:Nat->List XIt->List XIt) (l:List XIt):List XIt:=
 aimX (p 1 (p 0 l++ [dj 102])).length (p 2 (aimX (p 0 l).length (p 1 (p 0 l++ [dj 102])++ [dj 106])))
def oD (p:Nat->List XIt->List XIt) (l:List XIt):List XIt:=
 aimX (p 0 l).length (p 1 (p 0 l++ [dj 102])++ [dj 100]++ [⟨0,106,45,l.length,none,0,0⟩])++ [dj 107]
structure BxC (w:World) (cb b:Nat) (v:Value) (x:XIt):Prop where
 box:w.heap[b]?=some (.cells #[.int .i64 x.place,.int .u8 x.op.toNat,.int .u8 x.cls.toNat,.int .i64 x.num,.slice x.pa x.pn x.pc] 219)
 nc:b≠cb
 nv:v.ownBlock≠some b
theorem BxC.next {w w':World} {cb b:Nat} {v v':Value} {x:XIt} (h:BxC w cb b v x) (hB:But (λk=>k=cb\/v.ownBlock=some k) w w') (hN:eM w v v'):BxC w' cb b v' x:=
 ⟨(hB.block b (ae h.box) (λe=>e.elim h.nc h.nv)).trans h.box,h.nc,hN.off (ae h.box) h.nv⟩
section
variable {w0 w w':World} {cb:Nat} {X:bK} {vl vi v:Value} {l:List XIt}
theorem CmS.aimX (h:CmS w0 w cb X vl vi v l) (j:Nat) (hj:j<l.length) (hl:l.length<=4000):
  Calls prog 241 #[.pointer (some ⟨cb,0,none⟩),.int .i64 j] w (CmR w0 w cb X vl vi v (aimX j l)):=by
 have hx:=aM hj
 have e:Proofs.YtpfkkmacakjmbaaGreatDoor.aimX j l=l.set j {l[j]with num:=l.length}:=by
  unfold Proofs.YtpfkkmacakjmbaaGreatDoor.aimX;rw[hx]
 rw[e];exact h.aim j _ hx hl
end
structure CmG (w0 w W:World) (cb b:Nat) (X:bK) (vl vi v v':Value) (l:List XIt) (x:XIt):Prop where
 s:CmS w0 W cb X vl vi v' l
 t:But (λk=>k=cb\/v.ownBlock=some k) w W
 n:eM w v v'
 b:BxC W cb b v' x
section
variable {w0 w W W':World} {cb b:Nat} {X:bK} {vl vi v v' v'':Value} {l l':List XIt} {x:XIt}
theorem CmG.next (h:CmG w0 w W cb b X vl vi v v' l x) (hB:But (λk=>k=cb\/v'.ownBlock=some k) W W') (hS:CmS w0 W' cb X vl vi v'' l') (hN:eM W v' v''):CmG w0 w W' cb b X vl vi v v'' l' x:=
 ⟨hS,h.t.next hB (λk hk e=>e.imp id (λe=>h.n.own hk e)),h.n.trans hN h.t.size,h.b.next hB hN⟩
theorem CmG.fin (h:CmG w0 w W cb b X vl vi v v' l x):CmR w0 w cb X vl vi v l (.returned (.tuple #[])) W:=⟨rfl,h.t,v',h.s,h.n⟩
theorem CmG.lay (h:CmG w0 w W cb b X vl vi v v' l x) (c:UInt8) (hl:l.length<=4000):Calls prog 160 #[.pointer (some ⟨cb,0,none⟩),.int .u8 c.toNat] W λen w2=>en= .returned (.int .i64 l.length)/\ ∃v2,CmG w0 w w2 cb b X vl vi v v2 (l++ [dj c]) x:=by
 refine(h.s.lay hl c).mono ?_;rintro en w2 ⟨rfl,a,v2,e,d⟩;exact⟨rfl,v2,h.next a e d⟩
theorem CmG.call {f:Nat} {args:Array Value} (h:CmG w0 w W cb b X vl vi v v' l x) (H:Calls prog f args W (CmR w0 W cb X vl vi v' l')):Calls prog f args W λen w2=>en= .returned (.tuple #[])/\ ∃v2,CmG w0 w w2 cb b X vl vi v v2 l' x:=by
 refine H.mono ?_;rintro en w2 ⟨rfl,a,v2,d,c⟩;exact⟨rfl,v2,h.next a d c⟩
theorem CmS.begin (h:CmS w0 w cb X vl vi v l) (hB:B_ w W) (x:XIt):CmG w0 w (W.alloc (.cells #[.int .i64 x.place,.int .u8 x.op.toNat,.int .u8 x.cls.toNat,.int .i64 x.num,.slice x.pa x.pn x.pc] 219)) cb W.heap.size X vl vi v v l x:=by
 have a:=ae h.blk;have b:=hB.size;exact⟨(h.step hB).step (ag _ _ _),(hB.mono (λ_ _ h=>h.elim)).trans (ag _ _ _),eM.refl _ _,bj _ _,by omega,λe=>by have:=bB h.its _ e;omega⟩
theorem CmG.at' (h:CmG w0 w W cb b X vl vi v v' l x):b<W.heap.size:=ae h.b.box
theorem yj (h:CmS w0 w cb X vl vi v l) (x:XIt) (p:Nat->List XIt->List XIt) (hp: ∀k l,l.length<=(p k l).length) (hb:(jT p l).length<=3000)
  (HP: ∀k,k<=2-> ∀Y v l,CmS w0 Y cb X vl vi v l->(p k l).length<=3000->Calls prog 210 #[.pointer (some ⟨cb,0,none⟩),cR x,.int .i64 k] Y (CmR w0 Y cb X vl vi v (p k l))):
  Calls prog 211 #[.pointer (some ⟨cb,0,none⟩),cR x] w (CmR w0 w cb X vl vi v (jT p l)):=by
 have F:=hp 0 l;have D:=hp 1 (p 0 l++ [dj 102]);have E:=hp 2 (aimX (p 0 l).length (p 1 (p 0 l++ [dj 102])++ [dj 106]));rw[fX,aV,fM]at E;rw[aV,fM]at D;unfold jT at hb⊢;rw[fX]at hb;have j:=hid (h.begin (cq _ _) x);have a:=hid HP;unfold cR at a⊢;clear h HP hp
 go_in
 go_wp2_with fail;refine(j.out.call (a.out 0 (by omega) _ _ _ j.out.s (by omega))).mono ?_;rintro en w1 ⟨rfl,v1,t⟩;have q:=hid t;clear j t;go_wp2_with fail;refine(q.out.lay 102 (by omega)).mono ?_;rintro en w2 ⟨rfl,v2,c⟩;obtain⟨x0,x1,x2,x3,x4⟩:=bI c.b.box;have m:=c.at';have e:=hid c;clear q c;go_wp2_with fail;refine(e.out.call (a.out 1 (by omega) _ _ _ e.out.s (by omega))).mono ?_;rintro en M ⟨rfl,G,y⟩;have r:=hid y;clear e y x0 x1 x2 x3 x4 m;go_wp2_with fail;refine(r.out.lay 106 (by omega)).mono ?_;rintro en O ⟨rfl,H,z⟩;have f:=hid z;clear r z;go_wp2_with fail;refine(f.out.call (f.out.s.aimX (p 0 l).length (by rw[aV];simp;omega) (by rw[aV];simp;omega))).mono ?_
 rintro en P ⟨rfl,I,d⟩;obtain⟨x0,x1,x2,x3,x4⟩:=bI d.b.box;have n:=d.at';have g:=hid d;clear f d;go_wp2_with fail;refine(g.out.call (a.out 2 (by omega) _ _ _ g.out.s (by omega))).mono ?_;rintro en Q ⟨rfl,J,A⟩;have i:=hid A;clear g A x0 x1 x2 x3 x4 n;go_wp2_with fail;refine(i.out.call (i.out.s.aimX (p 1 (p 0 l++ [dj 102])).length (by omega) (by omega))).mono ?_;rintro en S ⟨rfl,L,B⟩;have C:=hid B;clear i B;go_wp2_with fail;go_end0;exact C.out.fin
end
section
variable {w0 w w':World} {cb:Nat} {X:bK} {vl vi v:Value} {l:List XIt}
theorem A3 (h:CmS w0 w cb X vl vi v l) (x:XIt) (p:Nat->List XIt->List XIt) (hp: ∀k l,l.length<=(p k l).length) (hb:(oD p l).length<=3000)
  (HP: ∀k,k<=2-> ∀Y v l,CmS w0 Y cb X vl vi v l->(p k l).length<=3000->Calls prog 210 #[.pointer (some ⟨cb,0,none⟩),cR x,.int .i64 k] Y (CmR w0 Y cb X vl vi v (p k l))):
  Calls prog 212 #[.pointer (some ⟨cb,0,none⟩),cR x] w (CmR w0 w cb X vl vi v (oD p l)):=by
 obtain⟨i0,a4,b1,b2,b3⟩:=info_parts ku;have n0:=hp 0 l;have n1:=hp 1 (p 0 l++ [dj 102]);rw[aV,fM]at n1;obtain⟨LF,r⟩: ∃LF,oD p l=LF:=⟨_,rfl⟩;rw[r];unfold oD at hb r;have G:=hid r;clear r;rw[aV,fX,aV,aV,fM,fM,fM]at hb;obtain⟨ao,cap,S⟩:=aA h.its;have c5:=ce5 h.blk;rw[S]at c5;have HG:=hid (h.begin (cq _ _) x);have n:=hid HP;unfold cR at n⊢;have b4:=ae h.blk;clear h HP hp S
 go_in
 go_wp2_with fail;refine(HG.out.call (n.out 0 (by omega) _ _ _ HG.out.s (by omega))).mono ?_;rintro en w1 ⟨rfl,v1,h1⟩;have H1:=hid h1;clear HG h1 c5;go_wp2_with fail;refine(H1.out.lay 102 (by omega)).mono ?_;rintro en w2 ⟨rfl,v2,T⟩;obtain⟨x0,x1,x2,x3,x4⟩:=bI T.b.box;have a5:=T.at';have H2:=hid T;clear H1 T;go_wp2_with fail;refine(H2.out.call (n.out 1 (by omega) _ _ _ H2.out.s (by omega))).mono ?_;rintro en w3 ⟨rfl,v3,h3⟩;have H3:=hid h3;clear H2 h3 x0 x1 x2 x3 x4 n a5;go_wp2_with fail;refine(H3.out.lay 100 (by omega)).mono ?_;rintro en F ⟨rfl,v4,h4⟩;have a:=h4.s;have H4:=hid h4;clear H3 h4;obtain⟨c,D⟩: ∃c,p 1 (p 0 l++ [dj 102])++ [dj 100]=c:=⟨_,rfl⟩
 have a6:c.length=(p 1 (p 0 l++ [dj 102])).length+1:=by rw[<-D];simp
 rw[D]at a G;have a7:(p 1 (p 0 l++ [dj 102])).length+1<=c.length:=by omega
 have a8:c.length<=(p 1 (p 0 l++ [dj 102])).length+1:=by omega
 clear D a6;have P:v4.ownBlock≠some cb:=λe=>aE a.its a.blk (by decide) e
 have O:=a.ge;have Q:=a.new;have y:=hid a.old;have a0:=a.old.size;have C:=a.its;obtain⟨q,d,rfl⟩:=aA C;have a2:F.ownsRow w0.heap.size 219 5 (.slice q c.length d) c.length (cd c):=C;have c5:=ce5 a.blk;have z5:=cw F cb 5 _ _ a.blk;have hcl:=ae a.blk;have HC:=hid a.blk;have a1:=hid P;clear a C P;have b5:c.length<=3000:=by omega
 go_wp2_with (at_builtin;refine wpList_append_lies _ rfl _ _ _ rfl w0.heap.size 219 i0 _ 5 48 (by kernel_rfl) a4 b1 b2 b3 rfl (by omega) _ c.length (cd c) rfl (a2.alloc _) ⟨F.heap.size,0,none⟩ 1 1 [.int .i64 0,.int .u8 106,.int .u8 45,.int .i64 l.length,S_] rfl rfl (iO (cs:=#[.int .i64 0,.int .u8 106,.int .u8 45,.int .i64 l.length,S_]) (t:=219) (fr:=(0,0)) (aw (by simp) _)) (by simp[Value.oneCell']) (by omega) (by unfold maxLen;omega) (by omega) (by simp;omega) (F.heap.size+1) (by simp) ?_);intro gg f Z m j M b0;have E:But (λk=>(Value.slice q c.length d).ownBlock=some k) F Z:=(ag _ _ _).trans (bD j)
 have i:=HC.out.but E a1.out;have y5:=ce5 i;have f5:=cw Z cb 5 _ _ i;have a3:=ae i;have J:eM F (.slice q c.length d) (.slice (some ⟨gg,0,none⟩) (c.length+1) f):=M.imp (λh=>h.symm) (λh=>⟨gg,rfl,by omega⟩);have z:=hid i;have A:=hid m;have I:=hid E;have H:=hid J;clear c5 z5 j M i m HC E J;have B:But (λk=>k=cb\/(Value.slice q c.length d).ownBlock=some k) F (Z.setCell ⟨cb,5,none⟩ (.slice (some ⟨gg,0,none⟩) (c.length+1) f)):=(I.out.mono (λ_ _ h=>Or.inr h)).trans ((aq _ _ _ _).mono (λ_ _ h=>Or.inl h))
 have L:CmS w0 (Z.setCell ⟨cb,5,none⟩ (.slice (some ⟨gg,0,none⟩) (c.length+1) f)) cb X vl vi (.slice (some ⟨gg,0,none⟩) (c.length+1) f) (c++ [⟨0,106,45,l.length,none,0,0⟩]):=by
  refine⟨y.out.next B (λk hk e=>O k hk e),z.out.set _,?_,Q⟩;unfold ItB;rw[aV,gL];exact ah A.out (aq _ _ _ _) (λg hg e=>aE A.out z.out (by decide) (e▸hg))
 have H6:=hid (H4.out.next B L H.out);clear B L I H4 z A y H;go_wp2_with fail;refine(H6.out.call (H6.out.s.aimX (p 0 l).length (by rw[aV];simp;omega) (by rw[aV];simp;omega))).mono ?_;rintro en w7 ⟨rfl,v7,h7⟩;have H7:=hid h7;clear H6 h7;go_wp2_with fail;refine(H7.out.lay 107 (by rw[fX,aV];simp;omega)).mono ?_;rintro en w8 ⟨rfl,v8,h8⟩;rw[G.out]at h8;have H8:=hid h8;clear H7 h8;go_wp2_with fail;go_end0;exact H8.out.fin
end
end
end Go.Proofs.YtpfkkmacakjmbaaGreatDoor
