import Derived.Test.YtpfkkmacakjmbaaGreatDoorP27
set_option maxRecDepth 100000
set_option maxHeartbeats 6400000
set_option linter.all false
namespace Go.Proofs.YtpfkkmacakjmbaaGreatDoor
open Proofs.Tryz
section
open Go Go.RowKit Sp
attribute [local go_sem ↓] eY eZ
def CmB (w:World) (cb:Nat) (c m r vl vi v:Value):Prop:=w.heap[cb]?=some (.cells #[c,m,r,vl,vi,v] 246)
def df (c:UInt8):XIt:=⟨0,c,45,0,none,0,0⟩
def eL (w:World) (v v':Value):Prop:=v'.ownBlock=v.ownBlock\/ ∃g,v'.ownBlock=some g/\w.heap.size<=g
theorem eL.trans {w w':World} {v v' v'':Value} (h:eL w v v') (h':eL w' v' v'') (hs:w.heap.size<=w'.heap.size):eL w v v'':=by
 obtain e| ⟨g,e,hg⟩:=h'
 .obtain h| ⟨g,h,hg⟩:=h
  .exact Or.inl (e.trans h)
  .exact Or.inr ⟨g,e.trans h,hg⟩
 .exact Or.inr ⟨g,e,by omega⟩
theorem eL.own {w:World} {v v':Value} (h:eL w v v') {k:Nat} (hk:k<w.heap.size) (e:v'.ownBlock=some k):v.ownBlock=some k:=by
 obtain h| ⟨g,h,hg⟩:=h
 .exact h▸e
 .rw[h]at e;have:=Option.some.inj e;omega
theorem CmB.but {F:Nat->Prop} {w w':World} {cb:Nat} {c m r vl vi v:Value} (h:CmB w cb c m r vl vi v) (hb:But F w w') (hf: ¬F cb):CmB w' cb c m r vl vi v:=(hb.block cb (ae h) hf).trans h
theorem CmB.set {w:World} {cb:Nat} {c m r vl vi v:Value} (h:CmB w cb c m r vl vi v) (v':Value):CmB (w.setCell ⟨cb,5,none⟩ v') cb c m r vl vi v':=cQ w cb 5 _ _ v' h
section
variable {w:World} {cb base:Nat} {c m r vl vi v:Value} {its:List XIt}
theorem yH (h:CmB w cb c m r vl vi v) (hI:ItB w base v its) (hb:base<=w.heap.size) (hl:its.length<=4000) (x:UInt8):
  Calls prog 160 #[.pointer (some ⟨cb,0,none⟩),.int .u8 x.toNat] w λen w'=>en= .returned (.int .i64 its.length)/\But (λk=>k=cb\/v.ownBlock=some k) w w'/\ ∃v',CmB w' cb c m r vl vi v'/\ItB w' base v' (its++ [df x])/\eL w v v':=by
 obtain⟨J,z,A,B,C⟩:=info_parts lQ;have p:v.ownBlock≠some cb:=λe=>bA hI h (by decide) e
 obtain⟨ao,cap,rfl⟩:=ay hI;have c5:=ce5 h;have L:=bG w cb 5 _ _ h;have I:=ae h;have E:=hid h;have y:w.ownsRow base 219 5 (.slice ao its.length cap) its.length (ck its):=hI;have q:=hid p;clear h hI p
 go_in
 go_wp2_with (at_builtin;refine wpList_append_lies _ rfl _ _ _ rfl base 219 J _ 5 48 (by kernel_rfl) z A B C rfl (by omega) _ its.length (ck its) rfl (y.alloc _) ⟨w.heap.size,0,none⟩ 1 1 [.int .i64 0,.int .u8 x.toNat,.int .u8 45,.int .i64 0,S_] rfl rfl (iu (cs:=#[.int .i64 0,.int .u8 x.toNat,.int .u8 45,.int .i64 0,S_]) (t:=219) (fr:=(0,0)) (aB (by simp) _)) (by simp[Value.oneCell']) (by omega) (by unfold maxLen;omega) (by omega) (by simp;omega) (w.heap.size+1) (by simp) ?_);intro gg cap3 D d b n G;have l:But (λk=>(Value.slice ao its.length cap).ownBlock=some k) w D:=(aa _ _ _).trans (a8 b)
 have a:=E.out.but l q.out;have O:=ce5 a;have M:=bG D cb 5 _ _ a;have F:=ae a;have f:=hid a;have i:=hid d;have j:eL w (.slice ao its.length cap) (.slice (some ⟨gg,0,none⟩) (its.length+1) cap3):=n.imp (λh=>h.symm) (λh=>⟨gg,rfl,by omega⟩);have s:=hid j;clear c5 L b n a d E j;go_wp2_with fail;have H:CmB (D.setCell ⟨cb,5,none⟩ (.slice (some ⟨gg,0,none⟩) (its.length+1) cap3)) cb c m r vl vi (.slice (some ⟨gg,0,none⟩) (its.length+1) cap3):=f.out.set _
 exact eh (.int .i64 its.length) results160 rfl rfl ⟨rfl,(l.mono (λ_ _ h=>Or.inr h)).trans ((aj _ _ _ _).mono (λ_ _ h=>Or.inl h)),_,H,by
  unfold ItB;rw[aN,jv];exact ag i.out (aj _ _ _ _) (λg hg e=>bA i.out f.out (by decide) (e▸hg)),s.out⟩
theorem AN {w:World} {base g t n len cap k:Nat} {C:List Value} (h:w.ownsRow base t n (.slice (some ⟨g,0,none⟩) len cap) len C) (y:Value):(w.setCell ⟨g,k,none⟩ y).ownsRow base t n (.slice (some ⟨g,0,none⟩) len cap) len (C.set k y):=by
 obtain⟨b,_⟩ | ⟨g',cap',cur,b,f,i,j,l,m,p⟩:=h.2
 .cases b
 .have d:cap=cap':=congrArg (λv=>match v with|Value.slice _ _ c=>c|_=>0) b;have e:g=g':=congrArg (λv=>match v with|Value.slice (some a) _ _=>a.block|_=>0) b;subst d e;refine⟨by rw[List.length_set];exact h.1,Or.inr ⟨g,cap,cur.setIfInBounds k y,rfl,f,cQ w g k _ _ _ i,by simpa using j,l,by simpa using m,?_⟩⟩;rw[Array.toList_setIfInBounds,List.take_set,p]
theorem wF (l:List XIt) (j n:Nat) (x:XIt) (hx:l[j]?=some x):ck (l.set j {x with num:=n})=(ck l).set (j*5+3) (.int .i64 n):=by
 induction l generalizing j with
 |nil=>simp at hx
 |cons y l ih=>
  cases j with
  |zero=>
   simp only[List.getElem?_cons_zero,Option.some.injEq]at hx;subst hx;simp[ck]
  |succ j=>
   simp only[List.getElem?_cons_succ]at hx;have:=ih j hx;have e:(j+1)*5+3=j*5+3+5:=by omega
   simp only[ck,List.set_cons_succ,lr]at this⊢;rw[this,e];simp
theorem DW (h:CmB w cb c m r vl vi v) (hI:ItB w base v its) (j:Nat) (x:XIt) (hx:its[j]?=some x) (hl:its.length<=4000):
  Calls prog 241 #[.pointer (some ⟨cb,0,none⟩),.int .i64 j] w λen w'=>en= .returned (.tuple #[])/\But (λk=>v.ownBlock=some k) w w'/\CmB w' cb c m r vl vi v/\ItB w' base v (its.set j {x with num:=its.length}):=by
 have B:=(bc hx).1;have i:v.ownBlock≠some cb:=λe=>bA hI h (by decide) e
 have p:=hid hI;unfold ItB at hI;obtain⟨ai,ci,rfl⟩:=ay hI;obtain⟨g,rfl,t,y,a⟩:=aE hI (by omega);have D:w.cell? ⟨g,j*5+3,none⟩=some _:=a _ _ (bq (k:=3) hx (by omega));obtain⟨cur,b⟩:=jG hI (g:=g) rfl;have E:=bG w g (j*5+3) _ _ b;have c5:=ce5 h;have f:=ae h;have z:(0:Int)<=(j:Int):=by omega
 have A:(j:Int)<(its.length:Int):=by omega
 have n:=hid h;have q:=hid hx;clear h hI a b hx
 go_in
 go_wp2_with fail;have d:B_ w w.drew:=aA _ _;refine aD (B_ w) 10 ?_
 iterate 10 (refine aF (v:=?_) rfl d ?_ ?_;rotate_left;(focus (intro wS h;have C:=(h.kc c5 f);clear h;go_simp;try rfl));dsimp only[Act.put];try simp only[bW])
 refine au rfl ?_;intro KS hKS;go_simp;refine hKS.out _ _ nofun ?_;clear hKS KS;refine au rfl ?_;intro KS hKS;go_simp;refine hKS.out _ _ nofun ?_;clear hKS KS;refine au rfl ?_;intro KS hKS;go_simp;refine hKS.out _ _ nofun ?_;clear hKS KS;refine aI rfl ?_;go_end0;have l:But (λk=>(Value.slice (some ⟨g,0,none⟩) its.length ci).ownBlock=some k) w (w.setCell ⟨g,j*5+3,none⟩ (.int .i64 its.length)).drew:=((aj _ _ _ _).mono (λ_ _ h=>h▸rfl)).trans (aA _ _);have s:=ag (AN (k:=j*5+3) p.out (.int .i64 its.length)) (aA (λ_=>False) _) (λ_ _ h=>h)
 exact⟨rfl,l,n.out.but l i,by
  unfold ItB;rw[List.length_set,wF _ _ _ _ q.out];exact s⟩
end
def CC (w:World) (n:Nat) (L:L_) (en:Ending) (w':World):Prop:= ∃s:ByteArray,en= .returned (.string s)/\s.size<=n/\s.data.toList=L/\B_ w w'
theorem mR (v:Value) (l:L_) (f:Nat) (w:World) (hO:BtB w 0 v l) (hl:l.length<=1000) (hf:f<=1000):
  Calls prog 158 #[v,.int .i64 f] w (CC w 2000 (l.drop f)):=by
 obtain⟨av,cv,rfl⟩:=ay hO
 go_in
 go_wp2_with fail;have B:=BtB.empty w;have e:B_ w (w.alloc (.cells #[] 5)):=aa _ _ _;revert B e;generalize (w.alloc (.cells #[] 5))=W;intro B e
 go_loopg [5,6] (f+l.length) (λmm ss ks wr=> ∃(k:Nat) (ao:Option Addr) (cap:Nat) (s:L_),ss= .slice ao s.length cap/\BtB wr w.heap.size (.slice ao s.length cap) s/\s.length<=k/\ks= .int .i64 k/\k<=f+l.length/\k+mm<=f+l.length+f/\f+l.length<=k+mm/\B_ w wr/\f<=k/\s=(l.take k).drop f)
 case atStart=>exact⟨f,_,0,[],rfl,B,by simp,rfl,by omega,by omega,by omega,e,by omega,by simp⟩
 case round=>
  obtain⟨k,ao,cap,s,rfl,D,Y,rfl,S,T,X,b,M,t⟩:=hrel;have j:=hid t;clear t;have Q:(0:Int)<=(k:Int):=by omega
  by_cases hlt:k<l.length
  .have F:(k:Int)<(l.length:Int):=by omega
   have q:=hO.but b (λ_ _ h=>h);obtain⟨g,I,O,P,a⟩:=aE q (by omega);obtain⟨c,hc⟩: ∃c,l[k]=c:=⟨_,rfl⟩;have Z:wr.cell? ⟨g,k,none⟩=some (.int .u8 c.toNat):=a _ _ (by simp[a7,hc,aG hlt])
   cases I
   have r:=yE wr _ c rfl wr.heap.size rfl;have p:=D.but (aa (λ_=>False) _ (.cells #[.int .u8 c.toNat] 5)) (λ_ _ h=>h);have E:=aw D;obtain⟨i,d⟩: ∃i,s++ [c]=i:=⟨_,rfl⟩;have G:i.length<=k+1:=by rw[<-d];simp;omega
   have x:=hid d;have y:=hid (show i=(l.take (k+1)).drop f from by rw[<-d,j.out,f7 hlt,List.drop_append_of_le_length (by simp;omega),hc]);have J:=b.size;clear d a hc q;go_wp2_with (at_builtin;refine ik rfl _ _ rfl w.heap.size 0 _ _ s [c] i x rfl rfl p r (by omega) (by simp;omega) ?_);intro z cap3 H C m _;have n:But (λk'=>(Value.slice ao s.length cap).ownBlock=some k') wr H:=(aa _ _ _).trans m;have A:B_ w H:=b.next n (λk' hk' h=>absurd (E k' h) (by omega));clear r p m;go_wp2_with fail
   go_roundg (f+l.length-(k+1))
   case measure=>omega
   case rel=>exact⟨k+1,z,cap3,i,rfl,C,by omega,by simp,by omega,by omega,by omega,A,by omega,y.out⟩
  .have F: ¬(k:Int)<(l.length:Int):=by omega
   have L:=rm D;go_wp2_with fail;exact eh (.string ⟨s.toArray⟩) results158 rfl rfl ⟨_,rfl,by show s.toArray.size<=2000;simp;omega,by show s.toArray.toList=_;rw[j.out,fd (by omega)],b⟩
theorem ry {fn:Func} {Rr:Ending->World->Prop} {a:Act} {w:World} {c:Nat} {s:ByteArray} (hf:fn.results=#[.tmp c]) (hd:a.defers=[]) (hc:a.tmps.getD c undef= .string s) (hR:Rr (.returned (.string s)) w):bodyPost prog fn Rr .ret a w:=by
 refine cA (v:= .string s) ?_ hd hR;have b:a.tmps[c]?.getD undef= .string s:=by simpa using hc
 simp[results,hf,b,go_sem]
theorem cX (a b:ByteArray):(a++b).size=a.size+b.size:=by simp
theorem dq (a b:ByteArray):(a++b).data.toList=a.data.toList++b.data.toList:=by simp
def wIx (x:XIt):L_:=x.op::((if x.op.toNat=110\/x.op.toNat=120\/x.op.toNat=103\/x.op.toNat=112\/x.op.toNat=99 then [x.cls]else [])++(if x.op.toNat=107\/x.op.toNat=108\/x.op.toNat=115\/x.op.toNat=103\/x.op.toNat=112\/x.op.toNat=99 then Lib.itoa x.num else if x.op.toNat=106\/x.op.toNat=102 then Lib.itoa (x.num / 10:Nat)++Lib.itoa (x.num % 10:Nat)else []))
theorem jd (n:Nat) (h:n<=5000) (w:World) (ht:iM w):Calls prog 181 #[.int .i64 n] w (CC w 30 (Lib.itoa n)):=by
 refine(rc n (by omega) (by omega) w ht).mono ?_;rintro en w1 ⟨rfl,a⟩;refine⟨_,rfl,?_,by show(Lib.itoa n).toArray.toList=_;simp,a⟩;have:=Lib.itoa_length_le (n:Int) (by omega) (by omega)
 show(Lib.itoa n).toArray.size<=30
 simp;omega
theorem rz (x:XIt) (w:World) (ht:iM w) (hn:x.num<=3000):Calls prog 162 #[gn x] w (CC w 100 (wIx x)):=by
 have HT:=hid ht;obtain⟨pl,op,cl,n,pa,pn,pc⟩:=x;dsimp only at hn;unfold gn;obtain⟨H,b0,z1,y1⟩: ∃H:ByteArray,(∀(W:World) (g:Nat),W.heap.size=g->(convert 112 9 (.slice (some ⟨g,0,none⟩) 1 1)).run prog (W.alloc (.cells #[.int .u8 op.toNat] 5))= .ok (.string H) (W.alloc (.cells #[.int .u8 op.toNat] 5)))/\H.size=1/\H.data.toList=[op]:=⟨⟨#[op]⟩,λW g h=>h▸qf op W,rfl,rfl⟩;obtain⟨X,b1,z2,y2⟩: ∃X:ByteArray,(∀(W:World) (g:Nat),W.heap.size=g->(convert 112 9 (.slice (some ⟨g,0,none⟩) 1 1)).run prog (W.alloc (.cells #[.int .u8 cl.toNat] 5))= .ok (.string X) (W.alloc (.cells #[.int .u8 cl.toNat] 5)))/\X.size=1/\X.data.toList=[cl]:=⟨⟨#[cl]⟩,λW g h=>h▸qf cl W,rfl,rfl⟩
 have b5:H.size+X.size<=200000:=by omega
 have J:=hid (And.intro z1 z2);have HY:=hid (And.intro y1 y2);have hX:(w.alloc (.cells #[.int .i64 pl,.int .u8 op.toNat,.int .u8 cl.toNat,.int .i64 n,.slice pa pn pc] 219)).heap[w.heap.size]?=some (.cells #[.int .i64 pl,.int .u8 op.toNat,.int .u8 cl.toNat,.int .i64 n,.slice pa pn pc] 219):=aO w _;have hB:B_ w (w.alloc (.cells #[.int .i64 pl,.int .u8 op.toNat,.int .u8 cl.toNat,.int .i64 n,.slice pa pn pc] 219)):=aa _ _ _;have a0:(op.toNat=110\/op.toNat=120\/(op.toNat≠110/\op.toNat≠120/\op.toNat≠103/\op.toNat≠112/\op.toNat≠99/\op.toNat≠107/\op.toNat≠108/\op.toNat≠115/\op.toNat≠106/\op.toNat≠102))\/(op.toNat=107\/op.toNat=108\/op.toNat=115\/op.toNat=103\/op.toNat=112\/op.toNat=99)\/(op.toNat=106\/op.toNat=102):=by omega
 clear ht z1 z2 y1 y2;obtain⟨x0,x1,x2,x3,x4⟩:=dp hX;have I:=ae hX;have G:=hid hB;clear hB hX
 go_in
 obtain h|h|h:=a0
 .obtain h|h|h:=h
  all_goals
   first|have i:=cg (c:=op) 110 (by omega) |have i:=cI (c:=op) 110 (by omega)
   first|have m:=cg (c:=op) 120 (by omega) |have m:=cI (c:=op) 120 (by omega)
   first|have b:=cg (c:=op) 103 (by omega) |have b:=cI (c:=op) 103 (by omega)
   first|have j:=cg (c:=op) 112 (by omega) |have j:=cI (c:=op) 112 (by omega)
   first|have s:=cg (c:=op) 99 (by omega) |have s:=cI (c:=op) 99 (by omega)
   first|have e:=cg (c:=op) 107 (by omega) |have e:=cI (c:=op) 107 (by omega)
   first|have f:=cg (c:=op) 108 (by omega) |have f:=cI (c:=op) 108 (by omega)
   first|have l:=cg (c:=op) 115 (by omega) |have l:=cI (c:=op) 115 (by omega)
   first|have d:=cg (c:=op) 106 (by omega) |have d:=cI (c:=op) 106 (by omega)
   first|have a:=cg (c:=op) 102 (by omega) |have a:=cI (c:=op) 102 (by omega)
   have O:=hid h;clear h;go_wp2_with fail
  all_goals exact ry results162 rfl rfl ⟨_,rfl,by have:=J.out;(try simp only[cX]);omega,by have S:=O.out;have T:=HY.out;simp[wIx,dq,S,T],by first|exact(G.out.trans (aa _ _ _)).trans (aa _ _ _) |exact G.out.trans (aa _ _ _)⟩
 .obtain h|h|h|h|h|h:=h
  all_goals
   first|have i:=cg (c:=op) 110 (by omega) |have i:=cI (c:=op) 110 (by omega)
   first|have m:=cg (c:=op) 120 (by omega) |have m:=cI (c:=op) 120 (by omega)
   first|have b:=cg (c:=op) 103 (by omega) |have b:=cI (c:=op) 103 (by omega)
   first|have j:=cg (c:=op) 112 (by omega) |have j:=cI (c:=op) 112 (by omega)
   first|have s:=cg (c:=op) 99 (by omega) |have s:=cI (c:=op) 99 (by omega)
   first|have e:=cg (c:=op) 107 (by omega) |have e:=cI (c:=op) 107 (by omega)
   first|have f:=cg (c:=op) 108 (by omega) |have f:=cI (c:=op) 108 (by omega)
   first|have l:=cg (c:=op) 115 (by omega) |have l:=cI (c:=op) 115 (by omega)
   first|have d:=cg (c:=op) 106 (by omega) |have d:=cI (c:=op) 106 (by omega)
   first|have a:=cg (c:=op) 102 (by omega) |have a:=cI (c:=op) 102 (by omega)
   have O:=hid h;clear h;go_wp2_with fail;refine(jd n (by omega) _ (HT.out.but (by first|exact(G.out.trans (aa _ _ _)).trans (aa _ _ _) |exact G.out.trans (aa _ _ _)))).mono ?_;rintro en w1 ⟨L,rfl,z3,M,B⟩;have Y:=hid B;have C:=hid M;clear M;have b6:H.size+L.size<=200000:=by have:=J.out;omega
   have a5:H.size+X.size+L.size<=200000:=by have:=J.out;omega
   clear B;go_wp2_with fail
  all_goals exact ry results162 rfl rfl ⟨_,rfl,by have:=J.out;(try simp only[cX]);omega,by have S:=O.out;have T:=HY.out;have A:=C.out;simp[wIx,dq,S,T,A],by first|exact((G.out.trans (aa _ _ _)).trans (aa _ _ _)).trans Y.out|exact(G.out.trans (aa _ _ _)).trans Y.out⟩
 .obtain⟨q,hq,b2,a2⟩: ∃q:Nat,Int.tdiv (n:Int) 10=(q:Int)/\q<=3000/\q=n / 10:=⟨n / 10,(Int.ofNat_tdiv n 10).symm,by omega,rfl⟩;obtain⟨r,hr,b3,a3⟩: ∃r:Nat,Int.tmod (n:Int) 10=(r:Int)/\r<=3000/\r=n % 10:=⟨n % 10,(Int.ofNat_tmod n 10).symm,by omega,rfl⟩;have HQ:=hid (And.intro a2 a3);clear a2 a3;have b4:=dc (q:Int) (by omega) (by omega);have a4:=dc (r:Int) (by omega) (by omega);obtain h|h:=h
  .skip
   first|have i:=cg (c:=op) 110 (by omega) |have i:=cI (c:=op) 110 (by omega)
   first|have m:=cg (c:=op) 120 (by omega) |have m:=cI (c:=op) 120 (by omega)
   first|have b:=cg (c:=op) 103 (by omega) |have b:=cI (c:=op) 103 (by omega)
   first|have j:=cg (c:=op) 112 (by omega) |have j:=cI (c:=op) 112 (by omega)
   first|have s:=cg (c:=op) 99 (by omega) |have s:=cI (c:=op) 99 (by omega)
   first|have e:=cg (c:=op) 107 (by omega) |have e:=cI (c:=op) 107 (by omega)
   first|have f:=cg (c:=op) 108 (by omega) |have f:=cI (c:=op) 108 (by omega)
   first|have l:=cg (c:=op) 115 (by omega) |have l:=cI (c:=op) 115 (by omega)
   first|have d:=cg (c:=op) 106 (by omega) |have d:=cI (c:=op) 106 (by omega)
   first|have a:=cg (c:=op) 102 (by omega) |have a:=cI (c:=op) 102 (by omega)
   have O:=hid h;clear h;go_wp2_with fail;obtain⟨W,D⟩: ∃W,(w.alloc (.cells #[.int .i64 pl,.int .u8 op.toNat,.int .u8 cl.toNat,.int .i64 n,.slice pa pn pc] 219)).alloc (.cells #[.int .u8 op.toNat] 5)=W:=⟨_,rfl⟩;have t:B_ w W:=D▸G.out.trans (aa _ _ _);have x3W:W.cell? ⟨w.heap.size,3,none⟩=some (.int .i64 n):=D▸(aa (λ_=>False) _ _).kc x3 I;have E:w.heap.size<W.heap.size:=by rw[<-D];simp;omega
   rw[D];clear D x0 x1 x2 x3 x4 I G;have y:B_ W W.drew:=aA _ _;refine fR (B_ W) 11 ?_;refine eR [0,1,2,3,5,6,7] ?_
   iterate 7 (refine fS (v:=?_) rfl y ?_ ?_;rotate_left;(focus (intro wS h;have q0:=(h.kc x3W E);clear h;go_simp;try rfl));dsimp only[Act.put];try simp only[bW])
   refine aM (k:=4) rfl ?_;intro KS hKS;go_simp;refine(jd q (by omega) _ (HT.out.but (t.trans y))).mono ?_;rintro en w1 ⟨L,rfl,z3,M,B⟩;have C:=hid M;clear M;have z:=y.trans B;refine hKS.out _ _ (λ_=>z) ?_;clear hKS KS;refine aM (k:=8) rfl ?_;intro KS hKS;go_simp;refine(jd r (by omega) _ (HT.out.but (t.trans z))).mono ?_;rintro en w2 ⟨Z,rfl,z4,y4,Q⟩;have P:=hid y4;clear y4;have p:=z.trans Q;refine hKS.out _ _ (λ_=>p) ?_;clear hKS KS;have a6:L.size+Z.size<=200000:=by omega
   have a1:H.size+(L.size+Z.size)<=200000:=by have:=J.out;omega
   refine aM (k:=9) rfl ?_;intro KS hKS;go_simp;rw[if_neg (by omega)];refine hKS.out _ _ (λ_=>p) ?_;clear hKS KS;refine aM (k:=10) rfl ?_;intro KS hKS;go_simp;rw[if_neg (by omega)];refine hKS.out _ _ (λ_=>p) ?_;clear hKS KS;refine aM (k:=11) rfl ?_;intro KS hKS;go_simp;refine hKS.out _ _ nofun ?_;clear hKS KS;refine eE rfl ?_;go_wp2_with fail;exact ry results162 rfl rfl ⟨_,rfl,by have:=J.out;simp only[cX];omega,by have S:=O.out;have T:=HY.out;have A:=C.out;have F:=P.out;rw[HQ.out.1]at A;rw[HQ.out.2]at F;simp[wIx,dq,S,T,A,F],t.trans p⟩
  .skip
   first|have i:=cg (c:=op) 110 (by omega) |have i:=cI (c:=op) 110 (by omega)
   first|have m:=cg (c:=op) 120 (by omega) |have m:=cI (c:=op) 120 (by omega)
   first|have b:=cg (c:=op) 103 (by omega) |have b:=cI (c:=op) 103 (by omega)
   first|have j:=cg (c:=op) 112 (by omega) |have j:=cI (c:=op) 112 (by omega)
   first|have s:=cg (c:=op) 99 (by omega) |have s:=cI (c:=op) 99 (by omega)
   first|have e:=cg (c:=op) 107 (by omega) |have e:=cI (c:=op) 107 (by omega)
   first|have f:=cg (c:=op) 108 (by omega) |have f:=cI (c:=op) 108 (by omega)
   first|have l:=cg (c:=op) 115 (by omega) |have l:=cI (c:=op) 115 (by omega)
   first|have d:=cg (c:=op) 106 (by omega) |have d:=cI (c:=op) 106 (by omega)
   first|have a:=cg (c:=op) 102 (by omega) |have a:=cI (c:=op) 102 (by omega)
   have O:=hid h;clear h;go_wp2_with fail;obtain⟨W,D⟩: ∃W,(w.alloc (.cells #[.int .i64 pl,.int .u8 op.toNat,.int .u8 cl.toNat,.int .i64 n,.slice pa pn pc] 219)).alloc (.cells #[.int .u8 op.toNat] 5)=W:=⟨_,rfl⟩;have t:B_ w W:=D▸G.out.trans (aa _ _ _);have x3W:W.cell? ⟨w.heap.size,3,none⟩=some (.int .i64 n):=D▸(aa (λ_=>False) _ _).kc x3 I;have E:w.heap.size<W.heap.size:=by rw[<-D];simp;omega
   rw[D];clear D x0 x1 x2 x3 x4 I G;have y:B_ W W.drew:=aA _ _;refine fR (B_ W) 11 ?_;refine eR [0,1,2,3,5,6,7] ?_
   iterate 7 (refine fS (v:=?_) rfl y ?_ ?_;rotate_left;(focus (intro wS h;have q0:=(h.kc x3W E);clear h;go_simp;try rfl));dsimp only[Act.put];try simp only[bW])
   refine aM (k:=4) rfl ?_;intro KS hKS;go_simp;refine(jd q (by omega) _ (HT.out.but (t.trans y))).mono ?_;rintro en w1 ⟨L,rfl,z3,M,B⟩;have C:=hid M;clear M;have z:=y.trans B;refine hKS.out _ _ (λ_=>z) ?_;clear hKS KS;refine aM (k:=8) rfl ?_;intro KS hKS;go_simp;refine(jd r (by omega) _ (HT.out.but (t.trans z))).mono ?_;rintro en w2 ⟨Z,rfl,z4,y4,Q⟩;have P:=hid y4;clear y4;have p:=z.trans Q;refine hKS.out _ _ (λ_=>p) ?_;clear hKS KS;have a6:L.size+Z.size<=200000:=by omega
   have a1:H.size+(L.size+Z.size)<=200000:=by have:=J.out;omega
   refine aM (k:=9) rfl ?_;intro KS hKS;go_simp;rw[if_neg (by omega)];refine hKS.out _ _ (λ_=>p) ?_;clear hKS KS;refine aM (k:=10) rfl ?_;intro KS hKS;go_simp;rw[if_neg (by omega)];refine hKS.out _ _ (λ_=>p) ?_;clear hKS KS;refine aM (k:=11) rfl ?_;intro KS hKS;go_simp;refine hKS.out _ _ nofun ?_;clear hKS KS;refine eE rfl ?_;go_wp2_with fail;exact ry results162 rfl rfl ⟨_,rfl,by have:=J.out;simp only[cX];omega,by have S:=O.out;have T:=HY.out;have A:=C.out;have F:=P.out;rw[HQ.out.1]at A;rw[HQ.out.2]at F;simp[wIx,dq,S,T,A,F],t.trans p⟩
def ir (x:XIt):List XIt:=⟨0,x.op,x.cls,x.num,none,0,0⟩::if x.op.toNat=115\/x.op.toNat=112\/x.op.toNat=119 then [df 107]else []
section
variable {w:World} {cb base:Nat} {c m r vl vi v:Value} {its:List XIt}
theorem CD (h:CmB w cb c m r vl vi v) (hI:ItB w base v its) (hb:base<=w.heap.size) (hl:its.length<=3900) (x:XIt):
  Calls prog 213 #[.pointer (some ⟨cb,0,none⟩),gn x] w λen w'=>en= .returned (.tuple #[])/\But (λk=>k=cb\/v.ownBlock=some k) w w'/\ ∃v',CmB w' cb c m r vl vi v'/\ItB w' base v' (its++ir x)/\eL w v v':=by
 obtain⟨i0,a4,b1,b2,b3⟩:=info_parts lQ;have y:v.ownBlock≠some cb:=λe=>bA hI h (by decide) e
 obtain⟨ao,cap,rfl⟩:=ay hI;obtain⟨W,S⟩: ∃W,w.alloc (.cells #[.int .i64 x.place,.int .u8 x.op.toNat,.int .u8 x.cls.toNat,.int .i64 x.num,.slice x.pa x.pn x.pc] 219)=W:=⟨_,rfl⟩;have i:B_ w W:=S▸aa _ _ _;have T:W.heap[w.heap.size]?=some (.cells #[.int .i64 x.place,.int .u8 x.op.toNat,.int .u8 x.cls.toNat,.int .i64 x.num,.slice x.pa x.pn x.pc] 219):=S▸aO w _;have L:=h.but i (λh=>h);have O:W.ownsRow base 219 5 (.slice ao its.length cap) its.length (ck its):=ag hI i (λ_ _ h=>h);have a6: ∀k,(Value.slice ao its.length cap).ownBlock=some k->k<w.heap.size:=λk hk=>aY hI k hk
 have b5:=i.size;have b4:=ae h;clear h hI;unfold gn
 go_in
 go_wp2_with fail
 try rw[S]
 clear S;obtain⟨x0,x1,x2,x3,x4⟩:=dp T;have q:=ae T;have c5:=ce5 L;have z5:=bG W cb 5 _ _ L;have G:=ae L;have HC:=hid L;have HX:=hid T;have I:=hid i;have nx:(Value.slice ao its.length cap).ownBlock≠some w.heap.size:=λe=>by have:=a6 _ e;omega
 clear L T i;have a3:But (λk=>(Value.slice ao its.length cap).ownBlock=some k) W W.drew:=aA _ _;refine aD (But (λk=>(Value.slice ao its.length cap).ownBlock=some k) W) 14 ?_
 iterate 12 (refine aF (v:=?_) rfl a3 ?_ ?_;rotate_left;(focus (intro wS h;have q0:=((h.cell (p:=⟨cb,5,none⟩) G y).trans c5);have q1:=((h.cell (p:=⟨w.heap.size,1,none⟩) q nx).trans x1);have q2:=((h.cell (p:=⟨w.heap.size,2,none⟩) q nx).trans x2);have q3:=((h.cell (p:=⟨w.heap.size,3,none⟩) q nx).trans x3);clear h;go_simp;try rfl));dsimp only[Act.put];try simp only[bW])
 refine au rfl ?_;intro KS hKS;go_simp;refine hKS.out _ _ (λ_=>(aa _ _ _).trans (aA _ _)) ?_;clear hKS KS;refine au rfl ?_;intro KS hKS
 refine step_append_lies _ (by rfl) _ _ _ (by rfl) base 219 i0 _ 5 48 (by kernel_rfl) a4 b1 b2 b3 rfl (by omega) _ its.length (ck its) (by rfl) ((O.alloc _).drew)
    ⟨W.heap.size,0,none⟩ 1 1 [.int .i64 0,.int .u8 x.op.toNat,.int .u8 x.cls.toNat,.int .i64 x.num,S_] (by rfl) (by rfl) (iu (cs:=#[.int .i64 0,.int .u8 x.op.toNat,.int .u8 x.cls.toNat,.int .i64 x.num,S_]) (t:=219) (fr:=(0,0)) (aO W _)) (by simp[Value.oneCell'])
    (by omega) (by unfold maxLen;omega) (by omega) (by simp;omega) (W.heap.size+1) (by simp) ?_
 intro gg cap3 H b n Q b0;have a:But (λk=>(Value.slice ao its.length cap).ownBlock=some k) W H:=((aa _ _ _).trans (aA _ _)).trans (a8 n);refine hKS.out _ _ (λ_=>a) ?_;clear hKS KS;have y0:=(a.cell (p:=⟨cb,5,none⟩) G y).trans c5;have y1:=(a.frozen (p:=⟨cb,5,none⟩) G y).trans z5;refine au rfl ?_;intro KS hKS;go_simp;refine hKS.out _ _ nofun ?_;clear hKS KS;refine au rfl ?_;intro KS hKS;go_simp;refine hKS.out _ _ nofun ?_;clear hKS KS;refine au rfl ?_;intro KS hKS;go_simp;refine hKS.out _ _ nofun ?_;clear hKS KS;refine aI rfl ?_;have F:=HC.out.but a y;have j:=F.set (.slice (some ⟨gg,0,none⟩) (its.length+1) cap3)
 have d:But (· =cb) H (H.setCell ⟨cb,5,none⟩ (.slice (some ⟨gg,0,none⟩) (its.length+1) cap3)):=aj _ _ _ _
 have l:ItB (H.setCell ⟨cb,5,none⟩ (.slice (some ⟨gg,0,none⟩) (its.length+1) cap3)) base (.slice (some ⟨gg,0,none⟩) (its.length+1) cap3) (its++ [⟨0,x.op,x.cls,x.num,none,0,0⟩]):=by
  unfold ItB;rw[aN,jv];exact ag b d (λg hg e=>bA b F (by decide) (e▸hg))
 have s:=(d.block w.heap.size (bK q a.size) (by show¬w.heap.size=cb;omega)).trans ((a.block _ q nx).trans HX.out);have C:eL w (.slice ao its.length cap) (.slice (some ⟨gg,0,none⟩) (its.length+1) cap3):=Q.imp (λh=>h.symm) (λh=>⟨gg,rfl,by omega⟩);have f:But (λk=>k=cb\/(Value.slice ao its.length cap).ownBlock=some k) w (H.setCell ⟨cb,5,none⟩ (.slice (some ⟨gg,0,none⟩) (its.length+1) cap3)):=((I.out.mono (λ_ _ h=>h.elim)).trans (a.mono (λ_ _ h=>Or.inr h))).trans (d.mono (λ_ _ h=>Or.inl h));clear y0 y1 b n a d F c5 z5 x0 x1 x2 x3 x4 Q HC HX I;revert j l s f;generalize (H.setCell ⟨cb,5,none⟩ (.slice (some ⟨gg,0,none⟩) (its.length+1) cap3))=W5
 intro j l s f;have x1:=ce1 s;have a5:(its++ [(⟨0,x.op,x.cls,x.num,none,0,0⟩:XIt)]).length<=4000:=by simp;omega
 have J:=hid (yH j l (Nat.le_trans hb f.size) a5 107);have X:=hid j;have Y:=hid l;have D:=hid C;have E:=hid f;clear j l s f C O
 by_cases hk:x.op.toNat=115\/x.op.toNat=112\/x.op.toNat=119
 .have P:ir x=[⟨0,x.op,x.cls,x.num,none,0,0⟩,df 107]:=by unfold ir;rw[if_pos hk]
  have Z:=hid P;clear P;obtain h|h|h:=hk
  all_goals
   first|have A:=cg (c:=x.op) 115 (by omega) |have A:=cI (c:=x.op) 115 (by omega)
   first|have z:=cg (c:=x.op) 112 (by omega) |have z:=cI (c:=x.op) 112 (by omega)
   first|have B:=cg (c:=x.op) 119 (by omega) |have B:=cI (c:=x.op) 119 (by omega)
   clear h;go_wp2_with fail;refine J.out.mono ?_;rintro en w6 ⟨rfl,a0,v6,a1,M,a2⟩;have hB:=E.out.next a0 (λk hk h=>h.imp id (λh=>D.out.own hk h));have hN:=D.out.trans a2 E.out.size;rw[ky]at M;go_wp2_with fail;go_end0;exact⟨rfl,hB,v6,a1,by rw[Z.out];exact M,hN⟩
 .have P:ir x=[⟨0,x.op,x.cls,x.num,none,0,0⟩]:=by unfold ir;rw[if_neg hk]
  have Z:=hid P;have A:=cg (c:=x.op) 115 (by omega);have z:=cg (c:=x.op) 112 (by omega);have B:=cg (c:=x.op) 119 (by omega);clear P hk J;go_wp2_with fail;go_end0;exact⟨rfl,E.out,_,X.out,by rw[Z.out];exact Y.out,D.out⟩
end
structure CmS (w0 w:World) (cb:Nat) (X:cZ) (vl vi v:Value) (l:List XIt):Prop where
 old:B_ w0 w
 blk:CmB w cb (.int .u8 X.cls.toNat) (.int .i64 X.meth) (.int .u8 X.ans.toNat) vl vi v
 its:ItB w w0.heap.size v l
 new:w0.heap.size<=cb
def CmR (w0 w:World) (cb:Nat) (X:cZ) (vl vi v:Value) (l:List XIt) (en:Ending) (w':World):Prop:=en= .returned (.tuple #[])/\But (λk=>k=cb\/v.ownBlock=some k) w w'/\ ∃v',CmS w0 w' cb X vl vi v' l/\eL w v v'
theorem eL.refl (w:World) (v:Value):eL w v v:=Or.inl rfl
theorem eL.off {w:World} {v v':Value} (h:eL w v v') {k:Nat} (hk:k<w.heap.size) (hn:v.ownBlock≠some k):v'.ownBlock≠some k:=λe=>hn (h.own hk e)
theorem eL.mono {w w':World} {v v':Value} (h:eL w' v v') (hs:w.heap.size<=w'.heap.size):eL w v v':=h.imp id (λ⟨g,e,hg⟩=>⟨g,e,by omega⟩)
section
variable {w0 w w':World} {cb:Nat} {X:cZ} {vl vi v:Value} {l:List XIt}
theorem CmS.ge (h:CmS w0 w cb X vl vi v l): ∀k,k<w0.heap.size-> ¬(k=cb\/v.ownBlock=some k):=λk hk e=>by
 have:=h.new;obtain e|e:=e
 .omega
 .have:=aw h.its k e;omega
theorem CmS.lay (h:CmS w0 w cb X vl vi v l) (hl:l.length<=4000) (x:UInt8):
  Calls prog 160 #[.pointer (some ⟨cb,0,none⟩),.int .u8 x.toNat] w λen w'=>en= .returned (.int .i64 l.length)/\But (λk=>k=cb\/v.ownBlock=some k) w w'/\ ∃v',CmS w0 w' cb X vl vi v' (l++ [df x])/\eL w v v':=by
 refine(yH h.blk h.its h.old.size hl x).mono ?_;rintro en w1 ⟨rfl,a,v',b,c,d⟩;exact⟨rfl,a,v',⟨h.old.next a (λk hk e=>h.ge k hk e),b,c,h.new⟩,d⟩
theorem CmS.aim (h:CmS w0 w cb X vl vi v l) (j:Nat) (x:XIt) (hx:l[j]?=some x) (hl:l.length<=4000):
  Calls prog 241 #[.pointer (some ⟨cb,0,none⟩),.int .i64 j] w (CmR w0 w cb X vl vi v (l.set j {x with num:=l.length})):=by
 refine(DW h.blk h.its j x hx hl).mono ?_;rintro en w1 ⟨rfl,a,b,c⟩;exact⟨rfl,a.mono (λ_ _ h=>Or.inr h),v,⟨h.old.next a (λk hk e=>h.ge k hk (Or.inr e)),b,c,h.new⟩,eL.refl _ _⟩
theorem CmS.last (h:CmS w0 w cb X vl vi v l) (hl:l.length<=3900) (x:XIt):
  Calls prog 213 #[.pointer (some ⟨cb,0,none⟩),gn x] w (CmR w0 w cb X vl vi v (l++ir x)):=by
 refine(CD h.blk h.its h.old.size hl x).mono ?_;rintro en w1 ⟨rfl,a,v',b,c,d⟩;exact⟨rfl,a,v',⟨h.old.next a (λk hk e=>h.ge k hk e),b,c,h.new⟩,d⟩
theorem CmS.step (h:CmS w0 w cb X vl vi v l) (hB:B_ w w'):CmS w0 w' cb X vl vi v l:=
 ⟨h.old.trans hB,h.blk.but hB (λh=>h),ag h.its hB (λ_ _ h=>h),h.new⟩
theorem xY (h:CmS w0 w cb X vl vi v l) (x:XIt) (k:Nat) (hk:x.pn<=k) (hk3:k<=3):
  Calls prog 210 #[.pointer (some ⟨cb,0,none⟩),gn x,.int .i64 k] w (CmR w0 w cb X vl vi v l):=by
 have a:=hid h;have k1:(0:Int)<=(k:Int):=by omega
 have k2: ¬((k:Int)<(x.pn:Int)):=by omega
 clear h;unfold gn
 go_in
 go_wp2_with fail;go_end0;exact⟨rfl,aa _ _ _,v,a.out.step (aa _ _ _),eL.refl _ _⟩
theorem CE (h:CmS w0 w cb X vl vi v l) (x:XIt) (k j:Nat) (hk3:k<=3) (ps:List Nat) (hk:ps[k]?=some j) (hrow:w0.ownsRow 0 3 1 (.slice x.pa x.pn x.pc) ps.length (gL ps)) (hps:ps.length<=3) (l':List XIt)
  (IH: ∀Y,CmS w0 Y cb X vl vi v l->Calls prog 159 #[.pointer (some ⟨cb,0,none⟩),.int .i64 j] Y (CmR w0 Y cb X vl vi v l')):
  Calls prog 210 #[.pointer (some ⟨cb,0,none⟩),gn x,.int .i64 k] w (CmR w0 w cb X vl vi v l'):=by
 obtain⟨pl,op,cl,n,pa,pn,pc⟩:=x;have s:=(bc hk).1;dsimp only at hrow;obtain⟨a',cap',c⟩:=ay hrow;injection c with e1 e2 e3;subst e1 e2 e3;obtain⟨g,rfl,b,q,a⟩:=aE hrow (by omega);have m:w0.cell? ⟨g,k,none⟩=some (.int .i64 j):=a _ _ (by simp[gL,hk]);replace m:=h.old.kc m b;replace b:=bK b h.old.size;have d:=hid (λY (hY:B_ w Y)=>IH Y (h.step hY));have k1:(0:Int)<=(k:Int):=by omega
 have t:(k:Int)<(ps.length:Int):=by omega
 have r:g<w.heap.size+1:=by omega
 clear h hk hrow a IH;generalize ps.length=np at*;unfold gn
 go_in
 go_wp2_with fail;refine(d.out _ (aa _ _ _)).mono ?_;rintro en w1 ⟨rfl,e,v',i,f⟩;have p:=hid (show But (λk=>k=cb\/v.ownBlock=some k) w w1/\ ∃v',CmS w0 w1 cb X vl vi v' l'/\eL w v v' from⟨(aa _ _ _).trans e,v',i,f.mono (by simp)⟩);clear e i f d;go_wp2_with fail;go_end0;exact⟨rfl,p.out⟩
end
def aimX (j:Nat) (l:List XIt):List XIt:=match l[j]? with
 |some x=>l.set j {x with num:=l.length}
 |none=>l
theorem gp (j:Nat) (l:List XIt):(aimX j l).length=l.length:=by
 unfold aimX
 split<;>simp
def kw (p:Nat->List XIt->List XIt) (l:List XIt):List XIt:=
 aimX (p 1 (p 0 l++ [df 102])).length (p 2 (aimX (p 0 l).length (p 1 (p 0 l++ [df 102])++ [df 106])))
def oF (p:Nat->List XIt->List XIt) (l:List XIt):List XIt:=
 aimX (p 0 l).length (p 1 (p 0 l++ [df 102])++ [df 100]++ [⟨0,106,45,l.length,none,0,0⟩])++ [df 107]
structure BxC (w:World) (cb b:Nat) (v:Value) (x:XIt):Prop where
 box:w.heap[b]?=some (.cells #[.int .i64 x.place,.int .u8 x.op.toNat,.int .u8 x.cls.toNat,.int .i64 x.num,.slice x.pa x.pn x.pc] 219)
 nc:b≠cb
 nv:v.ownBlock≠some b
theorem BxC.next {w w':World} {cb b:Nat} {v v':Value} {x:XIt} (h:BxC w cb b v x) (hB:But (λk=>k=cb\/v.ownBlock=some k) w w') (hN:eL w v v'):BxC w' cb b v' x:=
 ⟨(hB.block b (ae h.box) (λe=>e.elim h.nc h.nv)).trans h.box,h.nc,hN.off (ae h.box) h.nv⟩
section
variable {w0 w w':World} {cb:Nat} {X:cZ} {vl vi v:Value} {l:List XIt}
theorem CmS.aimX (h:CmS w0 w cb X vl vi v l) (j:Nat) (hj:j<l.length) (hl:l.length<=4000):
  Calls prog 241 #[.pointer (some ⟨cb,0,none⟩),.int .i64 j] w (CmR w0 w cb X vl vi v (aimX j l)):=by
 have a:=aG hj
 have e:Proofs.YtpfkkmacakjmbaaGreatDoor.aimX j l=l.set j {l[j]with num:=l.length}:=by
  unfold Proofs.YtpfkkmacakjmbaaGreatDoor.aimX;rw[a]
 rw[e];exact h.aim j _ a hl
end
structure CmG (w0 w W:World) (cb b:Nat) (X:cZ) (vl vi v v':Value) (l:List XIt) (x:XIt):Prop where
 s:CmS w0 W cb X vl vi v' l
 t:But (λk=>k=cb\/v.ownBlock=some k) w W
 n:eL w v v'
 b:BxC W cb b v' x
section
variable {w0 w W W':World} {cb b:Nat} {X:cZ} {vl vi v v' v'':Value} {l l':List XIt} {x:XIt}
theorem CmG.next (h:CmG w0 w W cb b X vl vi v v' l x) (hB:But (λk=>k=cb\/v'.ownBlock=some k) W W') (hS:CmS w0 W' cb X vl vi v'' l') (hN:eL W v' v''):CmG w0 w W' cb b X vl vi v v'' l' x:=
 ⟨hS,h.t.next hB (λk hk e=>e.imp id (λe=>h.n.own hk e)),h.n.trans hN h.t.size,h.b.next hB hN⟩
theorem CmG.fin (h:CmG w0 w W cb b X vl vi v v' l x):CmR w0 w cb X vl vi v l (.returned (.tuple #[])) W:=⟨rfl,h.t,v',h.s,h.n⟩
theorem CmG.lay (h:CmG w0 w W cb b X vl vi v v' l x) (c:UInt8) (hl:l.length<=4000):Calls prog 160 #[.pointer (some ⟨cb,0,none⟩),.int .u8 c.toNat] W λen a=>en= .returned (.int .i64 l.length)/\ ∃v2,CmG w0 w a cb b X vl vi v v2 (l++ [df c]) x:=by
 refine(h.s.lay hl c).mono ?_;rintro en a ⟨rfl,d,v2,f,e⟩;exact⟨rfl,v2,h.next d f e⟩
theorem CmG.call {f:Nat} {args:Array Value} (h:CmG w0 w W cb b X vl vi v v' l x) (H:Calls prog f args W (CmR w0 W cb X vl vi v' l')):Calls prog f args W λen a=>en= .returned (.tuple #[])/\ ∃v2,CmG w0 w a cb b X vl vi v v2 l' x:=by
 refine H.mono ?_;rintro en a ⟨rfl,c,v2,e,d⟩;exact⟨rfl,v2,h.next c e d⟩
theorem CmS.begin (h:CmS w0 w cb X vl vi v l) (hB:B_ w W) (x:XIt):CmG w0 w (W.alloc (.cells #[.int .i64 x.place,.int .u8 x.op.toNat,.int .u8 x.cls.toNat,.int .i64 x.num,.slice x.pa x.pn x.pc] 219)) cb W.heap.size X vl vi v v l x:=by
 have a:=ae h.blk;have b:=hB.size;exact⟨(h.step hB).step (aa _ _ _),(hB.mono (λ_ _ h=>h.elim)).trans (aa _ _ _),eL.refl _ _,aO _ _,by omega,λe=>by have:=aY h.its _ e;omega⟩
theorem CmG.at' (h:CmG w0 w W cb b X vl vi v v' l x):b<W.heap.size:=ae h.b.box
theorem xZ (h:CmS w0 w cb X vl vi v l) (x:XIt) (p:Nat->List XIt->List XIt) (hp: ∀k l,l.length<=(p k l).length) (hb:(kw p l).length<=3000)
  (HP: ∀k,k<=2-> ∀Y v l,CmS w0 Y cb X vl vi v l->(p k l).length<=3000->Calls prog 210 #[.pointer (some ⟨cb,0,none⟩),gn x,.int .i64 k] Y (CmR w0 Y cb X vl vi v (p k l))):
  Calls prog 211 #[.pointer (some ⟨cb,0,none⟩),gn x] w (CmR w0 w cb X vl vi v (kw p l)):=by
 have F:=hp 0 l;have D:=hp 1 (p 0 l++ [df 102]);have E:=hp 2 (aimX (p 0 l).length (p 1 (p 0 l++ [df 102])++ [df 106]));rw[gp,aN,dK]at E;rw[aN,dK]at D;unfold kw at hb⊢;rw[gp]at hb;have j:=hid (h.begin (bf _ _) x);have a:=hid HP;unfold gn at a⊢;clear h HP hp
 go_in
 go_wp2_with fail;refine(j.out.call (a.out 0 (by omega) _ _ _ j.out.s (by omega))).mono ?_;rintro en w1 ⟨rfl,v1,t⟩;have q:=hid t;clear j t;go_wp2_with fail;refine(q.out.lay 102 (by omega)).mono ?_;rintro en M ⟨rfl,v2,c⟩;obtain⟨x0,x1,x2,x3,x4⟩:=dp c.b.box;have m:=c.at';have e:=hid c;clear q c;go_wp2_with fail;refine(e.out.call (a.out 1 (by omega) _ _ _ e.out.s (by omega))).mono ?_;rintro en O ⟨rfl,G,y⟩;have r:=hid y;clear e y x0 x1 x2 x3 x4 m;go_wp2_with fail;refine(r.out.lay 106 (by omega)).mono ?_;rintro en P ⟨rfl,H,z⟩;have f:=hid z;clear r z;go_wp2_with fail;refine(f.out.call (f.out.s.aimX (p 0 l).length (by rw[aN];simp;omega) (by rw[aN];simp;omega))).mono ?_
 rintro en Q ⟨rfl,I,d⟩;obtain⟨x0,x1,x2,x3,x4⟩:=dp d.b.box;have n:=d.at';have g:=hid d;clear f d;go_wp2_with fail;refine(g.out.call (a.out 2 (by omega) _ _ _ g.out.s (by omega))).mono ?_;rintro en S ⟨rfl,J,A⟩;have i:=hid A;clear g A x0 x1 x2 x3 x4 n;go_wp2_with fail;refine(i.out.call (i.out.s.aimX (p 1 (p 0 l++ [df 102])).length (by omega) (by omega))).mono ?_;rintro en T ⟨rfl,L,B⟩;have C:=hid B;clear i B;go_wp2_with fail;go_end0;exact C.out.fin
end
section
variable {w0 w w':World} {cb:Nat} {X:cZ} {vl vi v:Value} {l:List XIt}
theorem AO (h:CmS w0 w cb X vl vi v l) (x:XIt) (p:Nat->List XIt->List XIt) (hp: ∀k l,l.length<=(p k l).length) (hb:(oF p l).length<=3000)
  (HP: ∀k,k<=2-> ∀Y v l,CmS w0 Y cb X vl vi v l->(p k l).length<=3000->Calls prog 210 #[.pointer (some ⟨cb,0,none⟩),gn x,.int .i64 k] Y (CmR w0 Y cb X vl vi v (p k l))):
  Calls prog 212 #[.pointer (some ⟨cb,0,none⟩),gn x] w (CmR w0 w cb X vl vi v (oF p l)):=by
 obtain⟨i0,a4,b3,b4,b5⟩:=info_parts lQ;have n0:=hp 0 l;have n1:=hp 1 (p 0 l++ [df 102]);rw[aN,dK]at n1;obtain⟨LF,r⟩: ∃LF,oF p l=LF:=⟨_,rfl⟩;rw[r];unfold oF at hb r;have G:=hid r;clear r;rw[aN,gp,aN,aN,dK,dK,dK]at hb;obtain⟨ao,cap,S⟩:=ay h.its;have c5:=ce5 h.blk;rw[S]at c5;have HG:=hid (h.begin (bf _ _) x);have n:=hid HP;unfold gn at n⊢;have b6:=ae h.blk;clear h HP hp S
 go_in
 go_wp2_with fail;refine(HG.out.call (n.out 0 (by omega) _ _ _ HG.out.s (by omega))).mono ?_;rintro en w1 ⟨rfl,v1,h1⟩;have H1:=hid h1;clear HG h1 c5;go_wp2_with fail;refine(H1.out.lay 102 (by omega)).mono ?_;rintro en w2 ⟨rfl,v2,T⟩;obtain⟨x0,x1,x2,x3,x4⟩:=dp T.b.box;have a5:=T.at';have H2:=hid T;clear H1 T;go_wp2_with fail;refine(H2.out.call (n.out 1 (by omega) _ _ _ H2.out.s (by omega))).mono ?_;rintro en w3 ⟨rfl,v3,h3⟩;have H3:=hid h3;clear H2 h3 x0 x1 x2 x3 x4 n a5;go_wp2_with fail;refine(H3.out.lay 100 (by omega)).mono ?_;rintro en F ⟨rfl,v4,h4⟩;have a:=h4.s;have H4:=hid h4;clear H3 h4;obtain⟨c,D⟩: ∃c,p 1 (p 0 l++ [df 102])++ [df 100]=c:=⟨_,rfl⟩
 have a6:c.length=(p 1 (p 0 l++ [df 102])).length+1:=by rw[<-D];simp
 rw[D]at a G;have b0:(p 1 (p 0 l++ [df 102])).length+1<=c.length:=by omega
 have b1:c.length<=(p 1 (p 0 l++ [df 102])).length+1:=by omega
 clear D a6;have P:v4.ownBlock≠some cb:=λe=>bA a.its a.blk (by decide) e
 have O:=a.ge;have Q:=a.new;have y:=hid a.old;have a0:=a.old.size;have C:=a.its;obtain⟨q,d,rfl⟩:=ay C;have a2:F.ownsRow w0.heap.size 219 5 (.slice q c.length d) c.length (ck c):=C;have c5:=ce5 a.blk;have z5:=bG F cb 5 _ _ a.blk;have b7:=ae a.blk;have HC:=hid a.blk;have a1:=hid P;clear a C P;have b8:c.length<=3000:=by omega
 go_wp2_with (at_builtin;refine wpList_append_lies _ rfl _ _ _ rfl w0.heap.size 219 i0 _ 5 48 (by kernel_rfl) a4 b3 b4 b5 rfl (by omega) _ c.length (ck c) rfl (a2.alloc _) ⟨F.heap.size,0,none⟩ 1 1 [.int .i64 0,.int .u8 106,.int .u8 45,.int .i64 l.length,S_] rfl rfl (iu (cs:=#[.int .i64 0,.int .u8 106,.int .u8 45,.int .i64 l.length,S_]) (t:=219) (fr:=(0,0)) (aB (by simp) _)) (by simp[Value.oneCell']) (by omega) (by unfold maxLen;omega) (by omega) (by simp;omega) (F.heap.size+1) (by simp) ?_);intro gg f Z m j M b2;have E:But (λk=>(Value.slice q c.length d).ownBlock=some k) F Z:=(aa _ _ _).trans (a8 j)
 have i:=HC.out.but E a1.out;have y5:=ce5 i;have f5:=bG Z cb 5 _ _ i;have a3:=ae i;have J:eL F (.slice q c.length d) (.slice (some ⟨gg,0,none⟩) (c.length+1) f):=M.imp (λh=>h.symm) (λh=>⟨gg,rfl,by omega⟩);have z:=hid i;have A:=hid m;have I:=hid E;have H:=hid J;clear c5 z5 j M i m HC E J;have B:But (λk=>k=cb\/(Value.slice q c.length d).ownBlock=some k) F (Z.setCell ⟨cb,5,none⟩ (.slice (some ⟨gg,0,none⟩) (c.length+1) f)):=(I.out.mono (λ_ _ h=>Or.inr h)).trans ((aj _ _ _ _).mono (λ_ _ h=>Or.inl h))
 have L:CmS w0 (Z.setCell ⟨cb,5,none⟩ (.slice (some ⟨gg,0,none⟩) (c.length+1) f)) cb X vl vi (.slice (some ⟨gg,0,none⟩) (c.length+1) f) (c++ [⟨0,106,45,l.length,none,0,0⟩]):=by
  refine⟨y.out.next B (λk hk e=>O k hk e),z.out.set _,?_,Q⟩;unfold ItB;rw[aN,jv];exact ag A.out (aj _ _ _ _) (λg hg e=>bA A.out z.out (by decide) (e▸hg))
 have H6:=hid (H4.out.next B L H.out);clear B L I H4 z A y H;go_wp2_with fail;refine(H6.out.call (H6.out.s.aimX (p 0 l).length (by rw[aN];simp;omega) (by rw[aN];simp;omega))).mono ?_;rintro en w7 ⟨rfl,v7,h7⟩;have H7:=hid h7;clear H6 h7;go_wp2_with fail;refine(H7.out.lay 107 (by rw[gp,aN];simp;omega)).mono ?_;rintro en w8 ⟨rfl,v8,h8⟩;rw[G.out]at h8;have H8:=hid h8;clear H7 h8;go_wp2_with fail;go_end0;exact H8.out.fin
end
end
end Go.Proofs.YtpfkkmacakjmbaaGreatDoor
