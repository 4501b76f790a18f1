import Derived.Test.YtpfkkmacakjmbaaGreatDoorP15
import Derived.Lib.AppendIntMem
import Derived.Shelf.Strconv.Itoa3
import Derived.Shelf.Strconv.AppendIntPublic10
import Derived.Test.YtpfkkmacakjmbaaGreatDoorProg
import Derived.Deep.Cut
set_option maxRecDepth 100000
set_option maxHeartbeats 6400000
set_option linter.all false
namespace Go.Proofs.YtpfkkmacakjmbaaGreatDoor
open Proofs.Tryz
section
open Go Go.RowKit Sp
attribute [local go_sem ↓] dG dH
def mp (v:V):List Value:=[.int .u8 v.K,.int .i64 v.N]
def dK (v:V):Value:= .agg #[.int .u8 v.K,.int .i64 v.N]
def aV (l:List V):List Value:=l.flatMap mp
theorem kq (l:List V):(aV l).length=l.length*2:=by
 induction l with
 |nil=>rfl
 |cons v l ih=>simp[aV,mp]at ih⊢;omega
theorem lU (l:List V) (v:V):aV (l++ [v])=aV l++ [.int .u8 v.K,.int .i64 v.N]:=by simp[aV,mp]
theorem bK {l:List V} {j k:Nat} {v:V} (h:l[j]?=some v) (hk:k<2):(aV l)[j*2+k]?=(mp v)[k]?:=eY mp 2 (λ_=>rfl) l j k v h hk
theorem rh (t:UInt8) (w:World):
  Calls prog 108 #[.int .u8 t.toNat] w λen w'=>en= .returned (dK (dc t))/\B_ w w':=by
 by_cases h:t.toNat=105
 .have hb:((t.toNat:Int)==105)=true:=by rw[beq_iff_eq];omega
  rw[show dc t= .i 0 from by unfold dc;rw[if_pos h]];clear h
  go_in
  go_wp2_with fail;exact cW (v:=dK (.i 0)) (by simp[results,results108,go_sem,dK,V.K,V.N]) rfl ⟨rfl,ag _ _ _⟩
 .have hb:=tf t.toNat 105 (by omega);rw[show dc t= .z from by unfold dc;rw[if_neg h]];clear h
  go_in
  go_wp2_with fail;exact cW (v:=dK .z) (by simp[results,results108,go_sem,dK,V.K,V.N]) rfl ⟨rfl,ag _ _ _⟩
theorem nU (b:Bool) (w:World):
  Calls prog 182 #[.bool b] w λen w'=>en= .returned (dK (if b=true then .i 1 else .i 0))/\B_ w w':=by
 cases b
 .go_in
  go_wp2_with fail;exact cW (v:=dK (.i 0)) (by simp[results,results182,go_sem,dK,V.K,V.N]) rfl ⟨rfl,ag _ _ _⟩
 .go_in
  go_wp2_with fail;exact cW (v:=dK (.i 1)) (by simp[results,results182,go_sem,dK,V.K,V.N]) rfl ⟨rfl,ag _ _ _⟩
theorem wk (s:ByteArray) (i:Nat) (hi:i<=5000) (w:World):
  Calls prog 180 #[.string s,.int .i64 i] w λen w'=>en= .returned (.int .i64 (jH s i))/\w'=w:=by
 by_cases h:i<s.size
 .have hI: ¬((s.size:Int)<=(i:Int)):=by omega
  have a0:(i:Int)<(s.size:Int):=by omega
  rw[show jH s i=(s[i].toNat:Int)from by unfold jH;rw[dif_pos h]];have hw:=er (s[i].toNat:Int) (by omega) (by have:=s[i].toNat_lt;omega);rw[IntWalk.i64_left]at hw
  go_in
  go_wp2_with fail;go_ret;exact⟨rfl,rfl⟩
 .have hI:((s.size:Int)<=(i:Int)):=by omega
  rw[show jH s i= -1 from by unfold jH;rw[dif_neg h]]
  go_in
  go_wp2_with fail;go_ret;exact⟨rfl,rfl⟩
theorem Dt (n:Int):(0<=n->n.tmod 4294967296=n % 4294967296)/\(n<0->n.tmod 4294967296= -((-n) % 4294967296)):=by
 refine⟨λh=>Int.tmod_eq_emod_of_nonneg h,λh=> ?_⟩;have:n= -(-n):=by omega
 rw[this,Int.neg_tmod,Int.tmod_eq_emod_of_nonneg (by omega)];simp
theorem jR (n:Int) (h1: -9223372036854775808<=n) (h2:n<=9223372036854775807) (w:World):
  Calls prog 184 #[.int .i64 n] w λen w'=>en= .returned (.int .i64 (w32 n))/\w'=w:=by
 have ht:=hid (Dt n)
 go_in
 go_wp2_with fail
 all_goals go_ret
 all_goals refine⟨mI ?_,rfl⟩
 all_goals
  have ht:=ht.out;unfold w32 wrap32;have hw: ∀m:Int,-9223372036854775808<=m->m<=9223372036854775807->wrap64 m=m:=λm h1 h2=>IntWalk.wrap64_in m ⟨h1,h2⟩
  have hr: -4294967296<n.tmod 4294967296/\n.tmod 4294967296<4294967296:=by omega
  try rw[hw (n.tmod 4294967296+4294967296) (by omega) (by omega)]at*
  try rw[hw (n.tmod 4294967296-4294967296) (by omega) (by omega)]
  try rw[hw (n.tmod 4294967296+4294967296-4294967296) (by omega) (by omega)]
  omega
theorem AS {n:Int} (h1: -2147483648<=n) (h2:n<=2147483647):w32 n=n:=by unfold w32 wrap32;omega
theorem yG {a b:Int} (a1: -2147483648<=a) (a2:a<2147483648) (b1: -2147483648<=b) (b2:b<2147483648): -4611686018427387904<=a*b/\a*b<=4611686018427387904:=by
 have h:=Nat.mul_le_mul (show a.natAbs<=2147483648 by omega) (show b.natAbs<=2147483648 by omega);rw[<-Int.natAbs_mul]at h;omega
theorem Cc (op:Nat) (hop:op=43\/op=45\/op=42\/op=60\/op=61) (a b:Int) (a1: -2147483648<=a) (a2:a<2147483648) (b1: -2147483648<=b) (b2:b<2147483648) (w:World):
  Calls prog 183 #[.int .u8 op,.int .i64 a,.int .i64 b] w λen w'=>en= .returned (.int .i64 (oI op a b))/\w'=w:=by
 have hm:=yG a1 a2 b1 b2;obtain⟨p,hp⟩: ∃p,a*b=p:=⟨_,rfl⟩;have HP:=hid hp;rw[hp]at hm;obtain rfl|rfl|rfl|rfl|rfl:=hop
 .clear hp
  go_in
  go_wp2_with fail;refine(jR _ (by omega) (by omega) _).mono ?_;rintro en wx ⟨rfl,rfl⟩;go_wp2_with fail;go_ret;exact⟨rfl,rfl⟩
 .clear hp
  go_in
  go_wp2_with fail;refine(jR _ (by omega) (by omega) _).mono ?_;rintro en wx ⟨rfl,rfl⟩;go_wp2_with fail;go_ret;exact⟨rfl,rfl⟩
 .go_in
  go_wp2_with fail;refine(jR _ (by omega) (by omega) _).mono ?_;rintro en wx ⟨rfl,rfl⟩;go_wp2_with fail;go_ret;exact⟨by rw[<-HP.out];rfl,rfl⟩
 .clear hp
  go_in
  go_wp2_with fail
  all_goals refine(jR _ (by omega) (by omega) _).mono ?_
  all_goals rintro en wx ⟨rfl,rfl⟩
  all_goals go_wp2_with fail
  all_goals go_ret
  all_goals exact⟨mI (by rw[AS (by omega) (by omega)];unfold oI;simp;omega),rfl⟩
 .clear hp
  go_in
  go_wp2_with fail
  all_goals refine(jR _ (by omega) (by omega) _).mono ?_
  all_goals rintro en wx ⟨rfl,rfl⟩
  all_goals go_wp2_with fail
  all_goals go_ret
  all_goals exact⟨mI (by rw[AS (by omega) (by omega)];unfold oI;simp_all),rfl⟩
theorem xx:(prog.info? 135).map (λi=>(i.zero,i.size,i.bytes))=some (some (.agg #[.int .u8 0,.int .i64 0]),2,16):=by kernel_rfl
theorem iI {w:World} {base base' e size n:Nat} {v:Value} {xs:List Value} (h:w.ownsRow base e size v n xs) (hb:base'<=base):w.ownsRow base' e size v n xs:=
 ⟨h.1,h.2.imp id λ⟨g,cap,cur,a,b,c⟩=>⟨g,cap,cur,a,Nat.le_trans hb b,c⟩⟩
theorem gu {ops:Array Oper} {rest:List Oper} {o:Oper} {a:Act} {Q:Exit->Act->World->Prop} (hgd:o.guard=none) (s x:Operand)
  (ho:o.op= .call {callee:= .builtin .append,args:=#[s,x],argTypes:=#[118,118]})
  (W:World) (base:Nat) (v:Value) (l:List V) (n:Nat) (hn:l.length=n) (K N:Int) (u:V) (hK:K=u.K) (hN:N=u.N) (hs:a.eval s=v) (H:Nat) (hH:W.heap.size=H) (hx:a.eval x= .slice (some ⟨H,0,none⟩) 1 1) (hown:W.ownsRow base 135 2 v n (aV l)) (hl:n<=5000) (hbase:base<=W.heap.size)
  (h: ∀g cap w',w'.ownsRow base 135 2 (.slice (some ⟨g,0,none⟩) (n+1) cap) (n+1) (aV (l++ [u]))->But (λk=>v.ownBlock=some k) W w'->(v.ownBlock=some g\/W.heap.size<=g)->wpList prog ops Q rest (a.put o.dst (.slice (some ⟨g,0,none⟩) (n+1) cap)) w'):
  wpList prog ops Q (o::rest) a (W.alloc (.cells #[.int .u8 K,.int .i64 N] 135)):=by
 obtain⟨i0,a0,a1,a2,a3⟩:=info_parts xx;subst hK hN hH hn
 refine wpList_append_lies _ hgd s x _ ho base 135 i0 _ 2 16 (by kernel_rfl) a0 a1 a2 a3 rfl (by omega) v l.length (aV l) hs (aj hown (ag (λ_=>False) _ _) (λ_ _ h=>h)) ⟨W.heap.size,0,none⟩ 1 1 [.int .u8 u.K,.int .i64 u.N] hx rfl
  (fX (cs:=#[.int .u8 u.K,.int .i64 u.N]) (t:=135) (fr:=(0,0)) (aO W _)) (by simp[Value.oneCell']) (by omega) (by unfold maxLen;omega) (by omega) (by simp;omega) (W.heap.size+1) (by simp) ?_
 intro g cap w' h1 h2 h3 h4;refine h g cap w' ?_ ((ag _ _ _).trans (bc h2)) ?_
 .rw[lU];exact h1
 .obtain h3|h3:=h3
  .exact Or.inl h3
  .right;omega
theorem yH (bi:Nat) (im:Img) (x:Nat) (w:World) (hI:pq w bi im.zz) (hx:x<im.zz.length) (hf8:bH im.zz x<=100):
  Calls prog 178 #[.pointer (some ⟨bi,0,none⟩),.int .i64 x] w λen w'=> ∃v,en= .returned v/\w'.ownsRow w.heap.size 135 2 v (cr im.zz x).length (aV (cr im.zz x))/\B_ w w':=by
 obtain⟨v0,v1,v2,a8,hO⟩:=hI;obtain⟨a0,cap0,rfl⟩:=aw hO;have a6:=aH hx;obtain⟨g,rfl,c9,e1,a1⟩:=aF hO (by omega);obtain⟨fl,a5⟩: ∃fl,im.zz[x].fields=fl:=⟨_,rfl⟩;have c0:w.cell? ⟨bi,0,none⟩=some (.slice (some ⟨g,0,none⟩) im.zz.length cap0):=a8.c0;have c1:w.cell? ⟨g,x*2+1,none⟩=some (.string ⟨fl.toArray⟩):=by rw[<-a5];exact a1 _ _ (fV a6)
 have c7:=a8.lt;have hF:Hid (cr im.zz x=fl.map dc):=by show _=_;simp[cr,bJ,a6,a5]
 have e4:fl.length<=100:=by simpa[bH,a6,a5]using hf8
 clear a1 a6 a5 a8 hO hf8;have e6:(x:Int)<(im.zz.length:Int):=by omega
 generalize im.zz.length=nc at*
 go_in
 go_wp2_with fail
 go_loopg [5,6] fl.length (λmm ls ks wr=> ∃(ao:Option Addr) (cap k:Nat) (L:List V),ls= .slice ao k cap/\ks= .int .i64 k/\k+mm<=fl.length/\fl.length<=k+mm/\wr.ownsRow w.heap.size 135 2 (.slice ao k cap) k (aV L)/\B_ w wr/\Hid (L=(fl.take k).map dc))
 case atStart=>exact⟨none,0,0,[],rfl,rfl,by omega,by omega,df _ _ _ _,But.refl _ _,rfl⟩
 case round=>
  obtain⟨ao,cap,k,L,rfl,rfl,e2,e3,b1,a4,HL⟩:=hrel;have d0:=a4.kc c0 c7;have d1:=a4.kc c1 c9;have b3:((⟨fl.toArray⟩:ByteArray).size:Int)=(fl.length:Int):=rfl
  by_cases hlt:k<fl.length
  .have d6:(k:Int)<(fl.length:Int):=by omega
   obtain⟨C,hC⟩: ∃C,fl[k]=C:=⟨_,rfl⟩;have kC: ∀h,(⟨fl.toArray⟩:ByteArray)[k]'h=C:=λh=>by rw[<-hC];exact yi fl _ hlt _
   have e5:k<(⟨fl.toArray⟩:ByteArray).size:=hlt;have b4:L.length=k:=by rw[HL.out];simp;omega
   have b5:=hid b4;obtain⟨u,hu⟩: ∃u,dc C=u:=⟨_,rfl⟩;have HT:Hid (L++ [u]=(fl.take (k+1)).map dc):=by show _=_;rw[iM hlt,hC,HL.out,<-hu];simp
   have hp:=rh C wr;rw[hu]at hp;have HP:=hid hp;clear hC hu b4 hp;go_wp2_with fail;refine HP.out.mono ?_;rintro en w1 ⟨rfl,a7⟩;simp only[dK];have a2:=a4.trans a7;have e0:=a2.size;have b0:=aj b1 a7 (λ_ _ h=>h);go_wp2_with (at_builtin;refine gu rfl _ _ rfl (w1.alloc (.cells #[.int .u8 u.K,.int .i64 u.N] 135)) w.heap.size _ L k b5.out _ _ u rfl rfl rfl (w1.heap.size+1) (by simp) rfl (aj b0 (ag (λ_=>False) _ _) (λ_ _ h=>h)) (by omega) (by simp;omega) ?_);intro gg cap3 w2 a3 b2 b9;have b6:B_ w w2:=(a2.trans (ag _ _ _)).next b2 (λk' hk' h=>by have:=ay b0 k' h;omega);clear b2 b9 b0 a2 a7 d0 d1
   go_wp2_with fail
   go_roundg (fl.length-(k+1))
   case measure=>omega
   case rel=>exact⟨_,cap3,k+1,L++ [u],by simp,by simp,by omega,by omega,a3,b6,HT⟩
  .have d6: ¬(k:Int)<(fl.length:Int):=by omega
   go_wp2_with fail;go_ret;refine⟨_,rfl,?_,a4⟩;rw[hF.out,cP];have:k=fl.length:=by omega
   subst this;rw[HL.out,List.take_length]at b1;exact b1
end
section
open Go Go.RowKit Sp
def fC (hp:List Ob) (fv:List Value):List Value:=(hp.zip fv).flatMap λx=> [.int .i64 x.1.cls,x.2]
theorem pS {hp:List Ob} {fv:List Value} {k j:Nat} {ob:Ob} {v:Value} (h1:hp[k]?=some ob) (h2:fv[k]?=some v) (hj:j<2):(fC hp fv)[k*2+j]?=[Value.int .i64 ob.cls,v][j]?:=by
 have:(hp.zip fv)[k]?=some (ob,v):=by rw[List.getElem?_zip_eq_some];exact⟨h1,h2⟩
 exact eY (λx:Ob×Value=> [Value.int .i64 x.1.cls,x.2]) 2 (λ_=>rfl) _ k j _ this hj
theorem sy {hp:List Ob} {fv:List Value} (h:fv.length=hp.length) (ob:Ob) (v:Value):fC (hp++ [ob]) (fv++ [v])=fC hp fv++ [.int .i64 ob.cls,v]:=by
 unfold fC;rw[List.zip_append h.symm];simp
theorem uq {hp:List Ob} {fv:List Value} {k:Nat} {ob:Ob} (h:hp[k]?=some ob) (fs:List V):fC (hp.set k ⟨ob.cls,fs⟩) fv=fC hp fv:=by
 unfold fC
 have:((hp.set k ⟨ob.cls,fs⟩).zip fv).map (λx=>(x.1.cls,x.2))=(hp.zip fv).map (λx=>(x.1.cls,x.2)):=by
  apply List.ext_getElem?
  intro i;simp only[cg,List.zip,List.getElem?_zipWith,List.getElem?_set]
  by_cases hi:k=i
  .subst hi;have hk:=(bC h).1;simp only[if_true,hk,h]
   cases fv[k]?<;>rfl
  .simp only[hi,if_false]
 have h2: ∀l:List (Ob×Value),(l.flatMap λx=> [Value.int .i64 x.1.cls,x.2])=(l.map (λx=>(x.1.cls,x.2))).flatMap λx=> [Value.int .i64 x.1,x.2]:=λl=>by
  induction l with
  |nil=>rfl
  |cons a l ih=>simp[ih]
 rw[h2,h2,this]
theorem fT {w:World} {base e size n:Nat} {v:Value} {xs:List Value} (h:w.ownsRow base e size v n xs) {g:Nat} (hg:v.ownBlock=some g): ∃cur,w.heap[g]?=some (.cells cur e (0,0)):=by
 obtain⟨rfl,_⟩ | ⟨g',cap,cur,rfl,_,hh,_⟩:=h.2
 .cases hg
 .simp[Value.ownBlock]at hg;subst hg;exact⟨cur,hh⟩
theorem d7 {w:World} {base base' e e' size size' n n':Nat} {v v':Value} {xs xs':List Value} (h:w.ownsRow base e size v n xs) (h':w.ownsRow base' e' size' v' n' xs') (he:e≠e') {g:Nat} (hg:v.ownBlock=some g):v'.ownBlock≠some g:=λhg'=>by
 obtain⟨c,hc⟩:=fT h hg;obtain⟨c',a0⟩:=fT h' hg';rw[hc]at a0;injection a0 with a0;injection a0 with h1 h2;exact he h2
theorem aL {w:World} {base e size n b:Nat} {v:Value} {xs:List Value} (h:w.ownsRow base e size v n xs) {cs:Array Value} {t:TypeId} {fr:Nat×Nat} (hb:w.heap[b]?=some (.cells cs t fr)) (he:e≠t):v.ownBlock≠some b:=λhg=>by
 obtain⟨c,hc⟩:=fT h hg;rw[hb]at hc;injection hc with hc;injection hc with h1 h2;exact he h2.symm
end
section
open Go Go.RowKit Sp
attribute [local go_sem ↓] dG dH
theorem sA (l:List V) (j:Nat) (u:V):aV (l.set j u)=((aV l).set (j*2) (.int .u8 u.K)).set (j*2+1) (.int .i64 u.N):=by
 induction l generalizing j with
 |nil=>simp[aV]
 |cons v l ih=>
  cases j with
  |zero=>simp[aV,mp]
  |succ j=>
   have:=ih j;simp only[aV]at this;simp[aV,mp,Nat.succ_mul,this]
theorem AT {w:World} {base n g j:Nat} {v:Value} {l:List V} (u:V) (h:w.ownsRow base 135 2 v n (aV l)) (hg:v.ownBlock=some g):
  ((w.setCell ⟨g,j*2,none⟩ (.int .u8 u.K)).setCell ⟨g,j*2+1,none⟩ (.int .i64 u.N)).ownsRow base 135 2 v n (aV (l.set j u)):=by
 have a0:=h.1;obtain⟨rfl,_⟩ | ⟨g',cap,cur,rfl,hb,hh,a1,a2,a3,a4⟩:=h.2
 .cases hg
 .simp[Value.ownBlock]at hg;subst hg;refine⟨by rw[<-a0,kq,kq];simp,Or.inr ⟨g',cap,(cur.setIfInBounds (j*2) (.int .u8 u.K)).setIfInBounds (j*2+1) (.int .i64 u.N),rfl,hb,?_,a1,a2,by simpa using a3,?_⟩⟩
  .exact bG _ g' _ _ _ _ (bG _ g' _ _ _ _ hh)
  .rw[sA,<-a4];simp[List.take_set]
theorem jt (w:World) (r:Nat) (a b:Value):But (· =r) w ((w.setCell ⟨r,0,none⟩ a).setCell ⟨r,1,none⟩ b):=(au _ _ _ _).trans (au _ _ _ _)
theorem Cd {fn:Func} {Rr:Ending->World->Prop} {a:Act} {w:World} {c r:Nat} {K N:Int} (hf:fn.results=#[.cell c 135]) (hd:a.defers=[]) (hc:a.tmps.getD c undef= .pointer (some ⟨r,0,none⟩))
  (h0:w.heap[r]?=some (.cells #[.int .u8 K,.int .i64 N] 135)) (hR:Rr (.returned (.agg #[.int .u8 K,.int .i64 N])) w):bodyPost prog fn Rr .ret a w:=by
 have r0:=ce0 h0;have r1:=ce1 h0;refine cW (v:= .agg #[.int .u8 K,.int .i64 N]) ?_ hd hR;have a0:a.tmps[c]?.getD undef= .pointer (some ⟨r,0,none⟩):=by simpa using hc
 simp[results,hf,a0,go_sem,r0,r1]
end
section
open Go Go.RowKit
open Go.Shelf
def sB:Go.Shelf.Ren:=⟨λ|171=>181|243=>226|246=>243|283=>249|284=>250|285=>251|286=>252|129=>255|317=>254|318=>256|319=>257|320=>258|337=>260|338=>261|n=>n,λ|3=>3|9=>9|2=>2|4=>4|171=>322|0=>0|53=>323|37=>112|5=>5|173=>326|212=>329|51=>330|20=>20|213=>331|46=>332|232=>336|233=>337|n=>n,λ|17=>0|18=>1|19=>2|n=>n⟩
theorem AU:Go.Proofs.LaysM.n171 prog sB:=by constructor<;>first|kernel_rfl| (intro _;kernel_rfl) | (constructor<;>first|kernel_rfl| (intro _;kernel_rfl))
def m7:Go.Shelf.Ren:=⟨λ|176=>248|249=>253|288=>259|283=>249|284=>250|285=>251|286=>252|129=>255|317=>254|318=>256|319=>257|320=>258|337=>260|338=>261|n=>n,λ|37=>112|2=>2|3=>3|53=>323|4=>4|9=>9|171=>322|0=>0|173=>326|212=>329|51=>330|5=>5|20=>20|213=>331|46=>332|232=>336|233=>337|n=>n,λ|17=>0|18=>1|19=>2|n=>n⟩
theorem qF:Go.Proofs.LaysM.n176 prog m7:=by constructor<;>first|kernel_rfl| (intro _;kernel_rfl) | (constructor<;>first|kernel_rfl| (intro _;kernel_rfl))
def fj (w:World):Prop:=Lib.TabIs prog w "internal/strconv.uint64pow10" .u64 Lib.pow10Tab
theorem fj.but {w w':World} (h:fj w) (hb:B_ w w'):fj w':=by
 have hB:Below w.heap.size w w':=hb.toBelow (b8 _) (λ_ h=>h.elim);exact(Lib.tabBelow_of_tabIs h) w' hB
theorem ur (n:Int) (h0: -2147483648<=n) (h1:n<2147483648) (w:World) (ht:fj w):
  Calls prog 181 #[.int .i64 n] w λen w'=>en= .returned (.string ⟨(Lib.itoa n).toArray⟩)/\B_ w w':=by
 refine(Go.Proofs.Any.strconv_Itoa AU n (by omega) (by omega) w ht).mono ?_;rintro en w' ⟨rfl,k,os,rfl⟩;refine⟨rfl,(aK _ w k).trans ⟨rfl,rfl,rfl,by simp[Sort.grow],λi hi _=> ?_⟩⟩;simp only[Sort.grow];exact Array.getElem?_append_left hi
theorem qG (B n:Nat) (i:Int) (h0: -2147483648<=i) (h1:i<2147483648) (sv:Value) (xs:List Value) (w:World) (ho:w.ownsRow B 5 1 sv n xs) (hB:B<=w.heap.size) (hl:n<=100000) (ht:Lib.TabBelow prog B w "internal/strconv.uint64pow10" .u64 Lib.pow10Tab):
  Calls prog 248 #[sv,.int .i64 i,.int .i64 10] w λen w'=> ∃v',en= .returned v'/\w'.ownsRow B 5 1 v' (n+(Lib.itoa i).length) (xs++Lib.byteCells (Lib.itoa i))/\Below B w w'/\Lib.OthersKept 5 none w w':=
 Go.Proofs.Any.strconv_AppendInt_10 qF B n i (by omega) (by omega) sv xs w ho hB (by omega) ht
end
section
open Go Go.RowKit Sp
attribute [local go_sem ↓] dG dH
theorem tst {x k:Nat} (h:x=k):((x:Int)==(k:Int))=true:=by rw[beq_iff_eq];omega
theorem tsf {x k:Nat} (h:x≠k):((x:Int)==(k:Int))=false:=by rw[eA];omega
theorem iJ {im:Img} {inp:ByteArray} {f:Nat} {b:Bod} {d i:Nat} {l:List V} {s:Ev} (h:s.left=0):cL im inp f b d i l s= .bad 5 s.out:=by
 cases f with
 |zero=>rfl
 |succ f=>simp[cL,h]
theorem ri {cc dd:List V->Ev->R} {g:Nat} {l:List V} {s:Ev} {e:Nat} {o:L_} (h0:s.left=0->cc l s= .bad 5 s.out) (hg:s.left<=g) (h:cc l s= .bad e o):iN cc dd g l s= .bad e o:=by
 cases g with
 |zero=>
  have:=h0 (by omega);rw[h]at this;exact this.symm
 |succ g=>simp[iN,h]
theorem ut {s:ByteArray} {im:Img} (hs:s.size<=2000) (hl:fY s= .ok im) (h:(gD s).1=0):eT im:=by
 have hW:jG im:=by
  unfold fY at hl
  split at hl
  .cases hl
  .split at hl
   .cases hl
   .rename_i im' hr
    split at hl
    .cases hl
    .cases hl;exact ti hs hr
 obtain⟨hE,hk⟩:=xW hl;refine⟨hW,hE,hk,λb hb=> ?_⟩;unfold gD at h;rw[hl]at h;simp only at h
 cases hf:im.zq.findIdx? (λb=> !fe im b)with
 |some k=>rw[hf]at h;simp at h
 |none=>
  rw[List.findIdx?_eq_none_iff]at hf;simpa using hf b hb
theorem xy {im:Img} (h:eT im) {mb:Bod} (hm:mb∈im.zq):LT im.zz [] mb.locals (bn mb []):=by
 have e:bn mb []=mb.locals.map dc:=by simp[bn]
 rw[e];refine⟨by simp,λj v hv=> ?_⟩;simp only[cg,Option.map_eq_some_iff]at hv;obtain⟨c,hc,rfl⟩:=hv;rw[show mb.locals.getD j 0=c from by rw[co,hc];rfl];exact jP h.cls4 ((h.wf.bod mb hm).loc.2 c (bp hc))
theorem rj (im:Img) {fu:Nat} (h:fu<=4000):StT im 88000 ⟨[],0,fu,[]⟩:=⟨⟨λk ob h=>by simp at h,λk ob h=>by simp at h,λk ob j v h=>by simp at h⟩,by simpa using h,by simp;omega,by omega,by simpa using h⟩
theorem uu {im:Img} {inp:ByteArray} {fu:Nat} {mb:Bod} {q:Nat} (hq:im.zq.length=q+1) (hm:im.zq[q]?=some mb):oh im inp fu=match cL im inp fu mb 1 0 (bn mb []) ⟨[],0,fu,[]⟩with
  | .bad e o=>(o,0,e)
  | .ok v _ s=>(s.out,v.N,0):=by
 unfold oh;rw[hq,Nat.add_sub_cancel,co,hm]
 rfl
end
end Go.Proofs.YtpfkkmacakjmbaaGreatDoor
