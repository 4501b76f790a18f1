import Derived.Test.YtpfkkmacakjmbaaGreatDoorP21
import Derived.Lib.AppendIntMem
import Derived.Shelf.Strconv.Itoa3
import Derived.Shelf.Strconv.AppendIntPublic10
import Derived.Test.YtpfkkmacakjmbaaGreatDoorProg
set_option maxRecDepth 100000
set_option maxHeartbeats 6400000
set_option linter.unusedSimpArgs false
set_option linter.unusedVariables false
namespace Go.Proofs.YtpfkkmacakjmbaaGreatDoor
section
open Go Go.RowKit Sp
attribute [local go_sem ↓] Go.wp_at_zero Go.wp_at_succ
def ky (v:V):List Value:=[.int .u8 v.K,.int .i64 v.N]
def cU (v:V):Value:= .agg #[.int .u8 v.K,.int .i64 v.N]
def aM (l:List V):List Value:=l.flatMap ky
theorem ja (l:List V):(aM l).length=l.length*2:=by
 induction l with
 |nil=>rfl
 |cons v l ih=>simp[aM,ky]at ih⊢;omega
theorem j8 (l:List V) (v:V):aM (l++ [v])=aM l++ [.int .u8 v.K,.int .i64 v.N]:=by simp[aM,ky]
theorem bq {l:List V} {j k:Nat} {v:V} (h:l[j]?=some v) (hk:k<2):(aM l)[j*2+k]?=(ky v)[k]?:=dR ky 2 (fun _=>rfl) l j k v h hk
theorem o8 (t:UInt8) (w:World):
  Calls Tryz.prog 108 #[.int .u8 t.toNat] w fun en w'=>en= .returned (cU (bN t))∧But (fun _=>False) w w':=by
 by_cases h:t.toNat=105
 ·have hb:((t.toNat:Int)==105)=true:=by rw[beq_iff_eq];omega
  rw[show bN t= .i 0 from by unfold bN;rw[if_pos h]];clear h
  go_in
  go_wp2_with fail;exact bodyPost_ret (v:=cU (.i 0)) (by simp[results,Tryz.results108,go_sem,cU,V.K,V.N]) rfl ⟨rfl,But.alloc _ _ _⟩
 ·have hb:=tf t.toNat 105 (by omega);rw[show bN t= .z from by unfold bN;rw[if_neg h]];clear h
  go_in
  go_wp2_with fail;exact bodyPost_ret (v:=cU .z) (by simp[results,Tryz.results108,go_sem,cU,V.K,V.N]) rfl ⟨rfl,But.alloc _ _ _⟩
theorem lO (b:Bool) (w:World):
  Calls Tryz.prog 182 #[.bool b] w fun en w'=>en= .returned (cU (if b=true then .i 1 else .i 0))∧But (fun _=>False) w w':=by
 cases b
 ·go_in
  go_wp2_with fail;exact bodyPost_ret (v:=cU (.i 0)) (by simp[results,Tryz.results182,go_sem,cU,V.K,V.N]) rfl ⟨rfl,But.alloc _ _ _⟩
 ·go_in
  go_wp2_with fail;exact bodyPost_ret (v:=cU (.i 1)) (by simp[results,Tryz.results182,go_sem,cU,V.K,V.N]) rfl ⟨rfl,But.alloc _ _ _⟩
theorem tg (s:ByteArray) (i:Nat) (hi:i≤5000) (w:World):
  Calls Tryz.prog 180 #[.string s,.int .i64 i] w fun en w'=>en= .returned (.int .i64 (eR s i))∧w'=w:=by
 by_cases h:i<s.size
 ·have hI: ¬((s.size:Int)≤(i:Int)):=by omega
  have a0:(i:Int)<(s.size:Int):=by omega
  rw[show eR s i=(s[i].toNat:Int)from by unfold eR;rw[dif_pos h]];have hw:=bH (s[i].toNat:Int) (by omega) (by have:=s[i].toNat_lt;omega);rw[IntWalk.i64_left]at hw
  go_in
  go_wp2_with fail;go_ret;exact⟨rfl,rfl⟩
 ·have hI:((s.size:Int)≤(i:Int)):=by omega
  rw[show eR s i= -1 from by unfold eR;rw[dif_neg h]]
  go_in
  go_wp2_with fail;go_ret;exact⟨rfl,rfl⟩
theorem ze (n:Int):(0≤n→n.tmod 4294967296=n % 4294967296)∧(n<0→n.tmod 4294967296= -((-n) % 4294967296)):=by
 refine⟨fun h=>Int.tmod_eq_emod_of_nonneg h,fun h=> ?_⟩;have:n= -(-n):=by omega
 rw[this,Int.neg_tmod,Int.tmod_eq_emod_of_nonneg (by omega)];simp
theorem iG (n:Int) (h1: -9223372036854775808≤n) (h2:n≤9223372036854775807) (w:World):
  Calls Tryz.prog 184 #[.int .i64 n] w fun en w'=>en= .returned (.int .i64 (w32 n))∧w'=w:=by
 have ht:=hid (ze n)
 go_in
 go_wp2_with fail
 all_goals go_ret
 all_goals refine⟨jM ?_,rfl⟩
 all_goals
  have ht:=ht.out;unfold w32 wrap32;have hw: ∀m:Int,-9223372036854775808≤m→m≤9223372036854775807→wrap64 m=m:=fun m h1 h2=>IntWalk.wrap64_in m ⟨h1,h2⟩
  have hr: -4294967296<n.tmod 4294967296∧n.tmod 4294967296<4294967296:=by omega
  try rw[hw (n.tmod 4294967296+4294967296) (by omega) (by omega)]at*
  try rw[hw (n.tmod 4294967296-4294967296) (by omega) (by omega)]
  try rw[hw (n.tmod 4294967296+4294967296-4294967296) (by omega) (by omega)]
  omega
theorem xc {n:Int} (h1: -2147483648≤n) (h2:n≤2147483647):w32 n=n:=by unfold w32 wrap32;omega
theorem uN {a b:Int} (a1: -2147483648≤a) (a2:a<2147483648) (b1: -2147483648≤b) (b2:b<2147483648): -4611686018427387904≤a*b∧a*b≤4611686018427387904:=by
 have h:=Nat.mul_le_mul (show a.natAbs≤2147483648 by omega) (show b.natAbs≤2147483648 by omega);rw[←Int.natAbs_mul]at h;omega
theorem yl (op:Nat) (hop:op=43∨op=45∨op=42∨op=60∨op=61) (a b:Int) (a1: -2147483648≤a) (a2:a<2147483648) (b1: -2147483648≤b) (b2:b<2147483648) (w:World):
  Calls Tryz.prog 183 #[.int .u8 op,.int .i64 a,.int .i64 b] w fun en w'=>en= .returned (.int .i64 (mw op a b))∧w'=w:=by
 have hm:=uN a1 a2 b1 b2;obtain⟨p,hp⟩: ∃p,a*b=p:=⟨_,rfl⟩;have HP:=hid hp;rw[hp]at hm;rcases hop with rfl|rfl|rfl|rfl|rfl
 ·clear hp
  go_in
  go_wp2_with fail;refine(iG _ (by omega) (by omega) _).mono ?_;rintro en wx ⟨rfl,rfl⟩;go_wp2_with fail;go_ret;exact⟨rfl,rfl⟩
 ·clear hp
  go_in
  go_wp2_with fail;refine(iG _ (by omega) (by omega) _).mono ?_;rintro en wx ⟨rfl,rfl⟩;go_wp2_with fail;go_ret;exact⟨rfl,rfl⟩
 ·go_in
  go_wp2_with fail;refine(iG _ (by omega) (by omega) _).mono ?_;rintro en wx ⟨rfl,rfl⟩;go_wp2_with fail;go_ret;exact⟨by rw[←HP.out];rfl,rfl⟩
 ·clear hp
  go_in
  go_wp2_with fail
  all_goals refine(iG _ (by omega) (by omega) _).mono ?_
  all_goals rintro en wx ⟨rfl,rfl⟩
  all_goals go_wp2_with fail
  all_goals go_ret
  all_goals exact⟨jM (by rw[xc (by omega) (by omega)];unfold mw;simp;omega),rfl⟩
 ·clear hp
  go_in
  go_wp2_with fail
  all_goals refine(iG _ (by omega) (by omega) _).mono ?_
  all_goals rintro en wx ⟨rfl,rfl⟩
  all_goals go_wp2_with fail
  all_goals go_ret
  all_goals exact⟨jM (by rw[xc (by omega) (by omega)];unfold mw;simp_all),rfl⟩
theorem tP:(Tryz.prog.info? 135).map (fun i=>(i.zero,i.size,i.bytes))=some (some (.agg #[.int .u8 0,.int .i64 0]),2,16):=by kernel_rfl
theorem ft {w:World} {base base' e size n:Nat} {v:Value} {xs:List Value} (h:w.ownsRow base e size v n xs) (hb:base'≤base):w.ownsRow base' e size v n xs:=
 ⟨h.1,h.2.imp id fun⟨g,cap,cur,a,b,c⟩=>⟨g,cap,cur,a,Nat.le_trans hb b,c⟩⟩
theorem eX {ops:Array Oper} {rest:List Oper} {o:Oper} {a:Act} {Q:Exit→Act→World→Prop} (hgd:o.guard=none) (s x:Operand)
  (ho:o.op= .call {callee:= .builtin .append,args:=#[s,x],argTypes:=#[118,118]})
  (W:World) (base:Nat) (v:Value) (l:List V) (n:Nat) (hn:l.length=n) (K N:Int) (u:V) (hK:K=u.K) (hN:N=u.N) (hs:a.eval s=v) (H:Nat) (hH:W.heap.size=H) (hx:a.eval x= .slice (some ⟨H,0,none⟩) 1 1) (hown:W.ownsRow base 135 2 v n (aM l)) (hl:n≤5000) (hbase:base≤W.heap.size)
  (h: ∀g cap w',w'.ownsRow base 135 2 (.slice (some ⟨g,0,none⟩) (n+1) cap) (n+1) (aM (l++ [u]))→But (fun k=>v.ownBlock=some k) W w'→(v.ownBlock=some g∨W.heap.size≤g)→wpList Tryz.prog ops Q rest (a.put o.dst (.slice (some ⟨g,0,none⟩) (n+1) cap)) w'):
  wpList Tryz.prog ops Q (o::rest) a (W.alloc (.cells #[.int .u8 K,.int .i64 N] 135)):=by
 obtain⟨i0,a0,a1,a2,a3⟩:=info_parts tP;subst hK hN hH hn
 refine wpList_append_lies _ hgd s x _ ho base 135 i0 _ 2 16 (by kernel_rfl) a0 a1 a2 a3 rfl (by omega) v l.length (aM l) hs (ar hown (But.alloc (fun _=>False) _ _) (fun _ _ h=>h)) ⟨W.heap.size,0,none⟩ 1 1 [.int .u8 u.K,.int .i64 u.N] hx rfl
  (World.news_of_block (cs:=#[.int .u8 u.K,.int .i64 u.N]) (t:=135) (fr:=(0,0)) (heap_alloc_new W _)) (by simp[Value.oneCell']) (by omega) (by unfold maxLen;omega) (by omega) (by simp;omega) (W.heap.size+1) (by simp) ?_
 intro g cap w' h1 h2 h3 h4;refine h g cap w' ?_ ((But.alloc _ _ _).trans (aQ h2)) ?_
 ·rw[j8];exact h1
 ·rcases h3 with h3|h3
  ·exact Or.inl h3
  ·right;omega
theorem uO (bi:Nat) (im:Img) (x:Nat) (w:World) (hI:fG w bi im.classes) (hx:x<im.classes.length) (hf8:bS im.classes x≤100):
  Calls Tryz.prog 178 #[.pointer (some ⟨bi,0,none⟩),.int .i64 x] w fun en w'=> ∃v,en= .returned v∧w'.ownsRow w.heap.size 135 2 v (bJ im.classes x).length (aM (bJ im.classes x))∧But (fun _=>False) w w':=by
 obtain⟨v0,v1,v2,a8,hO⟩:=hI;obtain⟨a0,cap0,rfl⟩:=au hO;have a6:=List.getElem?_eq_getElem hx;obtain⟨g,rfl,e1,e4,a1⟩:=aG hO (by omega);obtain⟨fl,a5⟩: ∃fl,im.classes[x].fields=fl:=⟨_,rfl⟩;have c0:w.cell? ⟨bi,0,none⟩=some (.slice (some ⟨g,0,none⟩) im.classes.length cap0):=a8.c0;have c1:w.cell? ⟨g,x*2+1,none⟩=some (.string ⟨fl.toArray⟩):=by rw[←a5];exact a1 _ _ (eQ a6)
 have e0:=a8.lt;have hF:Hid (bJ im.classes x=fl.map bN):=by show _=_;simp[bJ,bz,a6,a5]
 have e7:fl.length≤100:=by simpa[bS,a6,a5]using hf8
 clear a1 a6 a5 a8 hO hf8;have f0:(x:Int)<(im.classes.length:Int):=by omega
 generalize im.classes.length=nc at*
 go_in
 go_wp2_with fail
 go_loopg [5,6] fl.length (fun mm ls ks wr=> ∃(ao:Option Addr) (cap k:Nat) (L:List V),ls= .slice ao k cap∧ks= .int .i64 k∧k+mm≤fl.length∧fl.length≤k+mm∧wr.ownsRow w.heap.size 135 2 (.slice ao k cap) k (aM L)∧But (fun _=>False) w wr∧Hid (L=(fl.take k).map bN))
 case atStart=>exact⟨none,0,0,[],rfl,rfl,by omega,by omega,cC _ _ _ _,But.refl _ _,rfl⟩
 case round=>
  obtain⟨ao,cap,k,L,rfl,rfl,e5,e6,b0,a4,HL⟩:=hrel;have d0:=a4.kc c0 e0;have d1:=a4.kc c1 e1;have b2:((⟨fl.toArray⟩:ByteArray).size:Int)=(fl.length:Int):=rfl
  by_cases hlt:k<fl.length
  ·have e2:(k:Int)<(fl.length:Int):=by omega
   obtain⟨C,hC⟩: ∃C,fl[k]=C:=⟨_,rfl⟩;have kC: ∀h,(⟨fl.toArray⟩:ByteArray)[k]'h=C:=fun h=>by rw[←hC];exact jv fl _ hlt _
   have e8:k<(⟨fl.toArray⟩:ByteArray).size:=hlt;have b3:L.length=k:=by rw[HL.out];simp;omega
   have b4:=hid b3;obtain⟨u,hu⟩: ∃u,bN C=u:=⟨_,rfl⟩;have HT:Hid (L++ [u]=(fl.take (k+1)).map bN):=by show _=_;rw[List.take_succ_eq_append_getElem hlt,hC,HL.out,←hu];simp
   have hp:=o8 C wr;rw[hu]at hp;have HP:=hid hp;clear hC hu b3 hp;go_wp2_with fail;refine HP.out.mono ?_;rintro en w1 ⟨rfl,a7⟩;simp only[cU];have a2:=a4.trans a7;have e3:=a2.size;have a9:=ar b0 a7 (fun _ _ h=>h);go_wp2_with (at_builtin;refine eX rfl _ _ rfl (w1.alloc (.cells #[.int .u8 u.K,.int .i64 u.N] 135)) w.heap.size _ L k b4.out _ _ u rfl rfl rfl (w1.heap.size+1) (by simp) rfl (ar a9 (But.alloc (fun _=>False) _ _) (fun _ _ h=>h)) (by omega) (by simp;omega) ?_);intro gg cap3 w2 a3 b1 b9;have b5:But (fun _=>False) w w2:=(a2.trans (But.alloc _ _ _)).next b1 (fun k' hk' h=>by have:=ay a9 k' h;omega)
   clear b1 b9 a9 a2 a7 d0 d1;go_wp2_with fail
   go_roundg (fl.length-(k+1))
   case measure=>omega
   case rel=>exact⟨_,cap3,k+1,L++ [u],by simp,by simp,by omega,by omega,a3,b5,HT⟩
  ·have e2: ¬(k:Int)<(fl.length:Int):=by omega
   go_wp2_with fail;go_ret;refine⟨_,rfl,?_,a4⟩;rw[hF.out,List.length_map];have:k=fl.length:=by omega
   subst this;rw[HL.out,List.take_length]at b0;exact b0
end
section
open Go Go.RowKit Sp
def ey (hp:List Ob) (fv:List Value):List Value:=(hp.zip fv).flatMap fun x=> [.int .i64 x.1.cls,x.2]
theorem nG {hp:List Ob} {fv:List Value} {k j:Nat} {ob:Ob} {v:Value} (h1:hp[k]?=some ob) (h2:fv[k]?=some v) (hj:j<2):(ey hp fv)[k*2+j]?=[Value.int .i64 ob.cls,v][j]?:=by
 have:(hp.zip fv)[k]?=some (ob,v):=by rw[List.getElem?_zip_eq_some];exact⟨h1,h2⟩
 exact dR (fun x:Ob×Value=> [Value.int .i64 x.1.cls,x.2]) 2 (fun _=>rfl) _ k j _ this hj
theorem qb {hp:List Ob} {fv:List Value} (h:fv.length=hp.length) (ob:Ob) (v:Value):ey (hp++ [ob]) (fv++ [v])=ey hp fv++ [.int .i64 ob.cls,v]:=by
 unfold ey;rw[List.zip_append h.symm];simp
theorem rz {hp:List Ob} {fv:List Value} {k:Nat} {ob:Ob} (h:hp[k]?=some ob) (fs:List V):ey (hp.set k ⟨ob.cls,fs⟩) fv=ey hp fv:=by
 unfold ey
 have:((hp.set k ⟨ob.cls,fs⟩).zip fv).map (fun x=>(x.1.cls,x.2))=(hp.zip fv).map (fun x=>(x.1.cls,x.2)):=by
  apply List.ext_getElem?
  intro i;simp only[List.getElem?_map,List.zip,List.getElem?_zipWith,List.getElem?_set]
  by_cases hi:k=i
  ·subst hi;have hk:=(List.getElem?_eq_some_iff.1 h).1;simp only[if_true,hk,h]
   cases fv[k]?<;>rfl
  ·simp only[hi,if_false]
 have h2: ∀l:List (Ob×Value),(l.flatMap fun x=> [Value.int .i64 x.1.cls,x.2])=(l.map (fun x=>(x.1.cls,x.2))).flatMap fun x=> [Value.int .i64 x.1,x.2]:=fun l=>by
  induction l with
  |nil=>rfl
  |cons a l ih=>simp[ih]
 rw[h2,h2,this]
theorem eM {w:World} {base e size n:Nat} {v:Value} {xs:List Value} (h:w.ownsRow base e size v n xs) {g:Nat} (hg:v.ownBlock=some g): ∃cur,w.heap[g]?=some (.cells cur e (0,0)):=by
 rcases h.2 with⟨rfl,_⟩ | ⟨g',cap,cur,rfl,_,hh,_⟩
 ·cases hg
 ·simp[Value.ownBlock]at hg;subst hg;exact⟨cur,hh⟩
theorem dI {w:World} {base base' e e' size size' n n':Nat} {v v':Value} {xs xs':List Value} (h:w.ownsRow base e size v n xs) (h':w.ownsRow base' e' size' v' n' xs') (he:e≠e') {g:Nat} (hg:v.ownBlock=some g):v'.ownBlock≠some g:=fun hg'=>by
 obtain⟨c,hc⟩:=eM h hg;obtain⟨c',a0⟩:=eM h' hg';rw[hc]at a0;injection a0 with a0;injection a0 with h1 h2;exact he h2
theorem aF {w:World} {base e size n b:Nat} {v:Value} {xs:List Value} (h:w.ownsRow base e size v n xs) {cs:Array Value} {t:TypeId} {fr:Nat×Nat} (hb:w.heap[b]?=some (.cells cs t fr)) (he:e≠t):v.ownBlock≠some b:=fun hg=>by
 obtain⟨c,hc⟩:=eM h hg;rw[hb]at hc;injection hc with hc;injection hc with h1 h2;exact he h2.symm
end
section
open Go Go.RowKit Sp
attribute [local go_sem ↓] Go.wp_at_zero Go.wp_at_succ
theorem qc (l:List V) (j:Nat) (u:V):aM (l.set j u)=((aM l).set (j*2) (.int .u8 u.K)).set (j*2+1) (.int .i64 u.N):=by
 induction l generalizing j with
 |nil=>simp[aM]
 |cons v l ih=>
  cases j with
  |zero=>simp[aM,ky]
  |succ j=>
   have:=ih j;simp only[aM]at this;simp[aM,ky,Nat.succ_mul,this]
theorem xd {w:World} {base n g j:Nat} {v:Value} {l:List V} (u:V) (h:w.ownsRow base 135 2 v n (aM l)) (hg:v.ownBlock=some g):
  ((w.setCell ⟨g,j*2,none⟩ (.int .u8 u.K)).setCell ⟨g,j*2+1,none⟩ (.int .i64 u.N)).ownsRow base 135 2 v n (aM (l.set j u)):=by
 have a0:=h.1;rcases h.2 with⟨rfl,_⟩ | ⟨g',cap,cur,rfl,hb,hh,a1,a2,a3,a4⟩
 ·cases hg
 ·simp[Value.ownBlock]at hg;subst hg;refine⟨by rw[←a0,ja,ja];simp,Or.inr ⟨g',cap,(cur.setIfInBounds (j*2) (.int .u8 u.K)).setIfInBounds (j*2+1) (.int .i64 u.N),rfl,hb,?_,a1,a2,by simpa using a3,?_⟩⟩
  ·exact heap_setCell_same _ g' _ _ _ _ (heap_setCell_same _ g' _ _ _ _ hh)
  ·rw[qc,←a4];simp[List.take_set]
theorem dL (w:World) (r:Nat) (a b:Value):But (· =r) w ((w.setCell ⟨r,0,none⟩ a).setCell ⟨r,1,none⟩ b):=(But.setB _ _ _ _).trans (But.setB _ _ _ _)
theorem ym {fn:Func} {Rr:Ending→World→Prop} {a:Act} {w:World} {c r:Nat} {K N:Int} (hf:fn.results=#[.cell c 135]) (hd:a.defers=[]) (hc:a.tmps.getD c undef= .pointer (some ⟨r,0,none⟩))
  (h0:w.heap[r]?=some (.cells #[.int .u8 K,.int .i64 N] 135)) (hR:Rr (.returned (.agg #[.int .u8 K,.int .i64 N])) w):bodyPost Tryz.prog fn Rr .ret a w:=by
 have r0:=ce0 h0;have r1:=ce1 h0;refine bodyPost_ret (v:= .agg #[.int .u8 K,.int .i64 N]) ?_ hd hR;have a0:a.tmps[c]?.getD undef= .pointer (some ⟨r,0,none⟩):=by simpa using hc
 simp[results,hf,a0,go_sem,r0,r1]
end
section
open Go Go.RowKit
open Go.Shelf
def qd:Go.Shelf.Ren:=⟨fun|171=>181|243=>226|246=>243|283=>249|284=>250|285=>251|286=>252|129=>255|317=>254|318=>256|319=>257|320=>258|337=>260|338=>261|n=>n,fun|3=>3|9=>9|2=>2|4=>4|171=>322|0=>0|53=>323|37=>112|5=>5|173=>326|212=>329|51=>330|20=>20|213=>331|46=>332|232=>336|233=>337|n=>n,fun|17=>0|18=>1|19=>2|n=>n⟩
theorem xe:Go.Proofs.LaysM.n171 Tryz.prog qd:={
 mixed:=by kernel_rfl
 f129:=Tryz.func255.trans (congrArg some (by kernel_rfl))
 f171:=Tryz.func181.trans (congrArg some (by kernel_rfl))
 f243:=Tryz.func226.trans (congrArg some (by kernel_rfl))
 f246:=Tryz.func243.trans (congrArg some (by kernel_rfl))
 f283:=Tryz.func249.trans (congrArg some (by kernel_rfl))
 f284:=Tryz.func250.trans (congrArg some (by kernel_rfl))
 f285:=Tryz.func251.trans (congrArg some (by kernel_rfl))
 f286:=Tryz.func252.trans (congrArg some (by kernel_rfl))
 f317:=Tryz.func254.trans (congrArg some (by kernel_rfl))
 f318:=Tryz.func256.trans (congrArg some (by kernel_rfl))
 f319:=Tryz.func257.trans (congrArg some (by kernel_rfl))
 f320:=Tryz.func258.trans (congrArg some (by kernel_rfl))
 f337:=Tryz.func260.trans (congrArg some (by kernel_rfl))
 f338:=Tryz.func261.trans (congrArg some (by kernel_rfl))
 t0:=Tryz.underlying0
 a0:=Tryz.isAgg0
 z0:=Tryz.sizeOf0
 v0:=Tryz.zeroValue0
 t2:=Tryz.underlying2
 a2:=Tryz.isAgg2
 z2:=Tryz.sizeOf2
 v2:=Tryz.zeroValue2
 t3:=Tryz.underlying3
 a3:=Tryz.isAgg3
 z3:=Tryz.sizeOf3
 v3:=Tryz.zeroValue3
 t4:=Tryz.underlying4
 a4:=Tryz.isAgg4
 z4:=Tryz.sizeOf4
 v4:=Tryz.zeroValue4
 t5:=Tryz.underlying5
 a5:=Tryz.isAgg5
 z5:=Tryz.sizeOf5
 v5:=Tryz.zeroValue5
 t9:=Tryz.underlying9
 a9:=Tryz.isAgg9
 z9:=Tryz.sizeOf9
 v9:=Tryz.zeroValue9
 t20:=Tryz.underlying20
 a20:=Tryz.isAgg20
 z20:=Tryz.sizeOf20
 v20:=Tryz.zeroValue20
 t37:=Tryz.underlying112
 a37:=Tryz.isAgg112
 z37:=Tryz.sizeOf112
 v37:=Tryz.zeroValue112
 t46:=Tryz.underlying332
 a46:=Tryz.isAgg332
 z46:=Tryz.sizeOf332
 v46:=Tryz.zeroValue332
 t51:=Tryz.underlying330
 a51:=Tryz.isAgg330
 z51:=Tryz.sizeOf330
 v51:=Tryz.zeroValue330
 t53:=Tryz.underlying323
 a53:=Tryz.isAgg323
 z53:=Tryz.sizeOf323
 v53:=Tryz.zeroValue323
 t171:=Tryz.underlying322
 a171:=Tryz.isAgg322
 z171:=Tryz.sizeOf322
 v171:=Tryz.zeroValue322
 t173:=Tryz.underlying326
 a173:=Tryz.isAgg326
 z173:=Tryz.sizeOf326
 v173:=Tryz.zeroValue326
 t212:=Tryz.underlying329
 a212:=Tryz.isAgg329
 z212:=Tryz.sizeOf329
 v212:=Tryz.zeroValue329
 t213:=Tryz.underlying331
 a213:=Tryz.isAgg331
 z213:=Tryz.sizeOf331
 t232:=Tryz.underlying336
 a232:=Tryz.isAgg336
 z232:=Tryz.sizeOf336
 v232:=Tryz.zeroValue336
 t233:=Tryz.underlying337
 a233:=Tryz.isAgg337
 z233:=Tryz.sizeOf337
 v233:=Tryz.zeroValue337
 g17:=by kernel_rfl
 g18:=by kernel_rfl
 g19:=by kernel_rfl
 i0:=by kernel_rfl
 i2:=by kernel_rfl
 i3:=by kernel_rfl
 i4:=by kernel_rfl
 i5:=by kernel_rfl
 i9:=by kernel_rfl
 i20:=by kernel_rfl
 i37:=by kernel_rfl
 i46:=by kernel_rfl
 i51:=by kernel_rfl
 i53:=by kernel_rfl
 i171:=by kernel_rfl
 i173:=by kernel_rfl
 i212:=by kernel_rfl
 i232:=by kernel_rfl
 i233:=by kernel_rfl
 m17:=by kernel_rfl
 m18:=by kernel_rfl
 m19:=by kernel_rfl}
def kZ:Go.Shelf.Ren:=⟨fun|176=>248|249=>253|288=>259|283=>249|284=>250|285=>251|286=>252|129=>255|317=>254|318=>256|319=>257|320=>258|337=>260|338=>261|n=>n,fun|37=>112|2=>2|3=>3|53=>323|4=>4|9=>9|171=>322|0=>0|173=>326|212=>329|51=>330|5=>5|20=>20|213=>331|46=>332|232=>336|233=>337|n=>n,fun|17=>0|18=>1|19=>2|n=>n⟩
theorem oy:Go.Proofs.LaysM.n176 Tryz.prog kZ:={
 mixed:=by kernel_rfl
 f129:=Tryz.func255.trans (congrArg some (by kernel_rfl))
 f176:=Tryz.func248.trans (congrArg some (by kernel_rfl))
 f249:=Tryz.func253.trans (congrArg some (by kernel_rfl))
 f283:=Tryz.func249.trans (congrArg some (by kernel_rfl))
 f284:=Tryz.func250.trans (congrArg some (by kernel_rfl))
 f285:=Tryz.func251.trans (congrArg some (by kernel_rfl))
 f286:=Tryz.func252.trans (congrArg some (by kernel_rfl))
 f288:=Tryz.func259.trans (congrArg some (by kernel_rfl))
 f317:=Tryz.func254.trans (congrArg some (by kernel_rfl))
 f318:=Tryz.func256.trans (congrArg some (by kernel_rfl))
 f319:=Tryz.func257.trans (congrArg some (by kernel_rfl))
 f320:=Tryz.func258.trans (congrArg some (by kernel_rfl))
 f337:=Tryz.func260.trans (congrArg some (by kernel_rfl))
 f338:=Tryz.func261.trans (congrArg some (by kernel_rfl))
 t0:=Tryz.underlying0
 a0:=Tryz.isAgg0
 z0:=Tryz.sizeOf0
 v0:=Tryz.zeroValue0
 t2:=Tryz.underlying2
 a2:=Tryz.isAgg2
 z2:=Tryz.sizeOf2
 v2:=Tryz.zeroValue2
 t3:=Tryz.underlying3
 a3:=Tryz.isAgg3
 z3:=Tryz.sizeOf3
 v3:=Tryz.zeroValue3
 t4:=Tryz.underlying4
 a4:=Tryz.isAgg4
 z4:=Tryz.sizeOf4
 v4:=Tryz.zeroValue4
 t5:=Tryz.underlying5
 a5:=Tryz.isAgg5
 z5:=Tryz.sizeOf5
 v5:=Tryz.zeroValue5
 t9:=Tryz.underlying9
 a9:=Tryz.isAgg9
 z9:=Tryz.sizeOf9
 v9:=Tryz.zeroValue9
 t20:=Tryz.underlying20
 a20:=Tryz.isAgg20
 z20:=Tryz.sizeOf20
 v20:=Tryz.zeroValue20
 t37:=Tryz.underlying112
 a37:=Tryz.isAgg112
 z37:=Tryz.sizeOf112
 v37:=Tryz.zeroValue112
 t46:=Tryz.underlying332
 a46:=Tryz.isAgg332
 z46:=Tryz.sizeOf332
 v46:=Tryz.zeroValue332
 t51:=Tryz.underlying330
 a51:=Tryz.isAgg330
 z51:=Tryz.sizeOf330
 v51:=Tryz.zeroValue330
 t53:=Tryz.underlying323
 a53:=Tryz.isAgg323
 z53:=Tryz.sizeOf323
 v53:=Tryz.zeroValue323
 t171:=Tryz.underlying322
 a171:=Tryz.isAgg322
 z171:=Tryz.sizeOf322
 v171:=Tryz.zeroValue322
 t173:=Tryz.underlying326
 a173:=Tryz.isAgg326
 z173:=Tryz.sizeOf326
 v173:=Tryz.zeroValue326
 t212:=Tryz.underlying329
 a212:=Tryz.isAgg329
 z212:=Tryz.sizeOf329
 v212:=Tryz.zeroValue329
 t213:=Tryz.underlying331
 a213:=Tryz.isAgg331
 z213:=Tryz.sizeOf331
 t232:=Tryz.underlying336
 a232:=Tryz.isAgg336
 z232:=Tryz.sizeOf336
 v232:=Tryz.zeroValue336
 t233:=Tryz.underlying337
 a233:=Tryz.isAgg337
 z233:=Tryz.sizeOf337
 v233:=Tryz.zeroValue337
 g17:=by kernel_rfl
 g18:=by kernel_rfl
 g19:=by kernel_rfl
 i0:=by kernel_rfl
 i2:=by kernel_rfl
 i3:=by kernel_rfl
 i4:=by kernel_rfl
 i5:=by kernel_rfl
 i9:=by kernel_rfl
 i20:=by kernel_rfl
 i37:=by kernel_rfl
 i46:=by kernel_rfl
 i51:=by kernel_rfl
 i53:=by kernel_rfl
 i171:=by kernel_rfl
 i173:=by kernel_rfl
 i212:=by kernel_rfl
 i232:=by kernel_rfl
 i233:=by kernel_rfl
 m17:=by kernel_rfl
 m18:=by kernel_rfl
 m19:=by kernel_rfl}
def gv (w:World):Prop:=Lib.TabIs Tryz.prog w "internal/strconv.uint64pow10" .u64 Lib.pow10Tab
theorem gv.but {w w':World} (h:gv w) (hb:But (fun _=>False) w w'):gv w':=by
 have hB:Below w.heap.size w w':=hb.toBelow (Nat.le_refl _) (fun _ h=>h.elim);exact(Lib.tabBelow_of_tabIs h) w' hB
theorem xf (n:Int) (h0: -2147483648≤n) (h1:n<2147483648) (w:World) (ht:gv w):
  Calls Tryz.prog 181 #[.int .i64 n] w fun en w'=>en= .returned (.string ⟨(Lib.itoa n).toArray⟩)∧But (fun _=>False) w w':=by
 refine(Go.Proofs.Any.strconv_Itoa xe n (by omega) (by omega) w ht).mono ?_;rintro en w' ⟨rfl,k,os,rfl⟩;refine⟨rfl,(But.drewN _ w k).trans ⟨rfl,rfl,rfl,by simp[Sort.grow],fun i hi _=> ?_⟩⟩;simp only[Sort.grow];exact Array.getElem?_append_left hi
theorem oz (B n:Nat) (i:Int) (h0: -2147483648≤i) (h1:i<2147483648) (sv:Value) (xs:List Value) (w:World) (ho:w.ownsRow B 5 1 sv n xs) (hB:B≤w.heap.size) (hl:n≤100000) (ht:Lib.TabBelow Tryz.prog B w "internal/strconv.uint64pow10" .u64 Lib.pow10Tab):
  Calls Tryz.prog 248 #[sv,.int .i64 i,.int .i64 10] w fun en w'=> ∃v',en= .returned v'∧w'.ownsRow B 5 1 v' (n+(Lib.itoa i).length) (xs++Lib.byteCells (Lib.itoa i))∧Below B w w'∧Lib.OthersKept 5 none w w':=
 Go.Proofs.Any.strconv_AppendInt_10 oy B n i (by omega) (by omega) sv xs w ho hB (by omega) ht
end
end Go.Proofs.YtpfkkmacakjmbaaGreatDoor
