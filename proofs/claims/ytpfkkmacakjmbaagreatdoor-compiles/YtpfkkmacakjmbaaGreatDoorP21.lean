import Derived.Test.YtpfkkmacakjmbaaGreatDoorP16
import Derived.Lib.AppendIntMem
import Derived.Shelf.Strconv.Itoa3
import Derived.Shelf.Strconv.AppendIntPublic10
import Derived.Test.YtpfkkmacakjmbaaGreatDoorProg
set_option maxRecDepth 100000
set_option maxHeartbeats 6400000
set_option linter.all false
namespace Go.Proofs.YtpfkkmacakjmbaaGreatDoor
open Proofs.Tryz
section
open Go Go.RowKit Sp
attribute [local go_sem ↓] eY eZ
def m9 (v:V):List Value:=[.int .u8 v.K,.int .i64 v.N]
def cW (v:V):Value:= .agg #[.int .u8 v.K,.int .i64 v.N]
def aJ (l:List V):List Value:=l.flatMap m9
theorem k8 (l:List V):(aJ l).length=l.length*2:=by
 induction l with
 |nil=>rfl
 |cons v l ih=>simp[aJ,m9]at ih⊢;omega
theorem mP (l:List V) (v:V):aJ (l++ [v])=aJ l++ [.int .u8 v.K,.int .i64 v.N]:=by simp[aJ,m9]
theorem aP {l:List V} {j k:Nat} {v:V} (h:l[j]?=some v) (hk:k<2):(aJ l)[j*2+k]?=(m9 v)[k]?:=fN m9 2 (λ_=>rfl) l j k v h hk
theorem pb (t:UInt8) (w:World):
  Calls prog 108 #[.int .u8 t.toNat] w λen w'=>en= .returned (cW (dG t))/\B_ w w':=by
 by_cases h:t.toNat=105
 .have a:((t.toNat:Int)==105)=true:=by rw[aX];omega
  rw[show dG t= .i 0 from by unfold dG;rw[if_pos h]];clear h
  go_in
  go_wp2_with fail;exact cA (v:=cW (.i 0)) (by simp[results,results108,go_sem,cW,V.K,V.N]) rfl ⟨rfl,aa _ _ _⟩
 .have a:=tf t.toNat 105 (by omega);rw[show dG t= .z from by unfold dG;rw[if_neg h]];clear h
  go_in
  go_wp2_with fail;exact cA (v:=cW .z) (by simp[results,results108,go_sem,cW,V.K,V.N]) rfl ⟨rfl,aa _ _ _⟩
theorem jF (b:Bool) (w:World):
  Calls prog 182 #[.bool b] w λen w'=>en= .returned (cW (if b=true then .i 1 else .i 0))/\B_ w w':=by
 cases b
 .go_in
  go_wp2_with fail;exact cA (v:=cW (.i 0)) (by simp[results,results182,go_sem,cW,V.K,V.N]) rfl ⟨rfl,aa _ _ _⟩
 .go_in
  go_wp2_with fail;exact cA (v:=cW (.i 1)) (by simp[results,results182,go_sem,cW,V.K,V.N]) rfl ⟨rfl,aa _ _ _⟩
theorem qZ (s:ByteArray) (i:Nat) (hi:i<=5000) (w:World):
  Calls prog 180 #[.string s,.int .i64 i] w λen w'=>en= .returned (.int .i64 (iV s i))/\w'=w:=by
 by_cases h:i<s.size
 .have a: ¬((s.size:Int)<=(i:Int)):=by omega
  have b:(i:Int)<(s.size:Int):=by omega
  rw[show iV s i=(s[i].toNat:Int)from by unfold iV;rw[dif_pos h]];have hw:=dc (s[i].toNat:Int) (by omega) (by have:=s[i].toNat_lt;omega);rw[IntWalk.i64_left]at hw
  go_in
  go_wp2_with fail;go_ret;exact⟨rfl,rfl⟩
 .have a:((s.size:Int)<=(i:Int)):=by omega
  rw[show iV s i= -1 from by unfold iV;rw[dif_neg h]]
  go_in
  go_wp2_with fail;go_ret;exact⟨rfl,rfl⟩
theorem Ex (n:Int):(0<=n->n.tmod 4294967296=n % 4294967296)/\(n<0->n.tmod 4294967296= -((-n) % 4294967296)):=by
 refine⟨λh=>Int.tmod_eq_emod_of_nonneg h,λh=> ?_⟩;have:n= -(-n):=by omega
 rw[this,Int.neg_tmod,Int.tmod_eq_emod_of_nonneg (by omega)];simp
theorem jU (n:Int) (h1: -9223372036854775808<=n) (h2:n<=9223372036854775807) (w:World):
  Calls prog 184 #[.int .i64 n] w λen w'=>en= .returned (.int .i64 (w32 n))/\w'=w:=by
 have ht:=hid (Ex n)
 go_in
 go_wp2_with fail
 all_goals go_ret
 all_goals refine⟨l9 ?_,rfl⟩
 all_goals
  have ht:=ht.out;unfold w32 wrap32;have hw: ∀m:Int,-9223372036854775808<=m->m<=9223372036854775807->wrap64 m=m:=λm h1 h2=>IntWalk.wrap64_in m ⟨h1,h2⟩
  have a: -4294967296<n.tmod 4294967296/\n.tmod 4294967296<4294967296:=by omega
  try rw[hw (n.tmod 4294967296+4294967296) (by omega) (by omega)]at*
  try rw[hw (n.tmod 4294967296-4294967296) (by omega) (by omega)]
  try rw[hw (n.tmod 4294967296+4294967296-4294967296) (by omega) (by omega)]
  omega
theorem B9 {n:Int} (h1: -2147483648<=n) (h2:n<=2147483647):w32 n=n:=by unfold w32 wrap32;omega
theorem Af {a b:Int} (a1: -2147483648<=a) (a2:a<2147483648) (b1: -2147483648<=b) (b2:b<2147483648): -4611686018427387904<=a*b/\a*b<=4611686018427387904:=by
 have h:=Nat.mul_le_mul (show a.natAbs<=2147483648 by omega) (show b.natAbs<=2147483648 by omega);rw[<-Int.natAbs_mul]at h;omega
theorem yz (op:Nat) (hop:op=43\/op=45\/op=42\/op=60\/op=61) (a b:Int) (a1: -2147483648<=a) (a2:a<2147483648) (b1: -2147483648<=b) (b2:b<2147483648) (w:World):
  Calls prog 183 #[.int .u8 op,.int .i64 a,.int .i64 b] w λen w'=>en= .returned (.int .i64 (qi op a b))/\w'=w:=by
 have hm:=Af a1 a2 b1 b2;obtain⟨p,hp⟩: ∃p,a*b=p:=⟨_,rfl⟩;have c:=hid hp;rw[hp]at hm;obtain rfl|rfl|rfl|rfl|rfl:=hop
 .clear hp
  go_in
  go_wp2_with fail;refine(jU _ (by omega) (by omega) _).mono ?_;rintro en wx ⟨rfl,rfl⟩;go_wp2_with fail;go_ret;exact⟨rfl,rfl⟩
 .clear hp
  go_in
  go_wp2_with fail;refine(jU _ (by omega) (by omega) _).mono ?_;rintro en wx ⟨rfl,rfl⟩;go_wp2_with fail;go_ret;exact⟨rfl,rfl⟩
 .go_in
  go_wp2_with fail;refine(jU _ (by omega) (by omega) _).mono ?_;rintro en wx ⟨rfl,rfl⟩;go_wp2_with fail;go_ret;exact⟨by rw[<-c.out];rfl,rfl⟩
 .clear hp
  go_in
  go_wp2_with fail
  all_goals refine(jU _ (by omega) (by omega) _).mono ?_
  all_goals rintro en wx ⟨rfl,rfl⟩
  all_goals go_wp2_with fail
  all_goals go_ret
  all_goals exact⟨l9 (by rw[B9 (by omega) (by omega)];unfold qi;simp;omega),rfl⟩
 .clear hp
  go_in
  go_wp2_with fail
  all_goals refine(jU _ (by omega) (by omega) _).mono ?_
  all_goals rintro en wx ⟨rfl,rfl⟩
  all_goals go_wp2_with fail
  all_goals go_ret
  all_goals exact⟨l9 (by rw[B9 (by omega) (by omega)];unfold qi;simp_all),rfl⟩
theorem yA:(prog.info? 135).map (λi=>(i.zero,i.size,i.bytes))=some (some (.agg #[.int .u8 0,.int .i64 0]),2,16):=by kernel_rfl
theorem fc {w:World} {base base' e size n:Nat} {v:Value} {xs:List Value} (h:w.ownsRow base e size v n xs) (hb:base'<=base):w.ownsRow base' e size v n xs:=
 ⟨h.1,h.2.imp id λ⟨g,cap,cur,a,b,c⟩=>⟨g,cap,cur,a,Nat.le_trans hb b,c⟩⟩
theorem d8 {ops:Array Oper} {rest:List Oper} {o:Oper} {a:Act} {Q:Exit->Act->World->Prop} (hgd:o.guard=none) (s x:Operand)
  (ho:o.op= .call {callee:= .builtin .append,args:=#[s,x],argTypes:=#[118,118]})
  (W:World) (base:Nat) (v:Value) (l:List V) (n:Nat) (hn:l.length=n) (K N:Int) (u:V) (hK:K=u.K) (hN:N=u.N) (hs:a.eval s=v) (H:Nat) (hH:W.heap.size=H) (hx:a.eval x= .slice (some ⟨H,0,none⟩) 1 1) (hown:W.ownsRow base 135 2 v n (aJ l)) (hl:n<=5000) (hbase:base<=W.heap.size)
  (h: ∀g cap w',w'.ownsRow base 135 2 (.slice (some ⟨g,0,none⟩) (n+1) cap) (n+1) (aJ (l++ [u]))->But (λk=>v.ownBlock=some k) W w'->(v.ownBlock=some g\/W.heap.size<=g)->wpList prog ops Q rest (a.put o.dst (.slice (some ⟨g,0,none⟩) (n+1) cap)) w'):
  wpList prog ops Q (o::rest) a (W.alloc (.cells #[.int .u8 K,.int .i64 N] 135)):=by
 obtain⟨m,c,d,e,f⟩:=info_parts yA;subst hK hN hH hn
 refine wpList_append_lies _ hgd s x _ ho base 135 m _ 2 16 (by kernel_rfl) c d e f rfl (by omega) v l.length (aJ l) hs (ag hown (aa (λ_=>False) _ _) (λ_ _ h=>h)) ⟨W.heap.size,0,none⟩ 1 1 [.int .u8 u.K,.int .i64 u.N] hx rfl
  (iu (cs:=#[.int .u8 u.K,.int .i64 u.N]) (t:=135) (fr:=(0,0)) (aO W _)) (by simp[Value.oneCell']) (by omega) (by unfold maxLen;omega) (by omega) (by simp;omega) (W.heap.size+1) (by simp) ?_
 intro g cap w' i j b p;refine h g cap w' ?_ ((aa _ _ _).trans (a8 j)) ?_
 .rw[mP];exact i
 .obtain b|b:=b
  .exact Or.inl b
  .right;omega
theorem sR (bi:Nat) (im:Img) (x:Nat) (w:World) (hI:iy w bi im.zq) (hx:x<im.zq.length) (hf8:bB im.zq x<=100):
  Calls prog 178 #[.pointer (some ⟨bi,0,none⟩),.int .i64 x] w λen w'=> ∃v,en= .returned v/\w'.ownsRow w.heap.size 135 2 v (bS im.zq x).length (aJ (bS im.zq x))/\B_ w w':=by
 obtain⟨v0,v1,v2,i,y⟩:=hI;obtain⟨a0,cap0,rfl⟩:=ay y;have e:=aG hx;obtain⟨g,rfl,B,J,b⟩:=aE y (by omega);obtain⟨fl,d⟩: ∃fl,im.zq[x].fields=fl:=⟨_,rfl⟩;have c0:w.cell? ⟨bi,0,none⟩=some (.slice (some ⟨g,0,none⟩) im.zq.length cap0):=i.c0;have c1:w.cell? ⟨g,x*2+1,none⟩=some (.string ⟨fl.toArray⟩):=by rw[<-d];exact b _ _ (ic e)
 have A:=i.lt;have I:Hid (bS im.zq x=fl.map dG):=by show _=_;simp[bS,bI,e,d]
 have P:fl.length<=100:=by simpa[bB,e,d]using hf8
 clear b e d i y hf8;have S:(x:Int)<(im.zq.length:Int):=by omega
 generalize im.zq.length=nc at*
 go_in
 go_wp2_with fail
 go_loopg [5,6] fl.length (λmm ls ks wr=> ∃(ao:Option Addr) (cap k:Nat) (L:List V),ls= .slice ao k cap/\ks= .int .i64 k/\k+mm<=fl.length/\fl.length<=k+mm/\wr.ownsRow w.heap.size 135 2 (.slice ao k cap) k (aJ L)/\B_ w wr/\Hid (L=(fl.take k).map dG))
 case atStart=>exact⟨none,0,0,[],rfl,rfl,by omega,by omega,cR _ _ _ _,bf _ _,rfl⟩
 case round=>
  obtain⟨ao,cap,k,L,rfl,rfl,M,O,l,c,q⟩:=hrel;have d0:=c.kc c0 A;have d1:=c.kc c1 B;have E:((⟨fl.toArray⟩:ByteArray).size:Int)=(fl.length:Int):=rfl
  by_cases hlt:k<fl.length
  .have D:(k:Int)<(fl.length:Int):=by omega
   obtain⟨C,t⟩: ∃C,fl[k]=C:=⟨_,rfl⟩;have kC: ∀h,(⟨fl.toArray⟩:ByteArray)[k]'h=C:=λh=>by rw[<-t];exact ii fl _ hlt _
   have Q:k<(⟨fl.toArray⟩:ByteArray).size:=hlt;have p:L.length=k:=by rw[q.out];simp;omega
   have r:=hid p;obtain⟨u,F⟩: ∃u,dG C=u:=⟨_,rfl⟩;have HT:Hid (L++ [u]=(fl.take (k+1)).map dG):=by show _=_;rw[f7 hlt,t,q.out,<-F];simp
   have hp:=pb C wr;rw[F]at hp;have H:=hid hp;clear t F p hp;go_wp2_with fail;refine H.out.mono ?_;rintro en w1 ⟨rfl,f⟩;simp only[cW];have a:=c.trans f;have G:=a.size;have j:=ag l f (λ_ _ h=>h);go_wp2_with (at_builtin;refine d8 rfl _ _ rfl (w1.alloc (.cells #[.int .u8 u.K,.int .i64 u.N] 135)) w.heap.size _ L k r.out _ _ u rfl rfl rfl (w1.heap.size+1) (by simp) rfl (ag j (aa (λ_=>False) _ _) (λ_ _ h=>h)) (by omega) (by simp;omega) ?_);intro gg cap3 T m n z;have s:B_ w T:=(a.trans (aa _ _ _)).next n (λk' hk' h=>by have:=aw j k' h;omega);clear n z j a f d0 d1;go_wp2_with fail
   go_roundg (fl.length-(k+1))
   case measure=>omega
   case rel=>exact⟨_,cap3,k+1,L++ [u],by simp,by simp,by omega,by omega,m,s,HT⟩
  .have D: ¬(k:Int)<(fl.length:Int):=by omega
   go_wp2_with fail;go_ret;refine⟨_,rfl,?_,c⟩;rw[I.out,eF];have:k=fl.length:=by omega
   subst this;rw[q.out,List.take_length]at l;exact l
theorem ra (bd:Bod) (vc vt:Value) (hvt: ∃ak n capk,vt= .slice ak n capk) (vs:List V) (ao:Option Addr) (cap:Nat) (w:World) (hl:bd.zy.length<=5) (hv:vs.length<=bd.zy.length) (base:Nat) (hs:w.ownsRow base 135 2 (.slice ao vs.length cap) vs.length (aJ vs)):
  Calls prog 66 #[.agg #[.int .i64 bd.cls,.int .i64 bd.meth,.string ⟨bd.zy.toArray⟩,S_,vt],.slice ao vs.length cap] w λen w'=> ∃v,en= .returned v/\w'.ownsRow w.heap.size 135 2 v (aL bd vs).length (aJ (aL bd vs))/\B_ w w':=by
 obtain⟨ak,n,capk,rfl⟩:=hvt;obtain⟨lo,E⟩: ∃lo,bd.zy=lo:=⟨_,rfl⟩;have HL:Hid (aL bd vs=vs++(lo.drop vs.length).map dG):=by show _=_;unfold aL;rw[E]
 obtain⟨nv,F⟩: ∃nv,vs.length=nv:=⟨_,rfl⟩;have j:=hid F;rw[E]at hl hv⊢;rw[F]at hs hv⊢;clear E F
 go_in
 go_wp2_with fail;obtain⟨i,r⟩: ∃i,w.alloc (.cells #[.int .i64 bd.cls,.int .i64 bd.meth,.string ⟨lo.toArray⟩,S_,.slice ak n capk] 52)=i:=⟨_,rfl⟩;have O:i.heap[w.heap.size]?=some (.cells #[.int .i64 bd.cls,.int .i64 bd.meth,.string ⟨lo.toArray⟩,S_,.slice ak n capk] 52):=by rw[<-r];exact aO _ _
 have x:B_ w i:=by rw[<-r];exact aa _ _ _
 rw[r];clear r;have M:=ag hs x (λ_ _ h=>h)
 go_loopg [5,6] nv (λmm ls ks wr=> ∃(ap:Option Addr) (cp k:Nat) (L:List V),ls= .slice ap k cp/\ks= .int .i64 k/\k+mm<=nv/\nv<=k+mm/\wr.ownsRow i.heap.size 135 2 (.slice ap k cp) k (aJ L)/\B_ i wr/\Hid (L=vs.take k))
 case atStart=>exact⟨none,0,0,[],rfl,rfl,by omega,by omega,cR _ _ _ _,bf _ _,rfl⟩
 case round=>
  obtain⟨ap,cp,k,L,rfl,rfl,P,Q,c,a,b⟩:=hrel;have s:=a.size
  by_cases hlt:k<nv
  .have D:(k:Int)<(nv:Int):=by omega
   have q:k<vs.length:=by rw[j.out];exact hlt
   have p:L.length=k:=by rw[b.out];simp;omega
   have t:=hid p;obtain⟨u,G⟩: ∃u,vs[k]=u:=⟨_,rfl⟩;have HT:Hid (L++ [u]=vs.take (k+1)):=by show _=_;rw[f7 q,G,b.out]
   obtain⟨g,rfl,a1,a2,d⟩:=aE (ag M a (λ_ _ h=>h)) (by omega);have Y:vs[k]?=some u:=by rw[aG q,G]
   have q0:wr.cell? ⟨g,k*2,none⟩=some (.int .u8 u.K):=d _ _ (aP (k:=0) Y (by omega));have q1:wr.cell? ⟨g,k*2+1,none⟩=some (.int .i64 u.N):=d _ _ (aP (k:=1) Y (by omega));clear G p q Y d;go_wp2_with (at_builtin;refine d8 rfl _ _ rfl wr i.heap.size _ L k t.out _ _ u rfl rfl rfl wr.heap.size rfl rfl (by exact c) (by omega) (by omega) ?_);intro gg cap3 Z f m B;have z:B_ i Z:=a.next m (λk' hk' h=>by have:=aY c k' h;have:=aw c k' h;omega);clear m B q0 q1;go_wp2_with fail
   go_roundg (nv-(k+1))
   case measure=>omega
   case rel=>exact⟨_,cap3,k+1,L++ [u],by simp,by simp,by omega,by omega,f,z,HT⟩
  .have D: ¬(k:Int)<(nv:Int):=by omega
   have T:nv=k:=by omega
   subst T;have H:L=vs:=by rw[b.out];exact fd (by rw[j.out];omega)
   rw[H]at c;clear H b L;go_wp2_with fail
   go_loopg [5,7] (lo.length-nv) (λmm ls ks wr=> ∃(ap:Option Addr) (cp k:Nat) (L:List V),ls= .slice ap k cp/\ks= .int .i64 k/\k+mm<=lo.length/\lo.length<=k+mm/\nv<=k/\wr.ownsRow i.heap.size 135 2 (.slice ap k cp) k (aJ L)/\B_ i wr/\Hid (L=vs++((lo.take k).drop nv).map dG))
   case atStart=>exact⟨_,_,nv,vs,rfl,rfl,by omega,by omega,by omega,c,a,by show _=_;rw[List.drop_eq_nil_of_le (by simp;omega)];simp⟩
   case round=>
    clear c a s;obtain⟨ap,cp,k,L,rfl,rfl,P,Q,a4,c,a,b⟩:=hrel;have s:=a.size;have I:=a.kp O;have g2:=ce2 I;have a3:=ae I;have X:((⟨lo.toArray⟩:ByteArray).size:Int)=(lo.length:Int):=rfl
    by_cases hlt:k<lo.length
    .have D:(k:Int)<(lo.length:Int):=by omega
     obtain⟨C,J⟩: ∃C,lo[k]=C:=⟨_,rfl⟩;have kC: ∀h,(⟨lo.toArray⟩:ByteArray)[k]'h=C:=λh=>by rw[<-J];exact ii lo _ hlt _
     have a5:k<(⟨lo.toArray⟩:ByteArray).size:=hlt;have p:L.length=k:=by rw[b.out];have:=j.out;simp;omega
     have t:=hid p;obtain⟨u,G⟩: ∃u,dG C=u:=⟨_,rfl⟩
     have HT:Hid (L++ [u]=vs++((lo.take (k+1)).drop nv).map dG):=by
      show _=_
      rw[f7 hlt,J,b.out,<-G,List.drop_append_of_le_length (by simp;omega)];simp
     have hp:=pb C wr;rw[G]at hp;have HP:=hid hp;clear J G p hp;go_wp2_with fail;refine HP.out.mono ?_;rintro en w1 ⟨rfl,y⟩;simp only[cW];have l:=a.trans y;have a0:=l.size;have A:=ag c y (λ_ _ h=>h);go_wp2_with (at_builtin;refine d8 rfl _ _ rfl (w1.alloc (.cells #[.int .u8 u.K,.int .i64 u.N] 135)) i.heap.size _ L k t.out _ _ u rfl rfl rfl (w1.heap.size+1) (by simp) rfl (ag A (aa (λ_=>False) _ _) (λ_ _ h=>h)) (by omega) (by simp;omega) ?_);intro gg cap3 Z f m B;have z:B_ i Z:=(l.trans (aa _ _ _)).next m (λk' hk' h=>by have:=aw A k' h;omega);clear m B A l y g2;go_wp2_with fail
     go_roundg (lo.length-(k+1))
     case measure=>omega
     case rel=>exact⟨_,cap3,k+1,L++ [u],by simp,by simp,by omega,by omega,by omega,f,z,HT⟩
    .have D: ¬(k:Int)<(lo.length:Int):=by omega
     go_wp2_with fail;go_ret;refine⟨_,rfl,?_,x.trans a⟩;have S:k=lo.length:=by omega
     have e:aL bd vs=L:=by rw[HL.out,b.out,S,List.take_length,j.out]
     rw[e,show L.length=k from by rw[b.out];have:=j.out;simp;omega];exact fc c x.size
end
section
open Go Go.RowKit Sp
def WkB (w:World) (b bi:Nat) (hv:Value) (inp:ByteArray) (r l d:Int) (o:L_) (e:Int):Prop:=
 w.heap[b]?=some (.cells #[.pointer (some ⟨bi,0,none⟩),hv,.string inp,.int .i64 r,.int .i64 l,.int .i64 d,.string ⟨o.toArray⟩,.int .i64 e] 133)
section
variable {w:World} {b bi:Nat} {hv:Value} {inp:ByteArray} {r l d:Int} {o:L_} {e:Int}
theorem WkB.lt (h:WkB w b bi hv inp r l d o e):b<w.heap.size:=ae h
theorem WkB.c0 (h:WkB w b bi hv inp r l d o e):w.cell? ⟨b,0,none⟩=some (.pointer (some ⟨bi,0,none⟩)):=ce0 h
theorem WkB.c1 (h:WkB w b bi hv inp r l d o e):w.cell? ⟨b,1,none⟩=some hv:=ce1 h
theorem WkB.c2 (h:WkB w b bi hv inp r l d o e):w.cell? ⟨b,2,none⟩=some (.string inp):=ce2 h
theorem WkB.c3 (h:WkB w b bi hv inp r l d o e):w.cell? ⟨b,3,none⟩=some (.int .i64 r):=ce3 h
theorem WkB.c4 (h:WkB w b bi hv inp r l d o e):w.cell? ⟨b,4,none⟩=some (.int .i64 l):=ce4 h
theorem WkB.c5 (h:WkB w b bi hv inp r l d o e):w.cell? ⟨b,5,none⟩=some (.int .i64 d):=ce5 h
theorem WkB.c6 (h:WkB w b bi hv inp r l d o e):w.cell? ⟨b,6,none⟩=some (.string ⟨o.toArray⟩):=ce6 h
theorem WkB.c7 (h:WkB w b bi hv inp r l d o e):w.cell? ⟨b,7,none⟩=some (.int .i64 e):=ce7 h
theorem WkB.fz (h:WkB w b bi hv inp r l d o e) (j:Nat):w.frozen? ⟨b,j,none⟩=false:=bG w b j _ _ h
theorem WkB.but {F:Nat->Prop} {w':World} (h:WkB w b bi hv inp r l d o e) (hb:But F w w') (hf: ¬F b):WkB w' b bi hv inp r l d o e:=(hb.block b h.lt hf).trans h
theorem WkB.set1 (h:WkB w b bi hv inp r l d o e) (v:Value):WkB (w.setCell ⟨b,1,none⟩ v) b bi v inp r l d o e:=cQ w b 1 _ _ _ h
theorem WkB.set3 (h:WkB w b bi hv inp r l d o e) (n:Int):WkB (w.setCell ⟨b,3,none⟩ (.int .i64 n)) b bi hv inp n l d o e:=cQ w b 3 _ _ _ h
theorem WkB.set4 (h:WkB w b bi hv inp r l d o e) (n:Int):WkB (w.setCell ⟨b,4,none⟩ (.int .i64 n)) b bi hv inp r n d o e:=cQ w b 4 _ _ _ h
theorem WkB.set5 (h:WkB w b bi hv inp r l d o e) (n:Int):WkB (w.setCell ⟨b,5,none⟩ (.int .i64 n)) b bi hv inp r l n o e:=cQ w b 5 _ _ _ h
theorem WkB.set6 (h:WkB w b bi hv inp r l d o e) (n:L_):WkB (w.setCell ⟨b,6,none⟩ (.string ⟨n.toArray⟩)) b bi hv inp r l d n e:=cQ w b 6 _ _ _ h
theorem WkB.set7 (h:WkB w b bi hv inp r l d o e) (n:Int):WkB (w.setCell ⟨b,7,none⟩ (.int .i64 n)) b bi hv inp r l d o n:=cQ w b 7 _ _ _ h
end
def eX (hp:List Ob) (fv:List Value):List Value:=(hp.zip fv).flatMap λx=> [.int .i64 x.1.cls,x.2]
theorem k9 {hp:List Ob} {fv:List Value} {k j:Nat} {ob:Ob} {v:Value} (h1:hp[k]?=some ob) (h2:fv[k]?=some v) (hj:j<2):(eX hp fv)[k*2+j]?=[Value.int .i64 ob.cls,v][j]?:=by
 have:(hp.zip fv)[k]?=some (ob,v):=by rw[List.getElem?_zip_eq_some];exact⟨h1,h2⟩
 exact fN (λx:Ob×Value=> [Value.int .i64 x.1.cls,x.2]) 2 (λ_=>rfl) _ k j _ this hj
theorem ot {hp:List Ob} {fv:List Value} (h:fv.length=hp.length) (ob:Ob) (v:Value):eX (hp++ [ob]) (fv++ [v])=eX hp fv++ [.int .i64 ob.cls,v]:=by
 unfold eX;rw[List.zip_append h.symm];simp
theorem pG {hp:List Ob} {fv:List Value} {k:Nat} {ob:Ob} (h:hp[k]?=some ob) (fs:List V):eX (hp.set k ⟨ob.cls,fs⟩) fv=eX hp fv:=by
 unfold eX
 have:((hp.set k ⟨ob.cls,fs⟩).zip fv).map (λx=>(x.1.cls,x.2))=(hp.zip fv).map (λx=>(x.1.cls,x.2)):=by
  apply List.ext_getElem?
  intro i;simp only[cV,List.zip,List.getElem?_zipWith,List.getElem?_set]
  by_cases hi:k=i
  .subst hi;have c:=(bc h).1;simp only[if_true,c,h]
   cases fv[k]?<;>rfl
  .simp only[hi,if_false]
 have b: ∀l:List (Ob×Value),(l.flatMap λx=> [Value.int .i64 x.1.cls,x.2])=(l.map (λx=>(x.1.cls,x.2))).flatMap λx=> [Value.int .i64 x.1,x.2]:=λl=>by
  induction l with
  |nil=>rfl
  |cons a l ih=>simp[ih]
 rw[b,b,this]
theorem jG {w:World} {base e size n:Nat} {v:Value} {xs:List Value} (h:w.ownsRow base e size v n xs) {g:Nat} (hg:v.ownBlock=some g): ∃cur,w.heap[g]?=some (.cells cur e (0,0)):=by
 obtain⟨rfl,_⟩ | ⟨g',cap,cur,rfl,_,hh,_⟩:=h.2
 .cases hg
 .simp[Value.ownBlock]at hg;subst hg;exact⟨cur,hh⟩
theorem dJ {w:World} {base base' e e' size size' n n':Nat} {v v':Value} {xs xs':List Value} (h:w.ownsRow base e size v n xs) (h':w.ownsRow base' e' size' v' n' xs') (he:e≠e') {g:Nat} (hg:v.ownBlock=some g):v'.ownBlock≠some g:=λhg'=>by
 obtain⟨c,hc⟩:=jG h hg;obtain⟨c',a⟩:=jG h' hg';rw[hc]at a;injection a with a;injection a with h1 h2;exact he h2
theorem bA {w:World} {base e size n b:Nat} {v:Value} {xs:List Value} (h:w.ownsRow base e size v n xs) {cs:Array Value} {t:TypeId} {fr:Nat×Nat} (hb:w.heap[b]?=some (.cells cs t fr)) (he:e≠t):v.ownBlock≠some b:=λhg=>by
 obtain⟨c,hc⟩:=jG h hg;rw[hb]at hc;injection hc with hc;injection hc with h1 h2;exact he h2.symm
structure StX (P:Nat->Prop) (w0 w:World) (bw bi:Nat) (inp:ByteArray) (d:Nat) (s:Ev) (lv:Value) (l:List V) (hv:Value) (fv:List Value):Prop where
 old:B_ w0 w
 wk:WkB w bw bi hv inp s.read s.left d s.out 12
 len:fv.length=s.heap.length
 hp:w.ownsRow w0.heap.size 265 2 hv s.heap.length (eX s.heap fv)
 fl: ∀(k:Nat) ob v,s.heap[k]?=some ob->fv[k]?=some v->w.ownsRow w0.heap.size 135 2 v ob.fs.length (aJ ob.fs)
 lo:w.ownsRow w0.heap.size 135 2 lv l.length (aJ l)
 ge:w0.heap.size<=bw
 pl: ∀k,P k->k<w.heap.size
 pw: ¬P bw
 ph: ∀g,hv.ownBlock=some g-> ¬P g
 pf: ∀v∈fv,∀g,v.ownBlock=some g-> ¬P g
 po: ∀g,lv.ownBlock=some g-> ¬P g
 sl: ∀v∈fv,∀g,v.ownBlock=some g->lv.ownBlock≠some g
 sf: ∀(j k:Nat) v v' g,fv[j]?=some v->fv[k]?=some v'->v.ownBlock=some g->v'.ownBlock=some g->j=k
end
section
open Go Go.RowKit Sp
attribute [local go_sem ↓] eY eZ
theorem ui (l:List V) (j:Nat) (u:V):aJ (l.set j u)=((aJ l).set (j*2) (.int .u8 u.K)).set (j*2+1) (.int .i64 u.N):=by
 induction l generalizing j with
 |nil=>simp[aJ]
 |cons v l ih=>
  cases j with
  |zero=>simp[aJ,m9]
  |succ j=>
   have:=ih j;simp only[aJ]at this;simp[aJ,m9,Nat.succ_mul,this]
theorem rb {w:World} {base n g j:Nat} {v:Value} {l:List V} (u:V) (h:w.ownsRow base 135 2 v n (aJ l)) (hg:v.ownBlock=some g):
  ((w.setCell ⟨g,j*2,none⟩ (.int .u8 u.K)).setCell ⟨g,j*2+1,none⟩ (.int .i64 u.N)).ownsRow base 135 2 v n (aJ (l.set j u)):=by
 have a:=h.1;obtain⟨rfl,_⟩ | ⟨g',cap,cur,rfl,f,hh,b,c,d,e⟩:=h.2
 .cases hg
 .simp[Value.ownBlock]at hg;subst hg;refine⟨by rw[<-a,k8,k8];simp,Or.inr ⟨g',cap,(cur.setIfInBounds (j*2) (.int .u8 u.K)).setIfInBounds (j*2+1) (.int .i64 u.N),rfl,f,?_,b,c,by simpa using d,?_⟩⟩
  .exact cQ _ g' _ _ _ _ (cQ _ g' _ _ _ _ hh)
  .rw[ui,<-e];simp[List.take_set]
section
variable {P:Nat->Prop} {w0 w w':World} {bw bi d:Nat} {inp:ByteArray} {s:Ev} {lv hv:Value} {l:List V} {fv:List Value}
theorem StX.hw (h:StX P w0 w bw bi inp d s lv l hv fv):hv.ownBlock≠some bw:=bA h.hp h.wk (by decide)
theorem StX.lw (h:StX P w0 w bw bi inp d s lv l hv fv):lv.ownBlock≠some bw:=bA h.lo h.wk (by decide)
theorem StX.fo (h:StX P w0 w bw bi inp d s lv l hv fv) {v:Value} (hv':v∈fv): ∃(k:Nat) (ob:Ob),fv[k]?=some v/\s.heap[k]?=some ob/\w.ownsRow w0.heap.size 135 2 v ob.fs.length (aJ ob.fs):=by
 obtain⟨k,b,rfl⟩:=List.getElem_of_mem hv';have a:k<s.heap.length:=by rw[<-h.len];exact b
 exact⟨k,s.heap[k],aG b,aG a,h.fl k _ _ (aG a) (aG b)⟩
theorem StX.fw (h:StX P w0 w bw bi inp d s lv l hv fv) {v:Value} (hv':v∈fv):v.ownBlock≠some bw:=by
 obtain⟨k,ob,_,_,a⟩:=h.fo hv';exact bA a h.wk (by decide)
theorem StX.fh (h:StX P w0 w bw bi inp d s lv l hv fv) {v:Value} (hv':v∈fv) {g:Nat} (hg:v.ownBlock=some g):hv.ownBlock≠some g:=by
 obtain⟨k,ob,_,_,a⟩:=h.fo hv';exact dJ a h.hp (by decide) hg
theorem StX.lh (h:StX P w0 w bw bi inp d s lv l hv fv) {g:Nat} (hg:lv.ownBlock=some g):hv.ownBlock≠some g:=dJ h.lo h.hp (by decide) hg
theorem StX.blt (h:StX P w0 w bw bi inp d s lv l hv fv):bw<w.heap.size:=h.wk.lt
theorem StX.but {F:Nat->Prop} (h:StX P w0 w bw bi inp d s lv l hv fv) (hB:But F w w') (h0: ∀k,F k->w0.heap.size<=k) (h1: ¬F bw) (h2: ∀g,hv.ownBlock=some g-> ¬F g) (h3: ∀v∈fv,∀g,v.ownBlock=some g-> ¬F g) (h4: ∀g,lv.ownBlock=some g-> ¬F g):StX P w0 w' bw bi inp d s lv l hv fv:=
 ⟨h.old.next hB (λk hk hf=>by have:=h0 k hf;omega),h.wk.but hB h1,h.len,ag h.hp hB h2,λk ob v hk hv=>ag (h.fl k ob v hk hv) hB (h3 v (bn hv)),ag h.lo hB h4,h.ge,λk hk=>by have:=h.pl k hk;have:=hB.size;omega,h.pw,h.ph,h.pf,h.po,h.sl,h.sf⟩
theorem StX.new (h:StX P w0 w bw bi inp d s lv l hv fv) (hB:B_ w w'):StX P w0 w' bw bi inp d s lv l hv fv:=h.but hB (λ_ h=>h.elim) (λh=>h) (λ_ _ h=>h) (λ_ _ _ _ h=>h) (λ_ _ h=>h)
theorem StX.work {s':Ev} {d':Nat} (h:StX P w0 w bw bi inp d s lv l hv fv) (hB:But (· =bw) w w') (hs:s'.heap=s.heap) (hk:WkB w' bw bi hv inp s'.read s'.left d' s'.out 12):StX P w0 w' bw bi inp d' s' lv l hv fv:=by
 have hl: ∀g,lv.ownBlock=some g-> ¬g=bw:=λg hg e=>h.lw (e▸hg)
 have hh: ∀g,hv.ownBlock=some g-> ¬g=bw:=λg hg e=>h.hw (e▸hg)
 have a: ∀v∈fv,∀g,v.ownBlock=some g-> ¬g=bw:=λv hv g hg e=>h.fw hv (e▸hg)
 exact⟨h.old.next hB (λk hk a=>by have:=h.ge;omega),hk,by rw[hs];exact h.len,by rw[hs];exact ag h.hp hB hh,λk ob v hk hv=>by rw[hs]at hk;exact ag (h.fl k ob v hk hv) hB (a v (bn hv)),ag h.lo hB hl,h.ge,λk hk=>by have:=h.pl k hk;have:=hB.size;omega,h.pw,h.ph,h.pf,h.po,h.sl,h.sf⟩
theorem StX.setL (h:StX P w0 w bw bi inp d s lv l hv fv) {g:Nat} (hg:lv.ownBlock=some g) (j:Nat) (u:V):StX P w0 ((w.setCell ⟨g,j*2,none⟩ (.int .u8 u.K)).setCell ⟨g,j*2+1,none⟩ (.int .i64 u.N)) bw bi inp d s lv (l.set j u) hv fv:=by
 have a:But (· =g) w ((w.setCell ⟨g,j*2,none⟩ (.int .u8 u.K)).setCell ⟨g,j*2+1,none⟩ (.int .i64 u.N)):=(aj _ _ _ _).trans (aj _ _ _ _);have b:=aw h.lo g hg;refine⟨h.old.next a (λk hk hf=>by omega),h.wk.but a (λe=>h.lw (e▸hg)),h.len,ag h.hp a (λg' hg' e=>h.lh hg (e▸hg')),λk ob v hk hv=>ag (h.fl k ob v hk hv) a (λg' hg' e=>h.sl v (bn hv) g' hg' (e▸hg)),?_,h.ge,λk hk=>by have:=h.pl k hk;have:=a.size;omega,h.pw,h.ph,h.pf,h.po,h.sl,h.sf⟩;rw[List.length_set];exact rb u h.lo hg
theorem StX.setF (h:StX P w0 w bw bi inp d s lv l hv fv) {k g:Nat} {ob:Ob} {v:Value} (hk:s.heap[k]?=some ob) (hv':fv[k]?=some v) (hg:v.ownBlock=some g) (j:Nat) (u:V):StX P w0 ((w.setCell ⟨g,j*2,none⟩ (.int .u8 u.K)).setCell ⟨g,j*2+1,none⟩ (.int .i64 u.N)) bw bi inp d (s.put k j u) lv l hv fv:=by
 have b:But (· =g) w ((w.setCell ⟨g,j*2,none⟩ (.int .u8 u.K)).setCell ⟨g,j*2+1,none⟩ (.int .i64 u.N)):=(aj _ _ _ _).trans (aj _ _ _ _);have hm:=bn hv';have f:=h.fl k ob v hk hv';have m:=aw f g hg;have c:(s.put k j u).heap=s.heap.set k ⟨ob.cls,ob.fs.set j u⟩:=by simp[Ev.put,(Ev.at hk).1,(Ev.at hk).2]
 refine⟨h.old.next b (λk hk hf=>by omega),h.wk.but b (λe=>h.fw hm (e▸hg)),by rw[c];simpa using h.len,?_,?_,ag h.lo b (λg' hg' e=>h.sl v hm g hg (e▸hg')),h.ge,λk hk=>by have:=h.pl k hk;have:=b.size;omega,h.pw,h.ph,h.pf,h.po,h.sl,h.sf⟩
 .rw[c,pG hk,List.length_set];exact ag h.hp b (λg' hg' e=>h.fh hm hg (e▸hg'))
 .intro i ob' v' hi a;rw[c,List.getElem?_set]at hi
  split at hi
  .rename_i he
   subst he;rw[hv']at a
   cases a
   split at hi
   .cases hi
    simp only[List.length_set];exact rb u f hg
   .cases hi
  .rename_i he
   exact ag (h.fl i ob' v' hi a) b (λg' hg' e=>he (h.sf k i v v' g hv' a hg (e▸hg')))
theorem StX.grow (h:StX P w0 w bw bi inp d s lv l hv fv) (hB:B_ w w'):StX (λk=>P k\/(w.heap.size<=k/\k<w'.heap.size)) w0 w' bw bi inp d s lv l hv fv:=by
 have a:=h.new hB;have b:=h.blt;refine⟨a.old,a.wk,a.len,a.hp,a.fl,a.lo,a.ge,λk hk=> ?_,λhk=> ?_,λg hg hk=> ?_,λv hv' g hg hk=> ?_,λg hg hk=> ?_,a.sl,a.sf⟩
 .obtain hk|hk:=hk
  .exact a.pl k hk
  .exact hk.2
 .obtain hk|hk:=hk
  .exact a.pw hk
  .omega
 .obtain hk|hk:=hk
  .exact a.ph g hg hk
  .have:=aY h.hp g hg;omega
 .obtain hk|hk:=hk
  .exact a.pf v hv' g hg hk
  .obtain⟨k,ob,_,_,c⟩:=h.fo hv';have:=aY c g hg;omega
 .obtain hk|hk:=hk
  .exact a.po g hg hk
  .have:=aY h.lo g hg;omega
theorem StX.tmp {F:Nat->Prop} (h:StX P w0 w bw bi inp d s lv l hv fv) (hB:But F w w') (hF: ∀k,F k->P k/\w0.heap.size<=k):StX P w0 w' bw bi inp d s lv l hv fv:=
 h.but hB (λk hk=>(hF k hk).2) (λhk=>h.pw (hF _ hk).1) (λg hg hk=>h.ph g hg (hF _ hk).1) (λv hv g hg hk=>h.pf v hv g hg (hF _ hk).1) (λg hg hk=>h.po g hg (hF _ hk).1)
theorem StX.less {Q:Nat->Prop} (h:StX P w0 w bw bi inp d s lv l hv fv) (hs: ∀k,Q k->P k):StX Q w0 w bw bi inp d s lv l hv fv:=
 ⟨h.old,h.wk,h.len,h.hp,h.fl,h.lo,h.ge,λk hk=>h.pl k (hs k hk),λhk=>h.pw (hs _ hk),λg hg hk=>h.ph g hg (hs _ hk),λv hv g hg hk=>h.pf v hv g hg (hs _ hk),λg hg hk=>h.po g hg (hs _ hk),h.sl,h.sf⟩
end
theorem StX.newOb {P:Nat->Prop} {w0 w w2:World} {bw bi d base:Nat} {inp:ByteArray} {s:Ev} {lv hv hv' vf:Value} {l:List V} {fv:List Value} {ob:Ob} (h:StX P w0 w bw bi inp d s lv l hv fv) (hf:w.ownsRow base 135 2 vf ob.fs.length (aJ ob.fs)) (hb:w0.heap.size<=base)
  (hfn: ∀g,vf.ownBlock=some g-> ¬P g/\lv.ownBlock≠some g/\ ∀v∈fv,v.ownBlock≠some g) (hB:But (λk=>hv.ownBlock=some k) w w2) (hown:w2.ownsRow w0.heap.size 265 2 hv' (s.heap.length+1) (eX s.heap fv++ [.int .i64 ob.cls,vf])) (hP: ∀g,hv'.ownBlock=some g-> ¬P g):
  StX P w0 (w2.setCell ⟨bw,1,none⟩ hv') bw bi inp d {s with heap:=s.heap++ [ob]} lv l hv' (fv++ [vf]):=by
 have m:=h.wk.but hB h.hw;have t:But (· =bw) w2 (w2.setCell ⟨bw,1,none⟩ hv'):=aj _ _ _ _;have z:vf.ownBlock≠some bw:=bA hf h.wk (by decide);have row: ∀{v:Value} {b n:Nat} {xs:List Value},w.ownsRow b 135 2 v n xs->(w2.setCell ⟨bw,1,none⟩ hv').ownsRow b 135 2 v n xs:=λho=>ag (ag ho hB (λg a=>dJ ho h.hp (by decide) a)) t (λg a e=>bA ho h.wk (by decide) (e▸a))
 refine⟨(h.old.next hB (λk c hf=>by have:=aw h.hp k hf;omega)).next t (λk c e=>by have:=h.ge;omega),m.set1 hv',by simp[h.len],?_,?_,row h.lo,h.ge,λk c=>by have:=h.pl k c;have:=hB.size;rw[aU];omega,h.pw,hP,?_,h.po,?_,?_⟩
 .rw[aN,ot h.len];exact ag hown t (λg a e=>bA hown m (by decide) (e▸a))
 .intro k ob' v c hv;obtain hl|hl:=gC k s.heap.length
  .rw[dy hl]at c;rw[dy (by rw[h.len];exact hl)]at hv;exact row (h.fl k ob' v c hv)
  .rw[f8 hl]at c;rw[f8 (by rw[h.len];exact hl),h.len]at hv
   cases hq:k-s.heap.length with
   |zero=>
    rw[hq]at c hv
    cases c
    cases hv
    exact fc (row hf) hb
   |succ q=>rw[hq]at c;simp at c
 .intro v hv g a;obtain hv|hv:=gz hv
  .exact h.pf v hv g a
  .rw[List.mem_singleton]at hv;subst hv;exact(hfn g a).1
 .intro v hv g a;obtain hv|hv:=gz hv
  .exact h.sl v hv g a
  .rw[List.mem_singleton]at hv;subst hv;exact(hfn g a).2.1
 .intro j k v v' g A c a f
  have key: ∀(i:Nat) u,(fv++ [vf])[i]?=some u->(i<fv.length/\fv[i]?=some u)\/(i=fv.length/\u=vf):=λi u hi=>by
   obtain hl|hl:=gC i fv.length
   .rw[dy hl]at hi;exact Or.inl ⟨hl,hi⟩
   .rw[f8 hl]at hi
    cases hq:i-fv.length with
    |zero=>rw[hq]at hi;cases hi;exact Or.inr ⟨by omega,rfl⟩
    |succ q=>rw[hq]at hi;simp at hi
  obtain⟨y,x⟩ | ⟨y,rfl⟩:=key j v A
  .obtain⟨p,r⟩ | ⟨p,rfl⟩:=key k v' c
   .exact h.sf j k v v' g x r a f
   .exact absurd a ((hfn g f).2.2 v (bn x))
  .obtain⟨p,r⟩ | ⟨p,rfl⟩:=key k v' c
   .exact absurd f ((hfn g a).2.2 v' (bn r))
   .omega
theorem StX.enter {P:Nat->Prop} {w0 w:World} {bw bi d base:Nat} {inp:ByteArray} {s:Ev} {lv hv vl:Value} {l l':List V} {fv:List Value} (h:StX P w0 w bw bi inp d s lv l hv fv) (ho:w.ownsRow base 135 2 vl l'.length (aJ l')) (hb:w0.heap.size<=base) (hfn: ∀g,vl.ownBlock=some g-> ¬P g/\lv.ownBlock≠some g/\ ∀v∈fv,v.ownBlock≠some g):
  StX (λk=>P k\/lv.ownBlock=some k) w0 w bw bi inp d s vl l' hv fv:=by
 refine⟨h.old,h.wk,h.len,h.hp,h.fl,fc ho hb,h.ge,λk hk=> ?_,λhk=> ?_,λg hg hk=> ?_,λv hv' g hg hk=> ?_,λg hg hk=> ?_,λv hv' g hg hk=>(hfn g hk).2.2 v hv' hg,h.sf⟩
 .obtain hk|hk:=hk
  .exact h.pl k hk
  .exact aY h.lo k hk
 .obtain hk|hk:=hk
  .exact h.pw hk
  .exact h.lw hk
 .obtain hk|hk:=hk
  .exact h.ph g hg hk
  .exact h.lh hk hg
 .obtain hk|hk:=hk
  .exact h.pf v hv' g hg hk
  .exact h.sl v hv' g hg hk
 .obtain hk|hk:=hk
  .exact(hfn g hg).1 hk
  .exact(hfn g hg).2.1 hk
theorem StX.leave {P Q:Nat->Prop} {w0 w:World} {bw bi d:Nat} {inp:ByteArray} {s:Ev} {lv hv vl:Value} {l l':List V} {fv:List Value} (h:StX Q w0 w bw bi inp d s vl l' hv fv) (hPQ: ∀k,P k\/lv.ownBlock=some k->Q k) (ho:w.ownsRow w0.heap.size 135 2 lv l.length (aJ l)) (hp: ∀g,lv.ownBlock=some g-> ¬P g):StX P w0 w bw bi inp d s lv l hv fv:=
 ⟨h.old,h.wk,h.len,h.hp,h.fl,ho,h.ge,λk hk=>h.pl k (hPQ k (Or.inl hk)),λhk=>h.pw (hPQ _ (Or.inl hk)),λg hg hk=>h.ph g hg (hPQ _ (Or.inl hk)),λv hv' g hg hk=>h.pf v hv' g hg (hPQ _ (Or.inl hk)),hp,λv hv' g hg hk=>h.pf v hv' g hg (hPQ _ (Or.inr hk)),h.sf⟩
def jz (w:World) (r:Nat):Prop:= ∃K N:Int,w.heap[r]?=some (.cells #[.int .u8 K,.int .i64 N] 135)
theorem jz.but {F:Nat->Prop} {w w':World} {r:Nat} (h:jz w r) (hb:But F w w') (hf: ¬F r):jz w' r:=by
 obtain⟨K,N,h⟩:=h;exact⟨K,N,(hb.block r (ae h) hf).trans h⟩
theorem jz.parts {w:World} {r:Nat} (h:jz w r): ∃K N:Int,w.cell? ⟨r,0,none⟩=some (.int .u8 K)/\w.cell? ⟨r,1,none⟩=some (.int .i64 N)/\w.frozen? ⟨r,0,none⟩=false/\w.frozen? ⟨r,1,none⟩=false/\r<w.heap.size:=by
 obtain⟨K,N,h⟩:=h;exact⟨K,N,by rw[cz w r 0 _ _ (0,0) h];rfl,by rw[cz w r 1 _ _ (0,0) h];rfl,bG w r 0 _ _ h,bG w r 1 _ _ h,ae h⟩
theorem jz.put {w:World} {r:Nat} (h:jz w r) (K N:Int):((w.setCell ⟨r,0,none⟩ (.int .u8 K)).setCell ⟨r,1,none⟩ (.int .i64 N)).heap[r]?=some (.cells #[.int .u8 K,.int .i64 N] 135):=by
 obtain⟨K',N',h⟩:=h;exact cQ _ r 1 _ _ _ (cQ _ r 0 _ _ _ h)
theorem ko (w:World) (r:Nat) (a b:Value):But (· =r) w ((w.setCell ⟨r,0,none⟩ a).setCell ⟨r,1,none⟩ b):=(aj _ _ _ _).trans (aj _ _ _ _)
theorem kq {fn:Func} {Rr:Ending->World->Prop} {a:Act} {w:World} {c r:Nat} {K N:Int} (hf:fn.results=#[.cell c 135]) (hd:a.defers=[]) (hc:a.tmps.getD c undef= .pointer (some ⟨r,0,none⟩))
  (h0:w.heap[r]?=some (.cells #[.int .u8 K,.int .i64 N] 135)) (hR:Rr (.returned (.agg #[.int .u8 K,.int .i64 N])) w):bodyPost prog fn Rr .ret a w:=by
 have r0:=ce0 h0;have d:=ce1 h0;refine cA (v:= .agg #[.int .u8 K,.int .i64 N]) ?_ hd hR;have b:a.tmps[c]?.getD undef= .pointer (some ⟨r,0,none⟩):=by simpa using hc
 simp[results,hf,b,go_sem,r0,d]
end
section
open Go Go.RowKit
open Go.Shelf
def uj:Go.Shelf.Ren:=⟨λ|171=>181|243=>226|246=>243|283=>249|284=>250|285=>251|286=>252|129=>255|317=>254|318=>256|319=>257|320=>258|337=>260|338=>261|n=>n,λ|3=>3|9=>9|2=>2|4=>4|171=>322|0=>0|53=>323|37=>112|5=>5|173=>326|212=>329|51=>330|20=>20|213=>331|46=>332|232=>336|233=>337|n=>n,λ|17=>0|18=>1|19=>2|n=>n⟩
theorem Ca:Go.Proofs.LaysM.n171 prog uj:=by constructor<;>first|kernel_rfl| (intro _;kernel_rfl) | (constructor<;>first|kernel_rfl| (intro _;kernel_rfl))
def iM (w:World):Prop:=Lib.TabIs prog w "internal/strconv.uint64pow10" .u64 Lib.pow10Tab
theorem iM.but {w w':World} (h:iM w) (hb:B_ w w'):iM w':=by
 have a:Below w.heap.size w w':=hb.toBelow (bP _) (λ_ h=>h.elim);exact(Lib.tabBelow_of_tabIs h) w' a
theorem rc (n:Int) (h0: -2147483648<=n) (h1:n<2147483648) (w:World) (ht:iM w):
  Calls prog 181 #[.int .i64 n] w λen w'=>en= .returned (.string ⟨(Lib.itoa n).toArray⟩)/\B_ w w':=by
 refine(Go.Proofs.Any.strconv_Itoa Ca n (by omega) (by omega) w ht).mono ?_;rintro en w' ⟨rfl,k,os,rfl⟩;refine⟨rfl,(aH _ w k).trans ⟨rfl,rfl,rfl,by simp[Sort.grow],λi hi _=> ?_⟩⟩;simp only[Sort.grow];exact Array.getElem?_append_left hi
end
end Go.Proofs.YtpfkkmacakjmbaaGreatDoor
