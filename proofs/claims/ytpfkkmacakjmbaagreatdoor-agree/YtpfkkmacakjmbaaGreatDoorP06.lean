import Derived.Test.YtpfkkmacakjmbaaGreatDoorP05
import Derived.Test.YtpfkkmacakjmbaaGreatDoorP01
import Derived.Deep.Upon
set_option maxRecDepth 100000
set_option maxHeartbeats 6400000
set_option linter.all false
namespace Go.Proofs.YtpfkkmacakjmbaaGreatDoor
open Proofs.Tryz
section
open Go Go.RowKit Sp
attribute [local go_sem ↓] eF eG
def ko (cs:List bP) (c:UInt8):Nat->UInt8->UInt8
 |0,_=>45
 |f+1,x=>if aQ cs.length x=false then 45 else if fQ cs c x=true then x else ko cs c f (kN cs x)
def iC (cs:List bP) (a c:UInt8):UInt8:=if fQ cs a c=true then c else ko cs c cs.length a
theorem nN (b:Nat) (cs:List bP) (a c:UInt8) (w:World) (hn:cs.length<=100) (hT:TxC w b cs):
  Calls prog 205 #[.pointer (some ⟨b,0,none⟩),.int .u8 a.toNat,.int .u8 c.toNat] w λe w'=>e= .returned (.int .u8 (iC cs a c).toNat)/\w'=w:=by
 obtain⟨R,d⟩: ∃R,iC cs a c=R:=⟨_,rfl⟩;rw[d];unfold iC at d;have h:=ml b cs a c w hn hT
 by_cases hf0:fQ cs a c=true
 .rw[if_pos hf0]at d;subst d;rw[hf0]at h;have t:=hid h;clear h hf0
  go_in
  go_wp2_with fail;refine t.out.mono ?_;rintro en w1 ⟨rfl,rfl⟩;go_wp2_with fail;go_ret;exact⟨rfl,rfl⟩
 rw[if_neg hf0]at d;have q:fQ cs a c=false:=by simpa using hf0
 rw[q]at h;have t:=hid h;have g:=hid d;clear d h hf0 q;have D:=hT;obtain⟨v0,l,H,hl,I,hm,J⟩:=D;obtain⟨ao,cap,rfl⟩:=aA I;have B:l.length=cs.length:=by rw[<-hm];simp
 rw[B]at H;clear hm J I B;obtain⟨n,z⟩: ∃n,cs.length=n:=⟨_,rfl⟩;have C:=hid z;rw[z]at H hn;clear z
 go_in
 go_wp2_with fail;refine t.out.mono ?_;rintro en w1 ⟨rfl,rfl⟩;go_wp2_with fail;rw[C.out]at g
 go_loopg [7,8] n (λmm ls is wr=> ∃(x:UInt8) (k:Nat),ls= .int .u8 x.toNat/\is= .int .i64 k/\k<=n/\k+mm<=n/\n<=k+mm/\wr=w1/\Hid (ko cs c mm x=R))
 case atStart=>exact⟨a,0,rfl,rfl,by omega,by omega,by omega,rfl,g.out⟩
 case round=>
  obtain⟨x,k,rfl,rfl,L,E,M,G,m⟩:=hrel;subst G;have A:gk=n-k:=by omega
  rw[A]at m;clear A E
  by_cases hlt:k<n
  .have F:(k:Int)<(n:Int):=by omega
   rw[show n-k=(n-(k+1))+1 from by omega]at m;have f:=iT b cs x wr (by rw[C.out];exact hn) hT
   by_cases hl:aQ cs.length x=true
   .rw[hl]at f;have p:=hid f;have j:=m.out;simp only[ko,hl,Bool.true_eq_false,if_false]at j;have i:=ml b cs c x wr (by rw[C.out];exact hn) hT
    by_cases hxc:fQ cs c x=true
    .rw[if_pos hxc]at j;rw[hxc]at i;have v:=hid i;subst j;clear f hl hxc m g i;go_wp2_with fail;refine p.out.mono ?_;rintro en w1 ⟨rfl,rfl⟩;go_wp2_with fail;refine v.out.mono ?_;rintro en w1 ⟨rfl,rfl⟩;go_wp2_with fail;go_ret;exact⟨rfl,rfl⟩
    .rw[if_neg hxc]at j;have r:fQ cs c x=false:=by simpa using hxc
     rw[r]at i;have v:=hid i;have s:=hid j;clear f hl hxc r m j g i;go_wp2_with fail;refine p.out.mono ?_;rintro en w1 ⟨rfl,rfl⟩;go_wp2_with fail;refine v.out.mono ?_;rintro en w1 ⟨rfl,rfl⟩;go_wp2_with fail;refine(qj b cs x w1 (by rw[C.out];exact hn) hT).mono ?_;rintro en w2 ⟨rfl,rfl⟩;revert s;generalize kN cs x=px;intro s;go_wp2_with fail
     go_roundg (n-(k+1))
     case measure=>omega
     case rel=>exact⟨px,k+1,rfl,by simp,by omega,by omega,by omega,rfl,s.out⟩
   .have y:aQ cs.length x=false:=by simpa using hl
    rw[y]at f;have p:=hid f;have j:=m.out;simp only[ko,y,if_true]at j;subst j;clear f hl y m g;go_wp2_with fail;refine p.out.mono ?_;rintro en w1 ⟨rfl,rfl⟩;go_wp2_with fail;go_ret;exact⟨rfl,rfl⟩
  .have F: ¬(k:Int)<(n:Int):=by omega
   rw[show n-k=0 from by omega]at m;have j:45=R:=m.out;subst j;clear m g;go_wp2_with fail;go_ret;exact⟨rfl,rfl⟩
def toX (c:Cls):bP:=⟨if c.par<0 then 45 else UInt8.ofNat (65+c.par.toNat),c.fields⟩
theorem nO {cs:List Cls} (hw:WfC cs) (hn:cs.length<=4) {x:UInt8} (hx:aQ cs.length x=true):(dG cs (kl x)<0/\kN (cs.map toX) x=45)\/(0<=dG cs (kl x)/\aQ cs.length (kN (cs.map toX) x)=true/\kl (kN (cs.map toX) x)=dG cs (kl x)):=by
 have a:=hx;simp only[aQ,dl,dk]at a;have d:(kl x).toNat=x.toNat-65:=by unfold kl;omega
 obtain⟨c,hc⟩: ∃c,cs[x.toNat-65]?=some c:=⟨_,aM (by omega)⟩;have hp:dG cs (kl x)=c.par:=by unfold dG;rw[d,hc];rfl
 have e:kN (cs.map toX) x=(toX c).par:=by
  unfold kN;rw[bZ,if_pos hx,cg,hc]
  rfl
 have f:=hw _ _ hc;rw[hp,e];unfold toX
 by_cases h0:c.par<0
 .left;exact⟨h0,by simp[h0]⟩
 .right
  have b:(UInt8.ofNat (65+c.par.toNat)).toNat=65+c.par.toNat:=by simp;omega
  simp only[if_neg h0];refine⟨by omega,?_,?_⟩
  .simp only[aQ,b,dl,dk];omega
  .unfold kl;rw[b];omega
theorem rW {cs:List Cls} (hw:WfC cs) (hn:cs.length<=4) {n:Nat}:aQ n 45=false:=by simp[aQ]
theorem o9 {cs:List Cls} (hw:WfC cs) (hn:cs.length<=4) {y:UInt8} (hy:aQ cs.length y=true): ∀{f:Nat} {x:UInt8},aQ cs.length x=true->kl x<f->f<=5->dT (cs.map toX) y f x=cB cs 5 (kl x) (kl y):=by
 intro f
 induction f with
 |zero=>intro x hx i _;simp only[aQ,dl,dk]at hx;unfold kl at i;omega
 |succ f ih=>
  intro x hx i m;have e:=hx;have g:=hy;simp only[aQ,dl,dk]at e g;have r0:0<=kl x/\kl x<=3:=by unfold kl;omega
  rw[dT,bZ,hx,if_neg (by simp)]
  by_cases he:x=y
  .subst he;rw[if_pos rfl,p7 hw r0.1]
  .rw[if_neg he];have d:kl x≠kl y:=λh=>he (ck (by unfold kl at h;omega))
   have a:=f9 hw (y:=kl y) r0.1 (by omega);have l:=dZ hw r0.1
   have c:cB cs 5 (kl x) (kl y)=cB cs 5 (dG cs (kl x)) (kl y):=by
    rw[Bool.eq_iff_iff,a]
    constructor
    .rintro(h|h)
     .exact absurd h d
     .exact h
    .exact Or.inr
   rw[c];obtain⟨j,b⟩ | ⟨j,b,k⟩:=nO hw hn hx
   .rw[b,lG hw j]
    cases f with
    |zero=>rfl
    |succ f=>rw[dT,bZ,rW hw hn];rfl
   .rw[ih b (by rw[k];omega) (by omega),k]
theorem gv {cs:List Cls} (hw:WfC cs) (hn:cs.length<=4) {x:UInt8} (hx:okT cs.length x=true):isC x=aQ cs.length x:=by
 rw[ff]at hx;rw[Bool.eq_iff_iff,cz];simp only[aQ,dl,dk];omega
theorem zG {cs:List Cls} (hw:WfC cs) (hn:cs.length<=4) {y x:UInt8} {f:Nat} (h:aQ cs.length x=false):dT (cs.map toX) y f x=false:=by
 cases f with
 |zero=>rfl
 |succ f=>rw[dT,bZ,h];rfl
theorem ru {cs:List Cls} (hw:WfC cs) (hn:cs.length<=4) {y:UInt8} (hy:aQ cs.length y=false): ∀{f:Nat} {x:UInt8},dT (cs.map toX) y f x=false:=by
 intro f
 induction f with
 |zero=>intro x;rfl
 |succ f ih=>
  intro x;rw[dT,bZ]
  cases hx:aQ cs.length x with
  |false=>simp
  |true=>
   rw[if_neg (by simp),if_neg (λh=>by rw[h,hy]at hx;cases hx)];exact ih
theorem jk {cs:List Cls} (hw:WfC cs) (hn:cs.length<=4) {a c:UInt8} (ha:okT cs.length a=true) (hc:okT cs.length c=true):fQ (cs.map toX) a c=bR cs a c:=by
 rw[Bool.eq_iff_iff,bc];unfold fQ;rw[gv hw hn ha,gv hw hn hc,bZ]
 by_cases h1:a=c
 .simp[h1]
 by_cases h2:c.toNat=45
 .simp[h2]
 rw[if_neg (not_or.2 ⟨h1,h2⟩)];simp only[h1,h2,false_or]
 by_cases h3:a.toNat=122
 .rw[if_pos h3];have:aQ cs.length a=false:=by simp only[aQ,Bool.and_eq_false_iff,decide_eq_false_iff_not];omega
  simp[h3,this]
 .rw[if_neg h3];simp only[h3,and_false,false_or]
  cases hla:aQ cs.length a with
  |false=>rw[zG hw hn hla];simp
  |true=>
   cases hlc:aQ cs.length c with
   |false=>rw[ru hw hn hlc];simp
   |true=>
    have b:=hla;simp only[aQ,dl,dk]at b;rw[o9 hw hn hlc hla (by unfold kl;omega) (by omega)];simp
end
section
open Go Go.RowKit Sp
theorem tk {cs:List Cls} (hw:WfC cs) (hn:cs.length<=4) {x:UInt8} (h:aQ cs.length x=true):okT cs.length x=true:=by
 rw[ff];simp only[aQ,dl,dk]at h;omega
theorem uS {cs:List Cls} (hw:WfC cs) (hn:cs.length<=4) (x:UInt8):bR cs x 45=true:=bc.2 (Or.inr (Or.inl rfl))
theorem Eq {cs:List Cls} (hw:WfC cs) (hn:cs.length<=4) {x d:UInt8} (hx:aQ cs.length x=true) (hne:x≠d) (h:bR cs x d=true):bR cs (kN (cs.map toX) x) d=true\/d.toNat=45:=by
 have b:=hx;simp only[aQ,dl,dk]at b;rw[bc]at h;obtain h|h| ⟨_,h⟩ | ⟨h1,h2,h3⟩:=h
 .exact absurd h hne
 .exact Or.inr h
 .omega
 .left
  have r0:0<=kl x/\kl x<=3:=by unfold kl;omega
  obtain h|h:=(f9 hw r0.1 (by omega)).1 h3
  .exact absurd (ck (by unfold kl at h;omega)) hne
  .obtain⟨c,a⟩ | ⟨c,a,e⟩:=nO hw hn hx
   .rw[lG hw c]at h;cases h
   .rw[bc,e];exact Or.inr (Or.inr (Or.inr ⟨by rw[gv hw hn (tk hw hn a)];exact a,h2,h⟩))
theorem C7 {cs:List Cls} (hw:WfC cs) (hn:cs.length<=4) {x:UInt8} (hx:aQ cs.length x=true):bR cs x (kN (cs.map toX) x)=true:=by
 have b:=hx;simp only[aQ,dl,dk]at b;have r0:0<=kl x/\kl x<=3:=by unfold kl;omega
 obtain⟨c,a⟩ | ⟨c,a,d⟩:=nO hw hn hx
 .rw[a];exact uS hw hn x
 .rw[bc,d];refine Or.inr (Or.inr (Or.inr ⟨by rw[gv hw hn (tk hw hn hx)];exact hx,by rw[gv hw hn (tk hw hn a)];exact a,?_⟩));exact(f9 hw r0.1 (by omega)).2 (Or.inr (p7 hw c))
theorem xj {cs:List Cls} (hw:WfC cs) (hn:cs.length<=4) {c:UInt8} (hc:okT cs.length c=true): ∀{f:Nat} {x:UInt8},aQ cs.length x=true->kl x<f->f<=5->
  bR cs x (ko (cs.map toX) c f x)=true/\bR cs c (ko (cs.map toX) c f x)=true/\ ∀d,bR cs x d=true->bR cs c d=true->bR cs (ko (cs.map toX) c f x) d=true:=by
 intro f
 induction f with
 |zero=>intro x hx i _;simp only[aQ,dl,dk]at hx;unfold kl at i;omega
 |succ f ih=>
  intro x hx i m;rw[ko,bZ,hx,if_neg (by simp),jk hw hn hc (tk hw hn hx)]
  by_cases hs:bR cs c x=true
  .rw[if_pos hs];exact⟨gu _,hs,λd h _=>h⟩
  .rw[if_neg hs];have a:=λd (h:bR cs x d=true) (h':bR cs c d=true)=>Eq hw hn (d:=d) hx (λe=>hs (by rw[e];exact h')) h
   obtain⟨j,b⟩ | ⟨j,b,k⟩:=nO hw hn hx
   .have hm:ko (cs.map toX) c f (kN (cs.map toX) x)=45:=by
     rw[b]
     cases f with
     |zero=>rfl
     |succ f=>rw[ko,bZ,rW hw hn];rfl
    rw[hm];refine⟨uS hw hn _,uS hw hn _,λd h h'=> ?_⟩;obtain h2|h2:=a d h h'
    .rw[b]at h2;exact h2
    .exact bc.2 (Or.inr (Or.inl h2))
   .have l:=dZ hw (p:=kl x) (by simp only[aQ,dl,dk]at hx;unfold kl;omega);have g:=ih b (by rw[k];omega) (by omega);refine⟨mR hw (C7 hw hn hx) g.1,g.2.1,λd h h'=> ?_⟩;obtain h2|h2:=a d h h'
    .exact g.2.2 d h2 h'
    .exact bc.2 (Or.inr (Or.inl h2))
theorem pb {cs:List Cls} (hw:WfC cs) (hn:cs.length<=4) {a c:UInt8} (ha:okT cs.length a=true) (hc:okT cs.length c=true):iC (cs.map toX) a c=gr cs a c:=by
 have e:=mh hw a c
 suffices h:bR cs a (iC (cs.map toX) a c)=true/\bR cs c (iC (cs.map toX) a c)=true/\ ∀d,bR cs a d=true->bR cs c d=true->bR cs (iC (cs.map toX) a c) d=true by
  exact rT hw (h.2.2 _ e.1 e.2.1) (e.2.2 _ h.1 h.2.1)
 unfold iC;rw[jk hw hn ha hc]
 by_cases h1:bR cs a c=true
 .rw[if_pos h1];exact⟨h1,gu _,λd _ h=>h⟩
 rw[if_neg h1,bZ]
 cases hl:aQ cs.length a with
 |true=>
  have g:=hl;simp only[aQ,dl,dk]at g;exact xj hw hn hc hl (by unfold kl;omega) (by omega)
 |false=>
  have hm:ko (cs.map toX) c cs.length a=45:=by
   cases hf:cs.length with
   |zero=>rfl
   |succ f=>rw[ko,bZ,hl];rfl
  rw[hm];refine⟨uS hw hn _,uS hw hn _,λd h h'=> ?_⟩;have b:isC a=false:=by rw[gv hw hn ha];exact hl
  rw[bc]at h h'
  apply bc.2
  right;left
  obtain rfl|h| ⟨p1,p2⟩ | ⟨p1,_⟩:=h
  .rw[ff]at ha;obtain h'|h'| ⟨q1,_⟩ | ⟨_,q1,_⟩:=h'
   .exact absurd (bc.2 (Or.inl h'.symm)) h1
   .exact h'
   .rw[b]at q1;cases q1
   .rw[b]at q1;cases q1
  .exact h
  .obtain rfl|h'| ⟨q1,q2⟩ | ⟨q1,_⟩:=h'
   .exact absurd (bc.2 (Or.inr (Or.inr (Or.inl ⟨p1,p2⟩)))) h1
   .exact h'
   .exact absurd (bc.2 (Or.inl (ck (by omega)))) h1
   .exact absurd (bc.2 (Or.inr (Or.inr (Or.inl ⟨q1,p2⟩)))) h1
  .rw[b]at p1;cases p1
end
section
open Go Go.RowKit Sp
attribute [local go_sem ↓] eF eG
theorem mE (b:Nat) (cs:List bP) (a1 a2:Option Addr) (c1 c2:Nat) (l m:L_) (w:World) (hn:cs.length<=100) (hT:TxC w b cs) (h1:BtB w 0 (.slice a1 l.length c1) l) (h2:BtB w 0 (.slice a2 m.length c2) m) (hl:l.length=m.length) (hm:m.length<=200):
  Calls prog 172 #[.pointer (some ⟨b,0,none⟩),.slice a1 l.length c1,.slice a2 m.length c2] w λen w'=>B_ w w'/\ ∃v,en= .returned v/\BtB w' w.heap.size v (List.zipWith (iC cs) l m):=by
 obtain⟨i0,P,S,T,X⟩:=info_parts kL;have Z:=hid hl;have a5:l.length<=m.length:=by omega
 clear hl
 go_in
 go_wp2_with fail;have J:B_ w (w.alloc (.cells #[] 5)):=ag _ _ _
 go_loopg [7,8] l.length (λmm vs is wr=> ∃(ao:Option Addr) (cap k:Nat) (t:L_),vs= .slice ao t.length cap/\is= .int .i64 k/\k<=l.length/\k+mm<=l.length/\l.length<=k+mm/\B_ w wr/\BtB wr w.heap.size (.slice ao t.length cap) t/\t.length<=k/\
  Hid (List.zipWith (iC cs) (l.take k) (m.take k)=t))
 case atStart=>exact⟨_,0,0,[],rfl,rfl,by omega,by omega,by omega,J,BtB.empty w,by simp,rfl⟩
 case round=>
  obtain⟨ao,cap,k,t,rfl,rfl,a3,Q,a4,f,A,a7,H⟩:=hrel;clear Q
  by_cases hlt:k<l.length
  .have e1:(k:Int)<(l.length:Int):=by omega
   have e2:(k:Int)<(m.length:Int):=by omega
   have j:k<m.length:=by omega
   obtain⟨g1,r1,M,_,c⟩:=aL (h1.but f (λ_ _ h=>h)) (by omega);obtain⟨g2,r2,O,_,d⟩:=aL (h2.but f (λ_ _ h=>h)) (by omega);subst r1 r2;have F:=c _ _ (dR hlt);have G:=d _ _ (dR j)
   have e:Hid (List.zipWith (iC cs) (l.take (k+1)) (m.take (k+1))=t++ [iC cs (l.getD k 0) (m.getD k 0)]):=by
    show _=_
    rw[kj hlt,kj j,List.zipWith_append (by simp;omega),H.out];simp[List.getD,hlt,j]
   clear c d;revert F G e;generalize l.getD k 0=x;generalize m.getD k 0=y;intro F G e;go_wp2_with fail;have i:B_ wr wr.drew:=aD _ _;have s:=hid (nN b cs x y wr.drew hn ((hT.but f).but i));refine aF (B_ wr) 10 ?_
   iterate 9 (refine aN (v:=?_) rfl i ?_ ?_;rotate_left;(focus (intro wS h;have q0:=(h.kc F M);have F:=(h.kc G O);clear h;go_simp;try rfl));dsimp only[Act.put];try simp only[bW])
   refine au rfl ?_;intro KS hKS;go_simp;refine s.out.mono ?_;rintro en wx ⟨rfl,E⟩;rw[E];clear E wx s;refine hKS.out _ _ (λ_=>i) ?_;clear hKS KS;refine au rfl ?_;intro KS hKS;go_simp;refine hKS.out _ _ nofun ?_;clear hKS KS;refine aK rfl ?_;revert e;generalize iC cs x y=z;intro e;have a:B_ w wr.drew:=f.trans i;have g:=A.but i (λ_ _ h=>h);revert a g;generalize wr.drew=w1;intro a g;have D:w1.ownsRow w.heap.size 5 1 (.slice ao t.length cap) t.length (aU t):=g;have a6:=a.size;clear F G;go_wp2_with (at_builtin;refine wpList_append_lies _ rfl _ _ _ rfl w.heap.size 5 i0 _ 1 1 (by kernel_rfl) P S T X rfl (by omega) _ t.length (aU t) rfl (D.alloc _) ⟨w1.heap.size,0,none⟩ 1 1 [.int .u8 z.toNat] rfl rfl (iO (cs:=#[.int .u8 z.toNat]) (t:=5) (fr:=(0,0)) (bj w1 _)) (by simp[Value.oneCell']) (by omega) (by unfold maxLen;omega) (by omega) (by simp;omega) (w1.heap.size+1) (by simp) ?_)
   intro gg n w2 r q a0 Y;have L:But (λk'=>(Value.slice ao t.length cap).ownBlock=some k') w1 w2:=(ag _ _ _).trans (bD q);have C:B_ w w2:=a.next L (λk' hk' h=>absurd (aC D k' h) (by omega))
   have B:BtB w2 w.heap.size (.slice (some ⟨gg,0,none⟩) (t++ [z]).length n) (t++ [z]):=by
    unfold BtB;rw[aV,aU,List.map_append];exact r
   go_wp2_with fail
   go_roundg (l.length-(k+1))
   case measure=>omega
   case rel=>exact⟨_,n,k+1,t++ [z],by simp,by simp,by omega,by omega,by omega,C,B,by simp;omega,e.out⟩
  .have e1: ¬(k:Int)<(l.length:Int):=by omega
   have p:List.zipWith (iC cs) l m=t:=by rw[<-H.out,g8 (by omega),g8 (by have:=Z.out;omega)]
   have I:=hid p;clear p H;go_wp2_with fail;exact cV (.slice ao t.length cap) results172 rfl rfl ⟨f,_,rfl,by rw[I.out];exact A⟩
theorem xk (b:Nat) (s:ByteArray) (i:Nat) (v0 v1:Value) (v2:RdV) (w:World) (most n:Nat) (e:UInt8) (he:0<e.toNat) (hm:most<=10) (hs:s.size<=2000) (hR:XrB w b s i true v0 v1 v2):
  Calls prog 216 #[.pointer (some ⟨b,0,none⟩),.int .i64 most,.int .i64 n,.int .u8 e.toNat] w λen w'=>But (· =b) w w'/\en= .returned (.slice (some ⟨w.heap.size,0,none⟩) 0 0)/\XrB w' b s i true v0 v1 v2/\BtB w' w.heap.size (.slice (some ⟨w.heap.size,0,none⟩) 0 0) []:=by
 go_in
 go_wp2_with fail;have f:But (· =b) w (w.alloc (.cells #[] 5)):=ag _ _ _;have a:XrB (w.alloc (.cells #[] 5)) b s i true v0 v1 v2:=hR.but (ag (λ_=>False) _ _) (λh=>h);have x:=hR.lt;have l:=BtB.empty w;revert f a l;generalize (w.alloc (.cells #[] 5))=W;intro f a l
 go_loopg [9] 0 (λmm vs wr=>vs= .slice (some ⟨w.heap.size,0,none⟩) 0 0/\wr=W)
 case atStart=>exact⟨rfl,rfl⟩
 case round=>
  obtain⟨rfl,q⟩:=hrel;subst q
  have d: ∀(w1:World),But (· =b) wr w1->XrB w1 b s (tkP s e i true).1 (tkP s e i true).2 v0 v1 v2->But (· =b) w w1/\XrB w1 b s i true v0 v1 v2/\BtB w1 w.heap.size (.slice (some ⟨w.heap.size,0,none⟩) 0 0) []:=by
   intro w1 t v;rw[show tkP s e i true=(i,true)from by unfold tkP;rw[if_neg (by simp)]]at v;exact⟨f.trans t,v,l.but t (λg hg h=>by have:=aC l g hg;omega)⟩
  have r:=hid d;clear d
  by_cases hlt:(0:Int)<(most:Int)
  .have c:=dA b s i true v0 v1 v2 wr e a;rw[show(!true&& !decide (pk s i=e))=false from rfl]at c;have p:=hid c;clear c;go_wp2_with fail;refine p.out.mono ?_;rintro en w1 ⟨rfl,m,rfl⟩;go_wp2_with fail;refine(eJ b s i true v0 v1 v2 _ e he hs (a.drewN m)).mono ?_;rintro en w2 ⟨rfl,j,k⟩;go_wp2_with fail;exact cV (.slice (some ⟨w.heap.size,0,none⟩) 0 0) results216 rfl rfl (have h:=r.out w2 ((bp _ _ _).trans j) k;⟨h.1,rfl,h.2⟩)
  .go_wp2_with fail;refine(eJ b s i true v0 v1 v2 _ e he hs a).mono ?_;rintro en w2 ⟨rfl,j,k⟩;go_wp2_with fail;exact cV (.slice (some ⟨w.heap.size,0,none⟩) 0 0) results216 rfl rfl (have h:=r.out w2 j k;⟨h.1,rfl,h.2⟩)
def cL (cs:List bP) (a c:UInt8):Bool:=if c.toNat=38 then(decide (a.toNat=122)||aQ cs.length a)else fQ cs a c
theorem qn (b:Nat) (cs:List bP) (a c:UInt8) (w:World) (hn:cs.length<=100) (hT:TxC w b cs):
  Calls prog 204 #[.pointer (some ⟨b,0,none⟩),.int .u8 a.toNat,.int .u8 c.toNat] w λe w'=>e= .returned (.bool (cL cs a c))/\w'=w:=by
 by_cases h1:c.toNat=38
 .have d:((c.toNat:Int)==38)=true:=by rw[dS];omega
  by_cases h2:a.toNat=122
  .have f:((a.toNat:Int)==122)=true:=by rw[dS];omega
   rw[show cL cs a c=true from by unfold cL;rw[if_pos h1];simp[h2]];clear h1 h2
   go_in
   go_wp2_with fail;go_ret;exact⟨rfl,rfl⟩
  .have f:=tf a.toNat 122 (by omega);rw[show cL cs a c=aQ cs.length a from by unfold cL;rw[if_pos h1];simp[h2]];clear h1 h2
   go_in
   go_wp2_with fail;refine(iT b cs a w hn hT).mono ?_;rintro en w1 ⟨rfl,rfl⟩;go_wp2_with fail;go_ret;exact⟨rfl,rfl⟩
 .have d:=tf c.toNat 38 (by omega);rw[show cL cs a c=fQ cs a c from by unfold cL;rw[if_neg h1]];clear h1
  go_in
  go_wp2_with fail;refine(ml b cs a c w hn hT).mono ?_;rintro en w1 ⟨rfl,rfl⟩;go_wp2_with fail;go_ret;exact⟨rfl,rfl⟩
def kO (l:List Bool):Nat->Nat->Int
 |0,_=> -1
 |f+1,k=>if l.getD k false=true then(k:Int)else kO l f (k+1)
def WtB (w:World) (g:Nat) (l:List Bool):Prop:=w.heap[g]?=some (.cells (l.map Value.bool).toArray 4)
theorem WtB.cell {w:World} {g:Nat} {l:List Bool} (h:WtB w g l) {k:Nat} (hk:k<l.length):w.cell? ⟨g,k,none⟩=some (.bool (l.getD k false)):=by
 rw[bU w g k _ _ (0,0) h];simp[List.getD,hk]
theorem kq (b g:Nat) (l:List Bool) (w:World) (h7:w.cell? ⟨b,7,none⟩=some (.slice (some ⟨g,0,none⟩) l.length l.length)) (hW:WtB w g l) (hl:l.length<=100):
  Calls prog 106 #[.pointer (some ⟨b,0,none⟩)] w λen w'=>en= .returned (.int .i64 (kO l l.length 0))/\w'=w:=by
 obtain⟨R,e⟩: ∃R,kO l l.length 0=R:=⟨_,rfl⟩;rw[e];have c:=hid e;clear e
 go_in
 go_wp2_with fail
 go_loopg [3] l.length (λmm is wr=> ∃k:Nat,is= .int .i64 k/\k<=l.length/\k+mm<=l.length/\l.length<=k+mm/\wr=w/\Hid (kO l mm k=R))
 case atStart=>exact⟨0,rfl,by omega,by omega,by omega,rfl,c.out⟩
 case round=>
  obtain⟨k,rfl,n,i,p,m,d⟩:=hrel;subst m;have f:gk=l.length-k:=by omega
  rw[f]at d;clear f i
  by_cases hlt:k<l.length
  .have j:(k:Int)<(l.length:Int):=by omega
   have q:=hW.cell hlt;rw[show l.length-k=(l.length-(k+1))+1 from by omega]at d;have a:=d.out;simp only[kO]at a;revert q a
   cases l.getD k false with
   |true=>
    intro q a;simp only[if_true]at a;subst a;clear d c;go_wp2_with fail;go_ret;exact⟨rfl,rfl⟩
   |false=>
    intro q a;simp only[dx,if_false]at a;have h:=hid a;clear d a c;go_wp2_with fail
    go_roundg (l.length-(k+1))
    case measure=>omega
    case rel=>exact⟨k+1,by simp,by omega,by omega,by omega,rfl,h.out⟩
  .have j: ¬(k:Int)<(l.length:Int):=by omega
   rw[show l.length-k=0 from by omega]at d;have a: -1=R:=d.out;subst a;clear d c;go_wp2_with fail;go_ret;exact⟨rfl,rfl⟩
def TxM (w:World) (b:Nat) (ms:List Sig):Prop:=
 ∃v1,w.cell? ⟨b,1,none⟩=some v1/\b<w.heap.size/\w.ownsRow 0 243 2 v1 ms.length (ix ms)
theorem TxM.but {w w':World} {b:Nat} {ms:List Sig} (h:TxM w b ms) (hb:B_ w w'):TxM w' b ms:=by
 obtain⟨v1,a,hl,c⟩:=h;exact⟨v1,hb.kc a hl,aP hl hb.size,ah c hb (λ_ _ h=>h)⟩
def dC (ms:List Sig) (k:Nat):Sig:=(ms[k]?).getD ⟨45,45⟩
theorem ir (b:Nat) (ms:List Sig) (k:Nat) (w:World) (hn:ms.length<=100) (hT:TxM w b ms):
  Calls prog 191 #[.pointer (some ⟨b,0,none⟩),.int .i64 k] w λe w'=>e= .returned (.agg #[.int .u8 (dC ms k).arg.toNat,.int .u8 (dC ms k).ret.toNat])/\B_ w w':=by
 obtain⟨v1,n,hl,c⟩:=hT;obtain⟨ao,cap,rfl⟩:=aA c;have l: ¬(k:Int)<0:=by omega
 by_cases hk:k<ms.length
 .have hx:=aM hk;rw[show dC ms k=ms[k]from by unfold dC;rw[hx];rfl];obtain⟨g,rfl,i,j,a⟩:=aL c (by omega);have f:w.cell? ⟨g,k*2,none⟩=some (.int .u8 ms[k].arg.toNat):=a _ _ (jz (k:=0) hx (by omega));have h:w.cell? ⟨g,k*2+1,none⟩=some (.int .u8 ms[k].ret.toNat):=a _ _ (jz (k:=1) hx (by omega));have d: ¬(ms.length:Int)<=(k:Int):=by omega
  have m:(k:Int)<(ms.length:Int):=by omega
  revert f h;generalize ms[k]=X;intro f h;clear a hx c
  go_in
  go_wp2
  exact cU (v:= .agg #[.int .u8 X.arg.toNat,.int .u8 X.ret.toNat]) (by simp[results,results191,go_sem]) rfl ⟨rfl,ag _ _ _⟩
 .rw[show dC ms k=⟨45,45⟩from by unfold dC;rw[List.getElem?_eq_none (by omega)];rfl];have d:(ms.length:Int)<=(k:Int):=by omega
  clear c
  go_in
  go_wp2
  exact cU (v:= .agg #[.int .u8 45,.int .u8 45]) (by simp[results,results191,go_sem]) rfl ⟨rfl,ag _ _ _⟩
end
section
open Go Go.RowKit Sp
theorem zH (w:World) (x y:Int):(Instr.field 243 (.agg #[.int .u8 x,.int .u8 y]) 1).run prog w= .ok (.int .u8 y) w:=by
 simp[Instr.field,asAgg];go_simp
end
section
open Go Go.RowKit Sp
attribute [local go_sem ↓] eF eG
def aH (cs:List bP) (ms:List Sig) (c k:UInt8) (n:Nat) (lo:L_):UInt8:=
 if c.toNat=107\/c.toNat=114\/c.toNat=43\/c.toNat=45\/c.toNat=42\/c.toNat=47\/c.toNat=60\/c.toNat=61\/c.toNat=101 then 105 else
 if c.toNat=108 then cC lo n else if c.toNat=110\/c.toNat=120 then k else if c.toNat=122 then 122 else
 if c.toNat=103 then cC (bV cs k) n else if c.toNat=99 then(dC ms n).ret else 0
theorem ik (b:Nat) (cs:List bP) (ms:List Sig) (p n:Nat) (c k:UInt8) (ao:Option Addr) (cap:Nat) (lo:L_) (w:World) {ap:Option Addr} {np cp:Nat} (hn:cs.length<=100) (hm:ms.length<=100) (hT:TxC w b cs) (hM:TxM w b ms) (hB:BtB w 0 (.slice ao lo.length cap) lo):
  Calls prog 198 #[.pointer (some ⟨b,0,none⟩),.agg #[.int .i64 p,.int .u8 c.toNat,.int .u8 k.toNat,.int .i64 n,.slice ap np cp],.slice ao lo.length cap] w λe w'=>e= .returned (.int .u8 (aH cs ms c k n lo).toNat)/\B_ w w':=by
 by_cases h107:c.toNat=107
 .have hc:c=107:=ck h107;subst hc;rw[show aH cs ms 107 k n lo=105 from by simp[aH]]
  go_in
  go_wp2_with fail;go_ret;exact⟨rfl,ag _ _ _⟩
 by_cases h114:c.toNat=114
 .have hc:c=114:=ck h114;subst hc;rw[show aH cs ms 114 k n lo=105 from by simp[aH]]
  go_in
  go_wp2_with fail;go_ret;exact⟨rfl,ag _ _ _⟩
 by_cases h43:c.toNat=43
 .have hc:c=43:=ck h43;subst hc;rw[show aH cs ms 43 k n lo=105 from by simp[aH]]
  go_in
  go_wp2_with fail;go_ret;exact⟨rfl,ag _ _ _⟩
 by_cases h45:c.toNat=45
 .have hc:c=45:=ck h45;subst hc;rw[show aH cs ms 45 k n lo=105 from by simp[aH]]
  go_in
  go_wp2_with fail;go_ret;exact⟨rfl,ag _ _ _⟩
 by_cases h42:c.toNat=42
 .have hc:c=42:=ck h42;subst hc;rw[show aH cs ms 42 k n lo=105 from by simp[aH]]
  go_in
  go_wp2_with fail;go_ret;exact⟨rfl,ag _ _ _⟩
 by_cases h47:c.toNat=47
 .have hc:c=47:=ck h47;subst hc;rw[show aH cs ms 47 k n lo=105 from by simp[aH]]
  go_in
  go_wp2_with fail;go_ret;exact⟨rfl,ag _ _ _⟩
 by_cases h60:c.toNat=60
 .have hc:c=60:=ck h60;subst hc;rw[show aH cs ms 60 k n lo=105 from by simp[aH]]
  go_in
  go_wp2_with fail;go_ret;exact⟨rfl,ag _ _ _⟩
 by_cases h61:c.toNat=61
 .have hc:c=61:=ck h61;subst hc;rw[show aH cs ms 61 k n lo=105 from by simp[aH]]
  go_in
  go_wp2_with fail;go_ret;exact⟨rfl,ag _ _ _⟩
 by_cases h101:c.toNat=101
 .have hc:c=101:=ck h101;subst hc;rw[show aH cs ms 101 k n lo=105 from by simp[aH]]
  go_in
  go_wp2_with fail;go_ret;exact⟨rfl,ag _ _ _⟩
 by_cases h108:c.toNat=108
 .have hc:c=108:=ck h108;subst hc;rw[show aH cs ms 108 k n lo=cC lo n from by simp[aH]];have HT:=hid (λ(wx:World) (h:B_ w wx)=>d8 ao cap lo n wx (hB.but h (λ_ _ h=>h)))
  go_in
  go_wp2_with fail;refine(HT.out _ (ag _ _ _)).mono ?_;rintro en w1 ⟨rfl,rfl⟩;go_wp2_with fail;go_ret;exact⟨rfl,ag _ _ _⟩
 by_cases h110:c.toNat=110
 .have hc:c=110:=ck h110;subst hc;rw[show aH cs ms 110 k n lo=k from by simp[aH]]
  go_in
  go_wp2_with fail;go_ret;exact⟨rfl,ag _ _ _⟩
 by_cases h120:c.toNat=120
 .have hc:c=120:=ck h120;subst hc;rw[show aH cs ms 120 k n lo=k from by simp[aH]]
  go_in
  go_wp2_with fail;go_ret;exact⟨rfl,ag _ _ _⟩
 by_cases h122:c.toNat=122
 .have hc:c=122:=ck h122;subst hc;rw[show aH cs ms 122 k n lo=122 from by simp[aH]]
  go_in
  go_wp2_with fail;go_ret;exact⟨rfl,ag _ _ _⟩
 by_cases h103:c.toNat=103
 .have hc:c=103:=ck h103;subst hc;rw[show aH cs ms 103 k n lo=cC (bV cs k) n from by simp[aH]];have HT:=hid (λ(wx:World) (h:B_ w wx)=>tj b cs k n wx hn (hT.but h))
  go_in
  go_wp2_with fail;refine(HT.out _ (ag _ _ _)).mono ?_;rintro en w1 ⟨rfl,rfl⟩;go_wp2_with fail;go_ret;exact⟨rfl,ag _ _ _⟩
 by_cases h99:c.toNat=99
 .have hc:c=99:=ck h99;subst hc;rw[show aH cs ms 99 k n lo=(dC ms n).ret from by simp[aH]];have HT:=hid (λ(wx:World) (h:B_ w wx)=>ir b ms n wx hm (hM.but h))
  go_in
  go_wp2_with fail;refine(HT.out _ (ag _ _ _)).mono ?_;rintro en w1 ⟨rfl,a⟩;have A:=λwx=>zH wx ((dC ms n).arg.toNat:Int) ((dC ms n).ret.toNat:Int)
  go_wp2_with fail;go_ret;exact⟨rfl,(ag _ _ _).trans a⟩
 rw[show aH cs ms c k n lo=0 from by simp[aH,h107,h114,h43,h45,h42,h47,h60,h61,h101,h108,h110,h120,h122,h103,h99]];have g:=tf c.toNat 107 (by omega);have l:=tf c.toNat 114 (by omega);have s:=tf c.toNat 43 (by omega);have t:=tf c.toNat 45 (by omega);have r:=tf c.toNat 42 (by omega);have v:=tf c.toNat 47 (by omega);have x:=tf c.toNat 60 (by omega);have y:=tf c.toNat 61 (by omega);have d:=tf c.toNat 101 (by omega);have i:=tf c.toNat 108 (by omega);have j:=tf c.toNat 110 (by omega);have m:=tf c.toNat 120 (by omega);have q:=tf c.toNat 122 (by omega);have f:=tf c.toNat 103 (by omega);have z:=tf c.toNat 99 (by omega)
 clear h107 h114 h43 h45 h42 h47 h60 h61 h101 h108 h110 h120 h122 h103 h99
 go_in
 go_wp2_with fail;go_ret;exact⟨rfl,ag _ _ _⟩
theorem BtB.lit (W:World) (base:Nat) (hb:base<=W.heap.size) (l:L_) (hl:l.length<=100):BtB (W.alloc (.cells (aU l).toArray 5)) base (.slice (some ⟨W.heap.size,0,none⟩) l.length l.length) l:=
 ⟨by simp[aU],Or.inr ⟨W.heap.size,l.length,_,rfl,hb,bj _ _,bG _,by unfold maxLen;omega,by simp[aU],by simp only[Nat.mul_one];exact g8 (by simp[aU])⟩⟩
theorem BtB.lit2 (w:World) (o:Obj) (l:L_) (hl:l.length<=100):BtB ((w.alloc o).alloc (.cells (aU l).toArray 5)) w.heap.size (.slice (some ⟨w.heap.size+1,0,none⟩) l.length l.length) l:=by
 have h:=BtB.lit (w.alloc o) w.heap.size (ag (λ_=>False) w o).size l hl;have a:(w.alloc o).heap.size=w.heap.size+1:=Array.size_push _;rw[a]at h;exact h
def aB (cs:List bP) (ms:List Sig) (c k:UInt8) (n:Nat) (ans:UInt8):L_:=
 if c.toNat=119\/c.toNat=102 then [105]else if c.toNat=115\/c.toNat=100 then [45]else
 if c.toNat=43\/c.toNat=45\/c.toNat=42\/c.toNat=47\/c.toNat=60\/c.toNat=61 then [105,105]else
 if c.toNat=101 then [38,38]else if c.toNat=103 then [k]else if c.toNat=112 then [k,cC (bV cs k) n]else
 if c.toNat=99 then [k,(dC ms n).arg]else if c.toNat=120 then [38]else if c.toNat=116 then [ans]else []
theorem tm (b:Nat) (cs:List bP) (ms:List Sig) (p n:Nat) (c k ans:UInt8) (w:World) {ap:Option Addr} {np cp:Nat} (h112:c.toNat≠112) (h99:c.toNat≠99):
  Calls prog 140 #[.pointer (some ⟨b,0,none⟩),.agg #[.int .i64 p,.int .u8 c.toNat,.int .u8 k.toNat,.int .i64 n,.slice ap np cp],.int .u8 ans.toNat] w λe w'=>B_ w w'/\ ∃v,e= .returned v/\BtB w' w.heap.size v (aB cs ms c k n ans):=by
 by_cases h119:c.toNat=119
 .have hc:c=119:=ck h119;subst hc;rw[show aB cs ms 119 k n ans=[105]from by simp[aB]];clear h112 h99
  go_in
  go_wp2_with fail;exact cV (.slice (some ⟨w.heap.size+1,0,none⟩) 1 1) results140 rfl rfl ⟨(ag _ _ _).trans (ag _ _ _),_,rfl,BtB.lit2 w _ [105] (by simp)⟩
 by_cases h102:c.toNat=102
 .have hc:c=102:=ck h102;subst hc;rw[show aB cs ms 102 k n ans=[105]from by simp[aB]];clear h112 h99
  go_in
  go_wp2_with fail;exact cV (.slice (some ⟨w.heap.size+1,0,none⟩) 1 1) results140 rfl rfl ⟨(ag _ _ _).trans (ag _ _ _),_,rfl,BtB.lit2 w _ [105] (by simp)⟩
 by_cases h115:c.toNat=115
 .have hc:c=115:=ck h115;subst hc;rw[show aB cs ms 115 k n ans=[45]from by simp[aB]];clear h112 h99
  go_in
  go_wp2_with fail;exact cV (.slice (some ⟨w.heap.size+1,0,none⟩) 1 1) results140 rfl rfl ⟨(ag _ _ _).trans (ag _ _ _),_,rfl,BtB.lit2 w _ [45] (by simp)⟩
 by_cases h100:c.toNat=100
 .have hc:c=100:=ck h100;subst hc;rw[show aB cs ms 100 k n ans=[45]from by simp[aB]];clear h112 h99
  go_in
  go_wp2_with fail;exact cV (.slice (some ⟨w.heap.size+1,0,none⟩) 1 1) results140 rfl rfl ⟨(ag _ _ _).trans (ag _ _ _),_,rfl,BtB.lit2 w _ [45] (by simp)⟩
 by_cases h101:c.toNat=101
 .have hc:c=101:=ck h101;subst hc;rw[show aB cs ms 101 k n ans=[38,38]from by simp[aB]];clear h112 h99
  go_in
  go_wp2_with fail;exact cV (.slice (some ⟨w.heap.size+1,0,none⟩) 2 2) results140 rfl rfl ⟨(ag _ _ _).trans (ag _ _ _),_,rfl,BtB.lit2 w _ [38,38] (by simp)⟩
 by_cases h103:c.toNat=103
 .have hc:c=103:=ck h103;subst hc;rw[show aB cs ms 103 k n ans=[k]from by simp[aB]];clear h112 h99
  go_in
  go_wp2_with fail;exact cV (.slice (some ⟨w.heap.size+1,0,none⟩) 1 1) results140 rfl rfl ⟨(ag _ _ _).trans (ag _ _ _),_,rfl,BtB.lit2 w _ [k] (by simp)⟩
 by_cases h120:c.toNat=120
 .have hc:c=120:=ck h120;subst hc;rw[show aB cs ms 120 k n ans=[38]from by simp[aB]];clear h112 h99
  go_in
  go_wp2_with fail;exact cV (.slice (some ⟨w.heap.size+1,0,none⟩) 1 1) results140 rfl rfl ⟨(ag _ _ _).trans (ag _ _ _),_,rfl,BtB.lit2 w _ [38] (by simp)⟩
 by_cases h116:c.toNat=116
 .have hc:c=116:=ck h116;subst hc;rw[show aB cs ms 116 k n ans=[ans]from by simp[aB]];clear h112 h99
  go_in
  go_wp2_with fail;exact cV (.slice (some ⟨w.heap.size+1,0,none⟩) 1 1) results140 rfl rfl ⟨(ag _ _ _).trans (ag _ _ _),_,rfl,BtB.lit2 w _ [ans] (by simp)⟩
 by_cases h43:c.toNat=43
 .have hc:c=43:=ck h43;subst hc;rw[show aB cs ms 43 k n ans=[105,105]from by simp[aB]];clear h112 h99
  go_in
  go_wp2_with fail;exact cV (.slice (some ⟨w.heap.size+1,0,none⟩) 2 2) results140 rfl rfl ⟨(ag _ _ _).trans (ag _ _ _),_,rfl,BtB.lit2 w _ [105,105] (by simp)⟩
 by_cases h45:c.toNat=45
 .have hc:c=45:=ck h45;subst hc;rw[show aB cs ms 45 k n ans=[105,105]from by simp[aB]];clear h112 h99
  go_in
  go_wp2_with fail;exact cV (.slice (some ⟨w.heap.size+1,0,none⟩) 2 2) results140 rfl rfl ⟨(ag _ _ _).trans (ag _ _ _),_,rfl,BtB.lit2 w _ [105,105] (by simp)⟩
 by_cases h42:c.toNat=42
 .have hc:c=42:=ck h42;subst hc;rw[show aB cs ms 42 k n ans=[105,105]from by simp[aB]];clear h112 h99
  go_in
  go_wp2_with fail;exact cV (.slice (some ⟨w.heap.size+1,0,none⟩) 2 2) results140 rfl rfl ⟨(ag _ _ _).trans (ag _ _ _),_,rfl,BtB.lit2 w _ [105,105] (by simp)⟩
 by_cases h47:c.toNat=47
 .have hc:c=47:=ck h47;subst hc;rw[show aB cs ms 47 k n ans=[105,105]from by simp[aB]];clear h112 h99
  go_in
  go_wp2_with fail;exact cV (.slice (some ⟨w.heap.size+1,0,none⟩) 2 2) results140 rfl rfl ⟨(ag _ _ _).trans (ag _ _ _),_,rfl,BtB.lit2 w _ [105,105] (by simp)⟩
 by_cases h60:c.toNat=60
 .have hc:c=60:=ck h60;subst hc;rw[show aB cs ms 60 k n ans=[105,105]from by simp[aB]];clear h112 h99
  go_in
  go_wp2_with fail;exact cV (.slice (some ⟨w.heap.size+1,0,none⟩) 2 2) results140 rfl rfl ⟨(ag _ _ _).trans (ag _ _ _),_,rfl,BtB.lit2 w _ [105,105] (by simp)⟩
 by_cases h61:c.toNat=61
 .have hc:c=61:=ck h61;subst hc;rw[show aB cs ms 61 k n ans=[105,105]from by simp[aB]];clear h112 h99
  go_in
  go_wp2_with fail;exact cV (.slice (some ⟨w.heap.size+1,0,none⟩) 2 2) results140 rfl rfl ⟨(ag _ _ _).trans (ag _ _ _),_,rfl,BtB.lit2 w _ [105,105] (by simp)⟩
 rw[show aB cs ms c k n ans=[]from by simp[aB,h119,h102,h115,h100,h101,h103,h120,h116,h43,h45,h42,h47,h60,h61,h112,h99]];have l:=tf c.toNat 119 (by omega);have f:=tf c.toNat 102 (by omega);have i:=tf c.toNat 115 (by omega);have a:=tf c.toNat 100 (by omega);have d:=tf c.toNat 101 (by omega);have g:=tf c.toNat 103 (by omega);have m:=tf c.toNat 120 (by omega);have j:=tf c.toNat 116 (by omega);have r:=tf c.toNat 43 (by omega);have s:=tf c.toNat 45 (by omega);have q:=tf c.toNat 42 (by omega);have t:=tf c.toNat 47 (by omega);have x:=tf c.toNat 60 (by omega);have y:=tf c.toNat 61 (by omega);have h:=tf c.toNat 112 (by omega)
 have z:=tf c.toNat 99 (by omega);clear h119 h102 h115 h100 h101 h103 h120 h116 h43 h45 h42 h47 h60 h61 h112 h99
 go_in
 go_wp2_with fail;exact cV (.slice (some ⟨w.heap.size+1,0,none⟩) 0 0) results140 rfl rfl ⟨(ag _ _ _).trans (ag _ _ _),_,rfl,BtB.lit2 w _ [] (by simp)⟩
theorem uT (l:L_): ∀u∈aU l,u.oneCell'=true:=by
 intro u a;obtain⟨c,_,rfl⟩:=List.mem_map.1 a
 rfl
theorem qo (w:World) (ty:TypeId) (base bx:Nat) (v xv:Value) (l m:L_) (hown:BtB w base v l) (hx:BtB w bx xv m) (hlen:l.length+m.length<=100000) (hbase:base<=w.heap.size):
  ∃v' w',(Builtin.append_ #[112,112] ty #[v,xv]).run prog w= .ok v' w'/\BtB w' base v' (l++m)/\But (λk=>v.ownBlock=some k) w w'/\(v'.ownBlock=v.ownBlock\/v'.ownBlock=some w.heap.size):=by
 obtain⟨s,d,q,f,r⟩:=info_parts kL;have p:prog.underlying 112=some (.slice 5):=by kernel_rfl
 obtain⟨ax,cx,rfl⟩:=aA hx
 cases ax with
 |none=>
  have hm:m.length=0:=by
   obtain h|h:=Nat.eq_zero_or_pos m.length
   .exact h
   .obtain⟨g,A,_⟩:=aL hx h
    cases A
  have n:m=[]:=List.length_eq_zero_iff.1 hm;subst n
  have hc: ∃ao cap,v= .slice ao l.length cap/\l.length<=cap:=by
   obtain⟨rfl,t⟩ | ⟨g,cap,cur,rfl,_,_,c,_⟩:=hown.2
   .exact⟨none,0,by rw[t],by omega⟩
   .exact⟨_,cap,rfl,c⟩
  obtain⟨ao,cap,rfl,c⟩:=hc;refine⟨_,w,run_append_nothing w _ _ ty 5 s p d ao l.length cap c _ (by rw[f];exact Src.ofNil w p cx),by simpa using hown,cq _ _,Or.inl rfl⟩
 |some ad=>
  have b: ∀j u,(aU m)[j]?=some u->w.cell? (ad.add j)=some u:=by
   intro j u B;obtain⟨g,cap',D,hc,_⟩:=ki hx B
   have x:ad=⟨g,0,none⟩:=by
    have i:=congrArg (λv=>match v with|Value.slice a _ _=>a|_=>none) D;exact Option.some.inj i
   rw[x];have e:(⟨g,0,none⟩:Addr).add j=⟨g,j,none⟩:=by simp[Addr.add];exact λh=>h.symm
   rw[e];exact hc
  obtain⟨v',w',C,i,y,_,z⟩:=run_append_own_at (P:=prog) w base _ ty 5 s _ 1 1 p d q f r rfl (by omega) v l.length (aU l) hown ad m.length cx (aU m) (by simp[aU]) b (uT m) (by unfold maxLen;omega) (by omega) hbase;refine⟨v',w',C,?_,bD y,z⟩;unfold BtB;rw[aV,aU,List.map_append];exact i
theorem jF {w:World} {ops:Array Oper} {rest:List Oper} {o:Oper} {a:Act} {Q:Exit->Act->World->Prop} (hgd:o.guard=none) (s x:Operand)
  (ho:o.op= .call {callee:= .builtin .append,args:=#[s,x],argTypes:=#[112,112]}) (base bx:Nat) (v xv:Value) (l m:L_) (hs:a.eval s=v) (hx:a.eval x=xv) (hown:BtB w base v l) (hxo:BtB w bx xv m) (hlen:l.length+m.length<=100000) (hbase:base<=w.heap.size)
  (h: ∀ao cap w',BtB w' base (.slice ao (l++m).length cap) (l++m)->But (λk=>v.ownBlock=some k) w w'->((Value.slice ao (l++m).length cap).ownBlock=v.ownBlock\/(Value.slice ao (l++m).length cap).ownBlock=some w.heap.size)->wpList prog ops Q rest (a.put o.dst (.slice ao (l++m).length cap)) w'):wpList prog ops Q (o::rest) a w:=by
 refine wpList_plain hgd λK hK=> ?_
 obtain⟨v',w',e,b,c,d⟩:=qo w o.type base bx v xv l m hown hxo hlen hbase;obtain⟨ao,cap,rfl⟩:=aA b;unfold Oper.wp execOp;simp only[ho,resolve,invoke,builtin,Sem.run_bind,Sem.run_pure,Result.andThen_ok,List.map_toArray,List.map_cons,List.map_nil,hs,hx,e];exact hK _ _ (h ao cap w' b c d)
structure XIt where
 place:Nat
 op:UInt8
 cls:UInt8
 num:Nat
 pa:Option Addr
 pn:Nat
 pc:Nat
structure bK where
 cls:UInt8
 meth:Nat
 ans:UInt8
 zy:L_
 items:List XIt
def cd (l:List XIt):List Value:=l.flatMap λx=> [.int .i64 x.place,.int .u8 x.op.toNat,.int .u8 x.cls.toNat,.int .i64 x.num,.slice x.pa x.pn x.pc]
def mo (l:List (bK×Value×Value)):List Value:=l.flatMap λx=> [.int .u8 x.1.cls.toNat,.int .i64 x.1.meth,.int .u8 x.1.ans.toNat,x.2.1,x.2.2]
theorem gL (l:List XIt) (x:XIt):cd (l++ [x])=cd l++ [.int .i64 x.place,.int .u8 x.op.toNat,.int .u8 x.cls.toNat,.int .i64 x.num,.slice x.pa x.pn x.pc]:=by simp[cd]
theorem tn (l:List (bK×Value×Value)) (x:bK×Value×Value):mo (l++ [x])=mo l++ [.int .u8 x.1.cls.toNat,.int .i64 x.1.meth,.int .u8 x.1.ans.toNat,x.2.1,x.2.2]:=by simp[mo]
theorem tq (l:List (bP×Value)) (x:bP×Value):iS (l++ [x])=iS l++ [.int .u8 x.1.par.toNat,x.2]:=by simp[iS]
theorem aW {l:List XIt} {j k:Nat} {x:XIt} (h:l[j]?=some x) (hk:k<5):(cd l)[j*5+k]?=[Value.int .i64 x.place,.int .u8 x.op.toNat,.int .u8 x.cls.toNat,.int .i64 x.num,.slice x.pa x.pn x.pc][k]?:=
 me (λx:XIt=> [Value.int .i64 x.place,.int .u8 x.op.toNat,.int .u8 x.cls.toNat,.int .i64 x.num,.slice x.pa x.pn x.pc]) 5 (λ_=>rfl) l j k x h hk
theorem br {l:List (bK×Value×Value)} {j k:Nat} {x:bK×Value×Value} (h:l[j]?=some x) (hk:k<5):(mo l)[j*5+k]?=[Value.int .u8 x.1.cls.toNat,.int .i64 x.1.meth,.int .u8 x.1.ans.toNat,x.2.1,x.2.2][k]?:=
 me (λx:bK×Value×Value=> [Value.int .u8 x.1.cls.toNat,.int .i64 x.1.meth,.int .u8 x.1.ans.toNat,x.2.1,x.2.2]) 5 (λ_=>rfl) l j k x h hk
theorem uU (l:List XIt):(cd l).length=l.length*5:=by
 induction l with
 |nil=>rfl
 |cons x l ih=>simp[cd]at ih⊢;omega
def ItB (w:World) (base:Nat) (v:Value) (l:List XIt):Prop:=w.ownsRow base 219 5 v l.length (cd l)
def TcV (w:World) (base:Nat) (v:Value) (cs:List bP):Prop:=
 ∃l,w.ownsRow base 240 2 v l.length (iS l)/\l.map (·.1)=cs/\ ∀x∈l,BtB w base x.2 x.1.fields
def TmV (w:World) (base:Nat) (v:Value) (ms:List Sig):Prop:=w.ownsRow base 243 2 v ms.length (ix ms)
def TbV (w:World) (base:Nat) (v:Value) (bs:List bK):Prop:=
 ∃l,w.ownsRow base 115 5 v l.length (mo l)/\l.map (·.1)=bs/\ ∀x∈l,BtB w base x.2.1 x.1.zy/\ItB w base x.2.2 x.1.items
theorem bz {F:Nat->Prop} {w w':World} {base e size n:Nat} {v:Value} {xs:List Value} (h:w.ownsRow base e size v n xs) (hb:But F w w') (hf: ∀g cur,w.heap[g]?=some (.cells cur e)->base<=g-> ¬F g):w'.ownsRow base e size v n xs:=by
 refine⟨h.1,?_⟩;obtain h2| ⟨g,cap,cur,hv,hg,hh,r⟩:=h.2
 .exact Or.inl h2
 .exact Or.inr ⟨g,cap,cur,hv,hg,(hb.block g (ae hh) (hf g cur hh hg)).trans hh,r⟩
theorem zI {w:World} {base e size n:Nat} {v:Value} {xs:List Value} (h:w.ownsRow base e size v n xs) {g:Nat} (hg:v.ownBlock=some g): ∃cur,w.heap[g]?=some (.cells cur e):=by
 obtain⟨rfl,_⟩ | ⟨g',cap,cur,rfl,hb,a,_⟩:=h.2
 .cases hg
 .simp[Value.ownBlock]at hg;subst hg;exact⟨_,a⟩
theorem gd {w:World} {base e size n:Nat} {v:Value} {xs:List Value} (h:w.ownsRow base e size v n xs) {g e':Nat} {cur:Array Value} (hh:w.heap[g]?=some (.cells cur e')) (hne:e'≠e): ¬v.ownBlock=some g:=by
 intro a;obtain⟨c,hc⟩:=zI h a;rw[hc]at hh;injection hh with hh;injection hh with h1 h2;exact hne h2.symm
theorem TcV.but {F:Nat->Prop} {w w':World} {base:Nat} {v:Value} {cs:List bP} (h:TcV w base v cs) (hb:But F w w') (hf: ∀g e cur,w.heap[g]?=some (.cells cur e)->(e=240\/e=5)->base<=g-> ¬F g):TcV w' base v cs:=by
 obtain⟨l,a,b,c⟩:=h;exact⟨l,bz a hb (λg cur hh hg=>hf g _ cur hh (Or.inl rfl) hg),b,λx hx=>bz (c x hx) hb (λg cur hh hg=>hf g _ cur hh (Or.inr rfl) hg)⟩
theorem TmV.but {F:Nat->Prop} {w w':World} {base:Nat} {v:Value} {ms:List Sig} (h:TmV w base v ms) (hb:But F w w') (hf: ∀g e cur,w.heap[g]?=some (.cells cur e)->(e=243)->base<=g-> ¬F g):TmV w' base v ms:=
 bz h hb (λg cur hh hg=>hf g _ cur hh rfl hg)
theorem TbV.but {F:Nat->Prop} {w w':World} {base:Nat} {v:Value} {bs:List bK} (h:TbV w base v bs) (hb:But F w w') (hf: ∀g e cur,w.heap[g]?=some (.cells cur e)->(e=115\/e=5\/e=219)->base<=g-> ¬F g):TbV w' base v bs:=by
 obtain⟨l,b,c,a⟩:=h;exact⟨l,bz b hb (λg cur hh hg=>hf g _ cur hh (Or.inl rfl) hg),c,λx hx=>⟨bz (a x hx).1 hb (λg cur hh hg=>hf g _ cur hh (Or.inr (Or.inl rfl)) hg),bz (a x hx).2 hb (λg cur hh hg=>hf g _ cur hh (Or.inr (Or.inr rfl)) hg)⟩⟩
theorem TcV.tx {w:World} {base b:Nat} {v:Value} {cs:List bP} (h:TcV w base v cs) (hc:w.cell? ⟨b,0,none⟩=some v) (hb:b<w.heap.size):TxC w b cs:=by
 obtain⟨l,a,c,d⟩:=h;exact⟨v,l,hc,hb,a.mono (Nat.zero_le _),c,λx hx=>dh (d x hx) (Nat.zero_le _)⟩
theorem TmV.tx {w:World} {base b:Nat} {v:Value} {ms:List Sig} (h:TmV w base v ms) (hc:w.cell? ⟨b,1,none⟩=some v) (hb:b<w.heap.size):TxM w b ms:=
 ⟨v,hc,hb,dh h (Nat.zero_le _)⟩
theorem TcV.len {w:World} {base:Nat} {v:Value} {cs:List bP} (h:TcV w base v cs): ∃ao cap,v= .slice ao cs.length cap:=by
 obtain⟨l,a,b,d⟩:=h;obtain⟨ao,cap,c⟩:=aA a;exact⟨ao,cap,by rw[c,<-b];simp⟩
end
end Go.Proofs.YtpfkkmacakjmbaaGreatDoor
