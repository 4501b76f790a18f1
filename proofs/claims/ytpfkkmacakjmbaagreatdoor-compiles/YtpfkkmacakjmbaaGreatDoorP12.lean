import Derived.Test.YtpfkkmacakjmbaaGreatDoorP11
import Derived.Test.YtpfkkmacakjmbaaGreatDoorP01
import Derived.Deep.Upon
set_option maxRecDepth 100000
set_option maxHeartbeats 6400000
set_option linter.all false
namespace Go.Proofs.YtpfkkmacakjmbaaGreatDoor
open Proofs.Tryz
section
open Go Go.RowKit Sp
attribute [local go_sem ↓] eY eZ
def kG (cs:List cd) (c:UInt8):Nat->UInt8->UInt8
 |0,_=>45
 |f+1,x=>if aK cs.length x=false then 45 else if gd cs c x=true then x else kG cs c f (kR cs x)
def mN (cs:List cd) (a c:UInt8):UInt8:=if gd cs a c=true then c else kG cs c cs.length a
theorem tM (b:Nat) (cs:List cd) (a c:UInt8) (w:World) (hn:cs.length<=100) (hT:TxC w b cs):
  Calls prog 205 #[.pointer (some ⟨b,0,none⟩),.int .u8 a.toNat,.int .u8 c.toNat] w λe w'=>e= .returned (.int .u8 (mN cs a c).toNat)/\w'=w:=by
 obtain⟨R,d⟩: ∃R,mN cs a c=R:=⟨_,rfl⟩;rw[d];unfold mN at d;have h:=mw b cs a c w hn hT
 by_cases hf0:gd cs a c=true
 .rw[if_pos hf0]at d;subst d;rw[hf0]at h;have t:=hid h;clear h hf0
  go_in
  go_wp2_with fail;refine t.out.mono ?_;rintro en w1 ⟨rfl,rfl⟩;go_wp2_with fail;go_ret;exact⟨rfl,rfl⟩
 rw[if_neg hf0]at d;have q:gd cs a c=false:=by simpa using hf0
 rw[q]at h;have t:=hid h;have g:=hid d;clear d h hf0 q;have D:=hT;obtain⟨v0,l,H,hl,I,hm,J⟩:=D;obtain⟨ao,cap,rfl⟩:=ay I;have B:l.length=cs.length:=by rw[<-hm];simp
 rw[B]at H;clear hm J I B;obtain⟨n,z⟩: ∃n,cs.length=n:=⟨_,rfl⟩;have C:=hid z;rw[z]at H hn;clear z
 go_in
 go_wp2_with fail;refine t.out.mono ?_;rintro en w1 ⟨rfl,rfl⟩;go_wp2_with fail;rw[C.out]at g
 go_loopg [7,8] n (λmm ls is wr=> ∃(x:UInt8) (k:Nat),ls= .int .u8 x.toNat/\is= .int .i64 k/\k<=n/\k+mm<=n/\n<=k+mm/\wr=w1/\Hid (kG cs c mm x=R))
 case atStart=>exact⟨a,0,rfl,rfl,by omega,by omega,by omega,rfl,g.out⟩
 case round=>
  obtain⟨x,k,rfl,rfl,L,E,M,G,m⟩:=hrel;subst G;have A:gk=n-k:=by omega
  rw[A]at m;clear A E
  by_cases hlt:k<n
  .have F:(k:Int)<(n:Int):=by omega
   rw[show n-k=(n-(k+1))+1 from by omega]at m;have f:=ju b cs x wr (by rw[C.out];exact hn) hT
   by_cases hl:aK cs.length x=true
   .rw[hl]at f;have p:=hid f;have j:=m.out;simp only[kG,hl,Bool.true_eq_false,if_false]at j;have i:=mw b cs c x wr (by rw[C.out];exact hn) hT
    by_cases hxc:gd cs c x=true
    .rw[if_pos hxc]at j;rw[hxc]at i;have v:=hid i;subst j;clear f hl hxc m g i;go_wp2_with fail;refine p.out.mono ?_;rintro en w1 ⟨rfl,rfl⟩;go_wp2_with fail;refine v.out.mono ?_;rintro en w1 ⟨rfl,rfl⟩;go_wp2_with fail;go_ret;exact⟨rfl,rfl⟩
    .rw[if_neg hxc]at j;have r:gd cs c x=false:=by simpa using hxc
     rw[r]at i;have v:=hid i;have s:=hid j;clear f hl hxc r m j g i;go_wp2_with fail;refine p.out.mono ?_;rintro en w1 ⟨rfl,rfl⟩;go_wp2_with fail;refine v.out.mono ?_;rintro en w1 ⟨rfl,rfl⟩;go_wp2_with fail;refine(qA b cs x w1 (by rw[C.out];exact hn) hT).mono ?_;rintro en O ⟨rfl,rfl⟩;revert s;generalize kR cs x=px;intro s;go_wp2_with fail
     go_roundg (n-(k+1))
     case measure=>omega
     case rel=>exact⟨px,k+1,rfl,by simp,by omega,by omega,by omega,rfl,s.out⟩
   .have y:aK cs.length x=false:=by simpa using hl
    rw[y]at f;have p:=hid f;have j:=m.out;simp only[kG,y,if_true]at j;subst j;clear f hl y m g;go_wp2_with fail;refine p.out.mono ?_;rintro en w1 ⟨rfl,rfl⟩;go_wp2_with fail;go_ret;exact⟨rfl,rfl⟩
  .have F: ¬(k:Int)<(n:Int):=by omega
   rw[show n-k=0 from by omega]at m;have j:45=R:=m.out;subst j;clear m g;go_wp2_with fail;go_ret;exact⟨rfl,rfl⟩
def toX (c:Cls):cd:=⟨if c.par<0 then 45 else UInt8.ofNat (65+c.par.toNat),c.fields⟩
theorem nP {cs:List Cls} (hw:WfC cs) (hn:cs.length<=4) {x:UInt8} (hx:aK cs.length x=true):(cU cs (kl x)<0/\kR (cs.map toX) x=45)\/(0<=cU cs (kl x)/\aK cs.length (kR (cs.map toX) x)=true/\kl (kR (cs.map toX) x)=cU cs (kl x)):=by
 have a:=hx;simp only[aK,dk,dg]at a;have b:(kl x).toNat=x.toNat-65:=by unfold kl;omega
 obtain⟨c,hc⟩: ∃c,cs[x.toNat-65]?=some c:=⟨_,aG (by omega)⟩;have hp:cU cs (kl x)=c.par:=by unfold cU;rw[b,hc];rfl
 have d:kR (cs.map toX) x=(toX c).par:=by
  unfold kR;rw[eF,if_pos hx,cV,hc]
  rfl
 have e:=hw _ _ hc;rw[hp,d];unfold toX
 by_cases h0:c.par<0
 .left;exact⟨h0,by simp[h0]⟩
 .right
  have hv:(UInt8.ofNat (65+c.par.toNat)).toNat=65+c.par.toNat:=by simp;omega
  simp only[if_neg h0];refine⟨by omega,?_,?_⟩
  .simp only[aK,hv,dk,dg];omega
  .unfold kl;rw[hv];omega
theorem sI {cs:List Cls} (hw:WfC cs) (hn:cs.length<=4) {n:Nat}:aK n 45=false:=by simp[aK]
theorem vx {cs:List Cls} (hw:WfC cs) (hn:cs.length<=4) {y:UInt8} (hy:aK cs.length y=true): ∀{f:Nat} {x:UInt8},aK cs.length x=true->kl x<f->f<=5->gJ (cs.map toX) y f x=bu cs 5 (kl x) (kl y):=by
 intro f
 induction f with
 |zero=>intro x b j _;simp only[aK,dk,dg]at b;unfold kl at j;omega
 |succ f ih=>
  intro x b j n;have g:=b;have i:=hy;simp only[aK,dk,dg]at g i;have r0:0<=kl x/\kl x<=3:=by unfold kl;omega
  rw[gJ,eF,b,if_neg (by simp)]
  by_cases he:x=y
  .subst he;rw[if_pos rfl,qm hw r0.1]
  .rw[if_neg he];have e:kl x≠kl y:=λh=>he (bJ (by unfold kl at h;omega))
   have a:=gF hw (y:=kl y) r0.1 (by omega);have m:=dX hw r0.1
   have d:bu cs 5 (kl x) (kl y)=bu cs 5 (cU cs (kl x)) (kl y):=by
    rw[Bool.eq_iff_iff,a]
    constructor
    .rintro(h|h)
     .exact absurd h e
     .exact h
    .exact Or.inr
   rw[d];obtain⟨k,c⟩ | ⟨k,c,l⟩:=nP hw hn b
   .rw[c,lH hw k]
    cases f with
    |zero=>rfl
    |succ f=>rw[gJ,eF,sI hw hn];rfl
   .rw[ih c (by rw[l];omega) (by omega),l]
theorem iH {cs:List Cls} (hw:WfC cs) (hn:cs.length<=4) {x:UInt8} (hx:okT cs.length x=true):isC x=aK cs.length x:=by
 rw[gr]at hx;rw[Bool.eq_iff_iff,bL];simp only[aK,dk,dg];omega
theorem zE {cs:List Cls} (hw:WfC cs) (hn:cs.length<=4) {y x:UInt8} {f:Nat} (h:aK cs.length x=false):gJ (cs.map toX) y f x=false:=by
 cases f with
 |zero=>rfl
 |succ f=>rw[gJ,eF,h];rfl
theorem rU {cs:List Cls} (hw:WfC cs) (hn:cs.length<=4) {y:UInt8} (hy:aK cs.length y=false): ∀{f:Nat} {x:UInt8},gJ (cs.map toX) y f x=false:=by
 intro f
 induction f with
 |zero=>intro x;rfl
 |succ f ih=>
  intro x;rw[gJ,eF]
  cases hx:aK cs.length x with
  |false=>simp
  |true=>
   rw[if_neg (by simp),if_neg (λh=>by rw[h,hy]at hx;cases hx)];exact ih
theorem kS {cs:List Cls} (hw:WfC cs) (hn:cs.length<=4) {a c:UInt8} (ha:okT cs.length a=true) (hc:okT cs.length c=true):gd (cs.map toX) a c=bj cs a c:=by
 rw[Bool.eq_iff_iff,aW];unfold gd;rw[iH hw hn ha,iH hw hn hc,eF]
 by_cases h1:a=c
 .simp[h1]
 by_cases h2:c.toNat=45
 .simp[h2]
 rw[if_neg (not_or.2 ⟨h1,h2⟩)];simp only[h1,h2,false_or]
 by_cases h3:a.toNat=122
 .rw[if_pos h3];have:aK cs.length a=false:=by simp only[aK,Bool.and_eq_false_iff,decide_eq_false_iff_not];omega
  simp[h3,this]
 .rw[if_neg h3];simp only[h3,and_false,false_or]
  cases hla:aK cs.length a with
  |false=>rw[zE hw hn hla];simp
  |true=>
   cases hlc:aK cs.length c with
   |false=>rw[rU hw hn hlc];simp
   |true=>
    have b:=hla;simp only[aK,dk,dg]at b;rw[vx hw hn hlc hla (by unfold kl;omega) (by omega)];simp
end
section
open Go Go.RowKit Sp
theorem tN {cs:List Cls} (hw:WfC cs) (hn:cs.length<=4) {x:UInt8} (h:aK cs.length x=true):okT cs.length x=true:=by
 rw[gr];simp only[aK,dk,dg]at h;omega
theorem vy {cs:List Cls} (hw:WfC cs) (hn:cs.length<=4) (x:UInt8):bj cs x 45=true:=aW.2 (Or.inr (Or.inl rfl))
theorem Ei {cs:List Cls} (hw:WfC cs) (hn:cs.length<=4) {x d:UInt8} (hx:aK cs.length x=true) (hne:x≠d) (h:bj cs x d=true):bj cs (kR (cs.map toX) x) d=true\/d.toNat=45:=by
 have b:=hx;simp only[aK,dk,dg]at b;rw[aW]at h;obtain h|h| ⟨_,h⟩ | ⟨h1,h2,h3⟩:=h
 .exact absurd h hne
 .exact Or.inr h
 .omega
 .left
  have r0:0<=kl x/\kl x<=3:=by unfold kl;omega
  obtain h|h:=(gF hw r0.1 (by omega)).1 h3
  .exact absurd (bJ (by unfold kl at h;omega)) hne
  .obtain⟨c,a⟩ | ⟨c,a,e⟩:=nP hw hn hx
   .rw[lH hw c]at h;cases h
   .rw[aW,e];exact Or.inr (Or.inr (Or.inr ⟨by rw[iH hw hn (tN hw hn a)];exact a,h2,h⟩))
theorem C7 {cs:List Cls} (hw:WfC cs) (hn:cs.length<=4) {x:UInt8} (hx:aK cs.length x=true):bj cs x (kR (cs.map toX) x)=true:=by
 have b:=hx;simp only[aK,dk,dg]at b;have r0:0<=kl x/\kl x<=3:=by unfold kl;omega
 obtain⟨c,a⟩ | ⟨c,a,d⟩:=nP hw hn hx
 .rw[a];exact vy hw hn x
 .rw[aW,d];refine Or.inr (Or.inr (Or.inr ⟨by rw[iH hw hn (tN hw hn hx)];exact hx,by rw[iH hw hn (tN hw hn a)];exact a,?_⟩));exact(gF hw r0.1 (by omega)).2 (Or.inr (qm hw c))
theorem xq {cs:List Cls} (hw:WfC cs) (hn:cs.length<=4) {c:UInt8} (hc:okT cs.length c=true): ∀{f:Nat} {x:UInt8},aK cs.length x=true->kl x<f->f<=5->
  bj cs x (kG (cs.map toX) c f x)=true/\bj cs c (kG (cs.map toX) c f x)=true/\ ∀d,bj cs x d=true->bj cs c d=true->bj cs (kG (cs.map toX) c f x) d=true:=by
 intro f
 induction f with
 |zero=>intro x a j _;simp only[aK,dk,dg]at a;unfold kl at j;omega
 |succ f ih=>
  intro x a j n;rw[kG,eF,a,if_neg (by simp),kS hw hn hc (tN hw hn a)]
  by_cases hs:bj cs c x=true
  .rw[if_pos hs];exact⟨gW _,hs,λd h _=>h⟩
  .rw[if_neg hs];have b:=λd (h:bj cs x d=true) (h':bj cs c d=true)=>Ei hw hn (d:=d) a (λe=>hs (by rw[e];exact h')) h
   obtain⟨k,g⟩ | ⟨k,g,l⟩:=nP hw hn a
   .have hm:kG (cs.map toX) c f (kR (cs.map toX) x)=45:=by
     rw[g]
     cases f with
     |zero=>rfl
     |succ f=>rw[kG,eF,sI hw hn];rfl
    rw[hm];refine⟨vy hw hn _,vy hw hn _,λd h h'=> ?_⟩;obtain h2|h2:=b d h h'
    .rw[g]at h2;exact h2
    .exact aW.2 (Or.inr (Or.inl h2))
   .have m:=dX hw (p:=kl x) (by simp only[aK,dk,dg]at a;unfold kl;omega);have i:=ih g (by rw[l];omega) (by omega);refine⟨mX hw (C7 hw hn a) i.1,i.2.1,λd h h'=> ?_⟩;obtain h2|h2:=b d h h'
    .exact i.2.2 d h2 h'
    .exact aW.2 (Or.inr (Or.inl h2))
theorem vz {cs:List Cls} (hw:WfC cs) (hn:cs.length<=4) {a c:UInt8} (ha:okT cs.length a=true) (hc:okT cs.length c=true):mN (cs.map toX) a c=eG cs a c:=by
 have e:=mg hw a c
 suffices h:bj cs a (mN (cs.map toX) a c)=true/\bj cs c (mN (cs.map toX) a c)=true/\ ∀d,bj cs a d=true->bj cs c d=true->bj cs (mN (cs.map toX) a c) d=true by
  exact yO hw (h.2.2 _ e.1 e.2.1) (e.2.2 _ h.1 h.2.1)
 unfold mN;rw[kS hw hn ha hc]
 by_cases h1:bj cs a c=true
 .rw[if_pos h1];exact⟨h1,gW _,λd _ h=>h⟩
 rw[if_neg h1,eF]
 cases hl:aK cs.length a with
 |true=>
  have g:=hl;simp only[aK,dk,dg]at g;exact xq hw hn hc hl (by unfold kl;omega) (by omega)
 |false=>
  have hm:kG (cs.map toX) c cs.length a=45:=by
   cases hf:cs.length with
   |zero=>rfl
   |succ f=>rw[kG,eF,hl];rfl
  rw[hm];refine⟨vy hw hn _,vy hw hn _,λd h h'=> ?_⟩;have b:isC a=false:=by rw[iH hw hn ha];exact hl
  rw[aW]at h h'
  apply aW.2
  right;left
  obtain rfl|h| ⟨p1,p2⟩ | ⟨p1,_⟩:=h
  .rw[gr]at ha;obtain h'|h'| ⟨q1,_⟩ | ⟨_,q1,_⟩:=h'
   .exact absurd (aW.2 (Or.inl h'.symm)) h1
   .exact h'
   .rw[b]at q1;cases q1
   .rw[b]at q1;cases q1
  .exact h
  .obtain rfl|h'| ⟨q1,q2⟩ | ⟨q1,_⟩:=h'
   .exact absurd (aW.2 (Or.inr (Or.inr (Or.inl ⟨p1,p2⟩)))) h1
   .exact h'
   .exact absurd (aW.2 (Or.inl (bJ (by omega)))) h1
   .exact absurd (aW.2 (Or.inr (Or.inr (Or.inl ⟨q1,p2⟩)))) h1
  .rw[b]at p1;cases p1
end
section
open Go Go.RowKit Sp
attribute [local go_sem ↓] eY eZ
theorem xt (b:Nat) (s:ByteArray) (i:Nat) (v0 v1:Value) (v2:RdV) (w:World) (most n:Nat) (e:UInt8) (he:0<e.toNat) (hm:most<=10) (hs:s.size<=2000) (hR:XrB w b s i true v0 v1 v2):
  Calls prog 216 #[.pointer (some ⟨b,0,none⟩),.int .i64 most,.int .i64 n,.int .u8 e.toNat] w λen w'=>But (· =b) w w'/\en= .returned (.slice (some ⟨w.heap.size,0,none⟩) 0 0)/\XrB w' b s i true v0 v1 v2/\BtB w' w.heap.size (.slice (some ⟨w.heap.size,0,none⟩) 0 0) []:=by
 go_in
 go_wp2_with fail;have f:But (· =b) w (w.alloc (.cells #[] 5)):=aa _ _ _;have a:XrB (w.alloc (.cells #[] 5)) b s i true v0 v1 v2:=hR.but (aa (λ_=>False) _ _) (λh=>h);have y:=hR.lt;have l:=BtB.empty w;revert f a l;generalize (w.alloc (.cells #[] 5))=W;intro f a l
 go_loopg [9] 0 (λmm vs wr=>vs= .slice (some ⟨w.heap.size,0,none⟩) 0 0/\wr=W)
 case atStart=>exact⟨rfl,rfl⟩
 case round=>
  obtain⟨rfl,q⟩:=hrel;subst q
  have d: ∀(w1:World),But (· =b) wr w1->XrB w1 b s (tkP s e i true).1 (tkP s e i true).2 v0 v1 v2->But (· =b) w w1/\XrB w1 b s i true v0 v1 v2/\BtB w1 w.heap.size (.slice (some ⟨w.heap.size,0,none⟩) 0 0) []:=by
   intro w1 v x;rw[show tkP s e i true=(i,true)from by unfold tkP;rw[if_neg (by simp)]]at x;exact⟨f.trans v,x,l.but v (λg hg h=>by have:=aw l g hg;omega)⟩
  have t:=hid d;clear d
  by_cases hlt:(0:Int)<(most:Int)
  .have c:=d6 b s i true v0 v1 v2 wr e a;rw[show(!true&& !decide (pk s i=e))=false from rfl]at c;have p:=hid c;clear c;go_wp2_with fail;refine p.out.mono ?_;rintro en w1 ⟨rfl,m,rfl⟩;go_wp2_with fail;refine(eJ b s i true v0 v1 v2 _ e he hs (a.drewN m)).mono ?_;rintro en r ⟨rfl,j,k⟩;go_wp2_with fail;exact eh (.slice (some ⟨w.heap.size,0,none⟩) 0 0) results216 rfl rfl (have h:=t.out r ((aH _ _ _).trans j) k;⟨h.1,rfl,h.2⟩)
  .go_wp2_with fail;refine(eJ b s i true v0 v1 v2 _ e he hs a).mono ?_;rintro en r ⟨rfl,j,k⟩;go_wp2_with fail;exact eh (.slice (some ⟨w.heap.size,0,none⟩) 0 0) results216 rfl rfl (have h:=t.out r j k;⟨h.1,rfl,h.2⟩)
def dE (cs:List cd) (a c:UInt8):Bool:=if c.toNat=38 then(decide (a.toNat=122)||aK cs.length a)else gd cs a c
theorem xu (b:Nat) (cs:List cd) (a c:UInt8) (w:World) (hn:cs.length<=100) (hT:TxC w b cs):
  Calls prog 204 #[.pointer (some ⟨b,0,none⟩),.int .u8 a.toNat,.int .u8 c.toNat] w λe w'=>e= .returned (.bool (dE cs a c))/\w'=w:=by
 by_cases h1:c.toNat=38
 .have d:((c.toNat:Int)==38)=true:=by rw[aX];omega
  by_cases h2:a.toNat=122
  .have f:((a.toNat:Int)==122)=true:=by rw[aX];omega
   rw[show dE cs a c=true from by unfold dE;rw[if_pos h1];simp[h2]];clear h1 h2
   go_in
   go_wp2_with fail;go_ret;exact⟨rfl,rfl⟩
  .have f:=tf a.toNat 122 (by omega);rw[show dE cs a c=aK cs.length a from by unfold dE;rw[if_pos h1];simp[h2]];clear h1 h2
   go_in
   go_wp2_with fail;refine(ju b cs a w hn hT).mono ?_;rintro en w1 ⟨rfl,rfl⟩;go_wp2_with fail;go_ret;exact⟨rfl,rfl⟩
 .have d:=tf c.toNat 38 (by omega);rw[show dE cs a c=gd cs a c from by unfold dE;rw[if_neg h1]];clear h1
  go_in
  go_wp2_with fail;refine(mw b cs a c w hn hT).mono ?_;rintro en w1 ⟨rfl,rfl⟩;go_wp2_with fail;go_ret;exact⟨rfl,rfl⟩
def TxM (w:World) (b:Nat) (ms:List Sig):Prop:=
 ∃v1,w.cell? ⟨b,1,none⟩=some v1/\b<w.heap.size/\w.ownsRow 0 243 2 v1 ms.length (dj ms)
theorem TxM.but {w w':World} {b:Nat} {ms:List Sig} (h:TxM w b ms) (hb:B_ w w'):TxM w' b ms:=by
 obtain⟨v1,a,hl,c⟩:=h;exact⟨v1,hb.kc a hl,bK hl hb.size,ag c hb (λ_ _ h=>h)⟩
def dO (ms:List Sig) (k:Nat):Sig:=(ms[k]?).getD ⟨45,45⟩
theorem iQ (b:Nat) (ms:List Sig) (k:Nat) (w:World) (hn:ms.length<=100) (hT:TxM w b ms):
  Calls prog 191 #[.pointer (some ⟨b,0,none⟩),.int .i64 k] w λe w'=>e= .returned (.agg #[.int .u8 (dO ms k).arg.toNat,.int .u8 (dO ms k).ret.toNat])/\B_ w w':=by
 obtain⟨v1,p,hl,c⟩:=hT;obtain⟨ao,cap,rfl⟩:=ay c;have m: ¬(k:Int)<0:=by omega
 by_cases hk:k<ms.length
 .have d:=aG hk;rw[show dO ms k=ms[k]from by unfold dO;rw[d];rfl];obtain⟨g,rfl,j,l,a⟩:=aE c (by omega);have h:w.cell? ⟨g,k*2,none⟩=some (.int .u8 ms[k].arg.toNat):=a _ _ (gR (k:=0) d (by omega));have i:w.cell? ⟨g,k*2+1,none⟩=some (.int .u8 ms[k].ret.toNat):=a _ _ (gR (k:=1) d (by omega));have f: ¬(ms.length:Int)<=(k:Int):=by omega
  have n:(k:Int)<(ms.length:Int):=by omega
  revert h i;generalize ms[k]=X;intro h i;clear a d c
  go_in
  go_wp2
  exact cA (v:= .agg #[.int .u8 X.arg.toNat,.int .u8 X.ret.toNat]) (by simp[results,results191,go_sem]) rfl ⟨rfl,aa _ _ _⟩
 .rw[show dO ms k=⟨45,45⟩from by unfold dO;rw[List.getElem?_eq_none (by omega)];rfl];have f:(ms.length:Int)<=(k:Int):=by omega
  clear c
  go_in
  go_wp2
  exact cA (v:= .agg #[.int .u8 45,.int .u8 45]) (by simp[results,results191,go_sem]) rfl ⟨rfl,aa _ _ _⟩
end
section
open Go Go.RowKit Sp
theorem zF (w:World) (x y:Int):(Instr.field 243 (.agg #[.int .u8 x,.int .u8 y]) 1).run prog w= .ok (.int .u8 y) w:=by
 simp[Instr.field,asAgg];go_simp
end
section
open Go Go.RowKit Sp
attribute [local go_sem ↓] eY eZ
def bC (cs:List cd) (ms:List Sig) (c k:UInt8) (n:Nat) (lo:L_):UInt8:=
 if c.toNat=107\/c.toNat=114\/c.toNat=43\/c.toNat=45\/c.toNat=42\/c.toNat=47\/c.toNat=60\/c.toNat=61\/c.toNat=101 then 105 else
 if c.toNat=108 then cM lo n else if c.toNat=110\/c.toNat=120 then k else if c.toNat=122 then 122 else
 if c.toNat=103 then cM (cD cs k) n else if c.toNat=99 then(dO ms n).ret else 0
theorem zG (b:Nat) (cs:List cd) (ms:List Sig) (p n:Nat) (c k:UInt8) (ao:Option Addr) (cap:Nat) (lo:L_) (w:World) {ap:Option Addr} {np cp:Nat} (hn:cs.length<=100) (hm:ms.length<=100) (hT:TxC w b cs) (hM:TxM w b ms) (hB:BtB w 0 (.slice ao lo.length cap) lo):
  Calls prog 198 #[.pointer (some ⟨b,0,none⟩),.agg #[.int .i64 p,.int .u8 c.toNat,.int .u8 k.toNat,.int .i64 n,.slice ap np cp],.slice ao lo.length cap] w λe w'=>e= .returned (.int .u8 (bC cs ms c k n lo).toNat)/\B_ w w':=by
 by_cases h107:c.toNat=107
 .have hc:c=107:=bJ h107;subst hc;rw[show bC cs ms 107 k n lo=105 from by simp[bC]]
  go_in
  go_wp2_with fail;go_ret;exact⟨rfl,aa _ _ _⟩
 by_cases h114:c.toNat=114
 .have hc:c=114:=bJ h114;subst hc;rw[show bC cs ms 114 k n lo=105 from by simp[bC]]
  go_in
  go_wp2_with fail;go_ret;exact⟨rfl,aa _ _ _⟩
 by_cases h43:c.toNat=43
 .have hc:c=43:=bJ h43;subst hc;rw[show bC cs ms 43 k n lo=105 from by simp[bC]]
  go_in
  go_wp2_with fail;go_ret;exact⟨rfl,aa _ _ _⟩
 by_cases h45:c.toNat=45
 .have hc:c=45:=bJ h45;subst hc;rw[show bC cs ms 45 k n lo=105 from by simp[bC]]
  go_in
  go_wp2_with fail;go_ret;exact⟨rfl,aa _ _ _⟩
 by_cases h42:c.toNat=42
 .have hc:c=42:=bJ h42;subst hc;rw[show bC cs ms 42 k n lo=105 from by simp[bC]]
  go_in
  go_wp2_with fail;go_ret;exact⟨rfl,aa _ _ _⟩
 by_cases h47:c.toNat=47
 .have hc:c=47:=bJ h47;subst hc;rw[show bC cs ms 47 k n lo=105 from by simp[bC]]
  go_in
  go_wp2_with fail;go_ret;exact⟨rfl,aa _ _ _⟩
 by_cases h60:c.toNat=60
 .have hc:c=60:=bJ h60;subst hc;rw[show bC cs ms 60 k n lo=105 from by simp[bC]]
  go_in
  go_wp2_with fail;go_ret;exact⟨rfl,aa _ _ _⟩
 by_cases h61:c.toNat=61
 .have hc:c=61:=bJ h61;subst hc;rw[show bC cs ms 61 k n lo=105 from by simp[bC]]
  go_in
  go_wp2_with fail;go_ret;exact⟨rfl,aa _ _ _⟩
 by_cases h101:c.toNat=101
 .have hc:c=101:=bJ h101;subst hc;rw[show bC cs ms 101 k n lo=105 from by simp[bC]]
  go_in
  go_wp2_with fail;go_ret;exact⟨rfl,aa _ _ _⟩
 by_cases h108:c.toNat=108
 .have hc:c=108:=bJ h108;subst hc;rw[show bC cs ms 108 k n lo=cM lo n from by simp[bC]];have HT:=hid (λ(wx:World) (h:B_ w wx)=>d7 ao cap lo n wx (hB.but h (λ_ _ h=>h)))
  go_in
  go_wp2_with fail;refine(HT.out _ (aa _ _ _)).mono ?_;rintro en w1 ⟨rfl,rfl⟩;go_wp2_with fail;go_ret;exact⟨rfl,aa _ _ _⟩
 by_cases h110:c.toNat=110
 .have hc:c=110:=bJ h110;subst hc;rw[show bC cs ms 110 k n lo=k from by simp[bC]]
  go_in
  go_wp2_with fail;go_ret;exact⟨rfl,aa _ _ _⟩
 by_cases h120:c.toNat=120
 .have hc:c=120:=bJ h120;subst hc;rw[show bC cs ms 120 k n lo=k from by simp[bC]]
  go_in
  go_wp2_with fail;go_ret;exact⟨rfl,aa _ _ _⟩
 by_cases h122:c.toNat=122
 .have hc:c=122:=bJ h122;subst hc;rw[show bC cs ms 122 k n lo=122 from by simp[bC]]
  go_in
  go_wp2_with fail;go_ret;exact⟨rfl,aa _ _ _⟩
 by_cases h103:c.toNat=103
 .have hc:c=103:=bJ h103;subst hc;rw[show bC cs ms 103 k n lo=cM (cD cs k) n from by simp[bC]];have HT:=hid (λ(wx:World) (h:B_ w wx)=>tL b cs k n wx hn (hT.but h))
  go_in
  go_wp2_with fail;refine(HT.out _ (aa _ _ _)).mono ?_;rintro en w1 ⟨rfl,rfl⟩;go_wp2_with fail;go_ret;exact⟨rfl,aa _ _ _⟩
 by_cases h99:c.toNat=99
 .have hc:c=99:=bJ h99;subst hc;rw[show bC cs ms 99 k n lo=(dO ms n).ret from by simp[bC]];have HT:=hid (λ(wx:World) (h:B_ w wx)=>iQ b ms n wx hm (hM.but h))
  go_in
  go_wp2_with fail;refine(HT.out _ (aa _ _ _)).mono ?_;rintro en w1 ⟨rfl,a⟩;have A:=λwx=>zF wx ((dO ms n).arg.toNat:Int) ((dO ms n).ret.toNat:Int)
  go_wp2_with fail;go_ret;exact⟨rfl,(aa _ _ _).trans a⟩
 rw[show bC cs ms c k n lo=0 from by simp[bC,h107,h114,h43,h45,h42,h47,h60,h61,h101,h108,h110,h120,h122,h103,h99]];have g:=tf c.toNat 107 (by omega);have l:=tf c.toNat 114 (by omega);have s:=tf c.toNat 43 (by omega);have t:=tf c.toNat 45 (by omega);have r:=tf c.toNat 42 (by omega);have v:=tf c.toNat 47 (by omega);have x:=tf c.toNat 60 (by omega);have y:=tf c.toNat 61 (by omega);have d:=tf c.toNat 101 (by omega);have i:=tf c.toNat 108 (by omega);have j:=tf c.toNat 110 (by omega);have m:=tf c.toNat 120 (by omega);have q:=tf c.toNat 122 (by omega);have f:=tf c.toNat 103 (by omega);have z:=tf c.toNat 99 (by omega)
 clear h107 h114 h43 h45 h42 h47 h60 h61 h101 h108 h110 h120 h122 h103 h99
 go_in
 go_wp2_with fail;go_ret;exact⟨rfl,aa _ _ _⟩
theorem BtB.lit (W:World) (base:Nat) (hb:base<=W.heap.size) (l:L_) (hl:l.length<=100):BtB (W.alloc (.cells (a7 l).toArray 5)) base (.slice (some ⟨W.heap.size,0,none⟩) l.length l.length) l:=
 ⟨by simp[a7],Or.inr ⟨W.heap.size,l.length,_,rfl,hb,aO _ _,bP _,by unfold maxLen;omega,by simp[a7],by simp only[Nat.mul_one];exact fd (by simp[a7])⟩⟩
theorem BtB.lit2 (w:World) (o:Obj) (l:L_) (hl:l.length<=100):BtB ((w.alloc o).alloc (.cells (a7 l).toArray 5)) w.heap.size (.slice (some ⟨w.heap.size+1,0,none⟩) l.length l.length) l:=by
 have h:=BtB.lit (w.alloc o) w.heap.size (aa (λ_=>False) w o).size l hl;have a:(w.alloc o).heap.size=w.heap.size+1:=Array.size_push _;rw[a]at h;exact h
def aS (cs:List cd) (ms:List Sig) (c k:UInt8) (n:Nat) (ans:UInt8):L_:=
 if c.toNat=119\/c.toNat=102 then [105]else if c.toNat=115\/c.toNat=100 then [45]else
 if c.toNat=43\/c.toNat=45\/c.toNat=42\/c.toNat=47\/c.toNat=60\/c.toNat=61 then [105,105]else
 if c.toNat=101 then [38,38]else if c.toNat=103 then [k]else if c.toNat=112 then [k,cM (cD cs k) n]else
 if c.toNat=99 then [k,(dO ms n).arg]else if c.toNat=120 then [38]else if c.toNat=116 then [ans]else []
theorem tO (b:Nat) (cs:List cd) (ms:List Sig) (p n:Nat) (c k ans:UInt8) (w:World) {ap:Option Addr} {np cp:Nat} (h112:c.toNat≠112) (h99:c.toNat≠99):
  Calls prog 140 #[.pointer (some ⟨b,0,none⟩),.agg #[.int .i64 p,.int .u8 c.toNat,.int .u8 k.toNat,.int .i64 n,.slice ap np cp],.int .u8 ans.toNat] w λe w'=>B_ w w'/\ ∃v,e= .returned v/\BtB w' w.heap.size v (aS cs ms c k n ans):=by
 by_cases h119:c.toNat=119
 .have hc:c=119:=bJ h119;subst hc;rw[show aS cs ms 119 k n ans=[105]from by simp[aS]];clear h112 h99
  go_in
  go_wp2_with fail;exact eh (.slice (some ⟨w.heap.size+1,0,none⟩) 1 1) results140 rfl rfl ⟨(aa _ _ _).trans (aa _ _ _),_,rfl,BtB.lit2 w _ [105] (by simp)⟩
 by_cases h102:c.toNat=102
 .have hc:c=102:=bJ h102;subst hc;rw[show aS cs ms 102 k n ans=[105]from by simp[aS]];clear h112 h99
  go_in
  go_wp2_with fail;exact eh (.slice (some ⟨w.heap.size+1,0,none⟩) 1 1) results140 rfl rfl ⟨(aa _ _ _).trans (aa _ _ _),_,rfl,BtB.lit2 w _ [105] (by simp)⟩
 by_cases h115:c.toNat=115
 .have hc:c=115:=bJ h115;subst hc;rw[show aS cs ms 115 k n ans=[45]from by simp[aS]];clear h112 h99
  go_in
  go_wp2_with fail;exact eh (.slice (some ⟨w.heap.size+1,0,none⟩) 1 1) results140 rfl rfl ⟨(aa _ _ _).trans (aa _ _ _),_,rfl,BtB.lit2 w _ [45] (by simp)⟩
 by_cases h100:c.toNat=100
 .have hc:c=100:=bJ h100;subst hc;rw[show aS cs ms 100 k n ans=[45]from by simp[aS]];clear h112 h99
  go_in
  go_wp2_with fail;exact eh (.slice (some ⟨w.heap.size+1,0,none⟩) 1 1) results140 rfl rfl ⟨(aa _ _ _).trans (aa _ _ _),_,rfl,BtB.lit2 w _ [45] (by simp)⟩
 by_cases h101:c.toNat=101
 .have hc:c=101:=bJ h101;subst hc;rw[show aS cs ms 101 k n ans=[38,38]from by simp[aS]];clear h112 h99
  go_in
  go_wp2_with fail;exact eh (.slice (some ⟨w.heap.size+1,0,none⟩) 2 2) results140 rfl rfl ⟨(aa _ _ _).trans (aa _ _ _),_,rfl,BtB.lit2 w _ [38,38] (by simp)⟩
 by_cases h103:c.toNat=103
 .have hc:c=103:=bJ h103;subst hc;rw[show aS cs ms 103 k n ans=[k]from by simp[aS]];clear h112 h99
  go_in
  go_wp2_with fail;exact eh (.slice (some ⟨w.heap.size+1,0,none⟩) 1 1) results140 rfl rfl ⟨(aa _ _ _).trans (aa _ _ _),_,rfl,BtB.lit2 w _ [k] (by simp)⟩
 by_cases h120:c.toNat=120
 .have hc:c=120:=bJ h120;subst hc;rw[show aS cs ms 120 k n ans=[38]from by simp[aS]];clear h112 h99
  go_in
  go_wp2_with fail;exact eh (.slice (some ⟨w.heap.size+1,0,none⟩) 1 1) results140 rfl rfl ⟨(aa _ _ _).trans (aa _ _ _),_,rfl,BtB.lit2 w _ [38] (by simp)⟩
 by_cases h116:c.toNat=116
 .have hc:c=116:=bJ h116;subst hc;rw[show aS cs ms 116 k n ans=[ans]from by simp[aS]];clear h112 h99
  go_in
  go_wp2_with fail;exact eh (.slice (some ⟨w.heap.size+1,0,none⟩) 1 1) results140 rfl rfl ⟨(aa _ _ _).trans (aa _ _ _),_,rfl,BtB.lit2 w _ [ans] (by simp)⟩
 by_cases h43:c.toNat=43
 .have hc:c=43:=bJ h43;subst hc;rw[show aS cs ms 43 k n ans=[105,105]from by simp[aS]];clear h112 h99
  go_in
  go_wp2_with fail;exact eh (.slice (some ⟨w.heap.size+1,0,none⟩) 2 2) results140 rfl rfl ⟨(aa _ _ _).trans (aa _ _ _),_,rfl,BtB.lit2 w _ [105,105] (by simp)⟩
 by_cases h45:c.toNat=45
 .have hc:c=45:=bJ h45;subst hc;rw[show aS cs ms 45 k n ans=[105,105]from by simp[aS]];clear h112 h99
  go_in
  go_wp2_with fail;exact eh (.slice (some ⟨w.heap.size+1,0,none⟩) 2 2) results140 rfl rfl ⟨(aa _ _ _).trans (aa _ _ _),_,rfl,BtB.lit2 w _ [105,105] (by simp)⟩
 by_cases h42:c.toNat=42
 .have hc:c=42:=bJ h42;subst hc;rw[show aS cs ms 42 k n ans=[105,105]from by simp[aS]];clear h112 h99
  go_in
  go_wp2_with fail;exact eh (.slice (some ⟨w.heap.size+1,0,none⟩) 2 2) results140 rfl rfl ⟨(aa _ _ _).trans (aa _ _ _),_,rfl,BtB.lit2 w _ [105,105] (by simp)⟩
 by_cases h47:c.toNat=47
 .have hc:c=47:=bJ h47;subst hc;rw[show aS cs ms 47 k n ans=[105,105]from by simp[aS]];clear h112 h99
  go_in
  go_wp2_with fail;exact eh (.slice (some ⟨w.heap.size+1,0,none⟩) 2 2) results140 rfl rfl ⟨(aa _ _ _).trans (aa _ _ _),_,rfl,BtB.lit2 w _ [105,105] (by simp)⟩
 by_cases h60:c.toNat=60
 .have hc:c=60:=bJ h60;subst hc;rw[show aS cs ms 60 k n ans=[105,105]from by simp[aS]];clear h112 h99
  go_in
  go_wp2_with fail;exact eh (.slice (some ⟨w.heap.size+1,0,none⟩) 2 2) results140 rfl rfl ⟨(aa _ _ _).trans (aa _ _ _),_,rfl,BtB.lit2 w _ [105,105] (by simp)⟩
 by_cases h61:c.toNat=61
 .have hc:c=61:=bJ h61;subst hc;rw[show aS cs ms 61 k n ans=[105,105]from by simp[aS]];clear h112 h99
  go_in
  go_wp2_with fail;exact eh (.slice (some ⟨w.heap.size+1,0,none⟩) 2 2) results140 rfl rfl ⟨(aa _ _ _).trans (aa _ _ _),_,rfl,BtB.lit2 w _ [105,105] (by simp)⟩
 rw[show aS cs ms c k n ans=[]from by simp[aS,h119,h102,h115,h100,h101,h103,h120,h116,h43,h45,h42,h47,h60,h61,h112,h99]];have l:=tf c.toNat 119 (by omega);have f:=tf c.toNat 102 (by omega);have i:=tf c.toNat 115 (by omega);have a:=tf c.toNat 100 (by omega);have d:=tf c.toNat 101 (by omega);have g:=tf c.toNat 103 (by omega);have m:=tf c.toNat 120 (by omega);have j:=tf c.toNat 116 (by omega);have r:=tf c.toNat 43 (by omega);have s:=tf c.toNat 45 (by omega);have q:=tf c.toNat 42 (by omega);have t:=tf c.toNat 47 (by omega);have x:=tf c.toNat 60 (by omega);have y:=tf c.toNat 61 (by omega);have h:=tf c.toNat 112 (by omega)
 have z:=tf c.toNat 99 (by omega);clear h119 h102 h115 h100 h101 h103 h120 h116 h43 h45 h42 h47 h60 h61 h112 h99
 go_in
 go_wp2_with fail;exact eh (.slice (some ⟨w.heap.size+1,0,none⟩) 0 0) results140 rfl rfl ⟨(aa _ _ _).trans (aa _ _ _),_,rfl,BtB.lit2 w _ [] (by simp)⟩
theorem vA (l:L_): ∀u∈a7 l,u.oneCell'=true:=by
 intro u a;obtain⟨c,_,rfl⟩:=List.mem_map.1 a
 rfl
theorem qB (w:World) (ty:TypeId) (base bx:Nat) (v xv:Value) (l m:L_) (hown:BtB w base v l) (hx:BtB w bx xv m) (hlen:l.length+m.length<=100000) (hbase:base<=w.heap.size):
  ∃v' w',(Builtin.append_ #[112,112] ty #[v,xv]).run prog w= .ok v' w'/\BtB w' base v' (l++m)/\But (λk=>v.ownBlock=some k) w w'/\(v'.ownBlock=v.ownBlock\/v'.ownBlock=some w.heap.size):=by
 obtain⟨s,d,q,f,r⟩:=info_parts nN;have p:prog.underlying 112=some (.slice 5):=by kernel_rfl
 obtain⟨ax,cx,rfl⟩:=ay hx
 cases ax with
 |none=>
  have hm:m.length=0:=by
   obtain h|h:=Nat.eq_zero_or_pos m.length
   .exact h
   .obtain⟨g,A,_⟩:=aE hx h
    cases A
  have n:m=[]:=List.length_eq_zero_iff.1 hm;subst n
  have hc: ∃ao cap,v= .slice ao l.length cap/\l.length<=cap:=by
   obtain⟨rfl,t⟩ | ⟨g,cap,cur,rfl,_,_,c,_⟩:=hown.2
   .exact⟨none,0,by rw[t],by omega⟩
   .exact⟨_,cap,rfl,c⟩
  obtain⟨ao,cap,rfl,c⟩:=hc;refine⟨_,w,run_append_nothing w _ _ ty 5 s p d ao l.length cap c _ (by rw[f];exact Src.ofNil w p cx),by simpa using hown,bf _ _,Or.inl rfl⟩
 |some ad=>
  have b: ∀j u,(a7 m)[j]?=some u->w.cell? (ad.add j)=some u:=by
   intro j u B;obtain⟨g,cap',hv,hc,_⟩:=jC hx B
   have x:ad=⟨g,0,none⟩:=by
    have i:=congrArg (λv=>match v with|Value.slice a _ _=>a|_=>none) hv;exact Option.some.inj i
   rw[x];have e:(⟨g,0,none⟩:Addr).add j=⟨g,j,none⟩:=by simp[Addr.add];exact λh=>h.symm
   rw[e];exact hc
  obtain⟨v',w',C,i,y,_,z⟩:=run_append_own_at (P:=prog) w base _ ty 5 s _ 1 1 p d q f r rfl (by omega) v l.length (a7 l) hown ad m.length cx (a7 m) (by simp[a7]) b (vA m) (by unfold maxLen;omega) (by omega) hbase;refine⟨v',w',C,?_,a8 y,z⟩;unfold BtB;rw[aN,a7,List.map_append];exact i
theorem kh {w:World} {ops:Array Oper} {rest:List Oper} {o:Oper} {a:Act} {Q:Exit->Act->World->Prop} (hgd:o.guard=none) (s x:Operand)
  (ho:o.op= .call {callee:= .builtin .append,args:=#[s,x],argTypes:=#[112,112]}) (base bx:Nat) (v xv:Value) (l m:L_) (hs:a.eval s=v) (hx:a.eval x=xv) (hown:BtB w base v l) (hxo:BtB w bx xv m) (hlen:l.length+m.length<=100000) (hbase:base<=w.heap.size)
  (h: ∀ao cap w',BtB w' base (.slice ao (l++m).length cap) (l++m)->But (λk=>v.ownBlock=some k) w w'->((Value.slice ao (l++m).length cap).ownBlock=v.ownBlock\/(Value.slice ao (l++m).length cap).ownBlock=some w.heap.size)->wpList prog ops Q rest (a.put o.dst (.slice ao (l++m).length cap)) w'):wpList prog ops Q (o::rest) a w:=by
 refine wpList_plain hgd λK hK=> ?_
 obtain⟨v',w',e,b,c,d⟩:=qB w o.type base bx v xv l m hown hxo hlen hbase;obtain⟨ao,cap,rfl⟩:=ay b;unfold Oper.wp execOp;simp only[ho,resolve,invoke,builtin,Sem.run_bind,Sem.run_pure,Result.andThen_ok,List.map_toArray,List.map_cons,List.map_nil,hs,hx,e];exact hK _ _ (h ao cap w' b c d)
structure XIt where
 place:Nat
 op:UInt8
 cls:UInt8
 num:Nat
 pa:Option Addr
 pn:Nat
 pc:Nat
structure cZ where
 cls:UInt8
 meth:Nat
 ans:UInt8
 zy:L_
 items:List XIt
def ck (l:List XIt):List Value:=l.flatMap λx=> [.int .i64 x.place,.int .u8 x.op.toNat,.int .u8 x.cls.toNat,.int .i64 x.num,.slice x.pa x.pn x.pc]
def mx (l:List (cZ×Value×Value)):List Value:=l.flatMap λx=> [.int .u8 x.1.cls.toNat,.int .i64 x.1.meth,.int .u8 x.1.ans.toNat,x.2.1,x.2.2]
theorem jv (l:List XIt) (x:XIt):ck (l++ [x])=ck l++ [.int .i64 x.place,.int .u8 x.op.toNat,.int .u8 x.cls.toNat,.int .i64 x.num,.slice x.pa x.pn x.pc]:=by simp[ck]
theorem tP (l:List (cZ×Value×Value)) (x:cZ×Value×Value):mx (l++ [x])=mx l++ [.int .u8 x.1.cls.toNat,.int .i64 x.1.meth,.int .u8 x.1.ans.toNat,x.2.1,x.2.2]:=by simp[mx]
theorem tQ (l:List (cd×Value)) (x:cd×Value):jt (l++ [x])=jt l++ [.int .u8 x.1.par.toNat,x.2]:=by simp[jt]
theorem bq {l:List XIt} {j k:Nat} {x:XIt} (h:l[j]?=some x) (hk:k<5):(ck l)[j*5+k]?=[Value.int .i64 x.place,.int .u8 x.op.toNat,.int .u8 x.cls.toNat,.int .i64 x.num,.slice x.pa x.pn x.pc][k]?:=
 fN (λx:XIt=> [Value.int .i64 x.place,.int .u8 x.op.toNat,.int .u8 x.cls.toNat,.int .i64 x.num,.slice x.pa x.pn x.pc]) 5 (λ_=>rfl) l j k x h hk
theorem dr {l:List (cZ×Value×Value)} {j k:Nat} {x:cZ×Value×Value} (h:l[j]?=some x) (hk:k<5):(mx l)[j*5+k]?=[Value.int .u8 x.1.cls.toNat,.int .i64 x.1.meth,.int .u8 x.1.ans.toNat,x.2.1,x.2.2][k]?:=
 fN (λx:cZ×Value×Value=> [Value.int .u8 x.1.cls.toNat,.int .i64 x.1.meth,.int .u8 x.1.ans.toNat,x.2.1,x.2.2]) 5 (λ_=>rfl) l j k x h hk
theorem vB (l:List XIt):(ck l).length=l.length*5:=by
 induction l with
 |nil=>rfl
 |cons x l ih=>simp[ck]at ih⊢;omega
def ItB (w:World) (base:Nat) (v:Value) (l:List XIt):Prop:=w.ownsRow base 219 5 v l.length (ck l)
def TcV (w:World) (base:Nat) (v:Value) (cs:List cd):Prop:=
 ∃l,w.ownsRow base 240 2 v l.length (jt l)/\l.map (·.1)=cs/\ ∀x∈l,BtB w base x.2 x.1.fields
def TmV (w:World) (base:Nat) (v:Value) (ms:List Sig):Prop:=w.ownsRow base 243 2 v ms.length (dj ms)
def TbV (w:World) (base:Nat) (v:Value) (bs:List cZ):Prop:=
 ∃l,w.ownsRow base 115 5 v l.length (mx l)/\l.map (·.1)=bs/\ ∀x∈l,BtB w base x.2.1 x.1.zy/\ItB w base x.2.2 x.1.items
theorem dn {F:Nat->Prop} {w w':World} {base e size n:Nat} {v:Value} {xs:List Value} (h:w.ownsRow base e size v n xs) (hb:But F w w') (hf: ∀g cur,w.heap[g]?=some (.cells cur e)->base<=g-> ¬F g):w'.ownsRow base e size v n xs:=by
 refine⟨h.1,?_⟩;obtain h2| ⟨g,cap,cur,hv,hg,hh,r⟩:=h.2
 .exact Or.inl h2
 .exact Or.inr ⟨g,cap,cur,hv,hg,(hb.block g (ae hh) (hf g cur hh hg)).trans hh,r⟩
theorem zH {w:World} {base e size n:Nat} {v:Value} {xs:List Value} (h:w.ownsRow base e size v n xs) {g:Nat} (hg:v.ownBlock=some g): ∃cur,w.heap[g]?=some (.cells cur e):=by
 obtain⟨rfl,_⟩ | ⟨g',cap,cur,rfl,a,hh,_⟩:=h.2
 .cases hg
 .simp[Value.ownBlock]at hg;subst hg;exact⟨_,hh⟩
theorem kT {w:World} {base e size n:Nat} {v:Value} {xs:List Value} (h:w.ownsRow base e size v n xs) {g e':Nat} {cur:Array Value} (hh:w.heap[g]?=some (.cells cur e')) (hne:e'≠e): ¬v.ownBlock=some g:=by
 intro a;obtain⟨c,hc⟩:=zH h a;rw[hc]at hh;injection hh with hh;injection hh with h1 h2;exact hne h2.symm
theorem TcV.but {F:Nat->Prop} {w w':World} {base:Nat} {v:Value} {cs:List cd} (h:TcV w base v cs) (hb:But F w w') (hf: ∀g e cur,w.heap[g]?=some (.cells cur e)->(e=240\/e=5)->base<=g-> ¬F g):TcV w' base v cs:=by
 obtain⟨l,a,b,c⟩:=h;exact⟨l,dn a hb (λg cur hh hg=>hf g _ cur hh (Or.inl rfl) hg),b,λx hx=>dn (c x hx) hb (λg cur hh hg=>hf g _ cur hh (Or.inr rfl) hg)⟩
theorem TmV.but {F:Nat->Prop} {w w':World} {base:Nat} {v:Value} {ms:List Sig} (h:TmV w base v ms) (hb:But F w w') (hf: ∀g e cur,w.heap[g]?=some (.cells cur e)->(e=243)->base<=g-> ¬F g):TmV w' base v ms:=
 dn h hb (λg cur hh hg=>hf g _ cur hh rfl hg)
theorem TbV.but {F:Nat->Prop} {w w':World} {base:Nat} {v:Value} {bs:List cZ} (h:TbV w base v bs) (hb:But F w w') (hf: ∀g e cur,w.heap[g]?=some (.cells cur e)->(e=115\/e=5\/e=219)->base<=g-> ¬F g):TbV w' base v bs:=by
 obtain⟨l,b,c,a⟩:=h;exact⟨l,dn b hb (λg cur hh hg=>hf g _ cur hh (Or.inl rfl) hg),c,λx hx=>⟨dn (a x hx).1 hb (λg cur hh hg=>hf g _ cur hh (Or.inr (Or.inl rfl)) hg),dn (a x hx).2 hb (λg cur hh hg=>hf g _ cur hh (Or.inr (Or.inr rfl)) hg)⟩⟩
theorem TcV.tx {w:World} {base b:Nat} {v:Value} {cs:List cd} (h:TcV w base v cs) (hc:w.cell? ⟨b,0,none⟩=some v) (hb:b<w.heap.size):TxC w b cs:=by
 obtain⟨l,a,c,d⟩:=h;exact⟨v,l,hc,hb,a.mono (Nat.zero_le _),c,λx hx=>ie (d x hx) (Nat.zero_le _)⟩
theorem TmV.tx {w:World} {base b:Nat} {v:Value} {ms:List Sig} (h:TmV w base v ms) (hc:w.cell? ⟨b,1,none⟩=some v) (hb:b<w.heap.size):TxM w b ms:=
 ⟨v,hc,hb,ie h (Nat.zero_le _)⟩
theorem TcV.len {w:World} {base:Nat} {v:Value} {cs:List cd} (h:TcV w base v cs): ∃ao cap,v= .slice ao cs.length cap:=by
 obtain⟨l,a,b,c⟩:=h;obtain⟨ao,cap,hv⟩:=ay a;exact⟨ao,cap,by rw[hv,<-b];simp⟩
end
end Go.Proofs.YtpfkkmacakjmbaaGreatDoor
