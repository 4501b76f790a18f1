import Derived.Test.YtpfkkmacakjmbaaGreatDoorP08
import Derived.Test.YtpfkkmacakjmbaaGreatDoorP01
import Derived.Deep.Upon
set_option maxRecDepth 100000
set_option maxHeartbeats 6400000
set_option linter.all false
namespace Go.Proofs.YtpfkkmacakjmbaaGreatDoor
open Proofs.Tryz
section
open Go Go.RowKit Sp
attribute [local go_sem ↓] dG dH
def jK (cs:List bV) (c:UInt8):Nat->UInt8->UInt8
 |0,_=>45
 |f+1,x=>if aN cs.length x=false then 45 else if fq cs c x=true then x else jK cs c f (kh cs x)
def hU (cs:List bV) (a c:UInt8):UInt8:=if fq cs a c=true then c else jK cs c cs.length a
theorem mR (b:Nat) (cs:List bV) (a c:UInt8) (w:World) (hn:cs.length<=100) (hT:TxC w b cs):
  Calls prog 205 #[.pointer (some ⟨b,0,none⟩),.int .u8 a.toNat,.int .u8 c.toNat] w λe w'=>e= .returned (.int .u8 (hU cs a c).toNat)/\w'=w:=by
 obtain⟨R,a0⟩: ∃R,hU cs a c=R:=⟨_,rfl⟩;rw[a0];unfold hU at a0;have a3:=lF b cs a c w hn hT
 by_cases hf0:fq cs a c=true
 .rw[if_pos hf0]at a0;subst a0;rw[hf0]at a3;have b0:=hid a3;clear a3 hf0
  go_in
  go_wp2_with fail;refine b0.out.mono ?_;rintro en w1 ⟨rfl,rfl⟩;go_wp2_with fail;go_ret;exact⟨rfl,rfl⟩
 rw[if_neg hf0]at a0;have a5:fq cs a c=false:=by simpa using hf0
 rw[a5]at a3;have b0:=hid a3;have a2:=hid a0;clear a0 a3 hf0 a5;have b6:=hT;obtain⟨v0,l,h0,hl,hO,hm,hf⟩:=b6;obtain⟨ao,cap,rfl⟩:=aw hO;have b5:l.length=cs.length:=by rw[<-hm];simp
 rw[b5]at h0;clear hm hf hO b5;obtain⟨n,b3⟩: ∃n,cs.length=n:=⟨_,rfl⟩;have HN:=hid b3;rw[b3]at h0 hn;clear b3
 go_in
 go_wp2_with fail;refine b0.out.mono ?_;rintro en w1 ⟨rfl,rfl⟩;go_wp2_with fail;rw[HN.out]at a2
 go_loopg [7,8] n (λmm ls is wr=> ∃(x:UInt8) (k:Nat),ls= .int .u8 x.toNat/\is= .int .i64 k/\k<=n/\k+mm<=n/\n<=k+mm/\wr=w1/\Hid (jK cs c mm x=R))
 case atStart=>exact⟨a,0,rfl,rfl,by omega,by omega,by omega,rfl,a2.out⟩
 case round=>
  obtain⟨x,k,rfl,rfl,d6,b9,e0,c9,HA⟩:=hrel;subst c9;have b4:gk=n-k:=by omega
  rw[b4]at HA;clear b4 b9
  by_cases hlt:k<n
  .have c7:(k:Int)<(n:Int):=by omega
   rw[show n-k=(n-(k+1))+1 from by omega]at HA;have a1:=iy b cs x wr (by rw[HN.out];exact hn) hT
   by_cases hl:aN cs.length x=true
   .rw[hl]at a1;have a7:=hid a1;have hA:=HA.out;simp only[jK,hl,Bool.true_eq_false,if_false]at hA;have a4:=lF b cs c x wr (by rw[HN.out];exact hn) hT
    by_cases hxc:fq cs c x=true
    .rw[if_pos hxc]at hA;rw[hxc]at a4;have b1:=hid a4;subst hA;clear a1 hl hxc HA a2 a4;go_wp2_with fail;refine a7.out.mono ?_;rintro en w1 ⟨rfl,rfl⟩;go_wp2_with fail;refine b1.out.mono ?_;rintro en w1 ⟨rfl,rfl⟩;go_wp2_with fail;go_ret;exact⟨rfl,rfl⟩
    .rw[if_neg hxc]at hA;have a6:fq cs c x=false:=by simpa using hxc
     rw[a6]at a4;have b1:=hid a4;have a8:=hid hA;clear a1 hl hxc a6 HA hA a2 a4;go_wp2_with fail;refine a7.out.mono ?_;rintro en w1 ⟨rfl,rfl⟩;go_wp2_with fail;refine b1.out.mono ?_;rintro en w1 ⟨rfl,rfl⟩;go_wp2_with fail;refine(py b cs x w1 (by rw[HN.out];exact hn) hT).mono ?_;rintro en w2 ⟨rfl,rfl⟩;revert a8;generalize kh cs x=px;intro a8;go_wp2_with fail
     go_roundg (n-(k+1))
     case measure=>omega
     case rel=>exact⟨px,k+1,rfl,by simp,by omega,by omega,by omega,rfl,a8.out⟩
   .have b2:aN cs.length x=false:=by simpa using hl
    rw[b2]at a1;have a7:=hid a1;have hA:=HA.out;simp only[jK,b2,if_true]at hA;subst hA;clear a1 hl b2 HA a2;go_wp2_with fail;refine a7.out.mono ?_;rintro en w1 ⟨rfl,rfl⟩;go_wp2_with fail;go_ret;exact⟨rfl,rfl⟩
  .have c7: ¬(k:Int)<(n:Int):=by omega
   rw[show n-k=0 from by omega]at HA;have hA:45=R:=HA.out;subst hA;clear HA a2;go_wp2_with fail;go_ret;exact⟨rfl,rfl⟩
def toX (c:Cls):bV:=⟨if c.par<0 then 45 else UInt8.ofNat (65+c.par.toNat),c.fields⟩
theorem mS {cs:List Cls} (hw:WfC cs) (hn:cs.length<=4) {x:UInt8} (hx:aN cs.length x=true):(cX cs (kl x)<0/\kh (cs.map toX) x=45)\/(0<=cX cs (kl x)/\aN cs.length (kh (cs.map toX) x)=true/\kl (kh (cs.map toX) x)=cX cs (kl x)):=by
 have a0:=hx;simp only[aN,et,ed]at a0;have hk:(kl x).toNat=x.toNat-65:=by unfold kl;omega
 obtain⟨c,hc⟩: ∃c,cs[x.toNat-65]?=some c:=⟨_,aH (by omega)⟩;have hp:cX cs (kl x)=c.par:=by unfold cX;rw[hk,hc];rfl
 have hq:kh (cs.map toX) x=(toX c).par:=by
  unfold kh;rw[cP,if_pos hx,cg,hc]
  rfl
 have hr:=hw _ _ hc;rw[hp,hq];unfold toX
 by_cases h0:c.par<0
 .left;exact⟨h0,by simp[h0]⟩
 .right
  have hv:(UInt8.ofNat (65+c.par.toNat)).toNat=65+c.par.toNat:=by simp;omega
  simp only[if_neg h0];refine⟨by omega,?_,?_⟩
  .simp only[aN,hv,et,ed];omega
  .unfold kl;rw[hv];omega
theorem qX {cs:List Cls} (hw:WfC cs) (hn:cs.length<=4) {n:Nat}:aN n 45=false:=by simp[aN]
theorem t7 {cs:List Cls} (hw:WfC cs) (hn:cs.length<=4) {y:UInt8} (hy:aN cs.length y=true): ∀{f:Nat} {x:UInt8},aN cs.length x=true->kl x<f->f<=5->fG (cs.map toX) y f x=bF cs 5 (kl x) (kl y):=by
 intro f
 induction f with
 |zero=>intro x hx h1 _;simp only[aN,et,ed]at hx;unfold kl at h1;omega
 |succ f ih=>
  intro x hx h1 hf;have a3:=hx;have a4:=hy;simp only[aN,et,ed]at a3 a4;have r0:0<=kl x/\kl x<=3:=by unfold kl;omega
  rw[fG,cP,hx,if_neg (by simp)]
  by_cases he:x=y
  .subst he;rw[if_pos rfl,pd hw r0.1]
  .rw[if_neg he];have a2:kl x≠kl y:=λh=>he (bS (by unfold kl at h;omega))
   have a0:=fE hw (y:=kl y) r0.1 (by omega);have a5:=dW hw r0.1
   have a1:bF cs 5 (kl x) (kl y)=bF cs 5 (cX cs (kl x)) (kl y):=by
    rw[Bool.eq_iff_iff,a0]
    constructor
    .rintro(h|h)
     .exact absurd h a2
     .exact h
    .exact Or.inr
   rw[a1];obtain⟨h2,h3⟩ | ⟨h2,h3,h4⟩:=mS hw hn hx
   .rw[h3,kQ hw h2]
    cases f with
    |zero=>rfl
    |succ f=>rw[fG,cP,qX hw hn];rfl
   .rw[ih h3 (by rw[h4];omega) (by omega),h4]
theorem fP {cs:List Cls} (hw:WfC cs) (hn:cs.length<=4) {x:UInt8} (hx:okT cs.length x=true):isC x=aN cs.length x:=by
 rw[eF]at hx;rw[Bool.eq_iff_iff,cI];simp only[aN,et,ed];omega
theorem yo {cs:List Cls} (hw:WfC cs) (hn:cs.length<=4) {y x:UInt8} {f:Nat} (h:aN cs.length x=false):fG (cs.map toX) y f x=false:=by
 cases f with
 |zero=>rfl
 |succ f=>rw[fG,cP,h];rfl
theorem qC {cs:List Cls} (hw:WfC cs) (hn:cs.length<=4) {y:UInt8} (hy:aN cs.length y=false): ∀{f:Nat} {x:UInt8},fG (cs.map toX) y f x=false:=by
 intro f
 induction f with
 |zero=>intro x;rfl
 |succ f ih=>
  intro x;rw[fG,cP]
  cases hx:aN cs.length x with
  |false=>simp
  |true=>
   rw[if_neg (by simp),if_neg (λh=>by rw[h,hy]at hx;cases hx)];exact ih
theorem iT {cs:List Cls} (hw:WfC cs) (hn:cs.length<=4) {a c:UInt8} (ha:okT cs.length a=true) (hc:okT cs.length c=true):fq (cs.map toX) a c=cy cs a c:=by
 rw[Bool.eq_iff_iff,aY];unfold fq;rw[fP hw hn ha,fP hw hn hc,cP]
 by_cases h1:a=c
 .simp[h1]
 by_cases h2:c.toNat=45
 .simp[h2]
 rw[if_neg (not_or.2 ⟨h1,h2⟩)];simp only[h1,h2,false_or]
 by_cases h3:a.toNat=122
 .rw[if_pos h3];have:aN cs.length a=false:=by simp only[aN,Bool.and_eq_false_iff,decide_eq_false_iff_not];omega
  simp[h3,this]
 .rw[if_neg h3];simp only[h3,and_false,false_or]
  cases hla:aN cs.length a with
  |false=>rw[yo hw hn hla];simp
  |true=>
   cases hlc:aN cs.length c with
   |false=>rw[qC hw hn hlc];simp
   |true=>
    have a0:=hla;simp only[aN,et,ed]at a0;rw[t7 hw hn hlc hla (by unfold kl;omega) (by omega)];simp
end
section
open Go Go.RowKit Sp
theorem r7 {cs:List Cls} (hw:WfC cs) (hn:cs.length<=4) {x:UInt8} (h:aN cs.length x=true):okT cs.length x=true:=by
 rw[eF];simp only[aN,et,ed]at h;omega
theorem t8 {cs:List Cls} (hw:WfC cs) (hn:cs.length<=4) (x:UInt8):cy cs x 45=true:=aY.2 (Or.inr (Or.inl rfl))
theorem Dg {cs:List Cls} (hw:WfC cs) (hn:cs.length<=4) {x d:UInt8} (hx:aN cs.length x=true) (hne:x≠d) (h:cy cs x d=true):cy cs (kh (cs.map toX) x) d=true\/d.toNat=45:=by
 have a0:=hx;simp only[aN,et,ed]at a0;rw[aY]at h;obtain h|h| ⟨_,h⟩ | ⟨h1,h2,h3⟩:=h
 .exact absurd h hne
 .exact Or.inr h
 .omega
 .left
  have r0:0<=kl x/\kl x<=3:=by unfold kl;omega
  obtain h|h:=(fE hw r0.1 (by omega)).1 h3
  .exact absurd (bS (by unfold kl at h;omega)) hne
  .obtain⟨e1,e2⟩ | ⟨e1,e2,e3⟩:=mS hw hn hx
   .rw[kQ hw e1]at h;cases h
   .rw[aY,e3];exact Or.inr (Or.inr (Or.inr ⟨by rw[fP hw hn (r7 hw hn e2)];exact e2,h2,h⟩))
theorem B4 {cs:List Cls} (hw:WfC cs) (hn:cs.length<=4) {x:UInt8} (hx:aN cs.length x=true):cy cs x (kh (cs.map toX) x)=true:=by
 have a0:=hx;simp only[aN,et,ed]at a0;have r0:0<=kl x/\kl x<=3:=by unfold kl;omega
 obtain⟨e1,e2⟩ | ⟨e1,e2,e3⟩:=mS hw hn hx
 .rw[e2];exact t8 hw hn x
 .rw[aY,e3];refine Or.inr (Or.inr (Or.inr ⟨by rw[fP hw hn (r7 hw hn hx)];exact hx,by rw[fP hw hn (r7 hw hn e2)];exact e2,?_⟩));exact(fE hw r0.1 (by omega)).2 (Or.inr (pd hw e1))
theorem vR {cs:List Cls} (hw:WfC cs) (hn:cs.length<=4) {c:UInt8} (hc:okT cs.length c=true): ∀{f:Nat} {x:UInt8},aN cs.length x=true->kl x<f->f<=5->
  cy cs x (jK (cs.map toX) c f x)=true/\cy cs c (jK (cs.map toX) c f x)=true/\ ∀d,cy cs x d=true->cy cs c d=true->cy cs (jK (cs.map toX) c f x) d=true:=by
 intro f
 induction f with
 |zero=>intro x hx h1 _;simp only[aN,et,ed]at hx;unfold kl at h1;omega
 |succ f ih=>
  intro x hx h1 hf;rw[jK,cP,hx,if_neg (by simp),iT hw hn hc (r7 hw hn hx)]
  by_cases hs:cy cs c x=true
  .rw[if_pos hs];exact⟨iE _,hs,λd h _=>h⟩
  .rw[if_neg hs];have a0:=λd (h:cy cs x d=true) (h':cy cs c d=true)=>Dg hw hn (d:=d) hx (λe=>hs (by rw[e];exact h')) h
   obtain⟨e1,e2⟩ | ⟨e1,e2,e3⟩:=mS hw hn hx
   .have hm:jK (cs.map toX) c f (kh (cs.map toX) x)=45:=by
     rw[e2]
     cases f with
     |zero=>rfl
     |succ f=>rw[jK,cP,qX hw hn];rfl
    rw[hm];refine⟨t8 hw hn _,t8 hw hn _,λd h h'=> ?_⟩;obtain h2|h2:=a0 d h h'
    .rw[e2]at h2;exact h2
    .exact aY.2 (Or.inr (Or.inl h2))
   .have a1:=dW hw (p:=kl x) (by simp only[aN,et,ed]at hx;unfold kl;omega);have i1:=ih e2 (by rw[e3];omega) (by omega);refine⟨l9 hw (B4 hw hn hx) i1.1,i1.2.1,λd h h'=> ?_⟩;obtain h2|h2:=a0 d h h'
    .exact i1.2.2 d h2 h'
    .exact aY.2 (Or.inr (Or.inl h2))
theorem oo {cs:List Cls} (hw:WfC cs) (hn:cs.length<=4) {a c:UInt8} (ha:okT cs.length a=true) (hc:okT cs.length c=true):hU (cs.map toX) a c=jF cs a c:=by
 have hj:=nH hw a c
 suffices h:cy cs a (hU (cs.map toX) a c)=true/\cy cs c (hU (cs.map toX) a c)=true/\ ∀d,cy cs a d=true->cy cs c d=true->cy cs (hU (cs.map toX) a c) d=true by
  exact qT hw (h.2.2 _ hj.1 hj.2.1) (hj.2.2 _ h.1 h.2.1)
 unfold hU;rw[iT hw hn ha hc]
 by_cases h1:cy cs a c=true
 .rw[if_pos h1];exact⟨h1,iE _,λd _ h=>h⟩
 rw[if_neg h1,cP]
 cases hl:aN cs.length a with
 |true=>
  have a1:=hl;simp only[aN,et,ed]at a1;exact vR hw hn hc hl (by unfold kl;omega) (by omega)
 |false=>
  have hm:jK (cs.map toX) c cs.length a=45:=by
   cases hf:cs.length with
   |zero=>rfl
   |succ f=>rw[jK,cP,hl];rfl
  rw[hm];refine⟨t8 hw hn _,t8 hw hn _,λd h h'=> ?_⟩;have a0:isC a=false:=by rw[fP hw hn ha];exact hl
  rw[aY]at h h'
  apply aY.2
  right;left
  obtain rfl|h| ⟨p1,p2⟩ | ⟨p1,_⟩:=h
  .rw[eF]at ha;obtain h'|h'| ⟨q1,_⟩ | ⟨_,q1,_⟩:=h'
   .exact absurd (aY.2 (Or.inl h'.symm)) h1
   .exact h'
   .rw[a0]at q1;cases q1
   .rw[a0]at q1;cases q1
  .exact h
  .obtain rfl|h'| ⟨q1,q2⟩ | ⟨q1,_⟩:=h'
   .exact absurd (aY.2 (Or.inr (Or.inr (Or.inl ⟨p1,p2⟩)))) h1
   .exact h'
   .exact absurd (aY.2 (Or.inl (bS (by omega)))) h1
   .exact absurd (aY.2 (Or.inr (Or.inr (Or.inl ⟨q1,p2⟩)))) h1
  .rw[a0]at p1;cases p1
end
section
open Go Go.RowKit Sp
attribute [local go_sem ↓] dG dH
theorem lS (b:Nat) (cs:List bV) (a1 a2:Option Addr) (c1 c2:Nat) (l m:L_) (w:World) (hn:cs.length<=100) (hT:TxC w b cs) (h1:BtB w 0 (.slice a1 l.length c1) l) (h2:BtB w 0 (.slice a2 m.length c2) m) (hl:l.length=m.length) (hm:m.length<=200):
  Calls prog 172 #[.pointer (some ⟨b,0,none⟩),.slice a1 l.length c1,.slice a2 m.length c2] w λen w'=>B_ w w'/\ ∃v,en= .returned v/\BtB w' w.heap.size v (List.zipWith (hU cs) l m):=by
 obtain⟨i0,e6,e9,f0,f1⟩:=info_parts ke;have HL:=hid hl;have f5:l.length<=m.length:=by omega
 clear hl
 go_in
 go_wp2_with fail;have e0:B_ w (w.alloc (.cells #[] 5)):=ag _ _ _
 go_loopg [7,8] l.length (λmm vs is wr=> ∃(ao:Option Addr) (cap k:Nat) (t:L_),vs= .slice ao t.length cap/\is= .int .i64 k/\k<=l.length/\k+mm<=l.length/\l.length<=k+mm/\B_ w wr/\BtB wr w.heap.size (.slice ao t.length cap) t/\t.length<=k/\
  Hid (List.zipWith (hU cs) (l.take k) (m.take k)=t))
 case atStart=>exact⟨_,0,0,[],rfl,rfl,by omega,by omega,by omega,e0,BtB.empty w,by simp,rfl⟩
 case round=>
  obtain⟨ao,cap,k,t,rfl,rfl,f3,e7,f4,a8,b9,f7,HA⟩:=hrel;clear e7
  by_cases hlt:k<l.length
  .have e1:(k:Int)<(l.length:Int):=by omega
   have e2:(k:Int)<(m.length:Int):=by omega
   have a6:k<m.length:=by omega
   obtain⟨g1,r1,e4,_,a0⟩:=aF (h1.but a8 (λ_ _ h=>h)) (by omega);obtain⟨g2,r2,e5,_,a3⟩:=aF (h2.but a8 (λ_ _ h=>h)) (by omega);subst r1 r2;have q1:=a0 _ _ (dP hlt);have q2:=a3 _ _ (dP a6)
   have a7:Hid (List.zipWith (hU cs) (l.take (k+1)) (m.take (k+1))=t++ [hU cs (l.getD k 0) (m.getD k 0)]):=by
    show _=_
    rw[iM hlt,iM a6,List.zipWith_append (by simp;omega),HA.out];simp[List.getD,hlt,a6]
   clear a0 a3;revert q1 q2 a7;generalize l.getD k 0=x;generalize m.getD k 0=y;intro q1 q2 a7;go_wp2_with fail;have b0:B_ wr wr.drew:=aD _ _;have b6:=hid (mR b cs x y wr.drew hn ((hT.but a8).but b0));refine aI (B_ wr) 10 ?_
   iterate 9 (refine aQ (v:=?_) rfl b0 ?_ ?_;rotate_left;(focus (intro wS h;have q0:=(h.kc q1 e4);have q1:=(h.kc q2 e5);clear h;go_simp;try rfl));dsimp only[Act.put];try simp only[cH])
   refine az rfl ?_;intro KS hKS;go_simp;refine b6.out.mono ?_;rintro en wx ⟨rfl,c9⟩;rw[c9];clear c9 wx b6;refine hKS.out _ _ (λ_=>b0) ?_;clear hKS KS;refine az rfl ?_;intro KS hKS;go_simp;refine hKS.out _ _ nofun ?_;clear hKS KS;refine aR rfl ?_;revert a7;generalize hU cs x y=z;intro a7;have a4:B_ w wr.drew:=a8.trans b0;have a5:=b9.but b0 (λ_ _ h=>h);revert a4 a5;generalize wr.drew=w1;intro a4 a5;have c7:w1.ownsRow w.heap.size 5 1 (.slice ao t.length cap) t.length (aP t):=a5;have f6:=a4.size;clear q1 q2;go_wp2_with (at_builtin;refine wpList_append_lies _ rfl _ _ _ rfl w.heap.size 5 i0 _ 1 1 (by kernel_rfl) e6 e9 f0 f1 rfl (by omega) _ t.length (aP t) rfl (c7.alloc _) ⟨w1.heap.size,0,none⟩ 1 1 [.int .u8 z.toNat] rfl rfl (fX (cs:=#[.int .u8 z.toNat]) (t:=5) (fr:=(0,0)) (aO w1 _)) (by simp[Value.oneCell']) (by omega) (by unfold maxLen;omega) (by omega) (by simp;omega) (w1.heap.size+1) (by simp) ?_)
   intro gg cap3 w2 b2 b1 f2 e8;have e3:But (λk'=>(Value.slice ao t.length cap).ownBlock=some k') w1 w2:=(ag _ _ _).trans (bc b1);have b5:B_ w w2:=a4.next e3 (λk' hk' h=>absurd (ay c7 k' h) (by omega))
   have b4:BtB w2 w.heap.size (.slice (some ⟨gg,0,none⟩) (t++ [z]).length cap3) (t++ [z]):=by
    unfold BtB;rw[aZ,aP,List.map_append];exact b2
   go_wp2_with fail
   go_roundg (l.length-(k+1))
   case measure=>omega
   case rel=>exact⟨_,cap3,k+1,t++ [z],by simp,by simp,by omega,by omega,by omega,b5,b4,by simp;omega,a7.out⟩
  .have e1: ¬(k:Int)<(l.length:Int):=by omega
   have b3:List.zipWith (hU cs) l m=t:=by rw[<-HA.out,List.take_of_length_le (by omega),List.take_of_length_le (by have:=HL.out;omega)]
   have d6:=hid b3;clear b3 HA;go_wp2_with fail;exact du (.slice ao t.length cap) results172 rfl rfl ⟨a8,_,rfl,by rw[d6.out];exact b9⟩
theorem vS (b:Nat) (s:ByteArray) (i:Nat) (v0 v1:Value) (v2:RdV) (w:World) (most n:Nat) (e:UInt8) (he:0<e.toNat) (hm:most<=10) (hs:s.size<=2000) (hR:XrB w b s i true v0 v1 v2):
  Calls prog 216 #[.pointer (some ⟨b,0,none⟩),.int .i64 most,.int .i64 n,.int .u8 e.toNat] w λen w'=>But (· =b) w w'/\en= .returned (.slice (some ⟨w.heap.size,0,none⟩) 0 0)/\XrB w' b s i true v0 v1 v2/\BtB w' w.heap.size (.slice (some ⟨w.heap.size,0,none⟩) 0 0) []:=by
 go_in
 go_wp2_with fail;have a3:But (· =b) w (w.alloc (.cells #[] 5)):=ag _ _ _;have a1:XrB (w.alloc (.cells #[] 5)) b s i true v0 v1 v2:=hR.but (ag (λ_=>False) _ _) (λh=>h);have a8:=hR.lt;have hE:=BtB.empty w;revert a3 a1 hE;generalize (w.alloc (.cells #[] 5))=W;intro a3 a1 hE
 go_loopg [9] 0 (λmm vs wr=>vs= .slice (some ⟨w.heap.size,0,none⟩) 0 0/\wr=W)
 case atStart=>exact⟨rfl,rfl⟩
 case round=>
  obtain⟨rfl,a7⟩:=hrel;subst a7
  have a2: ∀(w1:World),But (· =b) wr w1->XrB w1 b s (tkP s e i true).1 (tkP s e i true).2 v0 v1 v2->But (· =b) w w1/\XrB w1 b s i true v0 v1 v2/\BtB w1 w.heap.size (.slice (some ⟨w.heap.size,0,none⟩) 0 0) []:=by
   intro w1 h1 h2;rw[show tkP s e i true=(i,true)from by unfold tkP;rw[if_neg (by simp)]]at h2;exact⟨a3.trans h1,h2,hE.but h1 (λg hg h=>by have:=ay hE g hg;omega)⟩
  have HF:=hid a2;clear a2
  by_cases hlt:(0:Int)<(most:Int)
  .have a0:=dt b s i true v0 v1 v2 wr e a1;rw[show(!true&& !decide (pk s i=e))=false from rfl]at a0;have a6:=hid a0;clear a0;go_wp2_with fail;refine a6.out.mono ?_;rintro en w1 ⟨rfl,m,rfl⟩;go_wp2_with fail;refine(eu b s i true v0 v1 v2 _ e he hs (a1.drewN m)).mono ?_;rintro en w2 ⟨rfl,a4,a5⟩;go_wp2_with fail;exact du (.slice (some ⟨w.heap.size,0,none⟩) 0 0) results216 rfl rfl (have h:=HF.out w2 ((aK _ _ _).trans a4) a5;⟨h.1,rfl,h.2⟩)
  .go_wp2_with fail;refine(eu b s i true v0 v1 v2 _ e he hs a1).mono ?_;rintro en w2 ⟨rfl,a4,a5⟩;go_wp2_with fail;exact du (.slice (some ⟨w.heap.size,0,none⟩) 0 0) results216 rfl rfl (have h:=HF.out w2 a4 a5;⟨h.1,rfl,h.2⟩)
def cJ (cs:List bV) (a c:UInt8):Bool:=if c.toNat=38 then(decide (a.toNat=122)||aN cs.length a)else fq cs a c
theorem pz (b:Nat) (cs:List bV) (a c:UInt8) (w:World) (hn:cs.length<=100) (hT:TxC w b cs):
  Calls prog 204 #[.pointer (some ⟨b,0,none⟩),.int .u8 a.toNat,.int .u8 c.toNat] w λe w'=>e= .returned (.bool (cJ cs a c))/\w'=w:=by
 by_cases h1:c.toNat=38
 .have e1:((c.toNat:Int)==38)=true:=by rw[beq_iff_eq];omega
  by_cases h2:a.toNat=122
  .have e2:((a.toNat:Int)==122)=true:=by rw[beq_iff_eq];omega
   rw[show cJ cs a c=true from by unfold cJ;rw[if_pos h1];simp[h2]];clear h1 h2
   go_in
   go_wp2_with fail;go_ret;exact⟨rfl,rfl⟩
  .have e2:=tf a.toNat 122 (by omega);rw[show cJ cs a c=aN cs.length a from by unfold cJ;rw[if_pos h1];simp[h2]];clear h1 h2
   go_in
   go_wp2_with fail;refine(iy b cs a w hn hT).mono ?_;rintro en w1 ⟨rfl,rfl⟩;go_wp2_with fail;go_ret;exact⟨rfl,rfl⟩
 .have e1:=tf c.toNat 38 (by omega);rw[show cJ cs a c=fq cs a c from by unfold cJ;rw[if_neg h1]];clear h1
  go_in
  go_wp2_with fail;refine(lF b cs a c w hn hT).mono ?_;rintro en w1 ⟨rfl,rfl⟩;go_wp2_with fail;go_ret;exact⟨rfl,rfl⟩
def ki (l:List Bool):Nat->Nat->Int
 |0,_=> -1
 |f+1,k=>if l.getD k false=true then(k:Int)else ki l f (k+1)
def WtB (w:World) (g:Nat) (l:List Bool):Prop:=w.heap[g]?=some (.cells (l.map Value.bool).toArray 4)
theorem WtB.cell {w:World} {g:Nat} {l:List Bool} (h:WtB w g l) {k:Nat} (hk:k<l.length):w.cell? ⟨g,k,none⟩=some (.bool (l.getD k false)):=by
 rw[aX w g k _ _ (0,0) h];simp[List.getD,hk]
theorem jL (b g:Nat) (l:List Bool) (w:World) (h7:w.cell? ⟨b,7,none⟩=some (.slice (some ⟨g,0,none⟩) l.length l.length)) (hW:WtB w g l) (hl:l.length<=100):
  Calls prog 106 #[.pointer (some ⟨b,0,none⟩)] w λen w'=>en= .returned (.int .i64 (ki l l.length 0))/\w'=w:=by
 obtain⟨R,a1⟩: ∃R,ki l l.length 0=R:=⟨_,rfl⟩;rw[a1];have a0:=hid a1;clear a1
 go_in
 go_wp2_with fail
 go_loopg [3] l.length (λmm is wr=> ∃k:Nat,is= .int .i64 k/\k<=l.length/\k+mm<=l.length/\l.length<=k+mm/\wr=w/\Hid (ki l mm k=R))
 case atStart=>exact⟨0,rfl,by omega,by omega,by omega,rfl,a0.out⟩
 case round=>
  obtain⟨k,rfl,a7,a4,a8,a6,HA⟩:=hrel;subst a6;have a2:gk=l.length-k:=by omega
  rw[a2]at HA;clear a2 a4
  by_cases hlt:k<l.length
  .have a5:(k:Int)<(l.length:Int):=by omega
   have q:=hW.cell hlt;rw[show l.length-k=(l.length-(k+1))+1 from by omega]at HA;have hA:=HA.out;simp only[ki]at hA;revert q hA
   cases l.getD k false with
   |true=>
    intro q hA;simp only[if_true]at hA;subst hA;clear HA a0;go_wp2_with fail;go_ret;exact⟨rfl,rfl⟩
   |false=>
    intro q hA;simp only[dj,if_false]at hA;have a3:=hid hA;clear HA hA a0;go_wp2_with fail
    go_roundg (l.length-(k+1))
    case measure=>omega
    case rel=>exact⟨k+1,by simp,by omega,by omega,by omega,rfl,a3.out⟩
  .have a5: ¬(k:Int)<(l.length:Int):=by omega
   rw[show l.length-k=0 from by omega]at HA;have hA: -1=R:=HA.out;subst hA;clear HA a0;go_wp2_with fail;go_ret;exact⟨rfl,rfl⟩
def TxM (w:World) (b:Nat) (ms:List Sig):Prop:=
 ∃v1,w.cell? ⟨b,1,none⟩=some v1/\b<w.heap.size/\w.ownsRow 0 243 2 v1 ms.length (dr ms)
theorem TxM.but {w w':World} {b:Nat} {ms:List Sig} (h:TxM w b ms) (hb:B_ w w'):TxM w' b ms:=by
 obtain⟨v1,h0,hl,hO⟩:=h;exact⟨v1,hb.kc h0 hl,bq hl hb.size,aj hO hb (λ_ _ h=>h)⟩
def dx (ms:List Sig) (k:Nat):Sig:=(ms[k]?).getD ⟨45,45⟩
theorem gV (b:Nat) (ms:List Sig) (k:Nat) (w:World) (hn:ms.length<=100) (hT:TxM w b ms):
  Calls prog 191 #[.pointer (some ⟨b,0,none⟩),.int .i64 k] w λe w'=>e= .returned (.agg #[.int .u8 (dx ms k).arg.toNat,.int .u8 (dx ms k).ret.toNat])/\B_ w w':=by
 obtain⟨v1,h0,hl,hO⟩:=hT;obtain⟨ao,cap,rfl⟩:=aw hO;have a4: ¬(k:Int)<0:=by omega
 by_cases hk:k<ms.length
 .have hx:=aH hk;rw[show dx ms k=ms[k]from by unfold dx;rw[hx];rfl];obtain⟨g,rfl,a2,a3,a0⟩:=aF hO (by omega);have q0:w.cell? ⟨g,k*2,none⟩=some (.int .u8 ms[k].arg.toNat):=a0 _ _ (fM (k:=0) hx (by omega));have q1:w.cell? ⟨g,k*2+1,none⟩=some (.int .u8 ms[k].ret.toNat):=a0 _ _ (fM (k:=1) hx (by omega));have a1: ¬(ms.length:Int)<=(k:Int):=by omega
  have a5:(k:Int)<(ms.length:Int):=by omega
  revert q0 q1;generalize ms[k]=X;intro q0 q1;clear a0 hx hO
  go_in
  go_wp2
  exact cW (v:= .agg #[.int .u8 X.arg.toNat,.int .u8 X.ret.toNat]) (by simp[results,results191,go_sem]) rfl ⟨rfl,ag _ _ _⟩
 .rw[show dx ms k=⟨45,45⟩from by unfold dx;rw[List.getElem?_eq_none (by omega)];rfl];have a1:(ms.length:Int)<=(k:Int):=by omega
  clear hO
  go_in
  go_wp2
  exact cW (v:= .agg #[.int .u8 45,.int .u8 45]) (by simp[results,results191,go_sem]) rfl ⟨rfl,ag _ _ _⟩
end
section
open Go Go.RowKit Sp
theorem yp (w:World) (x y:Int):(Instr.field 243 (.agg #[.int .u8 x,.int .u8 y]) 1).run prog w= .ok (.int .u8 y) w:=by
 simp[Instr.field,asAgg];go_simp
end
section
open Go Go.RowKit Sp
attribute [local go_sem ↓] dG dH
def aM (cs:List bV) (ms:List Sig) (c k:UInt8) (n:Nat) (lo:L_):UInt8:=
 if c.toNat=107\/c.toNat=114\/c.toNat=43\/c.toNat=45\/c.toNat=42\/c.toNat=47\/c.toNat=60\/c.toNat=61\/c.toNat=101 then 105 else
 if c.toNat=108 then cB lo n else if c.toNat=110\/c.toNat=120 then k else if c.toNat=122 then 122 else
 if c.toNat=103 then cB (cQ cs k) n else if c.toNat=99 then(dx ms n).ret else 0
theorem lG (b:Nat) (cs:List bV) (ms:List Sig) (p n:Nat) (c k:UInt8) (ao:Option Addr) (cap:Nat) (lo:L_) (w:World) {ap:Option Addr} {np cp:Nat} (hn:cs.length<=100) (hm:ms.length<=100) (hT:TxC w b cs) (hM:TxM w b ms) (hB:BtB w 0 (.slice ao lo.length cap) lo):
  Calls prog 198 #[.pointer (some ⟨b,0,none⟩),.agg #[.int .i64 p,.int .u8 c.toNat,.int .u8 k.toNat,.int .i64 n,.slice ap np cp],.slice ao lo.length cap] w λe w'=>e= .returned (.int .u8 (aM cs ms c k n lo).toNat)/\B_ w w':=by
 by_cases h107:c.toNat=107
 .have hc:c=107:=bS h107;subst hc;rw[show aM cs ms 107 k n lo=105 from by simp[aM]]
  go_in
  go_wp2_with fail;go_ret;exact⟨rfl,ag _ _ _⟩
 by_cases h114:c.toNat=114
 .have hc:c=114:=bS h114;subst hc;rw[show aM cs ms 114 k n lo=105 from by simp[aM]]
  go_in
  go_wp2_with fail;go_ret;exact⟨rfl,ag _ _ _⟩
 by_cases h43:c.toNat=43
 .have hc:c=43:=bS h43;subst hc;rw[show aM cs ms 43 k n lo=105 from by simp[aM]]
  go_in
  go_wp2_with fail;go_ret;exact⟨rfl,ag _ _ _⟩
 by_cases h45:c.toNat=45
 .have hc:c=45:=bS h45;subst hc;rw[show aM cs ms 45 k n lo=105 from by simp[aM]]
  go_in
  go_wp2_with fail;go_ret;exact⟨rfl,ag _ _ _⟩
 by_cases h42:c.toNat=42
 .have hc:c=42:=bS h42;subst hc;rw[show aM cs ms 42 k n lo=105 from by simp[aM]]
  go_in
  go_wp2_with fail;go_ret;exact⟨rfl,ag _ _ _⟩
 by_cases h47:c.toNat=47
 .have hc:c=47:=bS h47;subst hc;rw[show aM cs ms 47 k n lo=105 from by simp[aM]]
  go_in
  go_wp2_with fail;go_ret;exact⟨rfl,ag _ _ _⟩
 by_cases h60:c.toNat=60
 .have hc:c=60:=bS h60;subst hc;rw[show aM cs ms 60 k n lo=105 from by simp[aM]]
  go_in
  go_wp2_with fail;go_ret;exact⟨rfl,ag _ _ _⟩
 by_cases h61:c.toNat=61
 .have hc:c=61:=bS h61;subst hc;rw[show aM cs ms 61 k n lo=105 from by simp[aM]]
  go_in
  go_wp2_with fail;go_ret;exact⟨rfl,ag _ _ _⟩
 by_cases h101:c.toNat=101
 .have hc:c=101:=bS h101;subst hc;rw[show aM cs ms 101 k n lo=105 from by simp[aM]]
  go_in
  go_wp2_with fail;go_ret;exact⟨rfl,ag _ _ _⟩
 by_cases h108:c.toNat=108
 .have hc:c=108:=bS h108;subst hc;rw[show aM cs ms 108 k n lo=cB lo n from by simp[aM]];have HT:=hid (λ(wx:World) (h:B_ w wx)=>dZ ao cap lo n wx (hB.but h (λ_ _ h=>h)))
  go_in
  go_wp2_with fail;refine(HT.out _ (ag _ _ _)).mono ?_;rintro en w1 ⟨rfl,rfl⟩;go_wp2_with fail;go_ret;exact⟨rfl,ag _ _ _⟩
 by_cases h110:c.toNat=110
 .have hc:c=110:=bS h110;subst hc;rw[show aM cs ms 110 k n lo=k from by simp[aM]]
  go_in
  go_wp2_with fail;go_ret;exact⟨rfl,ag _ _ _⟩
 by_cases h120:c.toNat=120
 .have hc:c=120:=bS h120;subst hc;rw[show aM cs ms 120 k n lo=k from by simp[aM]]
  go_in
  go_wp2_with fail;go_ret;exact⟨rfl,ag _ _ _⟩
 by_cases h122:c.toNat=122
 .have hc:c=122:=bS h122;subst hc;rw[show aM cs ms 122 k n lo=122 from by simp[aM]]
  go_in
  go_wp2_with fail;go_ret;exact⟨rfl,ag _ _ _⟩
 by_cases h103:c.toNat=103
 .have hc:c=103:=bS h103;subst hc;rw[show aM cs ms 103 k n lo=cB (cQ cs k) n from by simp[aM]];have HT:=hid (λ(wx:World) (h:B_ w wx)=>rZ b cs k n wx hn (hT.but h))
  go_in
  go_wp2_with fail;refine(HT.out _ (ag _ _ _)).mono ?_;rintro en w1 ⟨rfl,rfl⟩;go_wp2_with fail;go_ret;exact⟨rfl,ag _ _ _⟩
 by_cases h99:c.toNat=99
 .have hc:c=99:=bS h99;subst hc;rw[show aM cs ms 99 k n lo=(dx ms n).ret from by simp[aM]];have HT:=hid (λ(wx:World) (h:B_ w wx)=>gV b ms n wx hm (hM.but h))
  go_in
  go_wp2_with fail;refine(HT.out _ (ag _ _ _)).mono ?_;rintro en w1 ⟨rfl,a8⟩;have b9:=λwx=>yp wx ((dx ms n).arg.toNat:Int) ((dx ms n).ret.toNat:Int)
  go_wp2_with fail;go_ret;exact⟨rfl,(ag _ _ _).trans a8⟩
 rw[show aM cs ms c k n lo=0 from by simp[aM,h107,h114,h43,h45,h42,h47,h60,h61,h101,h108,h110,h120,h122,h103,h99]];have a2:=tf c.toNat 107 (by omega);have a5:=tf c.toNat 114 (by omega);have b1:=tf c.toNat 43 (by omega);have b2:=tf c.toNat 45 (by omega);have b0:=tf c.toNat 42 (by omega);have b3:=tf c.toNat 47 (by omega);have b4:=tf c.toNat 60 (by omega);have b5:=tf c.toNat 61 (by omega);have a0:=tf c.toNat 101 (by omega);have a3:=tf c.toNat 108 (by omega);have a4:=tf c.toNat 110 (by omega);have a6:=tf c.toNat 120 (by omega);have a7:=tf c.toNat 122 (by omega);have a1:=tf c.toNat 103 (by omega);have b6:=tf c.toNat 99 (by omega)
 clear h107 h114 h43 h45 h42 h47 h60 h61 h101 h108 h110 h120 h122 h103 h99
 go_in
 go_wp2_with fail;go_ret;exact⟨rfl,ag _ _ _⟩
theorem BtB.lit (W:World) (base:Nat) (hb:base<=W.heap.size) (l:L_) (hl:l.length<=100):BtB (W.alloc (.cells (aP l).toArray 5)) base (.slice (some ⟨W.heap.size,0,none⟩) l.length l.length) l:=
 ⟨by simp[aP],Or.inr ⟨W.heap.size,l.length,_,rfl,hb,aO _ _,b8 _,by unfold maxLen;omega,by simp[aP],by simp only[Nat.mul_one];exact List.take_of_length_le (by simp[aP])⟩⟩
theorem BtB.lit2 (w:World) (o:Obj) (l:L_) (hl:l.length<=100):BtB ((w.alloc o).alloc (.cells (aP l).toArray 5)) w.heap.size (.slice (some ⟨w.heap.size+1,0,none⟩) l.length l.length) l:=by
 have h:=BtB.lit (w.alloc o) w.heap.size (ag (λ_=>False) w o).size l hl;have hs:(w.alloc o).heap.size=w.heap.size+1:=Array.size_push _;rw[hs]at h;exact h
def aE (cs:List bV) (ms:List Sig) (c k:UInt8) (n:Nat) (ans:UInt8):L_:=
 if c.toNat=119\/c.toNat=102 then [105]else if c.toNat=115\/c.toNat=100 then [45]else
 if c.toNat=43\/c.toNat=45\/c.toNat=42\/c.toNat=47\/c.toNat=60\/c.toNat=61 then [105,105]else
 if c.toNat=101 then [38,38]else if c.toNat=103 then [k]else if c.toNat=112 then [k,cB (cQ cs k) n]else
 if c.toNat=99 then [k,(dx ms n).arg]else if c.toNat=120 then [38]else if c.toNat=116 then [ans]else []
theorem r9 (b:Nat) (cs:List bV) (ms:List Sig) (p n:Nat) (c k ans:UInt8) (w:World) {ap:Option Addr} {np cp:Nat} (h112:c.toNat≠112) (h99:c.toNat≠99):
  Calls prog 140 #[.pointer (some ⟨b,0,none⟩),.agg #[.int .i64 p,.int .u8 c.toNat,.int .u8 k.toNat,.int .i64 n,.slice ap np cp],.int .u8 ans.toNat] w λe w'=>B_ w w'/\ ∃v,e= .returned v/\BtB w' w.heap.size v (aE cs ms c k n ans):=by
 by_cases h119:c.toNat=119
 .have hc:c=119:=bS h119;subst hc;rw[show aE cs ms 119 k n ans=[105]from by simp[aE]];clear h112 h99
  go_in
  go_wp2_with fail;exact du (.slice (some ⟨w.heap.size+1,0,none⟩) 1 1) results140 rfl rfl ⟨(ag _ _ _).trans (ag _ _ _),_,rfl,BtB.lit2 w _ [105] (by simp)⟩
 by_cases h102:c.toNat=102
 .have hc:c=102:=bS h102;subst hc;rw[show aE cs ms 102 k n ans=[105]from by simp[aE]];clear h112 h99
  go_in
  go_wp2_with fail;exact du (.slice (some ⟨w.heap.size+1,0,none⟩) 1 1) results140 rfl rfl ⟨(ag _ _ _).trans (ag _ _ _),_,rfl,BtB.lit2 w _ [105] (by simp)⟩
 by_cases h115:c.toNat=115
 .have hc:c=115:=bS h115;subst hc;rw[show aE cs ms 115 k n ans=[45]from by simp[aE]];clear h112 h99
  go_in
  go_wp2_with fail;exact du (.slice (some ⟨w.heap.size+1,0,none⟩) 1 1) results140 rfl rfl ⟨(ag _ _ _).trans (ag _ _ _),_,rfl,BtB.lit2 w _ [45] (by simp)⟩
 by_cases h100:c.toNat=100
 .have hc:c=100:=bS h100;subst hc;rw[show aE cs ms 100 k n ans=[45]from by simp[aE]];clear h112 h99
  go_in
  go_wp2_with fail;exact du (.slice (some ⟨w.heap.size+1,0,none⟩) 1 1) results140 rfl rfl ⟨(ag _ _ _).trans (ag _ _ _),_,rfl,BtB.lit2 w _ [45] (by simp)⟩
 by_cases h101:c.toNat=101
 .have hc:c=101:=bS h101;subst hc;rw[show aE cs ms 101 k n ans=[38,38]from by simp[aE]];clear h112 h99
  go_in
  go_wp2_with fail;exact du (.slice (some ⟨w.heap.size+1,0,none⟩) 2 2) results140 rfl rfl ⟨(ag _ _ _).trans (ag _ _ _),_,rfl,BtB.lit2 w _ [38,38] (by simp)⟩
 by_cases h103:c.toNat=103
 .have hc:c=103:=bS h103;subst hc;rw[show aE cs ms 103 k n ans=[k]from by simp[aE]];clear h112 h99
  go_in
  go_wp2_with fail;exact du (.slice (some ⟨w.heap.size+1,0,none⟩) 1 1) results140 rfl rfl ⟨(ag _ _ _).trans (ag _ _ _),_,rfl,BtB.lit2 w _ [k] (by simp)⟩
 by_cases h120:c.toNat=120
 .have hc:c=120:=bS h120;subst hc;rw[show aE cs ms 120 k n ans=[38]from by simp[aE]];clear h112 h99
  go_in
  go_wp2_with fail;exact du (.slice (some ⟨w.heap.size+1,0,none⟩) 1 1) results140 rfl rfl ⟨(ag _ _ _).trans (ag _ _ _),_,rfl,BtB.lit2 w _ [38] (by simp)⟩
 by_cases h116:c.toNat=116
 .have hc:c=116:=bS h116;subst hc;rw[show aE cs ms 116 k n ans=[ans]from by simp[aE]];clear h112 h99
  go_in
  go_wp2_with fail;exact du (.slice (some ⟨w.heap.size+1,0,none⟩) 1 1) results140 rfl rfl ⟨(ag _ _ _).trans (ag _ _ _),_,rfl,BtB.lit2 w _ [ans] (by simp)⟩
 by_cases h43:c.toNat=43
 .have hc:c=43:=bS h43;subst hc;rw[show aE cs ms 43 k n ans=[105,105]from by simp[aE]];clear h112 h99
  go_in
  go_wp2_with fail;exact du (.slice (some ⟨w.heap.size+1,0,none⟩) 2 2) results140 rfl rfl ⟨(ag _ _ _).trans (ag _ _ _),_,rfl,BtB.lit2 w _ [105,105] (by simp)⟩
 by_cases h45:c.toNat=45
 .have hc:c=45:=bS h45;subst hc;rw[show aE cs ms 45 k n ans=[105,105]from by simp[aE]];clear h112 h99
  go_in
  go_wp2_with fail;exact du (.slice (some ⟨w.heap.size+1,0,none⟩) 2 2) results140 rfl rfl ⟨(ag _ _ _).trans (ag _ _ _),_,rfl,BtB.lit2 w _ [105,105] (by simp)⟩
 by_cases h42:c.toNat=42
 .have hc:c=42:=bS h42;subst hc;rw[show aE cs ms 42 k n ans=[105,105]from by simp[aE]];clear h112 h99
  go_in
  go_wp2_with fail;exact du (.slice (some ⟨w.heap.size+1,0,none⟩) 2 2) results140 rfl rfl ⟨(ag _ _ _).trans (ag _ _ _),_,rfl,BtB.lit2 w _ [105,105] (by simp)⟩
 by_cases h47:c.toNat=47
 .have hc:c=47:=bS h47;subst hc;rw[show aE cs ms 47 k n ans=[105,105]from by simp[aE]];clear h112 h99
  go_in
  go_wp2_with fail;exact du (.slice (some ⟨w.heap.size+1,0,none⟩) 2 2) results140 rfl rfl ⟨(ag _ _ _).trans (ag _ _ _),_,rfl,BtB.lit2 w _ [105,105] (by simp)⟩
 by_cases h60:c.toNat=60
 .have hc:c=60:=bS h60;subst hc;rw[show aE cs ms 60 k n ans=[105,105]from by simp[aE]];clear h112 h99
  go_in
  go_wp2_with fail;exact du (.slice (some ⟨w.heap.size+1,0,none⟩) 2 2) results140 rfl rfl ⟨(ag _ _ _).trans (ag _ _ _),_,rfl,BtB.lit2 w _ [105,105] (by simp)⟩
 by_cases h61:c.toNat=61
 .have hc:c=61:=bS h61;subst hc;rw[show aE cs ms 61 k n ans=[105,105]from by simp[aE]];clear h112 h99
  go_in
  go_wp2_with fail;exact du (.slice (some ⟨w.heap.size+1,0,none⟩) 2 2) results140 rfl rfl ⟨(ag _ _ _).trans (ag _ _ _),_,rfl,BtB.lit2 w _ [105,105] (by simp)⟩
 rw[show aE cs ms c k n ans=[]from by simp[aE,h119,h102,h115,h100,h101,h103,h120,h116,h43,h45,h42,h47,h60,h61,h112,h99]];have a7:=tf c.toNat 119 (by omega);have a2:=tf c.toNat 102 (by omega);have a5:=tf c.toNat 115 (by omega);have a0:=tf c.toNat 100 (by omega);have a1:=tf c.toNat 101 (by omega);have a3:=tf c.toNat 103 (by omega);have a8:=tf c.toNat 120 (by omega);have a6:=tf c.toNat 116 (by omega);have b1:=tf c.toNat 43 (by omega);have b2:=tf c.toNat 45 (by omega);have b0:=tf c.toNat 42 (by omega);have b3:=tf c.toNat 47 (by omega);have b4:=tf c.toNat 60 (by omega);have b5:=tf c.toNat 61 (by omega)
 have a4:=tf c.toNat 112 (by omega);have b6:=tf c.toNat 99 (by omega);clear h119 h102 h115 h100 h101 h103 h120 h116 h43 h45 h42 h47 h60 h61 h112 h99
 go_in
 go_wp2_with fail;exact du (.slice (some ⟨w.heap.size+1,0,none⟩) 0 0) results140 rfl rfl ⟨(ag _ _ _).trans (ag _ _ _),_,rfl,BtB.lit2 w _ [] (by simp)⟩
theorem t9 (l:L_): ∀u∈aP l,u.oneCell'=true:=by
 intro u hu;obtain⟨c,_,rfl⟩:=List.mem_map.1 hu
 rfl
theorem pA (w:World) (ty:TypeId) (base bx:Nat) (v xv:Value) (l m:L_) (hown:BtB w base v l) (hx:BtB w bx xv m) (hlen:l.length+m.length<=100000) (hbase:base<=w.heap.size):
  ∃v' w',(Builtin.append_ #[112,112] ty #[v,xv]).run prog w= .ok v' w'/\BtB w' base v' (l++m)/\But (λk=>v.ownBlock=some k) w w'/\(v'.ownBlock=v.ownBlock\/v'.ownBlock=some w.heap.size):=by
 obtain⟨i0,a2,a5,a3,a6⟩:=info_parts ke;have hu:prog.underlying 112=some (.slice 5):=by kernel_rfl
 obtain⟨ax,cx,rfl⟩:=aw hx
 cases ax with
 |none=>
  have hm:m.length=0:=by
   obtain h|h:=Nat.eq_zero_or_pos m.length
   .exact h
   .obtain⟨g,hg,_⟩:=aF hx h
    cases hg
  have a4:m=[]:=List.length_eq_zero_iff.1 hm;subst a4
  have hc: ∃ao cap,v= .slice ao l.length cap/\l.length<=cap:=by
   obtain⟨rfl,h0⟩ | ⟨g,cap,cur,rfl,_,_,a1,_⟩:=hown.2
   .exact⟨none,0,by rw[h0],by omega⟩
   .exact⟨_,cap,rfl,a1⟩
  obtain⟨ao,cap,rfl,a1⟩:=hc;refine⟨_,w,run_append_nothing w _ _ ty 5 i0 hu a2 ao l.length cap a1 _ (by rw[a3];exact Src.ofNil w hu cx),by simpa using hown,But.refl _ _,Or.inl rfl⟩
 |some ad=>
  have a0: ∀j u,(aP m)[j]?=some u->w.cell? (ad.add j)=some u:=by
   intro j u hj;obtain⟨g,cap',hv,hc,_⟩:=iD hx hj
   have h1:ad=⟨g,0,none⟩:=by
    have h2:=congrArg (λv=>match v with|Value.slice a _ _=>a|_=>none) hv;exact Option.some.inj h2
   rw[h1];have e:(⟨g,0,none⟩:Addr).add j=⟨g,j,none⟩:=by simp[Addr.add];exact λh=>h.symm
   rw[e];exact hc
  obtain⟨v',w',hr,h2,h3,_,h5⟩:=run_append_own_at (P:=prog) w base _ ty 5 i0 _ 1 1 hu a2 a5 a3 a6 rfl (by omega) v l.length (aP l) hown ad m.length cx (aP m) (by simp[aP]) a0 (t9 m) (by unfold maxLen;omega) (by omega) hbase;refine⟨v',w',hr,?_,bc h3,h5⟩;unfold BtB;rw[aZ,aP,List.map_append];exact h2
theorem jm {w:World} {ops:Array Oper} {rest:List Oper} {o:Oper} {a:Act} {Q:Exit->Act->World->Prop} (hgd:o.guard=none) (s x:Operand)
  (ho:o.op= .call {callee:= .builtin .append,args:=#[s,x],argTypes:=#[112,112]}) (base bx:Nat) (v xv:Value) (l m:L_) (hs:a.eval s=v) (hx:a.eval x=xv) (hown:BtB w base v l) (hxo:BtB w bx xv m) (hlen:l.length+m.length<=100000) (hbase:base<=w.heap.size)
  (h: ∀ao cap w',BtB w' base (.slice ao (l++m).length cap) (l++m)->But (λk=>v.ownBlock=some k) w w'->((Value.slice ao (l++m).length cap).ownBlock=v.ownBlock\/(Value.slice ao (l++m).length cap).ownBlock=some w.heap.size)->wpList prog ops Q rest (a.put o.dst (.slice ao (l++m).length cap)) w'):wpList prog ops Q (o::rest) a w:=by
 refine wpList_plain hgd λK hK=> ?_
 obtain⟨v',w',hr,h1,h2,h3⟩:=pA w o.type base bx v xv l m hown hxo hlen hbase;obtain⟨ao,cap,rfl⟩:=aw h1;unfold Oper.wp execOp;simp only[ho,resolve,invoke,builtin,Sem.run_bind,Sem.run_pure,Result.andThen_ok,List.map_toArray,List.map_cons,List.map_nil,hs,hx,hr];exact hK _ _ (h ao cap w' h1 h2 h3)
structure XIt where
 place:Nat
 op:UInt8
 cls:UInt8
 num:Nat
 pa:Option Addr
 pn:Nat
 pc:Nat
structure bM where
 cls:UInt8
 meth:Nat
 ans:UInt8
 locals:L_
 items:List XIt
def bX (l:List XIt):List Value:=l.flatMap λx=> [.int .i64 x.place,.int .u8 x.op.toNat,.int .u8 x.cls.toNat,.int .i64 x.num,.slice x.pa x.pn x.pc]
def lH (l:List (bM×Value×Value)):List Value:=l.flatMap λx=> [.int .u8 x.1.cls.toNat,.int .i64 x.1.meth,.int .u8 x.1.ans.toNat,x.2.1,x.2.2]
theorem f9 (l:List XIt) (x:XIt):bX (l++ [x])=bX l++ [.int .i64 x.place,.int .u8 x.op.toNat,.int .u8 x.cls.toNat,.int .i64 x.num,.slice x.pa x.pn x.pc]:=by simp[bX]
theorem sc (l:List (bM×Value×Value)) (x:bM×Value×Value):lH (l++ [x])=lH l++ [.int .u8 x.1.cls.toNat,.int .i64 x.1.meth,.int .u8 x.1.ans.toNat,x.2.1,x.2.2]:=by simp[lH]
theorem sd (l:List (bV×Value)) (x:bV×Value):ix (l++ [x])=ix l++ [.int .u8 x.1.par.toNat,x.2]:=by simp[ix]
theorem aS {l:List XIt} {j k:Nat} {x:XIt} (h:l[j]?=some x) (hk:k<5):(bX l)[j*5+k]?=[Value.int .i64 x.place,.int .u8 x.op.toNat,.int .u8 x.cls.toNat,.int .i64 x.num,.slice x.pa x.pn x.pc][k]?:=
 eY (λx:XIt=> [Value.int .i64 x.place,.int .u8 x.op.toNat,.int .u8 x.cls.toNat,.int .i64 x.num,.slice x.pa x.pn x.pc]) 5 (λ_=>rfl) l j k x h hk
theorem ba {l:List (bM×Value×Value)} {j k:Nat} {x:bM×Value×Value} (h:l[j]?=some x) (hk:k<5):(lH l)[j*5+k]?=[Value.int .u8 x.1.cls.toNat,.int .i64 x.1.meth,.int .u8 x.1.ans.toNat,x.2.1,x.2.2][k]?:=
 eY (λx:bM×Value×Value=> [Value.int .u8 x.1.cls.toNat,.int .i64 x.1.meth,.int .u8 x.1.ans.toNat,x.2.1,x.2.2]) 5 (λ_=>rfl) l j k x h hk
theorem ua (l:List XIt):(bX l).length=l.length*5:=by
 induction l with
 |nil=>rfl
 |cons x l ih=>simp[bX]at ih⊢;omega
def ItB (w:World) (base:Nat) (v:Value) (l:List XIt):Prop:=w.ownsRow base 219 5 v l.length (bX l)
def TcV (w:World) (base:Nat) (v:Value) (cs:List bV):Prop:=
 ∃l,w.ownsRow base 240 2 v l.length (ix l)/\l.map (·.1)=cs/\ ∀x∈l,BtB w base x.2 x.1.fields
def TmV (w:World) (base:Nat) (v:Value) (ms:List Sig):Prop:=w.ownsRow base 243 2 v ms.length (dr ms)
def TbV (w:World) (base:Nat) (v:Value) (bs:List bM):Prop:=
 ∃l,w.ownsRow base 115 5 v l.length (lH l)/\l.map (·.1)=bs/\ ∀x∈l,BtB w base x.2.1 x.1.locals/\ItB w base x.2.2 x.1.items
theorem bj {F:Nat->Prop} {w w':World} {base e size n:Nat} {v:Value} {xs:List Value} (h:w.ownsRow base e size v n xs) (hb:But F w w') (hf: ∀g cur,w.heap[g]?=some (.cells cur e)->base<=g-> ¬F g):w'.ownsRow base e size v n xs:=by
 refine⟨h.1,?_⟩;obtain h2| ⟨g,cap,cur,hv,hg,hh,r⟩:=h.2
 .exact Or.inl h2
 .exact Or.inr ⟨g,cap,cur,hv,hg,(hb.block g (ae hh) (hf g cur hh hg)).trans hh,r⟩
theorem yq {w:World} {base e size n:Nat} {v:Value} {xs:List Value} (h:w.ownsRow base e size v n xs) {g:Nat} (hg:v.ownBlock=some g): ∃cur,w.heap[g]?=some (.cells cur e):=by
 obtain⟨rfl,_⟩ | ⟨g',cap,cur,rfl,hb,hh,_⟩:=h.2
 .cases hg
 .simp[Value.ownBlock]at hg;subst hg;exact⟨_,hh⟩
theorem fH {w:World} {base e size n:Nat} {v:Value} {xs:List Value} (h:w.ownsRow base e size v n xs) {g e':Nat} {cur:Array Value} (hh:w.heap[g]?=some (.cells cur e')) (hne:e'≠e): ¬v.ownBlock=some g:=by
 intro hg;obtain⟨c,hc⟩:=yq h hg;rw[hc]at hh;injection hh with hh;injection hh with h1 h2;exact hne h2.symm
theorem TcV.but {F:Nat->Prop} {w w':World} {base:Nat} {v:Value} {cs:List bV} (h:TcV w base v cs) (hb:But F w w') (hf: ∀g e cur,w.heap[g]?=some (.cells cur e)->(e=240\/e=5)->base<=g-> ¬F g):TcV w' base v cs:=by
 obtain⟨l,h1,h2,h3⟩:=h;exact⟨l,bj h1 hb (λg cur hh hg=>hf g _ cur hh (Or.inl rfl) hg),h2,λx hx=>bj (h3 x hx) hb (λg cur hh hg=>hf g _ cur hh (Or.inr rfl) hg)⟩
theorem TmV.but {F:Nat->Prop} {w w':World} {base:Nat} {v:Value} {ms:List Sig} (h:TmV w base v ms) (hb:But F w w') (hf: ∀g e cur,w.heap[g]?=some (.cells cur e)->(e=243)->base<=g-> ¬F g):TmV w' base v ms:=
 bj h hb (λg cur hh hg=>hf g _ cur hh rfl hg)
theorem TbV.but {F:Nat->Prop} {w w':World} {base:Nat} {v:Value} {bs:List bM} (h:TbV w base v bs) (hb:But F w w') (hf: ∀g e cur,w.heap[g]?=some (.cells cur e)->(e=115\/e=5\/e=219)->base<=g-> ¬F g):TbV w' base v bs:=by
 obtain⟨l,h1,h2,h3⟩:=h;exact⟨l,bj h1 hb (λg cur hh hg=>hf g _ cur hh (Or.inl rfl) hg),h2,λx hx=>⟨bj (h3 x hx).1 hb (λg cur hh hg=>hf g _ cur hh (Or.inr (Or.inl rfl)) hg),bj (h3 x hx).2 hb (λg cur hh hg=>hf g _ cur hh (Or.inr (Or.inr rfl)) hg)⟩⟩
theorem TcV.tx {w:World} {base b:Nat} {v:Value} {cs:List bV} (h:TcV w base v cs) (hc:w.cell? ⟨b,0,none⟩=some v) (hb:b<w.heap.size):TxC w b cs:=by
 obtain⟨l,h1,h2,h3⟩:=h;exact⟨v,l,hc,hb,h1.mono (Nat.zero_le _),h2,λx hx=>dn (h3 x hx) (Nat.zero_le _)⟩
theorem TmV.tx {w:World} {base b:Nat} {v:Value} {ms:List Sig} (h:TmV w base v ms) (hc:w.cell? ⟨b,1,none⟩=some v) (hb:b<w.heap.size):TxM w b ms:=
 ⟨v,hc,hb,dn h (Nat.zero_le _)⟩
theorem TcV.len {w:World} {base:Nat} {v:Value} {cs:List bV} (h:TcV w base v cs): ∃ao cap,v= .slice ao cs.length cap:=by
 obtain⟨l,h1,h2,h3⟩:=h;obtain⟨ao,cap,hv⟩:=aw h1;exact⟨ao,cap,by rw[hv,<-h2];simp⟩
end
end Go.Proofs.YtpfkkmacakjmbaaGreatDoor
