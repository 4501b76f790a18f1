import Derived.Test.YtpfkkmacakjmbaaGreatDoorP14
import Derived.Test.YtpfkkmacakjmbaaGreatDoorP02
import Derived.Deep.Upon
set_option maxRecDepth 100000
set_option maxHeartbeats 6400000
set_option linter.unusedSimpArgs false
set_option linter.unusedVariables false
namespace Go.Proofs.YtpfkkmacakjmbaaGreatDoor
section
open Go Go.RowKit Sp
attribute [local go_sem ↓] Go.wp_at_zero Go.wp_at_succ
def gU (cs:List bz) (c:UInt8):Nat→UInt8→UInt8
 |0,_=>45
 |f+1,x=>if aI cs.length x=false then 45 else if dT cs c x=true then x else gU cs c f (iq cs x)
def eX (cs:List bz) (a c:UInt8):UInt8:=if dT cs a c=true then c else gU cs c cs.length a
theorem ku (b:Nat) (cs:List bz) (a c:UInt8) (w:World) (hn:cs.length≤100) (hT:TxC w b cs):
  Calls Tryz.prog 205 #[.pointer (some ⟨b,0,none⟩),.int .u8 a.toNat,.int .u8 c.toNat] w fun e w'=>e= .returned (.int .u8 (eX cs a c).toNat)∧w'=w:=by
 obtain⟨R,a0⟩: ∃R,eX cs a c=R:=⟨_,rfl⟩;rw[a0];unfold eX at a0;have a3:=jt b cs a c w hn hT
 by_cases hf0:dT cs a c=true
 ·rw[if_pos hf0]at a0;subst a0;rw[hf0]at a3;have b0:=hid a3;clear a3 hf0
  go_in
  go_wp2_with fail;refine b0.out.mono ?_;rintro en w1 ⟨rfl,rfl⟩;go_wp2_with fail;go_ret;exact⟨rfl,rfl⟩
 rw[if_neg hf0]at a0;have a5:dT cs a c=false:=by simpa using hf0
 rw[a5]at a3;have b0:=hid a3;have a2:=hid a0;clear a0 a3 hf0 a5;have b6:=hT;obtain⟨v0,l,h0,hl,hO,hm,hf⟩:=b6;obtain⟨ao,cap,rfl⟩:=aq hO;have b5:l.length=cs.length:=by rw[←hm];simp
 rw[b5]at h0;clear hm hf hO b5;obtain⟨n,b3⟩: ∃n,cs.length=n:=⟨_,rfl⟩;have HN:=hid b3;rw[b3]at h0 hn;clear b3
 go_in
 go_wp2_with fail;refine b0.out.mono ?_;rintro en w1 ⟨rfl,rfl⟩;go_wp2_with fail;rw[HN.out]at a2
 go_loopg [7,8] n (fun mm ls is wr=> ∃(x:UInt8) (k:Nat),ls= .int .u8 x.toNat∧is= .int .i64 k∧k≤n∧k+mm≤n∧n≤k+mm∧wr=w1∧Hid (gU cs c mm x=R))
 case atStart=>exact⟨a,0,rfl,rfl,by omega,by omega,by omega,rfl,a2.out⟩
 case round=>
  obtain⟨x,k,rfl,rfl,e1,c7,e2,e0,HA⟩:=hrel;subst e0;have b4:gk=n-k:=by omega
  rw[b4]at HA;clear b4 c7
  by_cases hlt:k<n
  ·have d6:(k:Int)<(n:Int):=by omega
   rw[show n-k=(n-(k+1))+1 from by omega]at HA;have a1:=fp b cs x wr (by rw[HN.out];exact hn) hT
   by_cases hl:aI cs.length x=true
   ·rw[hl]at a1;have a7:=hid a1;have hA:=HA.out;simp only[gU,hl,Bool.true_eq_false,if_false]at hA;have a4:=jt b cs c x wr (by rw[HN.out];exact hn) hT
    by_cases hxc:dT cs c x=true
    ·rw[if_pos hxc]at hA;rw[hxc]at a4;have b1:=hid a4;subst hA;clear a1 hl hxc HA a2 a4;go_wp2_with fail;refine a7.out.mono ?_;rintro en w1 ⟨rfl,rfl⟩;go_wp2_with fail;refine b1.out.mono ?_;rintro en w1 ⟨rfl,rfl⟩;go_wp2_with fail;go_ret;exact⟨rfl,rfl⟩
    ·rw[if_neg hxc]at hA;have a6:dT cs c x=false:=by simpa using hxc
     rw[a6]at a4;have b1:=hid a4;have a8:=hid hA;clear a1 hl hxc a6 HA hA a2 a4;go_wp2_with fail;refine a7.out.mono ?_;rintro en w1 ⟨rfl,rfl⟩;go_wp2_with fail;refine b1.out.mono ?_;rintro en w1 ⟨rfl,rfl⟩;go_wp2_with fail;refine(mI b cs x w1 (by rw[HN.out];exact hn) hT).mono ?_;rintro en w2 ⟨rfl,rfl⟩;revert a8;generalize iq cs x=px;intro a8;go_wp2_with fail
     go_roundg (n-(k+1))
     case measure=>omega
     case rel=>exact⟨px,k+1,rfl,by simp,by omega,by omega,by omega,rfl,a8.out⟩
   ·have b2:aI cs.length x=false:=by simpa using hl
    rw[b2]at a1;have a7:=hid a1;have hA:=HA.out;simp only[gU,b2,if_true]at hA;subst hA;clear a1 hl b2 HA a2;go_wp2_with fail;refine a7.out.mono ?_;rintro en w1 ⟨rfl,rfl⟩;go_wp2_with fail;go_ret;exact⟨rfl,rfl⟩
  ·have d6: ¬(k:Int)<(n:Int):=by omega
   rw[show n-k=0 from by omega]at HA;have hA:45=R:=HA.out;subst hA;clear HA a2;go_wp2_with fail;go_ret;exact⟨rfl,rfl⟩
def toX (c:Cls):bz:=⟨if c.par<0 then 45 else UInt8.ofNat (65+c.par.toNat),c.fields⟩
theorem kv {cs:List Cls} (hw:WfC cs) (hn:cs.length≤4) {x:UInt8} (hx:aI cs.length x=true):(bV cs (kl x)<0∧iq (cs.map toX) x=45)∨(0≤bV cs (kl x)∧aI cs.length (iq (cs.map toX) x)=true∧kl (iq (cs.map toX) x)=bV cs (kl x)):=by
 have a0:=hx;simp only[aI,Bool.and_eq_true,decide_eq_true_eq]at a0;have hk:(kl x).toNat=x.toNat-65:=by unfold kl;omega
 obtain⟨c,hc⟩: ∃c,cs[x.toNat-65]?=some c:=⟨_,List.getElem?_eq_getElem (by omega)⟩;have hp:bV cs (kl x)=c.par:=by unfold bV;rw[hk,hc];rfl
 have hq:iq (cs.map toX) x=(toX c).par:=by
  unfold iq;rw[List.length_map,if_pos hx,List.getElem?_map,hc]
  rfl
 have hr:=hw _ _ hc;rw[hp,hq];unfold toX
 by_cases h0:c.par<0
 ·left;exact⟨h0,by simp[h0]⟩
 ·right
  have hv:(UInt8.ofNat (65+c.par.toNat)).toNat=65+c.par.toNat:=by simp;omega
  simp only[if_neg h0];refine⟨by omega,?_,?_⟩
  ·simp only[aI,hv,Bool.and_eq_true,decide_eq_true_eq];omega
  ·unfold kl;rw[hv];omega
theorem oy {cs:List Cls} (hw:WfC cs) (hn:cs.length≤4) {n:Nat}:aI n 45=false:=by simp[aI]
theorem ri {cs:List Cls} (hw:WfC cs) (hn:cs.length≤4) {y:UInt8} (hy:aI cs.length y=true): ∀{f:Nat} {x:UInt8},aI cs.length x=true→kl x<f→f≤5→ea (cs.map toX) y f x=bq cs 5 (kl x) (kl y):=by
 intro f
 induction f with
 |zero=>intro x hx h1 _;simp only[aI,Bool.and_eq_true,decide_eq_true_eq]at hx;unfold kl at h1;omega
 |succ f ih=>
  intro x hx h1 hf;have a3:=hx;have a4:=hy;simp only[aI,Bool.and_eq_true,decide_eq_true_eq]at a3 a4;have r0:0≤kl x∧kl x≤3:=by unfold kl;omega
  rw[ea,List.length_map,hx,if_neg (by simp)]
  by_cases he:x=y
  ·subst he;rw[if_pos rfl,o8 hw r0.1]
  ·rw[if_neg he];have a2:kl x≠kl y:=fun h=>he (UInt8.toNat_inj.1 (by unfold kl at h;omega))
   have a0:=d7 hw (y:=kl y) r0.1 (by omega);have a5:=cU hw r0.1
   have a1:bq cs 5 (kl x) (kl y)=bq cs 5 (bV cs (kl x)) (kl y):=by
    rw[Bool.eq_iff_iff,a0]
    constructor
    ·rintro(h|h)
     ·exact absurd h a2
     ·exact h
    ·exact Or.inr
   rw[a1];rcases kv hw hn hx with⟨h2,h3⟩ | ⟨h2,h3,h4⟩
   ·rw[h3,iP hw h2]
    cases f with
    |zero=>rfl
    |succ f=>rw[ea,List.length_map,oy hw hn];rfl
   ·rw[ih h3 (by rw[h4];omega) (by omega),h4]
theorem ei {cs:List Cls} (hw:WfC cs) (hn:cs.length≤4) {x:UInt8} (hx:okT cs.length x=true):isC x=aI cs.length x:=by
 rw[cR]at hx;rw[Bool.eq_iff_iff,bB];simp only[aI,Bool.and_eq_true,decide_eq_true_eq];omega
theorem uU {cs:List Cls} (hw:WfC cs) (hn:cs.length≤4) {y x:UInt8} {f:Nat} (h:aI cs.length x=false):ea (cs.map toX) y f x=false:=by
 cases f with
 |zero=>rfl
 |succ f=>rw[ea,List.length_map,h];rfl
theorem nK {cs:List Cls} (hw:WfC cs) (hn:cs.length≤4) {y:UInt8} (hy:aI cs.length y=false): ∀{f:Nat} {x:UInt8},ea (cs.map toX) y f x=false:=by
 intro f
 induction f with
 |zero=>intro x;rfl
 |succ f ih=>
  intro x;rw[ea,List.length_map]
  cases hx:aI cs.length x with
  |false=>simp
  |true=>
   rw[if_neg (by simp),if_neg (fun h=>by rw[h,hy]at hx;cases hx)];exact ih
theorem fL {cs:List Cls} (hw:WfC cs) (hn:cs.length≤4) {a c:UInt8} (ha:okT cs.length a=true) (hc:okT cs.length c=true):dT (cs.map toX) a c=bv cs a c:=by
 rw[Bool.eq_iff_iff,aO];unfold dT;rw[ei hw hn ha,ei hw hn hc,List.length_map]
 by_cases h1:a=c
 ·simp[h1]
 by_cases h2:c.toNat=45
 ·simp[h2]
 rw[if_neg (not_or.2 ⟨h1,h2⟩)];simp only[h1,h2,false_or]
 by_cases h3:a.toNat=122
 ·rw[if_pos h3];have:aI cs.length a=false:=by simp only[aI,Bool.and_eq_false_iff,decide_eq_false_iff_not];omega
  simp[h3,this]
 ·rw[if_neg h3];simp only[h3,and_false,false_or]
  cases hla:aI cs.length a with
  |false=>rw[uU hw hn hla];simp
  |true=>
   cases hlc:aI cs.length c with
   |false=>rw[nK hw hn hlc];simp
   |true=>
    have a0:=hla;simp only[aI,Bool.and_eq_true,decide_eq_true_eq]at a0;rw[ri hw hn hlc hla (by unfold kl;omega) (by omega)];simp
end
section
open Go Go.RowKit Sp
theorem pC {cs:List Cls} (hw:WfC cs) (hn:cs.length≤4) {x:UInt8} (h:aI cs.length x=true):okT cs.length x=true:=by
 rw[cR];simp only[aI,Bool.and_eq_true,decide_eq_true_eq]at h;omega
theorem rj {cs:List Cls} (hw:WfC cs) (hn:cs.length≤4) (x:UInt8):bv cs x 45=true:=aO.2 (Or.inr (Or.inl rfl))
theorem Am {cs:List Cls} (hw:WfC cs) (hn:cs.length≤4) {x d:UInt8} (hx:aI cs.length x=true) (hne:x≠d) (h:bv cs x d=true):bv cs (iq (cs.map toX) x) d=true∨d.toNat=45:=by
 have a0:=hx;simp only[aI,Bool.and_eq_true,decide_eq_true_eq]at a0;rw[aO]at h;rcases h with h|h| ⟨_,h⟩ | ⟨h1,h2,h3⟩
 ·exact absurd h hne
 ·exact Or.inr h
 ·omega
 ·left
  have r0:0≤kl x∧kl x≤3:=by unfold kl;omega
  rcases(d7 hw r0.1 (by omega)).1 h3 with h|h
  ·exact absurd (UInt8.toNat_inj.1 (by unfold kl at h;omega)) hne
  ·rcases kv hw hn hx with⟨e1,e2⟩ | ⟨e1,e2,e3⟩
   ·rw[iP hw e1]at h;cases h
   ·rw[aO,e3];exact Or.inr (Or.inr (Or.inr ⟨by rw[ei hw hn (pC hw hn e2)];exact e2,h2,h⟩))
theorem zh {cs:List Cls} (hw:WfC cs) (hn:cs.length≤4) {x:UInt8} (hx:aI cs.length x=true):bv cs x (iq (cs.map toX) x)=true:=by
 have a0:=hx;simp only[aI,Bool.and_eq_true,decide_eq_true_eq]at a0;have r0:0≤kl x∧kl x≤3:=by unfold kl;omega
 rcases kv hw hn hx with⟨e1,e2⟩ | ⟨e1,e2,e3⟩
 ·rw[e2];exact rj hw hn x
 ·rw[aO,e3];refine Or.inr (Or.inr (Or.inr ⟨by rw[ei hw hn (pC hw hn hx)];exact hx,by rw[ei hw hn (pC hw hn e2)];exact e2,?_⟩));exact(d7 hw r0.1 (by omega)).2 (Or.inr (o8 hw e1))
theorem sW {cs:List Cls} (hw:WfC cs) (hn:cs.length≤4) {c:UInt8} (hc:okT cs.length c=true): ∀{f:Nat} {x:UInt8},aI cs.length x=true→kl x<f→f≤5→
  bv cs x (gU (cs.map toX) c f x)=true∧bv cs c (gU (cs.map toX) c f x)=true∧ ∀d,bv cs x d=true→bv cs c d=true→bv cs (gU (cs.map toX) c f x) d=true:=by
 intro f
 induction f with
 |zero=>intro x hx h1 _;simp only[aI,Bool.and_eq_true,decide_eq_true_eq]at hx;unfold kl at h1;omega
 |succ f ih=>
  intro x hx h1 hf;rw[gU,List.length_map,hx,if_neg (by simp),fL hw hn hc (pC hw hn hx)]
  by_cases hs:bv cs c x=true
  ·rw[if_pos hs];exact⟨fA _,hs,fun d h _=>h⟩
  ·rw[if_neg hs];have a0:=fun d (h:bv cs x d=true) (h':bv cs c d=true)=>Am hw hn (d:=d) hx (fun e=>hs (by rw[e];exact h')) h
   rcases kv hw hn hx with⟨e1,e2⟩ | ⟨e1,e2,e3⟩
   ·have hm:gU (cs.map toX) c f (iq (cs.map toX) x)=45:=by
     rw[e2]
     cases f with
     |zero=>rfl
     |succ f=>rw[gU,List.length_map,oy hw hn];rfl
    rw[hm];refine⟨rj hw hn _,rj hw hn _,fun d h h'=> ?_⟩;rcases a0 d h h' with h2|h2
    ·rw[e2]at h2;exact h2
    ·exact aO.2 (Or.inr (Or.inl h2))
   ·have a1:=cU hw (p:=kl x) (by simp only[aI,Bool.and_eq_true,decide_eq_true_eq]at hx;unfold kl;omega);have i1:=ih e2 (by rw[e3];omega) (by omega);refine⟨jO hw (zh hw hn hx) i1.1,i1.2.1,fun d h h'=> ?_⟩;rcases a0 d h h' with h2|h2
    ·exact i1.2.2 d h2 h'
    ·exact aO.2 (Or.inr (Or.inl h2))
theorem lw {cs:List Cls} (hw:WfC cs) (hn:cs.length≤4) {a c:UInt8} (ha:okT cs.length a=true) (hc:okT cs.length c=true):eX (cs.map toX) a c=gO cs a c:=by
 have hj:=kQ hw a c
 suffices h:bv cs a (eX (cs.map toX) a c)=true∧bv cs c (eX (cs.map toX) a c)=true∧ ∀d,bv cs a d=true→bv cs c d=true→bv cs (eX (cs.map toX) a c) d=true by
  exact oo hw (h.2.2 _ hj.1 hj.2.1) (hj.2.2 _ h.1 h.2.1)
 unfold eX;rw[fL hw hn ha hc]
 by_cases h1:bv cs a c=true
 ·rw[if_pos h1];exact⟨h1,fA _,fun d _ h=>h⟩
 rw[if_neg h1,List.length_map]
 cases hl:aI cs.length a with
 |true=>
  have a1:=hl;simp only[aI,Bool.and_eq_true,decide_eq_true_eq]at a1;exact sW hw hn hc hl (by unfold kl;omega) (by omega)
 |false=>
  have hm:gU (cs.map toX) c cs.length a=45:=by
   cases hf:cs.length with
   |zero=>rfl
   |succ f=>rw[gU,List.length_map,hl];rfl
  rw[hm];refine⟨rj hw hn _,rj hw hn _,fun d h h'=> ?_⟩;have a0:isC a=false:=by rw[ei hw hn ha];exact hl
  rw[aO]at h h'
  apply aO.2
  right;left
  rcases h with rfl|h| ⟨p1,p2⟩ | ⟨p1,_⟩
  ·rw[cR]at ha;rcases h' with h'|h'| ⟨q1,_⟩ | ⟨_,q1,_⟩
   ·exact absurd (aO.2 (Or.inl h'.symm)) h1
   ·exact h'
   ·rw[a0]at q1;cases q1
   ·rw[a0]at q1;cases q1
  ·exact h
  ·rcases h' with rfl|h'| ⟨q1,q2⟩ | ⟨q1,_⟩
   ·exact absurd (aO.2 (Or.inr (Or.inr (Or.inl ⟨p1,p2⟩)))) h1
   ·exact h'
   ·exact absurd (aO.2 (Or.inl (UInt8.toNat_inj.1 (by omega)))) h1
   ·exact absurd (aO.2 (Or.inr (Or.inr (Or.inl ⟨q1,p2⟩)))) h1
  ·rw[a0]at p1;cases p1
end
section
open Go Go.RowKit Sp
attribute [local go_sem ↓] Go.wp_at_zero Go.wp_at_succ
theorem jF (b:Nat) (cs:List bz) (a1 a2:Option Addr) (c1 c2:Nat) (l m:List UInt8) (w:World) (hn:cs.length≤100) (hT:TxC w b cs) (h1:BtB w 0 (.slice a1 l.length c1) l) (h2:BtB w 0 (.slice a2 m.length c2) m) (hl:l.length=m.length) (hm:m.length≤200):
  Calls Tryz.prog 172 #[.pointer (some ⟨b,0,none⟩),.slice a1 l.length c1,.slice a2 m.length c2] w fun en w'=>But (fun _=>False) w w'∧ ∃v,en= .returned v∧BtB w' w.heap.size v (List.zipWith (eX cs) l m):=by
 obtain⟨i0,e9,f2,f3,f4⟩:=info_parts io;have HL:=hid hl;have f8:l.length≤m.length:=by omega
 clear hl
 go_in
 go_wp2_with fail;have e5:But (fun _=>False) w (w.alloc (.cells #[] 5)):=But.alloc _ _ _
 go_loopg [7,8] l.length (fun mm vs is wr=> ∃(ao:Option Addr) (cap k:Nat) (t:List UInt8),vs= .slice ao t.length cap∧is= .int .i64 k∧k≤l.length∧k+mm≤l.length∧l.length≤k+mm∧But (fun _=>False) w wr∧BtB wr w.heap.size (.slice ao t.length cap) t∧t.length≤k∧
  Hid (List.zipWith (eX cs) (l.take k) (m.take k)=t))
 case atStart=>exact⟨_,0,0,[],rfl,rfl,by omega,by omega,by omega,e5,BtB.empty w,by simp,rfl⟩
 case round=>
  obtain⟨ao,cap,k,t,rfl,rfl,f6,f0,f7,b0,d6,g3,HA⟩:=hrel;clear f0
  by_cases hlt:k<l.length
  ·have e1:(k:Int)<(l.length:Int):=by omega
   have e2:(k:Int)<(m.length:Int):=by omega
   have a6:k<m.length:=by omega
   obtain⟨g1,r1,e7,_,a0⟩:=aD (h1.but b0 (fun _ _ h=>h)) (by omega);obtain⟨g2,r2,e8,_,a3⟩:=aD (h2.but b0 (fun _ _ h=>h)) (by omega);subst r1 r2;have q1:=a0 _ _ (cN hlt);have q2:=a3 _ _ (cN a6)
   have a7:Hid (List.zipWith (eX cs) (l.take (k+1)) (m.take (k+1))=t++ [eX cs (l.getD k 0) (m.getD k 0)]):=by
    show _=_
    rw[List.take_succ_eq_append_getElem hlt,List.take_succ_eq_append_getElem a6,List.zipWith_append (by simp;omega),HA.out];simp[List.getD,hlt,a6]
   clear a0 a3;revert q1 q2 a7;generalize l.getD k 0=x;generalize m.getD k 0=y;intro q1 q2 a7;go_wp2_with fail;have b1:But (fun _=>False) wr wr.drew:=But.drew _ _;have c7:=hid (ku b cs x y wr.drew hn ((hT.but b0).but b1));refine aB (But (fun _=>False) wr) 10 (by kernel_rfl) ?_
   iterate 9 (refine aG (v:=?_) rfl (by kernel_rfl) (fun _ _ _ h=>h) rfl b1 ?_ ?_;rotate_left;(focus (intro wS h;have q0:=(h.kc q1 e7);have q1:=(h.kc q2 e8);clear h;go_simp;try rfl));dsimp only[Act.put];try simp only[aK])
   refine ag rfl (by kernel_rfl) ?_;intro KS hKS;go_simp;refine c7.out.mono ?_;rintro en wx ⟨rfl,e3⟩;rw[e3];clear e3 wx c7;refine hKS.out _ _ (fun _=>b1) ?_;clear hKS KS;refine ag rfl (by kernel_rfl) ?_;intro KS hKS;go_simp;refine hKS.out _ _ nofun ?_;clear hKS KS;refine aF rfl (by kernel_rfl) ?_;revert a7;generalize eX cs x y=z;intro a7;have a4:But (fun _=>False) w wr.drew:=b0.trans b1;have a5:=d6.but b1 (fun _ _ h=>h);revert a4 a5;generalize wr.drew=w1;intro a4 a5;have e0:w1.ownsRow w.heap.size 5 1 (.slice ao t.length cap) t.length (aJ t):=a5;have g0:=a4.size;clear q1 q2;go_wp2_with (at_builtin;refine wpList_append_lies _ rfl _ _ _ rfl w.heap.size 5 i0 _ 1 1 (by kernel_rfl) e9 f2 f3 f4 rfl (by omega) _ t.length (aJ t) rfl (e0.alloc _) ⟨w1.heap.size,0,none⟩ 1 1 [.int .u8 z.toNat] rfl rfl (World.news_of_block (cs:=#[.int .u8 z.toNat]) (t:=5) (fr:=(0,0)) (heap_alloc_new w1 _)) (by simp[Value.oneCell']) (by omega) (by unfold maxLen;omega) (by omega) (by simp;omega) (w1.heap.size+1) (by simp) ?_)
   intro gg a8 w2 b3 b2 f5 f1;have e6:But (fun k'=>(Value.slice ao t.length cap).ownBlock=some k') w1 w2:=(But.alloc _ _ _).trans (aX b2);have b6:But (fun _=>False) w w2:=a4.next e6 (fun k' hk' h=>absurd (aj e0 k' h) (by omega))
   have b5:BtB w2 w.heap.size (.slice (some ⟨gg,0,none⟩) (t++ [z]).length a8) (t++ [z]):=by
    unfold BtB;rw[List.length_append,aJ,List.map_append];exact b3
   go_wp2_with fail
   go_roundg (l.length-(k+1))
   case measure=>omega
   case rel=>exact⟨_,a8,k+1,t++ [z],by simp,by simp,by omega,by omega,by omega,b6,b5,by simp;omega,a7.out⟩
  ·have e1: ¬(k:Int)<(l.length:Int):=by omega
   have b4:List.zipWith (eX cs) l m=t:=by rw[←HA.out,List.take_of_length_le (by omega),List.take_of_length_le (by have:=HL.out;omega)]
   have e4:=hid b4;clear b4 HA;go_wp2_with fail;exact cB (.slice ao t.length cap) Tryz.results172 rfl rfl ⟨b0,_,rfl,by rw[e4.out];exact d6⟩
theorem sX (b:Nat) (s:ByteArray) (i:Nat) (v0 v1:Value) (v2:RdV) (w:World) (most n:Nat) (e:UInt8) (he:0<e.toNat) (hm:most≤10) (hs:s.size≤2000) (hR:XrB w b s i true v0 v1 v2):
  Calls Tryz.prog 216 #[.pointer (some ⟨b,0,none⟩),.int .i64 most,.int .i64 n,.int .u8 e.toNat] w fun en w'=>But (· =b) w w'∧en= .returned (.slice (some ⟨w.heap.size,0,none⟩) 0 0)∧XrB w' b s i true v0 v1 v2∧BtB w' w.heap.size (.slice (some ⟨w.heap.size,0,none⟩) 0 0) []:=by
 go_in
 go_wp2_with fail;have a3:But (· =b) w (w.alloc (.cells #[] 5)):=But.alloc _ _ _;have a1:XrB (w.alloc (.cells #[] 5)) b s i true v0 v1 v2:=hR.but (But.alloc (fun _=>False) _ _) (fun h=>h);have a8:=hR.lt;have hE:=BtB.empty w;revert a3 a1 hE;generalize (w.alloc (.cells #[] 5))=W;intro a3 a1 hE
 go_loopg [9] 0 (fun mm vs wr=>vs= .slice (some ⟨w.heap.size,0,none⟩) 0 0∧wr=W)
 case atStart=>exact⟨rfl,rfl⟩
 case round=>
  obtain⟨rfl,a7⟩:=hrel;subst a7
  have a2: ∀(w1:World),But (· =b) wr w1→XrB w1 b s (tkP s e i true).1 (tkP s e i true).2 v0 v1 v2→But (· =b) w w1∧XrB w1 b s i true v0 v1 v2∧BtB w1 w.heap.size (.slice (some ⟨w.heap.size,0,none⟩) 0 0) []:=by
   intro w1 h1 h2;rw[show tkP s e i true=(i,true)from by unfold tkP;rw[if_neg (by simp)]]at h2;exact⟨a3.trans h1,h2,hE.but h1 (fun g hg h=>by have:=aj hE g hg;omega)⟩
  have HF:=hid a2;clear a2
  by_cases hlt:(0:Int)<(most:Int)
  ·have a0:=cA b s i true v0 v1 v2 wr e a1;rw[show(!true&& !decide (pk s i=e))=false from rfl]at a0;have a6:=hid a0;clear a0;go_wp2_with fail;refine a6.out.mono ?_;rintro en w1 ⟨rfl,m,rfl⟩;go_wp2_with fail;refine(dl b s i true v0 v1 v2 _ e he hs (a1.drewN m)).mono ?_;rintro en w2 ⟨rfl,a4,a5⟩;go_wp2_with fail;exact cB (.slice (some ⟨w.heap.size,0,none⟩) 0 0) Tryz.results216 rfl rfl (have h:=HF.out w2 ((But.drewN _ _ _).trans a4) a5;⟨h.1,rfl,h.2⟩)
  ·go_wp2_with fail;refine(dl b s i true v0 v1 v2 _ e he hs a1).mono ?_;rintro en w2 ⟨rfl,a4,a5⟩;go_wp2_with fail;exact cB (.slice (some ⟨w.heap.size,0,none⟩) 0 0) Tryz.results216 rfl rfl (have h:=HF.out w2 a4 a5;⟨h.1,rfl,h.2⟩)
def bL (cs:List bz) (a c:UInt8):Bool:=if c.toNat=38 then(decide (a.toNat=122)||aI cs.length a)else dT cs a c
theorem mJ (b:Nat) (cs:List bz) (a c:UInt8) (w:World) (hn:cs.length≤100) (hT:TxC w b cs):
  Calls Tryz.prog 204 #[.pointer (some ⟨b,0,none⟩),.int .u8 a.toNat,.int .u8 c.toNat] w fun e w'=>e= .returned (.bool (bL cs a c))∧w'=w:=by
 by_cases h1:c.toNat=38
 ·have e1:((c.toNat:Int)==38)=true:=by rw[beq_iff_eq];omega
  by_cases h2:a.toNat=122
  ·have e2:((a.toNat:Int)==122)=true:=by rw[beq_iff_eq];omega
   rw[show bL cs a c=true from by unfold bL;rw[if_pos h1];simp[h2]];clear h1 h2
   go_in
   go_wp2_with fail;go_ret;exact⟨rfl,rfl⟩
  ·have e2:=tf a.toNat 122 (by omega);rw[show bL cs a c=aI cs.length a from by unfold bL;rw[if_pos h1];simp[h2]];clear h1 h2
   go_in
   go_wp2_with fail;refine(fp b cs a w hn hT).mono ?_;rintro en w1 ⟨rfl,rfl⟩;go_wp2_with fail;go_ret;exact⟨rfl,rfl⟩
 ·have e1:=tf c.toNat 38 (by omega);rw[show bL cs a c=dT cs a c from by unfold bL;rw[if_neg h1]];clear h1
  go_in
  go_wp2_with fail;refine(jt b cs a c w hn hT).mono ?_;rintro en w1 ⟨rfl,rfl⟩;go_wp2_with fail;go_ret;exact⟨rfl,rfl⟩
def ir (l:List Bool):Nat→Nat→Int
 |0,_=> -1
 |f+1,k=>if l.getD k false=true then(k:Int)else ir l f (k+1)
def WtB (w:World) (g:Nat) (l:List Bool):Prop:=w.heap[g]?=some (.cells (l.map Value.bool).toArray 4)
theorem WtB.cell {w:World} {g:Nat} {l:List Bool} (h:WtB w g l) {k:Nat} (hk:k<l.length):w.cell? ⟨g,k,none⟩=some (.bool (l.getD k false)):=by
 rw[cell_of_row w g k _ _ (0,0) h];simp[List.getD,hk]
theorem gV (b g:Nat) (l:List Bool) (w:World) (h7:w.cell? ⟨b,7,none⟩=some (.slice (some ⟨g,0,none⟩) l.length l.length)) (hW:WtB w g l) (hl:l.length≤100):
  Calls Tryz.prog 106 #[.pointer (some ⟨b,0,none⟩)] w fun en w'=>en= .returned (.int .i64 (ir l l.length 0))∧w'=w:=by
 obtain⟨R,a1⟩: ∃R,ir l l.length 0=R:=⟨_,rfl⟩;rw[a1];have a0:=hid a1;clear a1
 go_in
 go_wp2_with fail
 go_loopg [3] l.length (fun mm is wr=> ∃k:Nat,is= .int .i64 k∧k≤l.length∧k+mm≤l.length∧l.length≤k+mm∧wr=w∧Hid (ir l mm k=R))
 case atStart=>exact⟨0,rfl,by omega,by omega,by omega,rfl,a0.out⟩
 case round=>
  obtain⟨k,rfl,a7,a4,a8,a6,HA⟩:=hrel;subst a6;have a2:gk=l.length-k:=by omega
  rw[a2]at HA;clear a2 a4
  by_cases hlt:k<l.length
  ·have a5:(k:Int)<(l.length:Int):=by omega
   have q:=hW.cell hlt;rw[show l.length-k=(l.length-(k+1))+1 from by omega]at HA;have hA:=HA.out;simp only[ir]at hA;revert q hA
   cases l.getD k false with
   |true=>
    intro q hA;simp only[if_true]at hA;subst hA;clear HA a0;go_wp2_with fail;go_ret;exact⟨rfl,rfl⟩
   |false=>
    intro q hA;simp only[Bool.false_eq_true,if_false]at hA;have a3:=hid hA;clear HA hA a0;go_wp2_with fail
    go_roundg (l.length-(k+1))
    case measure=>omega
    case rel=>exact⟨k+1,by simp,by omega,by omega,by omega,rfl,a3.out⟩
  ·have a5: ¬(k:Int)<(l.length:Int):=by omega
   rw[show l.length-k=0 from by omega]at HA;have hA: -1=R:=HA.out;subst hA;clear HA a0;go_wp2_with fail;go_ret;exact⟨rfl,rfl⟩
def TxM (w:World) (b:Nat) (ms:List Sig):Prop:=
 ∃v1,w.cell? ⟨b,1,none⟩=some v1∧b<w.heap.size∧w.ownsRow 0 243 2 v1 ms.length (cy ms)
theorem TxM.but {w w':World} {b:Nat} {ms:List Sig} (h:TxM w b ms) (hb:But (fun _=>False) w w'):TxM w' b ms:=by
 obtain⟨v1,h0,hl,hO⟩:=h;exact⟨v1,hb.kc h0 hl,Nat.lt_of_lt_of_le hl hb.size,ah hO hb (fun _ _ h=>h)⟩
def cC (ms:List Sig) (k:Nat):Sig:=(ms[k]?).getD ⟨45,45⟩
theorem eS (b:Nat) (ms:List Sig) (k:Nat) (w:World) (hn:ms.length≤100) (hT:TxM w b ms):
  Calls Tryz.prog 191 #[.pointer (some ⟨b,0,none⟩),.int .i64 k] w fun e w'=>e= .returned (.agg #[.int .u8 (cC ms k).arg.toNat,.int .u8 (cC ms k).ret.toNat])∧But (fun _=>False) w w':=by
 obtain⟨v1,h0,hl,hO⟩:=hT;obtain⟨ao,cap,rfl⟩:=aq hO;have a4: ¬(k:Int)<0:=by omega
 by_cases hk:k<ms.length
 ·have hx:=List.getElem?_eq_getElem hk;rw[show cC ms k=ms[k]from by unfold cC;rw[hx];rfl];obtain⟨g,rfl,a2,a3,a0⟩:=aD hO (by omega);have q0:w.cell? ⟨g,k*2,none⟩=some (.int .u8 ms[k].arg.toNat):=a0 _ _ (ef (k:=0) hx (by omega));have q1:w.cell? ⟨g,k*2+1,none⟩=some (.int .u8 ms[k].ret.toNat):=a0 _ _ (ef (k:=1) hx (by omega));have a1: ¬(ms.length:Int)≤(k:Int):=by omega
  have a5:(k:Int)<(ms.length:Int):=by omega
  revert q0 q1;generalize ms[k]=X;intro q0 q1;clear a0 hx hO
  go_in
  go_wp2
  exact bodyPost_ret (v:= .agg #[.int .u8 X.arg.toNat,.int .u8 X.ret.toNat]) (by simp[results,Tryz.results191,go_sem]) rfl ⟨rfl,But.alloc _ _ _⟩
 ·rw[show cC ms k=⟨45,45⟩from by unfold cC;rw[List.getElem?_eq_none (by omega)];rfl];have a1:(ms.length:Int)≤(k:Int):=by omega
  clear hO
  go_in
  go_wp2
  exact bodyPost_ret (v:= .agg #[.int .u8 45,.int .u8 45]) (by simp[results,Tryz.results191,go_sem]) rfl ⟨rfl,But.alloc _ _ _⟩
end
section
open Go Go.RowKit Sp
theorem uV (w:World) (x y:Int):(Instr.field 243 (.agg #[.int .u8 x,.int .u8 y]) 1).run Tryz.prog w= .ok (.int .u8 y) w:=by
 simp[Instr.field,asAgg];go_simp
end
section
open Go Go.RowKit Sp
attribute [local go_sem ↓] Go.wp_at_zero Go.wp_at_succ
def aH (cs:List bz) (ms:List Sig) (c k:UInt8) (n:Nat) (lo:List UInt8):UInt8:=
 if c.toNat=107∨c.toNat=114∨c.toNat=43∨c.toNat=45∨c.toNat=42∨c.toNat=47∨c.toNat=60∨c.toNat=61∨c.toNat=101 then 105 else
 if c.toNat=108 then bH lo n else if c.toNat=110∨c.toNat=120 then k else if c.toNat=122 then 122 else
 if c.toNat=103 then bH (bX cs k) n else if c.toNat=99 then(cC ms n).ret else 0
theorem ju (b:Nat) (cs:List bz) (ms:List Sig) (p n:Nat) (c k:UInt8) (ao:Option Addr) (cap:Nat) (lo:List UInt8) (w:World) {ap:Option Addr} {np cp:Nat} (hn:cs.length≤100) (hm:ms.length≤100) (hT:TxC w b cs) (hM:TxM w b ms) (hB:BtB w 0 (.slice ao lo.length cap) lo):
  Calls Tryz.prog 198 #[.pointer (some ⟨b,0,none⟩),.agg #[.int .i64 p,.int .u8 c.toNat,.int .u8 k.toNat,.int .i64 n,.slice ap np cp],.slice ao lo.length cap] w fun e w'=>e= .returned (.int .u8 (aH cs ms c k n lo).toNat)∧But (fun _=>False) w w':=by
 by_cases h107:c.toNat=107
 ·have hc:c=107:=UInt8.toNat_inj.1 h107;subst hc;rw[show aH cs ms 107 k n lo=105 from by simp[aH]]
  go_in
  go_wp2_with fail;go_ret;exact⟨rfl,But.alloc _ _ _⟩
 by_cases h114:c.toNat=114
 ·have hc:c=114:=UInt8.toNat_inj.1 h114;subst hc;rw[show aH cs ms 114 k n lo=105 from by simp[aH]]
  go_in
  go_wp2_with fail;go_ret;exact⟨rfl,But.alloc _ _ _⟩
 by_cases h43:c.toNat=43
 ·have hc:c=43:=UInt8.toNat_inj.1 h43;subst hc;rw[show aH cs ms 43 k n lo=105 from by simp[aH]]
  go_in
  go_wp2_with fail;go_ret;exact⟨rfl,But.alloc _ _ _⟩
 by_cases h45:c.toNat=45
 ·have hc:c=45:=UInt8.toNat_inj.1 h45;subst hc;rw[show aH cs ms 45 k n lo=105 from by simp[aH]]
  go_in
  go_wp2_with fail;go_ret;exact⟨rfl,But.alloc _ _ _⟩
 by_cases h42:c.toNat=42
 ·have hc:c=42:=UInt8.toNat_inj.1 h42;subst hc;rw[show aH cs ms 42 k n lo=105 from by simp[aH]]
  go_in
  go_wp2_with fail;go_ret;exact⟨rfl,But.alloc _ _ _⟩
 by_cases h47:c.toNat=47
 ·have hc:c=47:=UInt8.toNat_inj.1 h47;subst hc;rw[show aH cs ms 47 k n lo=105 from by simp[aH]]
  go_in
  go_wp2_with fail;go_ret;exact⟨rfl,But.alloc _ _ _⟩
 by_cases h60:c.toNat=60
 ·have hc:c=60:=UInt8.toNat_inj.1 h60;subst hc;rw[show aH cs ms 60 k n lo=105 from by simp[aH]]
  go_in
  go_wp2_with fail;go_ret;exact⟨rfl,But.alloc _ _ _⟩
 by_cases h61:c.toNat=61
 ·have hc:c=61:=UInt8.toNat_inj.1 h61;subst hc;rw[show aH cs ms 61 k n lo=105 from by simp[aH]]
  go_in
  go_wp2_with fail;go_ret;exact⟨rfl,But.alloc _ _ _⟩
 by_cases h101:c.toNat=101
 ·have hc:c=101:=UInt8.toNat_inj.1 h101;subst hc;rw[show aH cs ms 101 k n lo=105 from by simp[aH]]
  go_in
  go_wp2_with fail;go_ret;exact⟨rfl,But.alloc _ _ _⟩
 by_cases h108:c.toNat=108
 ·have hc:c=108:=UInt8.toNat_inj.1 h108;subst hc;rw[show aH cs ms 108 k n lo=bH lo n from by simp[aH]];have HT:=hid (fun(wx:World) (h:But (fun _=>False) w wx)=>cX ao cap lo n wx (hB.but h (fun _ _ h=>h)))
  go_in
  go_wp2_with fail;refine(HT.out _ (But.alloc _ _ _)).mono ?_;rintro en w1 ⟨rfl,rfl⟩;go_wp2_with fail;go_ret;exact⟨rfl,But.alloc _ _ _⟩
 by_cases h110:c.toNat=110
 ·have hc:c=110:=UInt8.toNat_inj.1 h110;subst hc;rw[show aH cs ms 110 k n lo=k from by simp[aH]]
  go_in
  go_wp2_with fail;go_ret;exact⟨rfl,But.alloc _ _ _⟩
 by_cases h120:c.toNat=120
 ·have hc:c=120:=UInt8.toNat_inj.1 h120;subst hc;rw[show aH cs ms 120 k n lo=k from by simp[aH]]
  go_in
  go_wp2_with fail;go_ret;exact⟨rfl,But.alloc _ _ _⟩
 by_cases h122:c.toNat=122
 ·have hc:c=122:=UInt8.toNat_inj.1 h122;subst hc;rw[show aH cs ms 122 k n lo=122 from by simp[aH]]
  go_in
  go_wp2_with fail;go_ret;exact⟨rfl,But.alloc _ _ _⟩
 by_cases h103:c.toNat=103
 ·have hc:c=103:=UInt8.toNat_inj.1 h103;subst hc;rw[show aH cs ms 103 k n lo=bH (bX cs k) n from by simp[aH]];have HT:=hid (fun(wx:World) (h:But (fun _=>False) w wx)=>pB b cs k n wx hn (hT.but h))
  go_in
  go_wp2_with fail;refine(HT.out _ (But.alloc _ _ _)).mono ?_;rintro en w1 ⟨rfl,rfl⟩;go_wp2_with fail;go_ret;exact⟨rfl,But.alloc _ _ _⟩
 by_cases h99:c.toNat=99
 ·have hc:c=99:=UInt8.toNat_inj.1 h99;subst hc;rw[show aH cs ms 99 k n lo=(cC ms n).ret from by simp[aH]];have HT:=hid (fun(wx:World) (h:But (fun _=>False) w wx)=>eS b ms n wx hm (hM.but h))
  go_in
  go_wp2_with fail;refine(HT.out _ (But.alloc _ _ _)).mono ?_;rintro en w1 ⟨rfl,a8⟩;have c7:=fun wx=>uV wx ((cC ms n).arg.toNat:Int) ((cC ms n).ret.toNat:Int)
  go_wp2_with fail;go_ret;exact⟨rfl,(But.alloc _ _ _).trans a8⟩
 rw[show aH cs ms c k n lo=0 from by simp[aH,h107,h114,h43,h45,h42,h47,h60,h61,h101,h108,h110,h120,h122,h103,h99]];have a2:=tf c.toNat 107 (by omega);have a5:=tf c.toNat 114 (by omega);have b1:=tf c.toNat 43 (by omega);have b2:=tf c.toNat 45 (by omega);have b0:=tf c.toNat 42 (by omega);have b3:=tf c.toNat 47 (by omega);have b4:=tf c.toNat 60 (by omega);have b5:=tf c.toNat 61 (by omega);have a0:=tf c.toNat 101 (by omega);have a3:=tf c.toNat 108 (by omega);have a4:=tf c.toNat 110 (by omega);have a6:=tf c.toNat 120 (by omega);have a7:=tf c.toNat 122 (by omega);have a1:=tf c.toNat 103 (by omega);have b6:=tf c.toNat 99 (by omega)
 clear h107 h114 h43 h45 h42 h47 h60 h61 h101 h108 h110 h120 h122 h103 h99
 go_in
 go_wp2_with fail;go_ret;exact⟨rfl,But.alloc _ _ _⟩
theorem BtB.lit (W:World) (base:Nat) (hb:base≤W.heap.size) (l:List UInt8) (hl:l.length≤100):BtB (W.alloc (.cells (aJ l).toArray 5)) base (.slice (some ⟨W.heap.size,0,none⟩) l.length l.length) l:=
 ⟨by simp[aJ],Or.inr ⟨W.heap.size,l.length,_,rfl,hb,heap_alloc_new _ _,Nat.le_refl _,by unfold maxLen;omega,by simp[aJ],by simp only[Nat.mul_one];exact List.take_of_length_le (by simp[aJ])⟩⟩
theorem BtB.lit2 (w:World) (o:Obj) (l:List UInt8) (hl:l.length≤100):BtB ((w.alloc o).alloc (.cells (aJ l).toArray 5)) w.heap.size (.slice (some ⟨w.heap.size+1,0,none⟩) l.length l.length) l:=by
 have h:=BtB.lit (w.alloc o) w.heap.size (But.alloc (fun _=>False) w o).size l hl;have hs:(w.alloc o).heap.size=w.heap.size+1:=Array.size_push _;rw[hs]at h;exact h
def az (cs:List bz) (ms:List Sig) (c k:UInt8) (n:Nat) (ans:UInt8):List UInt8:=
 if c.toNat=119∨c.toNat=102 then [105]else if c.toNat=115∨c.toNat=100 then [45]else
 if c.toNat=43∨c.toNat=45∨c.toNat=42∨c.toNat=47∨c.toNat=60∨c.toNat=61 then [105,105]else
 if c.toNat=101 then [38,38]else if c.toNat=103 then [k]else if c.toNat=112 then [k,bH (bX cs k) n]else
 if c.toNat=99 then [k,(cC ms n).arg]else if c.toNat=120 then [38]else if c.toNat=116 then [ans]else []
theorem pD (b:Nat) (cs:List bz) (ms:List Sig) (p n:Nat) (c k ans:UInt8) (w:World) {ap:Option Addr} {np cp:Nat} (h112:c.toNat≠112) (h99:c.toNat≠99):
  Calls Tryz.prog 140 #[.pointer (some ⟨b,0,none⟩),.agg #[.int .i64 p,.int .u8 c.toNat,.int .u8 k.toNat,.int .i64 n,.slice ap np cp],.int .u8 ans.toNat] w fun e w'=>But (fun _=>False) w w'∧ ∃v,e= .returned v∧BtB w' w.heap.size v (az cs ms c k n ans):=by
 by_cases h119:c.toNat=119
 ·have hc:c=119:=UInt8.toNat_inj.1 h119;subst hc;rw[show az cs ms 119 k n ans=[105]from by simp[az]];clear h112 h99
  go_in
  go_wp2_with fail;exact cB (.slice (some ⟨w.heap.size+1,0,none⟩) 1 1) Tryz.results140 rfl rfl ⟨(But.alloc _ _ _).trans (But.alloc _ _ _),_,rfl,BtB.lit2 w _ [105] (by simp)⟩
 by_cases h102:c.toNat=102
 ·have hc:c=102:=UInt8.toNat_inj.1 h102;subst hc;rw[show az cs ms 102 k n ans=[105]from by simp[az]];clear h112 h99
  go_in
  go_wp2_with fail;exact cB (.slice (some ⟨w.heap.size+1,0,none⟩) 1 1) Tryz.results140 rfl rfl ⟨(But.alloc _ _ _).trans (But.alloc _ _ _),_,rfl,BtB.lit2 w _ [105] (by simp)⟩
 by_cases h115:c.toNat=115
 ·have hc:c=115:=UInt8.toNat_inj.1 h115;subst hc;rw[show az cs ms 115 k n ans=[45]from by simp[az]];clear h112 h99
  go_in
  go_wp2_with fail;exact cB (.slice (some ⟨w.heap.size+1,0,none⟩) 1 1) Tryz.results140 rfl rfl ⟨(But.alloc _ _ _).trans (But.alloc _ _ _),_,rfl,BtB.lit2 w _ [45] (by simp)⟩
 by_cases h100:c.toNat=100
 ·have hc:c=100:=UInt8.toNat_inj.1 h100;subst hc;rw[show az cs ms 100 k n ans=[45]from by simp[az]];clear h112 h99
  go_in
  go_wp2_with fail;exact cB (.slice (some ⟨w.heap.size+1,0,none⟩) 1 1) Tryz.results140 rfl rfl ⟨(But.alloc _ _ _).trans (But.alloc _ _ _),_,rfl,BtB.lit2 w _ [45] (by simp)⟩
 by_cases h101:c.toNat=101
 ·have hc:c=101:=UInt8.toNat_inj.1 h101;subst hc;rw[show az cs ms 101 k n ans=[38,38]from by simp[az]];clear h112 h99
  go_in
  go_wp2_with fail;exact cB (.slice (some ⟨w.heap.size+1,0,none⟩) 2 2) Tryz.results140 rfl rfl ⟨(But.alloc _ _ _).trans (But.alloc _ _ _),_,rfl,BtB.lit2 w _ [38,38] (by simp)⟩
 by_cases h103:c.toNat=103
 ·have hc:c=103:=UInt8.toNat_inj.1 h103;subst hc;rw[show az cs ms 103 k n ans=[k]from by simp[az]];clear h112 h99
  go_in
  go_wp2_with fail;exact cB (.slice (some ⟨w.heap.size+1,0,none⟩) 1 1) Tryz.results140 rfl rfl ⟨(But.alloc _ _ _).trans (But.alloc _ _ _),_,rfl,BtB.lit2 w _ [k] (by simp)⟩
 by_cases h120:c.toNat=120
 ·have hc:c=120:=UInt8.toNat_inj.1 h120;subst hc;rw[show az cs ms 120 k n ans=[38]from by simp[az]];clear h112 h99
  go_in
  go_wp2_with fail;exact cB (.slice (some ⟨w.heap.size+1,0,none⟩) 1 1) Tryz.results140 rfl rfl ⟨(But.alloc _ _ _).trans (But.alloc _ _ _),_,rfl,BtB.lit2 w _ [38] (by simp)⟩
 by_cases h116:c.toNat=116
 ·have hc:c=116:=UInt8.toNat_inj.1 h116;subst hc;rw[show az cs ms 116 k n ans=[ans]from by simp[az]];clear h112 h99
  go_in
  go_wp2_with fail;exact cB (.slice (some ⟨w.heap.size+1,0,none⟩) 1 1) Tryz.results140 rfl rfl ⟨(But.alloc _ _ _).trans (But.alloc _ _ _),_,rfl,BtB.lit2 w _ [ans] (by simp)⟩
 by_cases h43:c.toNat=43
 ·have hc:c=43:=UInt8.toNat_inj.1 h43;subst hc;rw[show az cs ms 43 k n ans=[105,105]from by simp[az]];clear h112 h99
  go_in
  go_wp2_with fail;exact cB (.slice (some ⟨w.heap.size+1,0,none⟩) 2 2) Tryz.results140 rfl rfl ⟨(But.alloc _ _ _).trans (But.alloc _ _ _),_,rfl,BtB.lit2 w _ [105,105] (by simp)⟩
 by_cases h45:c.toNat=45
 ·have hc:c=45:=UInt8.toNat_inj.1 h45;subst hc;rw[show az cs ms 45 k n ans=[105,105]from by simp[az]];clear h112 h99
  go_in
  go_wp2_with fail;exact cB (.slice (some ⟨w.heap.size+1,0,none⟩) 2 2) Tryz.results140 rfl rfl ⟨(But.alloc _ _ _).trans (But.alloc _ _ _),_,rfl,BtB.lit2 w _ [105,105] (by simp)⟩
 by_cases h42:c.toNat=42
 ·have hc:c=42:=UInt8.toNat_inj.1 h42;subst hc;rw[show az cs ms 42 k n ans=[105,105]from by simp[az]];clear h112 h99
  go_in
  go_wp2_with fail;exact cB (.slice (some ⟨w.heap.size+1,0,none⟩) 2 2) Tryz.results140 rfl rfl ⟨(But.alloc _ _ _).trans (But.alloc _ _ _),_,rfl,BtB.lit2 w _ [105,105] (by simp)⟩
 by_cases h47:c.toNat=47
 ·have hc:c=47:=UInt8.toNat_inj.1 h47;subst hc;rw[show az cs ms 47 k n ans=[105,105]from by simp[az]];clear h112 h99
  go_in
  go_wp2_with fail;exact cB (.slice (some ⟨w.heap.size+1,0,none⟩) 2 2) Tryz.results140 rfl rfl ⟨(But.alloc _ _ _).trans (But.alloc _ _ _),_,rfl,BtB.lit2 w _ [105,105] (by simp)⟩
 by_cases h60:c.toNat=60
 ·have hc:c=60:=UInt8.toNat_inj.1 h60;subst hc;rw[show az cs ms 60 k n ans=[105,105]from by simp[az]];clear h112 h99
  go_in
  go_wp2_with fail;exact cB (.slice (some ⟨w.heap.size+1,0,none⟩) 2 2) Tryz.results140 rfl rfl ⟨(But.alloc _ _ _).trans (But.alloc _ _ _),_,rfl,BtB.lit2 w _ [105,105] (by simp)⟩
 by_cases h61:c.toNat=61
 ·have hc:c=61:=UInt8.toNat_inj.1 h61;subst hc;rw[show az cs ms 61 k n ans=[105,105]from by simp[az]];clear h112 h99
  go_in
  go_wp2_with fail;exact cB (.slice (some ⟨w.heap.size+1,0,none⟩) 2 2) Tryz.results140 rfl rfl ⟨(But.alloc _ _ _).trans (But.alloc _ _ _),_,rfl,BtB.lit2 w _ [105,105] (by simp)⟩
 rw[show az cs ms c k n ans=[]from by simp[az,h119,h102,h115,h100,h101,h103,h120,h116,h43,h45,h42,h47,h60,h61,h112,h99]];have a7:=tf c.toNat 119 (by omega);have a2:=tf c.toNat 102 (by omega);have a5:=tf c.toNat 115 (by omega);have a0:=tf c.toNat 100 (by omega);have a1:=tf c.toNat 101 (by omega);have a3:=tf c.toNat 103 (by omega);have a8:=tf c.toNat 120 (by omega);have a6:=tf c.toNat 116 (by omega);have b1:=tf c.toNat 43 (by omega);have b2:=tf c.toNat 45 (by omega);have b0:=tf c.toNat 42 (by omega);have b3:=tf c.toNat 47 (by omega);have b4:=tf c.toNat 60 (by omega);have b5:=tf c.toNat 61 (by omega)
 have a4:=tf c.toNat 112 (by omega);have b6:=tf c.toNat 99 (by omega);clear h119 h102 h115 h100 h101 h103 h120 h116 h43 h45 h42 h47 h60 h61 h112 h99
 go_in
 go_wp2_with fail;exact cB (.slice (some ⟨w.heap.size+1,0,none⟩) 0 0) Tryz.results140 rfl rfl ⟨(But.alloc _ _ _).trans (But.alloc _ _ _),_,rfl,BtB.lit2 w _ [] (by simp)⟩
theorem rl (l:List UInt8): ∀u∈aJ l,u.oneCell'=true:=by
 intro u hu;obtain⟨c,_,rfl⟩:=List.mem_map.1 hu
 rfl
theorem mK (w:World) (ty:TypeId) (base bx:Nat) (v xv:Value) (l m:List UInt8) (hown:BtB w base v l) (hx:BtB w bx xv m) (hlen:l.length+m.length≤100000) (hbase:base≤w.heap.size):
  ∃v' w',(Builtin.append_ #[112,112] ty #[v,xv]).run Tryz.prog w= .ok v' w'∧BtB w' base v' (l++m)∧But (fun k=>v.ownBlock=some k) w w'∧(v'.ownBlock=v.ownBlock∨v'.ownBlock=some w.heap.size):=by
 obtain⟨i0,a2,a5,a3,a6⟩:=info_parts io;have hu:Tryz.prog.underlying 112=some (.slice 5):=by kernel_rfl
 obtain⟨ax,cx,rfl⟩:=aq hx
 cases ax with
 |none=>
  have hm:m.length=0:=by
   rcases Nat.eq_zero_or_pos m.length with h|h
   ·exact h
   ·obtain⟨g,hg,_⟩:=aD hx h
    cases hg
  have a4:m=[]:=List.length_eq_zero_iff.1 hm;subst a4
  have hc: ∃ao cap,v= .slice ao l.length cap∧l.length≤cap:=by
   rcases hown.2 with⟨rfl,h0⟩ | ⟨g,cap,cur,rfl,_,_,a1,_⟩
   ·exact⟨none,0,by rw[h0],by omega⟩
   ·exact⟨_,cap,rfl,a1⟩
  obtain⟨ao,cap,rfl,a1⟩:=hc;refine⟨_,w,run_append_nothing w _ _ ty 5 i0 hu a2 ao l.length cap a1 _ (by rw[a3];exact Src.ofNil w hu cx),by simpa using hown,But.refl _ _,Or.inl rfl⟩
 |some ad=>
  have a0: ∀j u,(aJ m)[j]?=some u→w.cell? (ad.add j)=some u:=by
   intro j u hj;obtain⟨g,cap',hv,hc,_⟩:=fy hx hj
   have h1:ad=⟨g,0,none⟩:=by
    have h2:=congrArg (fun v=>match v with|Value.slice a _ _=>a|_=>none) hv;exact Option.some.inj h2
   rw[h1];have e:(⟨g,0,none⟩:Addr).add j=⟨g,j,none⟩:=by simp[Addr.add];exact fun h=>h.symm
   rw[e];exact hc
  obtain⟨v',w',hr,h2,h3,_,h5⟩:=run_append_own_at (P:=Tryz.prog) w base _ ty 5 i0 _ 1 1 hu a2 a5 a3 a6 rfl (by omega) v l.length (aJ l) hown ad m.length cx (aJ m) (by simp[aJ]) a0 (rl m) (by unfold maxLen;omega) (by omega) hbase;refine⟨v',w',hr,?_,aX h3,h5⟩;unfold BtB;rw[List.length_append,aJ,List.map_append];exact h2
theorem gv {w:World} {ops:Array Oper} {rest:List Oper} {o:Oper} {a:Act} {Q:Exit→Act→World→Prop} (hgd:o.guard=none) (s x:Operand)
  (ho:o.op= .call {callee:= .builtin .append,args:=#[s,x],argTypes:=#[112,112]}) (base bx:Nat) (v xv:Value) (l m:List UInt8) (hs:a.eval s=v) (hx:a.eval x=xv) (hown:BtB w base v l) (hxo:BtB w bx xv m) (hlen:l.length+m.length≤100000) (hbase:base≤w.heap.size)
  (h: ∀ao cap w',BtB w' base (.slice ao (l++m).length cap) (l++m)→But (fun k=>v.ownBlock=some k) w w'→((Value.slice ao (l++m).length cap).ownBlock=v.ownBlock∨(Value.slice ao (l++m).length cap).ownBlock=some w.heap.size)→wpList Tryz.prog ops Q rest (a.put o.dst (.slice ao (l++m).length cap)) w'):wpList Tryz.prog ops Q (o::rest) a w:=by
 refine wpList_plain hgd fun K hK=> ?_
 obtain⟨v',w',hr,h1,h2,h3⟩:=mK w o.type base bx v xv l m hown hxo hlen hbase;obtain⟨ao,cap,rfl⟩:=aq h1;unfold Oper.wp execOp;simp only[ho,resolve,invoke,builtin,Sem.run_bind,Sem.run_pure,Result.andThen_ok,List.map_toArray,List.map_cons,List.map_nil,hs,hx,hr];exact hK _ _ (h ao cap w' h1 h2 h3)
structure XIt where
 place:Nat
 op:UInt8
 cls:UInt8
 num:Nat
 pa:Option Addr
 pn:Nat
 pc:Nat
structure ba where
 cls:UInt8
 meth:Nat
 ans:UInt8
 locals:List UInt8
 items:List XIt
def bo (l:List XIt):List Value:=l.flatMap fun x=> [.int .i64 x.place,.int .u8 x.op.toNat,.int .u8 x.cls.toNat,.int .i64 x.num,.slice x.pa x.pn x.pc]
def jv (l:List (ba×Value×Value)):List Value:=l.flatMap fun x=> [.int .u8 x.1.cls.toNat,.int .i64 x.1.meth,.int .u8 x.1.ans.toNat,x.2.1,x.2.2]
theorem et (l:List XIt) (x:XIt):bo (l++ [x])=bo l++ [.int .i64 x.place,.int .u8 x.op.toNat,.int .u8 x.cls.toNat,.int .i64 x.num,.slice x.pa x.pn x.pc]:=by simp[bo]
theorem pE (l:List (ba×Value×Value)) (x:ba×Value×Value):jv (l++ [x])=jv l++ [.int .u8 x.1.cls.toNat,.int .i64 x.1.meth,.int .u8 x.1.ans.toNat,x.2.1,x.2.2]:=by simp[jv]
theorem pG (l:List (bz×Value)) (x:bz×Value):fo (l++ [x])=fo l++ [.int .u8 x.1.par.toNat,x.2]:=by simp[fo]
theorem aL {l:List XIt} {j k:Nat} {x:XIt} (h:l[j]?=some x) (hk:k<5):(bo l)[j*5+k]?=[Value.int .i64 x.place,.int .u8 x.op.toNat,.int .u8 x.cls.toNat,.int .i64 x.num,.slice x.pa x.pn x.pc][k]?:=
 el (fun x:XIt=> [Value.int .i64 x.place,.int .u8 x.op.toNat,.int .u8 x.cls.toNat,.int .i64 x.num,.slice x.pa x.pn x.pc]) 5 (fun _=>rfl) l j k x h hk
theorem aR {l:List (ba×Value×Value)} {j k:Nat} {x:ba×Value×Value} (h:l[j]?=some x) (hk:k<5):(jv l)[j*5+k]?=[Value.int .u8 x.1.cls.toNat,.int .i64 x.1.meth,.int .u8 x.1.ans.toNat,x.2.1,x.2.2][k]?:=
 el (fun x:ba×Value×Value=> [Value.int .u8 x.1.cls.toNat,.int .i64 x.1.meth,.int .u8 x.1.ans.toNat,x.2.1,x.2.2]) 5 (fun _=>rfl) l j k x h hk
theorem rm (l:List XIt):(bo l).length=l.length*5:=by
 induction l with
 |nil=>rfl
 |cons x l ih=>simp[bo]at ih⊢;omega
def ItB (w:World) (base:Nat) (v:Value) (l:List XIt):Prop:=w.ownsRow base 219 5 v l.length (bo l)
def TcV (w:World) (base:Nat) (v:Value) (cs:List bz):Prop:=
 ∃l,w.ownsRow base 240 2 v l.length (fo l)∧l.map (·.1)=cs∧ ∀x∈l,BtB w base x.2 x.1.fields
def TmV (w:World) (base:Nat) (v:Value) (ms:List Sig):Prop:=w.ownsRow base 243 2 v ms.length (cy ms)
def TbV (w:World) (base:Nat) (v:Value) (bs:List ba):Prop:=
 ∃l,w.ownsRow base 115 5 v l.length (jv l)∧l.map (·.1)=bs∧ ∀x∈l,BtB w base x.2.1 x.1.locals∧ItB w base x.2.2 x.1.items
theorem aU {F:Nat→Prop} {w w':World} {base e size n:Nat} {v:Value} {xs:List Value} (h:w.ownsRow base e size v n xs) (hb:But F w w') (hf: ∀g cur,w.heap[g]?=some (.cells cur e)→base≤g→ ¬F g):w'.ownsRow base e size v n xs:=by
 refine⟨h.1,?_⟩;rcases h.2 with h2| ⟨g,cap,cur,hv,hg,hh,r⟩
 ·exact Or.inl h2
 ·exact Or.inr ⟨g,cap,cur,hv,hg,(hb.block g (ae hh) (hf g cur hh hg)).trans hh,r⟩
theorem uW {w:World} {base e size n:Nat} {v:Value} {xs:List Value} (h:w.ownsRow base e size v n xs) {g:Nat} (hg:v.ownBlock=some g): ∃cur,w.heap[g]?=some (.cells cur e):=by
 rcases h.2 with⟨rfl,_⟩ | ⟨g',cap,cur,rfl,hb,hh,_⟩
 ·cases hg
 ·simp[Value.ownBlock]at hg;subst hg;exact⟨_,hh⟩
theorem eb {w:World} {base e size n:Nat} {v:Value} {xs:List Value} (h:w.ownsRow base e size v n xs) {g e':Nat} {cur:Array Value} (hh:w.heap[g]?=some (.cells cur e')) (hne:e'≠e): ¬v.ownBlock=some g:=by
 intro hg;obtain⟨c,hc⟩:=uW h hg;rw[hc]at hh;injection hh with hh;injection hh with h1 h2;exact hne h2.symm
theorem TcV.but {F:Nat→Prop} {w w':World} {base:Nat} {v:Value} {cs:List bz} (h:TcV w base v cs) (hb:But F w w') (hf: ∀g e cur,w.heap[g]?=some (.cells cur e)→(e=240∨e=5)→base≤g→ ¬F g):TcV w' base v cs:=by
 obtain⟨l,h1,h2,h3⟩:=h;exact⟨l,aU h1 hb (fun g cur hh hg=>hf g _ cur hh (Or.inl rfl) hg),h2,fun x hx=>aU (h3 x hx) hb (fun g cur hh hg=>hf g _ cur hh (Or.inr rfl) hg)⟩
theorem TmV.but {F:Nat→Prop} {w w':World} {base:Nat} {v:Value} {ms:List Sig} (h:TmV w base v ms) (hb:But F w w') (hf: ∀g e cur,w.heap[g]?=some (.cells cur e)→(e=243)→base≤g→ ¬F g):TmV w' base v ms:=
 aU h hb (fun g cur hh hg=>hf g _ cur hh rfl hg)
theorem TbV.but {F:Nat→Prop} {w w':World} {base:Nat} {v:Value} {bs:List ba} (h:TbV w base v bs) (hb:But F w w') (hf: ∀g e cur,w.heap[g]?=some (.cells cur e)→(e=115∨e=5∨e=219)→base≤g→ ¬F g):TbV w' base v bs:=by
 obtain⟨l,h1,h2,h3⟩:=h;exact⟨l,aU h1 hb (fun g cur hh hg=>hf g _ cur hh (Or.inl rfl) hg),h2,fun x hx=>⟨aU (h3 x hx).1 hb (fun g cur hh hg=>hf g _ cur hh (Or.inr (Or.inl rfl)) hg),aU (h3 x hx).2 hb (fun g cur hh hg=>hf g _ cur hh (Or.inr (Or.inr rfl)) hg)⟩⟩
theorem TcV.tx {w:World} {base b:Nat} {v:Value} {cs:List bz} (h:TcV w base v cs) (hc:w.cell? ⟨b,0,none⟩=some v) (hb:b<w.heap.size):TxC w b cs:=by
 obtain⟨l,h1,h2,h3⟩:=h;exact⟨v,l,hc,hb,h1.mono (Nat.zero_le _),h2,fun x hx=>World.ownsRow.mono (h3 x hx) (Nat.zero_le _)⟩
theorem TmV.tx {w:World} {base b:Nat} {v:Value} {ms:List Sig} (h:TmV w base v ms) (hc:w.cell? ⟨b,1,none⟩=some v) (hb:b<w.heap.size):TxM w b ms:=
 ⟨v,hc,hb,World.ownsRow.mono h (Nat.zero_le _)⟩
theorem TcV.len {w:World} {base:Nat} {v:Value} {cs:List bz} (h:TcV w base v cs): ∃ao cap,v= .slice ao cs.length cap:=by
 obtain⟨l,h1,h2,h3⟩:=h;obtain⟨ao,cap,hv⟩:=aq h1;exact⟨ao,cap,by rw[hv,←h2];simp⟩
end
end Go.Proofs.YtpfkkmacakjmbaaGreatDoor
