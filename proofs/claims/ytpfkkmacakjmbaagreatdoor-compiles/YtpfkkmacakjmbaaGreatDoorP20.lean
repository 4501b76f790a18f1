import Derived.Test.YtpfkkmacakjmbaaGreatDoorP19
set_option maxRecDepth 100000
set_option maxHeartbeats 6400000
set_option linter.all false
namespace Go.Proofs.YtpfkkmacakjmbaaGreatDoor
section
open Sp
def Bt (s:ByteArray) (i:Nat) (l:L_):Prop:= ∀k c,l[k]?=some c->pk s (i+k)=c
section
variable {s:ByteArray} {i:Nat}
theorem Bt.left {X Y:L_} (h:Bt s i (X++Y)):Bt s i X:=λk c hk=>h k c (by rw[dy (bc hk).1];exact hk)
theorem Bt.right {X Y:L_} (h:Bt s i (X++Y)):Bt s (i+X.length) Y:=λk c hk=>by
 have:=h (X.length+k) c (by rw[f8 (by omega),Nat.add_sub_cancel_left];exact hk)
 rwa [<-Nat.add_assoc]at this
theorem Bt.head {x:UInt8} {Y:L_} (h:Bt s i (x::Y)):pk s i=x:=h 0 x rfl
theorem Bt.tail {x:UInt8} {Y:L_} (h:Bt s i (x::Y)):Bt s (i+1) Y:=λk c hk=>by
 have:=h (k+1) c hk
 rwa [show i+(k+1)=i+1+k from by omega]at this
end
theorem Bt.whole (l:L_):Bt ⟨l.toArray⟩ 0 l:=λk c hk=>by
 obtain⟨h,e⟩:=bc hk;unfold pk;rw[Nat.zero_add,dif_pos (show k<(⟨l.toArray⟩:ByteArray).size from by simpa[ByteArray.size]using h)];exact(show l.toArray[k]'(by simpa using h)=c from by simpa using e)
theorem ug {s:ByteArray} {n:Nat} {e:UInt8} (he:cw n e=false): ∀(t:L_) (k i:Nat) (acc:L_),Bt s i (t++ [e])->t.length<=k->(∀c∈t,cw n c=true)->tys s n e k acc i= .ok (acc++t,i+t.length+1)
 | [],k,i,acc,h,_,_=>by
  have:=h.head
  cases k<;>simp[tys,this]
 |c::t,0,i,acc,h,hk,_=>by simp at hk
 |c::t,k+1,i,acc,h,hk,ht=>by
  have hc:=h.head;have hi:=ht c (by simp);have a:c≠e:=λx=>by rw[x,he]at hi;cases hi
  rw[tys,hc,if_neg a,if_pos hi,ug he t k (i+1) (acc++ [c]) h.tail (by simpa using hk) (λc' h'=>ht c' (by simp[h']))];simp;omega
abbrev gK (c:Nat):Prop:=c=110\/c=120\/c=103\/c=112\/c=99
abbrev iv (c:Nat):Prop:=c=107\/c=108\/c=115\/c=103\/c=112\/c=99
abbrev jy (c:Nat):Prop:=c=106\/c=102
def rX (n:Nat):UInt8:=UInt8.ofNat (48+n)
def wI (x:Ins):L_:=x.op::((if gK x.op.toNat then [bQ x.a]else [])++(if iv x.op.toNat then [rX x.b]else if jy x.op.toNat then [rX (x.b / 10),rX (x.b % 10)]else []))
structure WfR (cs:List Cls) (ns nl:Nat) (x:Ins):Prop where
 op:cE.contains x.op.toNat=true
 cls:gK x.op.toNat->x.a<cs.length
 nocls: ¬gK x.op.toNat->x.a=0
 fld:x.op.toNat=103\/x.op.toNat=112->x.b<bB cs x.a
 sig:x.op.toNat=99->x.b<ns
 loc:x.op.toNat=108\/x.op.toNat=115->x.b<nl
 num:iv x.op.toNat->x.b<10
 jmp:jy x.op.toNat->x.b<100
 nonum: ¬iv x.op.toNat-> ¬jy x.op.toNat->x.b=0
theorem kZ {s:ByteArray} {n i d:Nat} (h:pk s i=rX d) (hn:d<n) (hd:d<10):eB s n i= .ok (d,i+1):=by
 have e:(rX d).toNat=48+d:=by simp[rX];omega
 unfold eB gO;rw[h,e,if_pos (by simp;omega),Nat.add_sub_cancel_left]
theorem om {s:ByteArray} {n i a:Nat} (h:pk s i=bQ a) (hn:a<n) (h4:n<=4):fj s n i= .ok (a,i+1):=by
 have e:(bQ a).toNat=65+a:=by simp[bQ];omega
 unfold fj aK;rw[h,e,if_pos (by simp;omega),Nat.add_sub_cancel_left]
theorem Di {s:ByteArray} {cs:List Cls} {ns nl i:Nat} {x:Ins} (h4:cs.length<=4) (h:WfR cs ns nl x) (hB:Bt s i (wI x)):oI s cs ns nl i= .ok (⟨x.op,x.a,x.b,i⟩,i+(wI x).length):=by
 obtain⟨op,a,b,pos⟩:=x;have p:=h.op;have g:=h.cls;have f:=h.nocls;have k:=h.fld;have l:=h.sig;have m:=h.loc;have e:=h.num;have n:=h.jmp;have j:=h.nonum;dsimp only at g f k l m e n j p;have hh:=hB.head;have ht:=hB.tail;unfold oI;rw[hh,if_pos p];unfold wI at ht⊢;dsimp only at ht⊢
 by_cases c1:op.toNat=108\/op.toNat=115
 .have c: ¬gK op.toNat:=by unfold gK;omega
  have d:iv op.toNat:=by unfold iv;omega
  rw[if_neg c,if_pos d]at ht⊢;rw[ba,if_pos c1,kZ ht.head (m c1) (e d),f c];simp
 by_cases c2:op.toNat=107
 .have c: ¬gK op.toNat:=by unfold gK;omega
  have d:iv op.toNat:=by unfold iv;omega
  rw[if_neg c,if_pos d]at ht⊢;rw[ba,if_neg c1,if_pos c2,kZ ht.head (e d) (e d),f c];simp
 by_cases c3:op.toNat=110\/op.toNat=120
 .have c:gK op.toNat:=by unfold gK;omega
  have d: ¬iv op.toNat:=by unfold iv;omega
  have q: ¬jy op.toNat:=by unfold jy;omega
  rw[if_pos c,if_neg d,if_neg q]at ht⊢;rw[ba,if_neg c1,if_neg c2,if_pos c3,om ht.head (g c) h4,j d q];simp
 by_cases c4:op.toNat=103\/op.toNat=112
 .have c:gK op.toNat:=by unfold gK;omega
  have d:iv op.toNat:=by unfold iv;omega
  rw[if_pos c,if_pos d]at ht⊢;rw[ba,if_neg c1,if_neg c2,if_neg c3,if_pos c4,om ht.head (g c) h4];dsimp only;rw[kZ ht.tail.head (k c4) (e d)];simp
 by_cases c5:op.toNat=99
 .have c:gK op.toNat:=by unfold gK;omega
  have d:iv op.toNat:=by unfold iv;omega
  rw[if_pos c,if_pos d]at ht⊢;rw[ba,if_neg c1,if_neg c2,if_neg c3,if_neg c4,if_pos c5,om ht.head (g c) h4];dsimp only;rw[kZ ht.tail.head (l c5) (e d)];simp
 have c: ¬gK op.toNat:=by unfold gK;omega
 have d: ¬iv op.toNat:=by unfold iv;omega
 by_cases c6:op.toNat=106\/op.toNat=102
 .have r:=n c6;rw[if_neg c,if_neg d,if_pos (show jy op.toNat from c6)]at ht⊢;rw[ba,if_neg c1,if_neg c2,if_neg c3,if_neg c4,if_neg c5,if_pos c6,kZ ht.head (by omega) (by omega)];dsimp only;rw[kZ ht.tail.head (by omega) (by omega),f c];simp;omega
 .rw[if_neg c,if_neg d,if_neg (show¬jy op.toNat from c6)]at ht⊢;rw[ba,if_neg c1,if_neg c2,if_neg c3,if_neg c4,if_neg c5,if_neg c6,f c,j d c6];simp
theorem qX {s:ByteArray} {cs:List Cls} {ns nl:Nat} (h4:cs.length<=4): ∀(c:List Ins) (k i:Nat) (acc:List Ins),Bt s i (c.flatMap wI++ [46])->c.length<=k->(∀x∈c,WfR cs ns nl x)->acc++c≠ []->
  ∃c',eD s cs ns nl k acc i= .ok (acc++c',i+(c.flatMap wI).length+1)/\c'.length=c.length/\Has c' 0 c
 | [],k,i,acc,h,_,_,ha=>by
  have f:=h.head;have ha:acc≠ []:=by simpa using ha
  exact⟨[],by cases k<;>simp[eD,f,ha],rfl,λk x d=>by simp at d⟩
 |x::c,0,i,acc,h,hk,_,_=>by simp at hk
 |x::c,k+1,i,acc,h,hk,hw,_=>by
  rw[lr,ky]at h;have d:=hw x (by simp);have n:=h.head
  have g: ¬((pk s i).toNat=46/\acc≠ []):=λe=>by
   rw[n]at e;have:=d.op;rw[e.1]at this;exact absurd this (by decide)
  obtain⟨c',p,q,r⟩:=qX h4 c k (i+(wI x).length) (acc++ [⟨x.op,x.a,x.b,i⟩]) h.right (by simpa using hk) (λy hy=>hw y (by simp[hy])) (by simp);refine⟨⟨x.op,x.a,x.b,i⟩::c',?_,by simp[q],λj y hj=> ?_⟩
  .rw[eD,if_neg g,Di h4 d h.left];dsimp only;rw[p];simp;omega
  .cases j with
   |zero=>cases hj;exact⟨_,rfl,rfl,rfl,rfl⟩
   |succ j=>
    obtain⟨z,l,m⟩:=r j y hj;rw[Nat.zero_add]at l;exact⟨z,by rw[Nat.zero_add];exact l,m⟩
def wC (acc:List Cls):List Cls->L_
 | []=> []
 |c::new=>(if c.par<0 then 45 else bQ c.par.toNat)::(c.fields.drop (inh acc c.par).length++46::wC (acc++ [c]) new)
theorem Eu (n:Nat):cw n 46=false:=by simp[cw,aK]
theorem B7 (n:Nat):cw n 58=false:=by simp[cw,aK]
theorem Dj {s:ByteArray}: ∀{k:Nat} {acc:List Cls} {i:Nat} {cs:List Cls} {j:Nat},dR s k acc i= .ok (cs,j)->acc.length+k<=4-> ∃new,cs=acc++new/\new.length<=k/\ ∀(s':ByteArray) (i':Nat),Bt s' i' (wC acc new++ [59])->dR s' k acc i'= .ok (cs,i'+(wC acc new).length+1):=by
 intro k
 induction k with
 |zero=>
  intro acc i cs j h m;unfold dR at h
  split at h
  .cases h
   exact⟨[],by simp,by simp,λs' i' hB=>by have:=hB.head;simp[dR,this,wC]⟩
  .cases h
 |succ k ih=>
  intro acc i cs j h m;unfold dR at h
  split at h
  .cases h
   exact⟨[],by simp,by simp,λs' i' hB=>by have:=hB.head;simp[dR,this,wC]⟩
  split at h
  .cases h
  rename_i h59 p j1 hp
  split at h
  .cases h
  rename_i own l ho
  obtain⟨new,rfl,hn,q⟩:=ih h (by simp;omega);refine⟨⟨p,inh acc p++own⟩::new,by simp,by simpa using hn,λs' i' hB=> ?_⟩;unfold wC at hB⊢;dsimp only at hB⊢;rw[List.drop_left]at hB⊢;rw[List.cons_append,ky]at hB;have hh:=hB.head;have ht:=hB.tail
  have b:Bt s' (i'+1) (own++ [46]):=by
   have e:own++(46::wC (acc++ [⟨p,inh acc p++own⟩]) new++ [59])=(own++ [46])++(wC (acc++ [⟨p,inh acc p++own⟩]) new++ [59]):=by simp
   rw[e]at ht;exact ht.left
  have d:=j8 (by simp) ho;have c:=fL ho
  have a:jY s' acc.length i'= .ok (p,i'+1)/\(pk s' i').toNat≠59:=by
   obtain⟨_,hc⟩:=pT hp;obtain⟨rfl,_⟩ | ⟨_,hl,n⟩:=hc
   .have hh:pk s' i'=45:=hh;rw[hh];exact⟨by unfold jY;rw[hh];rfl,by decide⟩
   .have g: ¬p<0:=by omega
    rw[if_neg g]at hh;simp only[aK,dk,dg]at hl;have e:(bQ p.toNat).toNat=65+p.toNat:=by simp[bQ];omega
    refine⟨?_,by rw[hh,e];omega⟩;unfold jY;rw[hh,e,if_neg (by omega),om hh (by omega) (by omega)];dsimp only;rw[show((p.toNat:Nat):Int)=p from by omega]
  rw[dR,if_neg a.2,a.1];dsimp only;rw[ug (Eu _) own 2 (i'+1) [] b (by simpa using c) d];dsimp only;have f:own++(46::wC (acc++ [⟨p,inh acc p++own⟩]) new++ [59])=(own++ [46])++(wC (acc++ [⟨p,inh acc p++own⟩]) new++ [59]):=by simp
  rw[f]at ht;have:=q s' (i'+1+own.length+1) (by have:=ht.right;simpa[Nat.add_assoc]using this);rw[List.nil_append,this];simp;omega
def wS (g:Sig):L_:=[g.arg,g.ret,46]
theorem Dl {s:ByteArray} {n:Nat}: ∀{k:Nat} {acc:List Sig} {i:Nat} {gs:List Sig} {j:Nat},fk s n k acc i= .ok (gs,j)-> ∃new,gs=acc++new/\new.length<=k/\ ∀(s':ByteArray) (i':Nat),Bt s' i' (new.flatMap wS++ [59])->fk s' n k acc i'= .ok (gs,i'+(new.flatMap wS).length+1):=by
 intro k
 induction k with
 |zero=>
  intro acc i gs j h;unfold fk at h
  split at h
  .cases h
   exact⟨[],by simp,by simp,λs' i' hB=>by have:=hB.head;simp[fk,this]⟩
  .cases h
 |succ k ih=>
  intro acc i gs j h;unfold fk at h
  split at h
  .cases h
   exact⟨[],by simp,by simp,λs' i' hB=>by have:=hB.head;simp[fk,this]⟩
  split at h
  .cases h
  rename_i h59 a j1 ha
  split at h
  .cases h
  rename_i b j2 hb
  split at h
  .cases h
  rename_i m hm
  obtain⟨new,rfl,hn,q⟩:=ih h
  have f: ∀{i c j},tyP s n i= .ok (c,j)->cw n c=true:=λ{i c j} h=>by
   unfold tyP at h
   split at h
   .cases h;assumption
   .cases h
  have ta:=f ha;have tb:=f hb;refine⟨⟨a,b⟩::new,by simp,by simpa using hn,λs' i' hB=> ?_⟩;rw[lr,ky]at hB;have g:=hB.head;have l:=hB.tail.head;have p:=hB.tail.tail.head;dsimp only at g l
  have d:(pk s' i').toNat≠59:=λe=>by
   rw[g]at e;simp only[cw,aK,Bool.or_eq_true,dk,dg]at ta;omega
  have:=q s' (i'+1+1+1) hB.tail.tail.tail
  have e:i'+((⟨a,b⟩::new:List Sig).flatMap wS).length+1=i'+1+1+1+(new.flatMap wS).length+1:=by
   rw[lr,aN]
   show i'+(3+_)+1=_
   omega
  rw[e];rw[g]at d;simp only[fk,d,if_false,tyP,g,ta,if_true,l,tb,mH,p,this]
structure xJ (x:Ins):Prop where
 dig:aQ x.op=true->x.b<10
 nocls: ¬gK x.op.toNat->x.a=0
 nonum:aQ x.op=false-> ¬iv x.op.toNat->x.b=0
theorem Ew {s:ByteArray} {cs:List Cls} {ns nl i:Nat} {x:Ins} {j:Nat} (h:lx s cs ns nl i= .ok (x,j)):xJ x:=by
 unfold lx at h
 split at h
 case isFalse=>cases h
 rename_i hl
 have c:(pk s i).toNat≠107/\(pk s i).toNat≠106/\(pk s i).toNat≠102:=by
  simp only[cr,List.contains_iff_mem,List.mem_cons,List.not_mem_nil,or_false]at hl;omega
 split at h
 case h_2=>cases h
 rename_i a b j' ho
 cases h
 refine⟨λhd=> ?_,λhc=> ?_,λhd hc=> ?_⟩
 .dsimp only at hd⊢;rw[if_pos hd];simp only[aQ,dk,dg]at hd;omega
 .dsimp only at hc⊢;unfold ba at ho;rw[if_neg (show¬((pk s i).toNat=110\/(pk s i).toNat=120)from by unfold gK at hc;omega),if_neg (show¬((pk s i).toNat=103\/(pk s i).toNat=112)from by unfold gK at hc;omega),if_neg (show¬(pk s i).toNat=99 from by unfold gK at hc;omega),if_neg (show¬(pk s i).toNat=107 from c.1),if_neg (show¬((pk s i).toNat=106\/(pk s i).toNat=102)from by omega)]at ho
  split at ho
  .split at ho
   .cases ho;rfl
   .cases ho
  .cases ho;rfl
 .dsimp only at hd hc⊢;rw[hd];unfold ba at ho;rw[if_neg (show¬((pk s i).toNat=108\/(pk s i).toNat=115)from by unfold iv at hc;omega),if_neg (show¬(pk s i).toNat=107 from c.1),if_neg (show¬((pk s i).toNat=103\/(pk s i).toNat=112)from by unfold iv at hc;omega),if_neg (show¬(pk s i).toNat=99 from by unfold iv at hc;omega),if_neg (show¬((pk s i).toNat=106\/(pk s i).toNat=102)from by omega)]at ho
  split at ho
  .split at ho
   .cases ho;rfl
   .cases ho
  .cases ho;rfl
theorem B8 {s:ByteArray} {cs:List Cls} {ns nl:Nat}: ∀{k:Nat} {t:List Ins} {m i:Nat} {r:List Ins} {j:Nat},(∀x∈t,xJ x)->cK s cs ns nl k t m i= .ok (r,j)-> ∀x∈r,xJ x:=by
 intro k
 induction k with
 |zero=>
  intro t m i r j ht h
  cases m with
  |zero=>cases h;exact ht
  |succ m=>cases h
 |succ k ih=>
  intro t m i r j ht h
  cases m with
  |zero=>cases h;exact ht
  |succ m=>
   simp only[cK]at h
   cases hx:lx s cs ns nl i with
   |error l=>rw[hx]at h;cases h
   |ok y=>
    rw[hx]at h;refine ih (λx hx'=> ?_) h;obtain h'|h':=gz hx'
    .exact ht x h'
    .rw[List.mem_singleton]at h';rw[h'];exact Ew hx
theorem yx {s:ByteArray} {cs:List Cls} {ns nl i:Nat} {r:List Ins} {j:Nat} (h:fX s cs ns nl i= .ok (r,j)): ∀x∈r,xJ x:=by
 unfold fX at h
 split at h
 .cases h
 .rename_i t l ht
  split at h
  .cases h;exact B8 (by simp) ht
  .cases h
section
variable (cc:Bod->List Ins)
def wB (b:Bod):L_:=bQ b.cls.toNat::rX b.meth.toNat::(b.zy.drop 2++58::((cc b).flatMap wI++ [46]))
def wM (b:Bod):L_:=b.zy++58::((cc b).flatMap wI++ [46])
structure Fa (b b':Bod):Prop where
 cls:b'.cls=b.cls
 meth:b'.meth=b.meth
 loc:b'.zy=b.zy
 len:b'.code.length=(cc b).length
 code:Has b'.code 0 (cc b)
def uh (l l':List Bod):Prop:=l'.length=l.length/\ ∀(q:Nat) (b:Bod),l[q]?=some b-> ∃b',l'[q]?=some b'/\Fa cc b b'
structure Dm (cs:List Cls) (ns:Nat) (b:Bod):Prop where
 ins: ∀x∈cc b,WfR cs ns b.zy.length x
 len:0<(cc b).length/\(cc b).length<=100
end
theorem vS (bs:List Bod) (x m:Int):(ia bs x m).isSome=bs.any (λb=>b.cls==x&&b.meth==m):=by
 unfold ia;rw[List.findIdx?_isSome]
theorem uh.cons {cc:Bod->List Ins} {b b':Bod} {l l':List Bod} (h:Fa cc b b') (hl:uh cc l l'):uh cc (b::l) (b'::l'):=⟨by simp[hl.1],λq x hx=>by
 cases q with
 |zero=>cases hx;exact⟨b',rfl,h⟩
 |succ q=>exact hl.2 q x hx⟩
theorem Dn {s:ByteArray} {cs:List Cls} {gs:List Sig} (h4:cs.length<=4) (h10:gs.length<=10): ∀{k:Nat} {acc:List Bod} {i:Nat} {bs:List Bod} {j:Nat},fZ s cs gs k acc i= .ok (bs,j)->
  ∃new,bs=acc++new/\new.length<=k/\(∀b∈new,∀x∈b.code,xJ x)/\(∀b∈new,0<=b.cls)/\ ∀(cc:Bod->List Ins) (s':ByteArray) (i':Nat) (accI:List Bod),(∀x m,accI.any (λb=>b.cls==x&&b.meth==m)=acc.any (λb=>b.cls==x&&b.meth==m))->(∀b∈new,Dm cc cs gs.length b)->Bt s' i' (new.flatMap (wB cc)++ [59])->
   ∃newI,iR s' cs gs k accI i'= .ok (accI++newI,i'+(new.flatMap (wB cc)).length+1)/\uh cc new newI:=by
 intro k
 induction k with
 |zero=>
  intro acc i bs j h;unfold fZ at h
  split at h
  .cases h
   exact⟨[],by simp,by simp,by simp,by simp,λcc s' i' accI _ _ hB=>⟨[],by have:=hB.head;simp[iR,this],rfl,λq b a=>by simp at a⟩⟩
  .cases h
 |succ k ih=>
  intro acc i bs j h;unfold fZ at h
  split at h
  .cases h
   exact⟨[],by simp,by simp,by simp,by simp,λcc s' i' accI _ _ hB=>⟨[],by have:=hB.head;simp[iR,this],rfl,λq b a=>by simp at a⟩⟩
  split at h
  .cases h
  rename_i _ _ x j1 hx
  split at h
  .cases h
  rename_i _ m j2 hm
  split at h
  .cases h
  rename_i hown
  split at h
  .cases h
  rename_i _ t j3 ht
  split at h
  .cases h
  rename_i _ is j4 hi
  have G:True:=trivial;obtain⟨new,a,hn,H,r,I⟩:=ih h;have D:=kE hx;have l:=fM hm;have C:=fL ht;have B:=j8 (by simp) ht;refine⟨⟨x,m,UInt8.ofNat (65+x)::ib gs m::t,is⟩::new,by rw[a];simp,by simpa using hn,?_,?_,λcc s' i' accI ho hC hB=> ?_⟩
  .intro b a;obtain rfl|a:=List.mem_cons.1 a
   .exact yx hi
   .exact H b a
  .intro b a;obtain rfl|a:=List.mem_cons.1 a
   .show(0:Int)<=(x:Int);omega
   .exact r b a
  have f:=hC ⟨x,m,UInt8.ofNat (65+x)::ib gs m::t,is⟩ (by simp);rw[lr,ky]at hB;generalize c:(⟨x,m,UInt8.ofNat (65+x)::ib gs m::t,is⟩:Bod)=b0 at*;have ew:wB cc b0=bQ x::rX m::(t++58::((cc b0).flatMap wI++ [46])):=by rw[<-c];rfl
  rw[ew]at hB;have d:=hB.left;have E:=d.head;have F:=d.tail.head;have n:=d.tail.tail
  have g3a:Bt s' (i'+1+1) (t++ [58]):=by
   rw[show t++58::((cc b0).flatMap wI++ [46])=(t++ [58])++((cc b0).flatMap wI++ [46])from by simp]at n;exact n.left
  have g3b:Bt s' (i'+1+1+t.length+1) ((cc b0).flatMap wI++ [46]):=by
   rw[show t++58::((cc b0).flatMap wI++ [46])=(t++ [58])++((cc b0).flatMap wI++ [46])from by simp]at n;have:=n.right;simpa[Nat.add_assoc]using this
  have ecl:(bQ x).toNat=65+x:=by simp[bQ];omega
  have v:(pk s' i').toNat≠59:=by rw[E,ecl];omega
  have z:b0.zy.length=t.length+2:=by rw[<-c];simp
  obtain⟨c',c1,c2,c3⟩:=qX (s:=s') (ns:=gs.length) (nl:=t.length+2) h4 (cc b0) 100 (i'+1+1+t.length+1) [] g3b f.len.2 (λy hy=>z▸f.ins y hy) (by
   intro e;have:=f.len.1;rw[List.nil_append]at e;rw[e]at this;simp at this)
  have p:Bt s' (i'+1+1+t.length+1+((cc b0).flatMap wI).length+1) (new.flatMap (wB cc)++ [59]):=by
   have:=hB.right
   have e:i'+(bQ x::rX m::(t++58::((cc b0).flatMap wI++ [46]))).length=i'+1+1+t.length+1+((cc b0).flatMap wI).length+1:=by
    simp only[iU,aN,List.length_nil];omega
   rwa [e]at this
  have A: ∀x' m',(accI++ [(⟨x,m,UInt8.ofNat (65+x)::ib gs m::t,c'⟩:Bod)]).any (λb=>b.cls==x'&&b.meth==m')=(acc++ [b0]).any (λb=>b.cls==x'&&b.meth==m'):=λx' m'=>by
   rw[List.any_append,List.any_append,ho x' m',<-c];simp
  obtain⟨newI,J,L⟩:=I cc s' _ _ A (λb a=>hC b (by simp[a])) p;refine⟨⟨x,m,UInt8.ofNat (65+x)::ib gs m::t,c'⟩::newI,?_,L.cons ⟨by rw[<-c],by rw[<-c],by rw[<-c],c2,c3⟩⟩
  have g: ¬(ia accI x m).isSome=true:=by
   rw[vS,ho,<-vS];exact hown
  have e:i'+((b0::new).flatMap (wB cc)).length+1=i'+1+1+t.length+1+((cc b0).flatMap wI).length+1+(new.flatMap (wB cc)).length+1:=by
   rw[lr,aN,ew];simp only[iU,aN,List.length_nil];omega
  rw[e,iR,if_neg v,om E D h4];dsimp only;rw[kZ F l.1 l.2];dsimp only;rw[if_neg g,ug (B7 _) t 3 (i'+1+1) [] g3a (by simpa using C) B];dsimp only;rw[List.nil_append,c1];dsimp only;rw[List.nil_append,J];simp
def wX (cc:Bod->List Ins) (b:Bod):L_:=if b.cls<0 then 59::wM cc b else wB cc b
def qY (cc:Bod->List Ins) (im:Img):L_:=wC [] im.zq++59::(im.zx.flatMap wS++59::im.zj.flatMap (wX cc))
theorem yy (cc:Bod->List Ins): ∀{bs:List Bod},(∀b∈bs,0<=b.cls)->bs.flatMap (wX cc)=bs.flatMap (wB cc)
 | [],_=>rfl
 |b::bs,h=>by
  rw[lr,lr,yy cc (λb' h'=>h b' (by simp[h'])),wX,if_neg (by have:=h b (by simp);omega)]
theorem oo {s:ByteArray} {im:Img} (h:dH s= .ok im):(∀b∈im.zj,∀x∈b.code,xJ x)/\(∃side mb,im.zj=side++ [mb]/\mb.cls= -1/\ ∀b∈side,0<=b.cls)/\ ∀cc:Bod->List Ins,(∀b∈im.zj,Dm cc im.zq im.zx.length b)->
  ∃im',gP ⟨(qY cc im).toArray⟩= .ok im'/\im'.zq=im.zq/\im'.zx=im.zx/\uh cc im.zj im'.zj:=by
 unfold dH at h
 split at h
 .cases h
 rename_i cs l1 h1
 split at h
 .cases h
 rename_i gs l2 h2
 split at h
 .cases h
 rename_i bs l3 h3
 split at h
 .cases h
 rename_i t l4 h5
 split at h
 .cases h
 rename_i is l5 h6
 split at h
 .cases h
 cases h
 have hc:=ny h1;have n:=lC h2;have r:=fL h5;have p:=j8 (by simp) h5;obtain⟨cN,i,_,rC⟩:=Dj h1 (by simp);obtain⟨gN,j,_,rG⟩:=Dl h2;obtain⟨bN,f,F,m,g,rB⟩:=Dn hc.2 (by simp at n;omega) h3;rw[List.nil_append]at i j f;subst i j f;refine⟨λb hb=> ?_,⟨bs,_,rfl,rfl,g⟩,λcc hC=> ?_⟩
 .dsimp only at hb;obtain hb|hb:=gz hb
  .exact m b hb
  .rw[List.mem_singleton]at hb;rw[hb];exact yx h6
 .dsimp only at hC⊢;generalize a:(⟨-1,-1,t,is⟩:Bod)=mb at*
  have eW:qY cc ⟨cs,gs,bs++ [mb]⟩=wC [] cs++59::(gs.flatMap wS++59::(bs.flatMap (wB cc)++59::wM cc mb)):=by
   unfold qY;dsimp only;rw[List.flatMap_append,yy cc g];simp[wX,<-a]
  rw[eW];generalize v:wC [] cs++59::(gs.flatMap wS++59::(bs.flatMap (wB cc)++59::wM cc mb))=W;have l:=(show∀L,W=L->Bt ⟨W.toArray⟩ 0 L from λL e=>by subst e;exact Bt.whole W) _ v.symm;have G:(⟨W.toArray⟩:ByteArray).size=W.length:=by simp[ByteArray.size]
  have z:Bt ⟨W.toArray⟩ 0 (wC [] cs++ [59]):=by
   rw[show wC [] cs++59::(gs.flatMap wS++59::(bs.flatMap (wB cc)++59::wM cc mb))=(wC [] cs++ [59])++(gs.flatMap wS++59::(bs.flatMap (wB cc)++59::wM cc mb))from by simp]at l;exact l.left
  have b2:=l.right.tail
  have b3:Bt ⟨W.toArray⟩ (0+(wC [] cs).length+1) (gs.flatMap wS++ [59]):=by
   rw[show gs.flatMap wS++59::(bs.flatMap (wB cc)++59::wM cc mb)=(gs.flatMap wS++ [59])++(bs.flatMap (wB cc)++59::wM cc mb)from by simp]at b2;exact b2.left
  have b4:=b2.right.tail
  have A:Bt ⟨W.toArray⟩ (0+(wC [] cs).length+1+(gs.flatMap wS).length+1) (bs.flatMap (wB cc)++ [59]):=by
   rw[show bs.flatMap (wB cc)++59::wM cc mb=(bs.flatMap (wB cc)++ [59])++wM cc mb from by simp]at b4;exact b4.left
  have d:=b4.right.tail;have el:mb.zy=t:=by rw[<-a]
  unfold wM at d;rw[el]at d
  have B:Bt ⟨W.toArray⟩ (0+(wC [] cs).length+1+(gs.flatMap wS).length+1+(bs.flatMap (wB cc)).length+1) (t++ [58]):=by
   rw[show t++58::((cc mb).flatMap wI++ [46])=(t++ [58])++((cc mb).flatMap wI++ [46])from by simp]at d;exact d.left
  have C:=d.right.tail;have c:=hC mb (by simp);obtain⟨newI,H,k⟩:=rB cc ⟨W.toArray⟩ _ [] (λ_ _=>rfl) (λb hb=>hC b (by simp[hb])) A
  obtain⟨c',c1,c2,c3⟩:=qX (ns:=gs.length) (nl:=t.length) hc.2 (cc mb) 100 _ [] C c.len.2 (λy hy=>el▸c.ins y hy) (by
   intro e;have:=c.len.1;rw[List.nil_append]at e;rw[e]at this;simp at this)
  refine⟨⟨cs,gs,newI++ [⟨-1,-1,t,c'⟩]⟩,?_,rfl,rfl,?_⟩
  .unfold gP;rw[rC _ _ z];dsimp only;rw[rG _ _ b3];dsimp only;rw[H];dsimp only;rw[ug (B7 _) t 3 _ [] B (by simpa using r) p];dsimp only;rw[List.nil_append,c1];dsimp only
   rw[if_neg (by
    rw[G,<-v];unfold wM;rw[el];simp only[iU,aN,List.length_nil];omega)]
   simp
  .refine⟨by simp[k.1],λq b hq=> ?_⟩;obtain hl|hl|hl:=Nat.lt_trichotomy q bs.length
   .rw[dy hl]at hq;obtain⟨b',D,E⟩:=k.2 q b hq;exact⟨b',by rw[dy (by rw[k.1];exact hl)];exact D,E⟩
   .subst hl;rw[f8 (bP _)]at hq;simp at hq;subst hq;refine⟨⟨-1,-1,t,c'⟩,by rw[f8 (by rw[k.1];exact bP _),k.1];simp,by rw[<-a],by rw[<-a],by rw[<-a],c2,c3⟩
   .have:=(bc hq).1;simp at this;omega
theorem vT {cc:Bod->List Ins}: ∀{l l':List Bod},uh cc l l'-> ∀x m,ia l' x m=ia l x m
 | [],l',h,x,m=>by
  have:l'=[]:=List.length_eq_zero_iff.1 h.1;subst this;rfl
 |b::l,[],h,x,m=>by have:=h.1;simp at this
 |b::l,b'::l',h,x,m=>by
  have c:=h.2 0 b rfl;obtain⟨b2,e,a⟩:=c
  cases e
  have ht:uh cc l l':=⟨by simpa using h.1,λq y hy=>h.2 (q+1) y hy⟩;have ih:=vT ht x m;unfold ia at ih⊢;rw[List.findIdx?_cons,List.findIdx?_cons,a.cls,a.meth,ih]
theorem o9 {cc:Bod->List Ins} {l l':List Bod} (h:uh cc l l') (cs:List Cls) (m:Int): ∀(f:Nat) (c:Int),bM cs l' m f c=bM cs l m f c
 |0,c=>rfl
 |f+1,c=>by
  have e:gx l' c m=gx l c m:=by unfold gx;rw[vT h]
  rw[bM,bM,e,o9 h cs m f]
theorem Do {s:ByteArray} {im:Img} (h:dH s= .ok im) {cc:Bod->List Ins} (hC: ∀b∈im.zj,Dm cc im.zq im.zx.length b) (hlen:(qY cc im).length<=2000)
  (hcall: ∀b∈im.zj,∀x∈cc b,x.op.toNat=99->0<=bM im.zq im.zj x.b 5 x.a) (hj: ∀b∈im.zj,∀x∈cc b,jy x.op.toNat->x.b<(cc b).length):
  ∃im',gQ ⟨(qY cc im).toArray⟩= .ok im'/\im'.zq=im.zq/\im'.zx=im.zx/\uh cc im.zj im'.zj:=by
 obtain⟨im',z,r,A,i⟩:=(oo h).2.2 cc hC;refine⟨im',?_,r,A,i⟩;unfold gQ;rw[if_neg (by simp[ByteArray.size];omega),z];dsimp only
 have hn:im'.zj.findSome? (λb=>unl im'.zq im'.zj b.code)=none:=by
  rw[List.findSome?_eq_none_iff];intro b' k;obtain⟨q,t⟩:=List.getElem?_of_mem k;have g:q<im.zj.length:=by rw[<-i.1];exact(bc t).1
  obtain⟨b2,e,l⟩:=i.2 q _ (aG g);rw[t]at e
  cases e
  have hm:=bD g;unfold unl;rw[Option.map_eq_none_iff,List.find?_eq_none];intro x B;obtain⟨j,d⟩:=List.getElem?_of_mem B;have c:j<(cc im.zj[q]).length:=by rw[<-l.len];exact(bc d).1
  obtain⟨y,m,n,v,p⟩:=l.code j _ (aG c);rw[Nat.zero_add,d]at m
  cases m
  have f:=bD c;have c1:=hcall _ hm _ f;have c2:=hj _ hm _ f;rw[<-n,<-v,<-p]at c1;rw[<-n,<-p,<-l.len]at c2;unfold cy;rw[r,o9 i];simp only[Bool.or_eq_true,dk,dg];rintro(⟨k1,k2⟩ | ⟨k1,k2⟩)
  .have:=c1 k1;omega
  .have:=c2 k1;omega
 rw[hn]
end
end Go.Proofs.YtpfkkmacakjmbaaGreatDoor
