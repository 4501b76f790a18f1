import Derived.Test.YtpfkkmacakjmbaaGreatDoorP15
set_option maxRecDepth 100000
set_option maxHeartbeats 6400000
set_option linter.all false
namespace Go.Proofs.YtpfkkmacakjmbaaGreatDoor
section
open Sp
def Bt (s:ByteArray) (i:Nat) (l:L_):Prop:= ∀k c,l[k]?=some c->pk s (i+k)=c
section
variable {s:ByteArray} {i:Nat}
theorem Bt.left {X Y:L_} (h:Bt s i (X++Y)):Bt s i X:=λk c hk=>h k c (by rw[eQ (bn hk).1];exact hk)
theorem Bt.right {X Y:L_} (h:Bt s i (X++Y)):Bt s (i+X.length) Y:=λk c hk=>by
 have:=h (X.length+k) c (by rw[gG (by omega),Nat.add_sub_cancel_left];exact hk)
 rwa [<-Nat.add_assoc]at this
theorem Bt.head {x:UInt8} {Y:L_} (h:Bt s i (x::Y)):pk s i=x:=h 0 x rfl
theorem Bt.tail {x:UInt8} {Y:L_} (h:Bt s i (x::Y)):Bt s (i+1) Y:=λk c hk=>by
 have:=h (k+1) c hk
 rwa [show i+(k+1)=i+1+k from by omega]at this
end
theorem Bt.whole (l:L_):Bt ⟨l.toArray⟩ 0 l:=λk c hk=>by
 obtain⟨h,e⟩:=bn hk;unfold pk;rw[Nat.zero_add,dif_pos (show k<(⟨l.toArray⟩:ByteArray).size from by simpa[ByteArray.size]using h)];exact(show l.toArray[k]'(by simpa using h)=c from by simpa using e)
theorem tJ {s:ByteArray} {n:Nat} {e:UInt8} (he:cY n e=false): ∀(t:L_) (k i:Nat) (acc:L_),Bt s i (t++ [e])->t.length<=k->(∀c∈t,cY n c=true)->tys s n e k acc i= .ok (acc++t,i+t.length+1)
 | [],k,i,acc,h,_,_=>by
  have:=h.head
  cases k<;>simp[tys,this]
 |c::t,0,i,acc,h,hk,_=>by simp at hk
 |c::t,k+1,i,acc,h,hk,ht=>by
  have hc:=h.head;have hi:=ht c (by simp);have a:c≠e:=λx=>by rw[x,he]at hi;cases hi
  rw[tys,hc,if_neg a,if_pos hi,tJ he t k (i+1) (acc++ [c]) h.tail (by simpa using hk) (λc' h'=>ht c' (by simp[h']))];simp;omega
abbrev gh (c:Nat):Prop:=c=110\/c=120\/c=103\/c=112\/c=99
abbrev gX (c:Nat):Prop:=c=107\/c=108\/c=115\/c=103\/c=112\/c=99
abbrev iW (c:Nat):Prop:=c=106\/c=102
def ry (n:Nat):UInt8:=UInt8.ofNat (48+n)
def wI (x:Ins):L_:=x.op::((if gh x.op.toNat then [cE x.a]else [])++(if gX x.op.toNat then [ry x.b]else if iW x.op.toNat then [ry (x.b / 10),ry (x.b % 10)]else []))
structure WfR (cs:List Cls) (ns nl:Nat) (x:Ins):Prop where
 op:df.contains x.op.toNat=true
 cls:gh x.op.toNat->x.a<cs.length
 nocls: ¬gh x.op.toNat->x.a=0
 fld:x.op.toNat=103\/x.op.toNat=112->x.b<db cs x.a
 sig:x.op.toNat=99->x.b<ns
 loc:x.op.toNat=108\/x.op.toNat=115->x.b<nl
 num:gX x.op.toNat->x.b<10
 jmp:iW x.op.toNat->x.b<100
 nonum: ¬gX x.op.toNat-> ¬iW x.op.toNat->x.b=0
theorem kS {s:ByteArray} {n i d:Nat} (h:pk s i=ry d) (hn:d<n) (hd:d<10):gE s n i= .ok (d,i+1):=by
 have e:(ry d).toNat=48+d:=by simp[ry];omega
 unfold gE gY;rw[h,e,if_pos (by simp;omega),Nat.add_sub_cancel_left]
theorem ot {s:ByteArray} {n i a:Nat} (h:pk s i=cE a) (hn:a<n) (h4:n<=4):jb s n i= .ok (a,i+1):=by
 have e:(cE a).toNat=65+a:=by simp[cE];omega
 unfold jb aQ;rw[h,e,if_pos (by simp;omega),Nat.add_sub_cancel_left]
theorem Dk {s:ByteArray} {cs:List Cls} {ns nl i:Nat} {x:Ins} (h4:cs.length<=4) (h:WfR cs ns nl x) (hB:Bt s i (wI x)):oG s cs ns nl i= .ok (⟨x.op,x.a,x.b,i⟩,i+(wI x).length):=by
 obtain⟨op,a,b,pos⟩:=x;have p:=h.op;have g:=h.cls;have f:=h.nocls;have k:=h.fld;have l:=h.sig;have m:=h.loc;have e:=h.num;have n:=h.jmp;have j:=h.nonum;dsimp only at g f k l m e n j p;have r:=hB.head;have ht:=hB.tail;unfold oG;rw[r,if_pos p];unfold wI at ht⊢;dsimp only at ht⊢
 by_cases c1:op.toNat=108\/op.toNat=115
 .have c: ¬gh op.toNat:=by unfold gh;omega
  have d:gX op.toNat:=by unfold gX;omega
  rw[if_neg c,if_pos d]at ht⊢;rw[dL,if_pos c1,kS ht.head (m c1) (e d),f c];simp
 by_cases c2:op.toNat=107
 .have c: ¬gh op.toNat:=by unfold gh;omega
  have d:gX op.toNat:=by unfold gX;omega
  rw[if_neg c,if_pos d]at ht⊢;rw[dL,if_neg c1,if_pos c2,kS ht.head (e d) (e d),f c];simp
 by_cases c3:op.toNat=110\/op.toNat=120
 .have c:gh op.toNat:=by unfold gh;omega
  have d: ¬gX op.toNat:=by unfold gX;omega
  have q: ¬iW op.toNat:=by unfold iW;omega
  rw[if_pos c,if_neg d,if_neg q]at ht⊢;rw[dL,if_neg c1,if_neg c2,if_pos c3,ot ht.head (g c) h4,j d q];simp
 by_cases c4:op.toNat=103\/op.toNat=112
 .have c:gh op.toNat:=by unfold gh;omega
  have d:gX op.toNat:=by unfold gX;omega
  rw[if_pos c,if_pos d]at ht⊢;rw[dL,if_neg c1,if_neg c2,if_neg c3,if_pos c4,ot ht.head (g c) h4];dsimp only;rw[kS ht.tail.head (k c4) (e d)];simp
 by_cases c5:op.toNat=99
 .have c:gh op.toNat:=by unfold gh;omega
  have d:gX op.toNat:=by unfold gX;omega
  rw[if_pos c,if_pos d]at ht⊢;rw[dL,if_neg c1,if_neg c2,if_neg c3,if_neg c4,if_pos c5,ot ht.head (g c) h4];dsimp only;rw[kS ht.tail.head (l c5) (e d)];simp
 have c: ¬gh op.toNat:=by unfold gh;omega
 have d: ¬gX op.toNat:=by unfold gX;omega
 by_cases c6:op.toNat=106\/op.toNat=102
 .have hb:=n c6;rw[if_neg c,if_neg d,if_pos (show iW op.toNat from c6)]at ht⊢;rw[dL,if_neg c1,if_neg c2,if_neg c3,if_neg c4,if_neg c5,if_pos c6,kS ht.head (by omega) (by omega)];dsimp only;rw[kS ht.tail.head (by omega) (by omega),f c];simp;omega
 .rw[if_neg c,if_neg d,if_neg (show¬iW op.toNat from c6)]at ht⊢;rw[dL,if_neg c1,if_neg c2,if_neg c3,if_neg c4,if_neg c5,if_neg c6,f c,j d c6];simp
theorem qH {s:ByteArray} {cs:List Cls} {ns nl:Nat} (h4:cs.length<=4): ∀(c:List Ins) (k i:Nat) (acc:List Ins),Bt s i (c.flatMap wI++ [46])->c.length<=k->(∀x∈c,WfR cs ns nl x)->acc++c≠ []->
  ∃c',gZ s cs ns nl k acc i= .ok (acc++c',i+(c.flatMap wI).length+1)/\c'.length=c.length/\Has c' 0 c
 | [],k,i,acc,h,_,_,ha=>by
  have d:=h.head;have ha:acc≠ []:=by simpa using ha
  exact⟨[],by cases k<;>simp[gZ,d,ha],rfl,λk x hx=>by simp at hx⟩
 |x::c,0,i,acc,h,hk,_,_=>by simp at hk
 |x::c,k+1,i,acc,h,hk,hw,_=>by
  rw[lu,mP]at h;have hx:=hw x (by simp);have g:=h.head
  have f: ¬((pk s i).toNat=46/\acc≠ []):=λe=>by
   rw[g]at e;have:=hx.op;rw[e.1]at this;exact absurd this (by decide)
  obtain⟨c',l,m,n⟩:=qH h4 c k (i+(wI x).length) (acc++ [⟨x.op,x.a,x.b,i⟩]) h.right (by simpa using hk) (λy hy=>hw y (by simp[hy])) (by simp);refine⟨⟨x.op,x.a,x.b,i⟩::c',?_,by simp[m],λj y hj=> ?_⟩
  .rw[gZ,if_neg f,Dk h4 hx h.left];dsimp only;rw[l];simp;omega
  .cases j with
   |zero=>cases hj;exact⟨_,rfl,rfl,rfl,rfl⟩
   |succ j=>
    obtain⟨z,g1,g2⟩:=n j y hj;rw[Nat.zero_add]at g1;exact⟨z,by rw[Nat.zero_add];exact g1,g2⟩
def wC (acc:List Cls):List Cls->L_
 | []=> []
 |c::new=>(if c.par<0 then 45 else cE c.par.toNat)::(c.fields.drop (inh acc c.par).length++46::wC (acc++ [c]) new)
theorem EI (n:Nat):cY n 46=false:=by simp[cY,aQ]
theorem BR (n:Nat):cY n 58=false:=by simp[cY,aQ]
theorem Dl {s:ByteArray}: ∀{k:Nat} {acc:List Cls} {i:Nat} {cs:List Cls} {j:Nat},fw s k acc i= .ok (cs,j)->acc.length+k<=4-> ∃new,cs=acc++new/\new.length<=k/\ ∀(s':ByteArray) (i':Nat),Bt s' i' (wC acc new++ [59])->fw s' k acc i'= .ok (cs,i'+(wC acc new).length+1):=by
 intro k
 induction k with
 |zero=>
  intro acc i cs j h n;unfold fw at h
  split at h
  .cases h
   exact⟨[],by simp,by simp,λs' i' hB=>by have:=hB.head;simp[fw,this,wC]⟩
  .cases h
 |succ k ih=>
  intro acc i cs j h n;unfold fw at h
  split at h
  .cases h
   exact⟨[],by simp,by simp,λs' i' hB=>by have:=hB.head;simp[fw,this,wC]⟩
  split at h
  .cases h
  rename_i h59 p j1 hp
  split at h
  .cases h
  rename_i own l ho
  obtain⟨new,rfl,hn,r⟩:=ih h (by simp;omega);refine⟨⟨p,inh acc p++own⟩::new,by simp,by simpa using hn,λs' i' hB=> ?_⟩;unfold wC at hB⊢;dsimp only at hB⊢;rw[List.drop_left]at hB⊢;rw[List.cons_append,mP]at hB;have a:=hB.head;have ht:=hB.tail
  have c:Bt s' (i'+1) (own++ [46]):=by
   have e:own++(46::wC (acc++ [⟨p,inh acc p++own⟩]) new++ [59])=(own++ [46])++(wC (acc++ [⟨p,inh acc p++own⟩]) new++ [59]):=by simp
   rw[e]at ht;exact ht.left
  have f:=jy (by simp) ho;have d:=jx ho
  have b:mM s' acc.length i'= .ok (p,i'+1)/\(pk s' i').toNat≠59:=by
   obtain⟨_,hc⟩:=pH hp;obtain⟨rfl,_⟩ | ⟨_,hl,q⟩:=hc
   .have a:pk s' i'=45:=a;rw[a];exact⟨by unfold mM;rw[a];rfl,by decide⟩
   .have m: ¬p<0:=by omega
    rw[if_neg m]at a;simp only[aQ,dl,dk]at hl;have e:(cE p.toNat).toNat=65+p.toNat:=by simp[cE];omega
    refine⟨?_,by rw[a,e];omega⟩;unfold mM;rw[a,e,if_neg (by omega),ot a (by omega) (by omega)];dsimp only;rw[show((p.toNat:Nat):Int)=p from by omega]
  rw[fw,if_neg b.2,b.1];dsimp only;rw[tJ (EI _) own 2 (i'+1) [] c (by simpa using d) f];dsimp only;have g:own++(46::wC (acc++ [⟨p,inh acc p++own⟩]) new++ [59])=(own++ [46])++(wC (acc++ [⟨p,inh acc p++own⟩]) new++ [59]):=by simp
  rw[g]at ht;have:=r s' (i'+1+own.length+1) (by have:=ht.right;simpa[Nat.add_assoc]using this);rw[List.nil_append,this];simp;omega
def wS (g:Sig):L_:=[g.arg,g.ret,46]
theorem Dm {s:ByteArray} {n:Nat}: ∀{k:Nat} {acc:List Sig} {i:Nat} {gs:List Sig} {j:Nat},jU s n k acc i= .ok (gs,j)-> ∃new,gs=acc++new/\new.length<=k/\ ∀(s':ByteArray) (i':Nat),Bt s' i' (new.flatMap wS++ [59])->jU s' n k acc i'= .ok (gs,i'+(new.flatMap wS).length+1):=by
 intro k
 induction k with
 |zero=>
  intro acc i gs j h;unfold jU at h
  split at h
  .cases h
   exact⟨[],by simp,by simp,λs' i' hB=>by have:=hB.head;simp[jU,this]⟩
  .cases h
 |succ k ih=>
  intro acc i gs j h;unfold jU at h
  split at h
  .cases h
   exact⟨[],by simp,by simp,λs' i' hB=>by have:=hB.head;simp[jU,this]⟩
  split at h
  .cases h
  rename_i h59 a j1 ha
  split at h
  .cases h
  rename_i b j2 hb
  split at h
  .cases h
  rename_i m hm
  obtain⟨new,rfl,hn,q⟩:=ih h
  have f: ∀{i c j},tyP s n i= .ok (c,j)->cY n c=true:=λ{i c j} h=>by
   unfold tyP at h
   split at h
   .cases h;assumption
   .cases h
  have ta:=f ha;have tb:=f hb;refine⟨⟨a,b⟩::new,by simp,by simpa using hn,λs' i' hB=> ?_⟩;rw[lu,mP]at hB;have g:=hB.head;have l:=hB.tail.head;have p:=hB.tail.tail.head;dsimp only at g l
  have d:(pk s' i').toNat≠59:=λe=>by
   rw[g]at e;simp only[cY,aQ,Bool.or_eq_true,dl,dk]at ta;omega
  have:=q s' (i'+1+1+1) hB.tail.tail.tail
  have e:i'+((⟨a,b⟩::new:List Sig).flatMap wS).length+1=i'+1+1+1+(new.flatMap wS).length+1:=by
   rw[lu,aV]
   show i'+(3+_)+1=_
   omega
  rw[e];rw[g]at d;simp only[jU,d,if_false,tyP,g,ta,if_true,l,tb,Bc,p,this]
structure xD (x:Ins):Prop where
 dig:aY x.op=true->x.b<10
 nocls: ¬gh x.op.toNat->x.a=0
 nonum:aY x.op=false-> ¬gX x.op.toNat->x.b=0
theorem EJ {s:ByteArray} {cs:List Cls} {ns nl i:Nat} {x:Ins} {j:Nat} (h:my s cs ns nl i= .ok (x,j)):xD x:=by
 unfold my at h
 split at h
 case isFalse=>cases h
 rename_i hl
 have c:(pk s i).toNat≠107/\(pk s i).toNat≠106/\(pk s i).toNat≠102:=by
  simp only[dm,List.contains_iff_mem,List.mem_cons,List.not_mem_nil,or_false]at hl;omega
 split at h
 case h_2=>cases h
 rename_i a b j' ho
 cases h
 refine⟨λhd=> ?_,λhc=> ?_,λhd hc=> ?_⟩
 .dsimp only at hd⊢;rw[if_pos hd];simp only[aY,dl,dk]at hd;omega
 .dsimp only at hc⊢;unfold dL at ho;rw[if_neg (show¬((pk s i).toNat=110\/(pk s i).toNat=120)from by unfold gh at hc;omega),if_neg (show¬((pk s i).toNat=103\/(pk s i).toNat=112)from by unfold gh at hc;omega),if_neg (show¬(pk s i).toNat=99 from by unfold gh at hc;omega),if_neg (show¬(pk s i).toNat=107 from c.1),if_neg (show¬((pk s i).toNat=106\/(pk s i).toNat=102)from by omega)]at ho
  split at ho
  .split at ho
   .cases ho;rfl
   .cases ho
  .cases ho;rfl
 .dsimp only at hd hc⊢;rw[hd];unfold dL at ho;rw[if_neg (show¬((pk s i).toNat=108\/(pk s i).toNat=115)from by unfold gX at hc;omega),if_neg (show¬(pk s i).toNat=107 from c.1),if_neg (show¬((pk s i).toNat=103\/(pk s i).toNat=112)from by unfold gX at hc;omega),if_neg (show¬(pk s i).toNat=99 from by unfold gX at hc;omega),if_neg (show¬((pk s i).toNat=106\/(pk s i).toNat=102)from by omega)]at ho
  split at ho
  .split at ho
   .cases ho;rfl
   .cases ho
  .cases ho;rfl
theorem BT {s:ByteArray} {cs:List Cls} {ns nl:Nat}: ∀{k:Nat} {t:List Ins} {m i:Nat} {r:List Ins} {j:Nat},(∀x∈t,xD x)->eU s cs ns nl k t m i= .ok (r,j)-> ∀x∈r,xD x:=by
 intro k
 induction k with
 |zero=>
  intro t m i r j ht h
  cases m with
  |zero=>cases h;exact ht
  |succ m=>cases h
 |succ k ih=>
  intro t m i r j ht h
  cases m with
  |zero=>cases h;exact ht
  |succ m=>
   simp only[eU]at h
   cases hx:my s cs ns nl i with
   |error l=>rw[hx]at h;cases h
   |ok y=>
    rw[hx]at h;refine ih (λx hx'=> ?_) h;obtain h'|h':=gH hx'
    .exact ht x h'
    .rw[List.mem_singleton]at h';rw[h'];exact EJ hx
theorem yK {s:ByteArray} {cs:List Cls} {ns nl i:Nat} {r:List Ins} {j:Nat} (h:mD s cs ns nl i= .ok (r,j)): ∀x∈r,xD x:=by
 unfold mD at h
 split at h
 .cases h
 .rename_i t l ht
  split at h
  .cases h;exact BT (by simp) ht
  .cases h
section
variable (cc:Bod->List Ins)
def wB (b:Bod):L_:=cE b.cls.toNat::ry b.meth.toNat::(b.zy.drop 2++58::((cc b).flatMap wI++ [46]))
def wM (b:Bod):L_:=b.zy++58::((cc b).flatMap wI++ [46])
structure FL (b b':Bod):Prop where
 cls:b'.cls=b.cls
 meth:b'.meth=b.meth
 loc:b'.zy=b.zy
 len:b'.code.length=(cc b).length
 code:Has b'.code 0 (cc b)
def tK (l l':List Bod):Prop:=l'.length=l.length/\ ∀(q:Nat) (b:Bod),l[q]?=some b-> ∃b',l'[q]?=some b'/\FL cc b b'
structure Dn (cs:List Cls) (ns:Nat) (b:Bod):Prop where
 ins: ∀x∈cc b,WfR cs ns b.zy.length x
 len:0<(cc b).length/\(cc b).length<=100
end
theorem vu (bs:List Bod) (x m:Int):(lA bs x m).isSome=bs.any (λb=>b.cls==x&&b.meth==m):=by
 unfold lA;rw[List.findIdx?_isSome]
theorem tK.cons {cc:Bod->List Ins} {b b':Bod} {l l':List Bod} (h:FL cc b b') (hl:tK cc l l'):tK cc (b::l) (b'::l'):=⟨by simp[hl.1],λq x hx=>by
 cases q with
 |zero=>cases hx;exact⟨b',rfl,h⟩
 |succ q=>exact hl.2 q x hx⟩
theorem Do {s:ByteArray} {cs:List Cls} {gs:List Sig} (h4:cs.length<=4) (h10:gs.length<=10): ∀{k:Nat} {acc:List Bod} {i:Nat} {bs:List Bod} {j:Nat},kG s cs gs k acc i= .ok (bs,j)->
  ∃new,bs=acc++new/\new.length<=k/\(∀b∈new,∀x∈b.code,xD x)/\(∀b∈new,0<=b.cls)/\ ∀(cc:Bod->List Ins) (s':ByteArray) (i':Nat) (accI:List Bod),(∀x m,accI.any (λb=>b.cls==x&&b.meth==m)=acc.any (λb=>b.cls==x&&b.meth==m))->(∀b∈new,Dn cc cs gs.length b)->Bt s' i' (new.flatMap (wB cc)++ [59])->
   ∃newI,kf s' cs gs k accI i'= .ok (accI++newI,i'+(new.flatMap (wB cc)).length+1)/\tK cc new newI:=by
 intro k
 induction k with
 |zero=>
  intro acc i bs j h;unfold kG at h
  split at h
  .cases h
   exact⟨[],by simp,by simp,by simp,by simp,λcc s' i' accI _ _ hB=>⟨[],by have:=hB.head;simp[kf,this],rfl,λq b hb=>by simp at hb⟩⟩
  .cases h
 |succ k ih=>
  intro acc i bs j h;unfold kG at h
  split at h
  .cases h
   exact⟨[],by simp,by simp,by simp,by simp,λcc s' i' accI _ _ hB=>⟨[],by have:=hB.head;simp[kf,this],rfl,λq b hb=>by simp at hb⟩⟩
  split at h
  .cases h
  rename_i _ _ x j1 hx
  split at h
  .cases h
  rename_i _ m j2 hm
  split at h
  .cases h
  rename_i hown
  split at h
  .cases h
  rename_i _ t j3 ht
  split at h
  .cases h
  rename_i _ is j4 hi
  have C:True:=trivial;obtain⟨new,hb,hn,D,hcl,E⟩:=ih h;have B:=kg hx;have g:=fx hm;have A:=jx ht;have z:=jy (by simp) ht;refine⟨⟨x,m,UInt8.ofNat (65+x)::jc gs m::t,is⟩::new,by rw[hb];simp,by simpa using hn,?_,?_,λcc s' i' accI ho hC hB=> ?_⟩
  .intro b hb;obtain rfl|hb:=List.mem_cons.1 hb
   .exact yK hi
   .exact D b hb
  .intro b hb;obtain rfl|hb:=List.mem_cons.1 hb
   .show(0:Int)<=(x:Int);omega
   .exact hcl b hb
  have d:=hC ⟨x,m,UInt8.ofNat (65+x)::jc gs m::t,is⟩ (by simp);rw[lu,mP]at hB;generalize a:(⟨x,m,UInt8.ofNat (65+x)::jc gs m::t,is⟩:Bod)=b0 at*;have ew:wB cc b0=cE x::ry m::(t++58::((cc b0).flatMap wI++ [46])):=by rw[<-a];rfl
  rw[ew]at hB;have c:=hB.left;have g1:=c.head;have g2:=c.tail.head;have l:=c.tail.tail
  have g3a:Bt s' (i'+1+1) (t++ [58]):=by
   rw[show t++58::((cc b0).flatMap wI++ [46])=(t++ [58])++((cc b0).flatMap wI++ [46])from by simp]at l;exact l.left
  have g3b:Bt s' (i'+1+1+t.length+1) ((cc b0).flatMap wI++ [46]):=by
   rw[show t++58::((cc b0).flatMap wI++ [46])=(t++ [58])++((cc b0).flatMap wI++ [46])from by simp]at l;have:=l.right;simpa[Nat.add_assoc]using this
  have ecl:(cE x).toNat=65+x:=by simp[cE];omega
  have p:(pk s' i').toNat≠59:=by rw[g1,ecl];omega
  have r:b0.zy.length=t.length+2:=by rw[<-a];simp
  obtain⟨c',c1,c2,c3⟩:=qH (s:=s') (ns:=gs.length) (nl:=t.length+2) h4 (cc b0) 100 (i'+1+1+t.length+1) [] g3b d.len.2 (λy hy=>r▸d.ins y hy) (by
   intro e;have:=d.len.1;rw[List.nil_append]at e;rw[e]at this;simp at this)
  have n:Bt s' (i'+1+1+t.length+1+((cc b0).flatMap wI).length+1) (new.flatMap (wB cc)++ [59]):=by
   have:=hB.right
   have e:i'+(cE x::ry m::(t++58::((cc b0).flatMap wI++ [46]))).length=i'+1+1+t.length+1+((cc b0).flatMap wI).length+1:=by
    simp only[ie,aV,List.length_nil];omega
   rwa [e]at this
  have v: ∀x' m',(accI++ [(⟨x,m,UInt8.ofNat (65+x)::jc gs m::t,c'⟩:Bod)]).any (λb=>b.cls==x'&&b.meth==m')=(acc++ [b0]).any (λb=>b.cls==x'&&b.meth==m'):=λx' m'=>by
   rw[List.any_append,List.any_append,ho x' m',<-a];simp
  obtain⟨newI,F,G⟩:=E cc s' _ _ v (λb hb=>hC b (by simp[hb])) n;refine⟨⟨x,m,UInt8.ofNat (65+x)::jc gs m::t,c'⟩::newI,?_,G.cons ⟨by rw[<-a],by rw[<-a],by rw[<-a],c2,c3⟩⟩
  have f: ¬(lA accI x m).isSome=true:=by
   rw[vu,ho,<-vu];exact hown
  have e:i'+((b0::new).flatMap (wB cc)).length+1=i'+1+1+t.length+1+((cc b0).flatMap wI).length+1+(new.flatMap (wB cc)).length+1:=by
   rw[lu,aV,ew];simp only[ie,aV,List.length_nil];omega
  rw[e,kf,if_neg p,ot g1 B h4];dsimp only;rw[kS g2 g.1 g.2];dsimp only;rw[if_neg f,tJ (BR _) t 3 (i'+1+1) [] g3a (by simpa using A) z];dsimp only;rw[List.nil_append,c1];dsimp only;rw[List.nil_append,F];simp
def wX (cc:Bod->List Ins) (b:Bod):L_:=if b.cls<0 then 59::wM cc b else wB cc b
def qI (cc:Bod->List Ins) (im:Img):L_:=wC [] im.zq++59::(im.zx.flatMap wS++59::im.zj.flatMap (wX cc))
theorem yL (cc:Bod->List Ins): ∀{bs:List Bod},(∀b∈bs,0<=b.cls)->bs.flatMap (wX cc)=bs.flatMap (wB cc)
 | [],_=>rfl
 |b::bs,h=>by
  rw[lu,lu,yL cc (λb' h'=>h b' (by simp[h'])),wX,if_neg (by have:=h b (by simp);omega)]
theorem ou {s:ByteArray} {im:Img} (h:gJ s= .ok im):(∀b∈im.zj,∀x∈b.code,xD x)/\(∃side mb,im.zj=side++ [mb]/\mb.cls= -1/\ ∀b∈side,0<=b.cls)/\ ∀cc:Bod->List Ins,(∀b∈im.zj,Dn cc im.zq im.zx.length b)->
  ∃im',iv ⟨(qI cc im).toArray⟩= .ok im'/\im'.zq=im.zq/\im'.zx=im.zx/\tK cc im.zj im'.zj:=by
 unfold gJ at h
 split at h
 .cases h
 rename_i cs l1 h1
 split at h
 .cases h
 rename_i gs l2 h2
 split at h
 .cases h
 rename_i bs l3 h3
 split at h
 .cases h
 rename_i t l4 h5
 split at h
 .cases h
 rename_i is l5 h6
 split at h
 .cases h
 cases h
 have hc:=sN h1;have n:=pT h2;have r:=jx h5;have p:=jy (by simp) h5;obtain⟨cN,i,_,rC⟩:=Dl h1 (by simp);obtain⟨gN,j,_,rG⟩:=Dm h2;obtain⟨bN,f,C,m,g,rB⟩:=Do hc.2 (by simp at n;omega) h3;rw[List.nil_append]at i j f;subst i j f;refine⟨λb hb=> ?_,⟨bs,_,rfl,rfl,g⟩,λcc hC=> ?_⟩
 .dsimp only at hb;obtain hb|hb:=gH hb
  .exact m b hb
  .rw[List.mem_singleton]at hb;rw[hb];exact yK h6
 .dsimp only at hC⊢;generalize a:(⟨-1,-1,t,is⟩:Bod)=mb at*
  have eW:qI cc ⟨cs,gs,bs++ [mb]⟩=wC [] cs++59::(gs.flatMap wS++59::(bs.flatMap (wB cc)++59::wM cc mb)):=by
   unfold qI;dsimp only;rw[List.flatMap_append,yL cc g];simp[wX,<-a]
  rw[eW];generalize v:wC [] cs++59::(gs.flatMap wS++59::(bs.flatMap (wB cc)++59::wM cc mb))=W;have l:=(show∀L,W=L->Bt ⟨W.toArray⟩ 0 L from λL e=>by subst e;exact Bt.whole W) _ v.symm;have D:(⟨W.toArray⟩:ByteArray).size=W.length:=by simp[ByteArray.size]
  have b1:Bt ⟨W.toArray⟩ 0 (wC [] cs++ [59]):=by
   rw[show wC [] cs++59::(gs.flatMap wS++59::(bs.flatMap (wB cc)++59::wM cc mb))=(wC [] cs++ [59])++(gs.flatMap wS++59::(bs.flatMap (wB cc)++59::wM cc mb))from by simp]at l;exact l.left
  have b2:=l.right.tail
  have b3:Bt ⟨W.toArray⟩ (0+(wC [] cs).length+1) (gs.flatMap wS++ [59]):=by
   rw[show gs.flatMap wS++59::(bs.flatMap (wB cc)++59::wM cc mb)=(gs.flatMap wS++ [59])++(bs.flatMap (wB cc)++59::wM cc mb)from by simp]at b2;exact b2.left
  have b4:=b2.right.tail
  have z:Bt ⟨W.toArray⟩ (0+(wC [] cs).length+1+(gs.flatMap wS).length+1) (bs.flatMap (wB cc)++ [59]):=by
   rw[show bs.flatMap (wB cc)++59::wM cc mb=(bs.flatMap (wB cc)++ [59])++wM cc mb from by simp]at b4;exact b4.left
  have d:=b4.right.tail;have el:mb.zy=t:=by rw[<-a]
  unfold wM at d;rw[el]at d
  have A:Bt ⟨W.toArray⟩ (0+(wC [] cs).length+1+(gs.flatMap wS).length+1+(bs.flatMap (wB cc)).length+1) (t++ [58]):=by
   rw[show t++58::((cc mb).flatMap wI++ [46])=(t++ [58])++((cc mb).flatMap wI++ [46])from by simp]at d;exact d.left
  have B:=d.right.tail;have c:=hC mb (by simp);obtain⟨newI,E,k⟩:=rB cc ⟨W.toArray⟩ _ [] (λ_ _=>rfl) (λb hb=>hC b (by simp[hb])) z
  obtain⟨c',c1,c2,c3⟩:=qH (ns:=gs.length) (nl:=t.length) hc.2 (cc mb) 100 _ [] B c.len.2 (λy hy=>el▸c.ins y hy) (by
   intro e;have:=c.len.1;rw[List.nil_append]at e;rw[e]at this;simp at this)
  refine⟨⟨cs,gs,newI++ [⟨-1,-1,t,c'⟩]⟩,?_,rfl,rfl,?_⟩
  .unfold iv;rw[rC _ _ b1];dsimp only;rw[rG _ _ b3];dsimp only;rw[E];dsimp only;rw[tJ (BR _) t 3 _ [] A (by simpa using r) p];dsimp only;rw[List.nil_append,c1];dsimp only
   rw[if_neg (by
    rw[D,<-v];unfold wM;rw[el];simp only[ie,aV,List.length_nil];omega)]
   simp
  .refine⟨by simp[k.1],λq b hq=> ?_⟩;obtain hl|hl|hl:=Nat.lt_trichotomy q bs.length
   .rw[eQ hl]at hq;obtain⟨b',g1,g2⟩:=k.2 q b hq;exact⟨b',by rw[eQ (by rw[k.1];exact hl)];exact g1,g2⟩
   .subst hl;rw[gG (bG _)]at hq;simp at hq;subst hq;refine⟨⟨-1,-1,t,c'⟩,by rw[gG (by rw[k.1];exact bG _),k.1];simp,by rw[<-a],by rw[<-a],by rw[<-a],c2,c3⟩
   .have:=(bn hq).1;simp at this;omega
theorem vv {cc:Bod->List Ins}: ∀{l l':List Bod},tK cc l l'-> ∀x m,lA l' x m=lA l x m
 | [],l',h,x,m=>by
  have:l'=[]:=List.length_eq_zero_iff.1 h.1;subst this;rfl
 |b::l,[],h,x,m=>by have:=h.1;simp at this
 |b::l,b'::l',h,x,m=>by
  have c:=h.2 0 b rfl;obtain⟨b2,e,a⟩:=c
  cases e
  have ht:tK cc l l':=⟨by simpa using h.1,λq y hy=>h.2 (q+1) y hy⟩;have ih:=vv ht x m;unfold lA at ih⊢;rw[List.findIdx?_cons,List.findIdx?_cons,a.cls,a.meth,ih]
theorem oS {cc:Bod->List Ins} {l l':List Bod} (h:tK cc l l') (cs:List Cls) (m:Int): ∀(f:Nat) (c:Int),cO cs l' m f c=cO cs l m f c
 |0,c=>rfl
 |f+1,c=>by
  have e:mN l' c m=mN l c m:=by unfold mN;rw[vv h]
  rw[cO,cO,e,oS h cs m f]
theorem Dp {s:ByteArray} {im:Img} (h:gJ s= .ok im) {cc:Bod->List Ins} (hC: ∀b∈im.zj,Dn cc im.zq im.zx.length b) (hlen:(qI cc im).length<=2000)
  (hcall: ∀b∈im.zj,∀x∈cc b,x.op.toNat=99->0<=cO im.zq im.zj x.b 5 x.a) (hj: ∀b∈im.zj,∀x∈cc b,iW x.op.toNat->x.b<(cc b).length):
  ∃im',eZ ⟨(qI cc im).toArray⟩= .ok im'/\im'.zq=im.zq/\im'.zx=im.zx/\tK cc im.zj im'.zj:=by
 obtain⟨im',t,n,v,i⟩:=(ou h).2.2 cc hC;refine⟨im',?_,n,v,i⟩;unfold eZ;rw[if_neg (by simp[ByteArray.size];omega),t];dsimp only
 have hn:im'.zj.findSome? (λb=>unl im'.zq im'.zj b.code)=none:=by
  rw[List.findSome?_eq_none_iff];intro b' k;obtain⟨q,p⟩:=List.getElem?_of_mem k;have g:q<im.zj.length:=by rw[<-i.1];exact(bn p).1
  obtain⟨b2,e,l⟩:=i.2 q _ (aM g);rw[p]at e
  cases e
  have hm:=cS g;unfold unl;rw[Option.map_eq_none_iff,List.find?_eq_none];intro x hx;obtain⟨j,d⟩:=List.getElem?_of_mem hx;have c:j<(cc im.zj[q]).length:=by rw[<-l.len];exact(bn d).1
  obtain⟨y,g1,g2,r,m⟩:=l.code j _ (aM c);rw[Nat.zero_add,d]at g1
  cases g1
  have f:=cS c;have c1:=hcall _ hm _ f;have c2:=hj _ hm _ f;rw[<-g2,<-r,<-m]at c1;rw[<-g2,<-m,<-l.len]at c2;unfold lB;rw[n,oS i];simp only[Bool.or_eq_true,dl,dk];rintro(⟨k1,k2⟩ | ⟨k1,k2⟩)
  .have:=c1 k1;omega
  .have:=c2 k1;omega
 rw[hn]
end
end Go.Proofs.YtpfkkmacakjmbaaGreatDoor
