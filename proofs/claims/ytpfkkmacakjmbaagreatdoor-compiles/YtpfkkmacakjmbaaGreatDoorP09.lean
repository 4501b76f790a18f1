import Derived.Test.YtpfkkmacakjmbaaGreatDoorP07
set_option maxRecDepth 100000
set_option maxHeartbeats 6400000
set_option linter.all false
namespace Go.Proofs.YtpfkkmacakjmbaaGreatDoor
open Proofs.Tryz
section
open Go Go.RowKit Sp
attribute [local go_sem ↓] eY eZ
theorem fV {w:World} {base e size n:Nat} {v:Value} {xs:List Value} (h:w.ownsRow base e size v n xs) {g e':Nat} {cur:Array Value} (hh:w.heap[g]?=some (.cells cur e')) (hne:e'≠e): ¬v.ownBlock=some g:=by
 intro a;obtain⟨rfl,_⟩ | ⟨g',cap,c,rfl,d,b,_⟩:=h.2
 .cases a
 .simp[Value.ownBlock]at a;subst a;rw[b]at hh;injection hh with hh;injection hh with h1 h2;exact hne h2.symm
theorem eI {w:World} {base e size g n cap:Nat} {xs:List Value} (h:w.ownsRow base e size (.slice (some ⟨g,0,none⟩) n cap) n xs) (k:Nat) (v:Value):(w.setCell ⟨g,k,none⟩ v).ownsRow base e size (.slice (some ⟨g,0,none⟩) n cap) n (xs.set k v):=by
 obtain⟨b,_⟩ | ⟨g',cap',cur,b,i,j,l,m,p,q⟩:=h.2
 .cases b
 .have d:cap=cap':=congrArg (λv=>match v with|Value.slice _ _ c=>c|_=>0) b;have f:g=g':=congrArg (λv=>match v with|Value.slice (some a) _ _=>a.block|_=>0) b;subst d f;refine⟨by rw[List.length_set];exact h.1,Or.inr ⟨g,cap,cur.setIfInBounds k v,rfl,i,cQ w g k _ _ _ j,l,m,by simpa using p,?_⟩⟩;rw[Array.toList_setIfInBounds,List.take_set,q]
theorem eA {w:World} {base e size g n cap:Nat} {xs:List Value} (h:w.ownsRow base e size (.slice (some ⟨g,0,none⟩) n cap) n xs) (j:Nat):w.frozen? ⟨g,j,none⟩=false:=by
 obtain⟨b,_⟩ | ⟨g',cap',cur,b,f,d,_⟩:=h.2
 .cases b
 .have c:g=g':=congrArg (λv=>match v with|Value.slice (some a) _ _=>a.block|_=>0) b;subst c;exact bG w g j _ _ d
theorem kO (L:L_) (c:Nat) (w:World) (hl:L.length<=100):
  Calls prog 186 #[.int .u8 c,.string ⟨L.toArray⟩] w λen w'=>en= .returned (.bool ((L.map (λx=>x.toNat)).contains c))/\w'=w:=by
 have e:(L.any λx=>x.toNat==c)=(L.map (λx=>x.toNat)).contains c:=by
  rw[List.contains_eq_any_beq,List.any_map]
  congr 1
  funext x
  exact Bool.beq_comm
 rw[<-e];exact sq ⟨L.toArray⟩ c w (by show L.toArray.size<=2000;simp;omega)
theorem oR (c:UInt8) (w:World):
  Calls prog 117 #[.int .u8 c.toNat] w λen w'=>en= .returned (.int .i64 (az c))/\w'=w:=by
 by_cases h3:c.toNat=105
 .have d:((c.toNat:Int)==105)=true:=by rw[aX];omega
  rw[show az c=3 from by unfold az;rw[if_pos h3]];clear h3
  go_in
  go_wp2_with fail;go_ret;exact⟨rfl,rfl⟩
 .have d:=tf c.toNat 105 (by omega);have a:=hid (kO [43,45,42,47,60,61,101,112,99,44,111] c.toNat w (by simp));have b:=hid (kO [115,103,120,119] c.toNat w (by simp));rw[show([43,45,42,47,60,61,101,112,99,44,111]:L_).map (λx=>x.toNat)=[43,45,42,47,60,61,101,112,99,44,111]from rfl]at a;rw[show([115,103,120,119]:L_).map (λx=>x.toNat)=[115,103,120,119]from rfl]at b;have hc:az c=if [43,45,42,47,60,61,101,112,99,44,111].contains c.toNat=true then 2 else if [115,103,120,119].contains c.toNat=true then 1 else 0:=by unfold az;rw[if_neg h3]
  rw[hc];clear hc h3;revert a b;generalize [43,45,42,47,60,61,101,112,99,44,111].contains c.toNat=t2;generalize [115,103,120,119].contains c.toNat=t1;intro a b
  cases t2 with
  |true=>
   go_in
   go_wp2_with fail;refine a.out.mono ?_;rintro en w1 ⟨rfl,rfl⟩;go_wp2_with fail;go_ret;exact⟨rfl,rfl⟩
  |false=>
   cases t1 with
   |true=>
    go_in
    go_wp2_with fail;refine a.out.mono ?_;rintro en w1 ⟨rfl,rfl⟩;go_wp2_with fail;refine b.out.mono ?_;rintro en w1 ⟨rfl,rfl⟩;go_wp2_with fail;go_ret;exact⟨rfl,rfl⟩
   |false=>
    go_in
    go_wp2_with fail;refine a.out.mono ?_;rintro en w1 ⟨rfl,rfl⟩;go_wp2_with fail;refine b.out.mono ?_;rintro en w1 ⟨rfl,rfl⟩;go_wp2_with fail;go_ret;exact⟨rfl,rfl⟩
theorem Bp:(prog.info? 147).map (λi=>(i.zero,i.size,i.bytes))=some (some (.agg #[.int .u8 0,.int .i64 0,.int .i64 0,.int .i64 0,.int .i64 0]),5,40):=by kernel_rfl
def ndC (x:Ins×Nat):List Value:=[.int .u8 x.1.op.toNat,.int .i64 x.1.a,.int .i64 x.1.b,.int .i64 x.1.pos,.int .i64 x.2]
def cu (l:List (Ins×Nat)):List Value:=l.flatMap ndC
theorem tF (l:List (Ins×Nat)) (x:Ins×Nat):cu (l++ [x])=cu l++ndC x:=by simp[cu]
theorem cL {l:List (Ins×Nat)} {j k:Nat} {x:Ins×Nat} (h:l[j]?=some x) (hk:k<5):(cu l)[j*5+k]?=(ndC x)[k]?:=fN ndC 5 (λ_=>rfl) l j k x h hk
theorem vn: ∀{l:List (Ins×Nat)} {j:Nat} {x:Ins×Nat} {e:Nat},l[j]?=some x->(cu l).set (j*5+4) (.int .i64 e)=cu (l.set j (x.1,e)):=by
 intro l
 induction l with
 |nil=>intro j x e h;simp at h
 |cons y l ih=>
  intro j x e h
  cases j with
  |zero=>
   simp at h;subst h;simp[cu,ndC]
  |succ j=>
   have:=ih (j:=j) (e:=e) (by simpa using h);simp only[cu,lr,List.set_cons_succ]at this⊢;rw[<-this,show(j+1)*5+4=j*5+4+5 from by omega];simp[ndC,List.set_append]
def TrB (w:World) (base:Nat) (v:Value) (l:List (Ins×Nat)):Prop:=w.ownsRow base 147 5 v l.length (cu l)
def du (o:Nat):List Ins->List (Ins×Nat)
 | []=> []
 |x::u=>(x,o+1+sk (az x.op) u)::du (o+1) u
theorem oS: ∀{u:List Ins} {o:Nat},(du o u).map (·.1)=u:=by
 intro u
 induction u with
 |nil=>intro o;rfl
 |cons x u ih=>intro o;simp[du,ih]
theorem oT {u:List Ins} {o:Nat}:(du o u).length=u.length:=by
 have:=congrArg List.length (oS (u:=u) (o:=o));simpa using this
theorem qv: ∀{u:List Ins} {a m:Nat},full (a+m) u-> ∃p q,u=p++q/\full a p/\full m q:=by
 intro u
 induction u with
 |nil=>
  intro a m h
  cases a with
  |zero=>exact⟨[],[],rfl,trivial,by simpa using h⟩
  |succ a=>rw[show a+1+m=(a+m)+1 from by omega]at h;cases h
 |cons x u ih=>
  intro a m h
  cases a with
  |zero=>exact⟨[],x::u,rfl,trivial,by simpa using h⟩
  |succ a=>
   rw[show a+1+m=(a+m)+1 from by omega]at h;have h':full ((a+az x.op)+m) u:=by rw[show a+az x.op+m=a+m+az x.op from by omega];exact h
   obtain⟨p,q,b,c,d⟩:=ih h';exact⟨x::p,q,by rw[b];rfl,c,d⟩
theorem tG: ∀{u:List Ins} {m o:Nat} {v:List Ins},full m u->du o (u++v)=du o u++du (o+u.length) v:=by
 intro u
 induction u with
 |nil=>intro m o v _;simp[du]
 |cons x u ih=>
  intro m o v h
  cases m with
  |zero=>cases h
  |succ m=>
   have h':full (az x.op+m) u:=by rw[Nat.add_comm];exact h
   obtain⟨p,q,c,a,d⟩:=qv h';have b:sk (az x.op) (u++v)=sk (az x.op) u:=by rw[c,ky,mf a,mf a]
   simp only[List.cons_append,du,b,iU];rw[ih h,show o+(u.length+1)=o+1+u.length from by omega]
def Eh (s:ByteArray) (cs:List Cls) (ns nl f i:Nat) (src:Bool) (bi:Nat) (vc vt:Value) (l:List (Ins×Nat)) (b tb:Nat) (w w':World):Prop:=
 ∃j bad ao n cap cells,RdB w' b s j bad src bi vc (.slice ao n cap)/\w'.ownsRow tb 147 5 (.slice ao n cap) n cells/\(∀g,(Value.slice ao n cap).ownBlock=some g->vt.ownBlock=some g\/w.heap.size<=g)/\l.length<=n/\n<=24/\
  ((bad=false/\ ∃u,cK s cs ns nl f (l.map (·.1)) 1 i= .ok (l.map (·.1)++u,j)/\full 1 u/\n=l.length+u.length/\cells=cu (l++du l.length u))\/(bad=true/\cK s cs ns nl f (l.map (·.1)) 1 i= .error j))
def tH (s:ByteArray) (cs:List Cls) (ns nl F i:Nat) (l:List (Ins×Nat)) (R:Except Nat (List Ins×Nat)) (ar jj n:Nat) (cells:List Value) (i':Nat) (bad:Bool):Prop:=
 (bad=false/\ ∃X u,X.op=pk s i/\jj<=ar/\full jj u/\n=l.length+1+u.length/\cells=cu (l++ [(X,0)]++du (l.length+1) u)/\cK s cs ns nl (F-u.length) (l.map (·.1)++ [X]++u) (ar-jj) i'=R)\/(bad=true/\R= .error i')
section
variable {s:ByteArray} {cs:List Cls} {ns nl F i:Nat} {l:List (Ins×Nat)} {R:Except Nat (List Ins×Nat)} {ar:Nat}
theorem tH.next {jj n:Nat} {cells:List Value} {i':Nat} (h:tH s cs ns nl F i l R ar jj n cells i' false) (hjj:jj<ar) (hlF:l.length+(F+1)=24):
  ∃l',n=l'.length/\cells=cu l'/\ ∀e cells2 j bad,((bad=false/\ ∃u,cK s cs ns nl (24-n) (l'.map (·.1)) 1 i'= .ok (l'.map (·.1)++u,j)/\full 1 u/\e=l'.length+u.length/\cells2=cu (l'++du l'.length u))\/(bad=true/\cK s cs ns nl (24-n) (l'.map (·.1)) 1 i'= .error j))->tH s cs ns nl F i l R ar (jj+1) e cells2 j bad:=by
 obtain⟨_,X,u,p,q,f,hn,hc,a⟩ | ⟨h,_⟩:=h
 .refine⟨l++ [(X,0)]++du (l.length+1) u,by simp[oT];omega,hc,?_⟩;intro e cells2 j bad d;have hm:(l++ [(X,0)]++du (l.length+1) u).map (λx:Ins×Nat=>x.1)=l.map (·.1)++ [X]++u:=by rw[List.map_append,List.map_append,oS];rfl
  have b:(l++ [(X,0)]++du (l.length+1) u).length=l.length+1+u.length:=by simp[oT];omega
  rw[hm]at d;rw[show 24-n=F-u.length from by omega]at d;rw[show ar-jj=1+(ar-(jj+1))from by omega,wO]at a;obtain⟨rfl,v,c,g,k,m⟩ | ⟨rfl,c⟩:=d
  .rw[c]at a;simp only at a;have r:=(qh c).2.1;refine Or.inl ⟨rfl,X,u++v,p,by omega,A0 f g,by rw[k,b];simp;omega,?_,?_⟩
   .rw[m,b,tG f,<-ky]
   .rw[<-a];simp only[aN,ky]
    congr 1
    simp;omega
  .rw[c]at a;exact Or.inr ⟨rfl,a.symm⟩
 .cases h
theorem tH.fin {n:Nat} {cells:List Value} {i' jj:Nat} {bad:Bool} (h:tH s cs ns nl F i l R ar jj n cells i' bad) (har:ar=az (pk s i)) (hx:bad=true\/ ¬jj<ar) (hR:cK s cs ns nl (F+1) (l.map (·.1)) 1 i=R):
  (bad=false/\ ∃u,cK s cs ns nl (F+1) (l.map (·.1)) 1 i= .ok (l.map (·.1)++u,i')/\full 1 u/\n=l.length+u.length/\cells.set (l.length*5+4) (.int .i64 n)=cu (l++du l.length u))\/(bad=true/\cK s cs ns nl (F+1) (l.map (·.1)) 1 i= .error i'):=by
 rw[hR];obtain⟨rfl,X,u,c,j,d,hn,hc,e⟩ | ⟨rfl,h⟩:=h
 .have b:jj=ar:=by
   obtain h|h:=hx
   .cases h
   .omega
  subst b;rw[Nat.sub_self,ka]at e
  have a:full 1 (X::u):=by
   show full (0+az X.op) u
   rw[Nat.zero_add,c,<-har];exact d
  refine Or.inl ⟨rfl,X::u,by rw[<-e];simp,a,by simp;omega,?_⟩;have g:(l++ [(X,0)]++du (l.length+1) u)[l.length]?=some (X,0):=by simp
  rw[hc,vn g]
  congr 1
  have f:sk (az X.op) u=u.length:=by
   have:=mf (v:=[]) (show full (az X.op) u by rw[c,<-har];exact d);simpa using this
  simp[du,f,hn]
 .exact Or.inr ⟨rfl,h⟩
end
section
variable (b:Nat) (s:ByteArray) (src:Bool) (bi:Nat) (vc:Value)
/--No node can stand there. -/
theorem vp (tb nl f i:Nat) (cs:List Cls) (ns:Nat) (ao:Option Addr) (cap:Nat) (l:List (Ins×Nat)) (w:World) (hs:s.size<=2000) (hR:RdB w b s i false src bi vc (.slice ao l.length cap)) (hT:TrB w tb (.slice ao l.length cap) l) (hl24:l.length<=24) (hx:cr.contains (pk s i).toNat=false\/24<=l.length) (he:cK s cs ns nl f (l.map (·.1)) 1 i= .error i):
  Calls prog 133 #[.pointer (some ⟨b,0,none⟩),.int .i64 nl] w λen w'=>en= .returned (.tuple #[])/\But (λk=>k=b\/(Value.slice ao l.length cap).ownBlock=some k) w w'/\Eh s cs ns nl f i src bi vc (.slice ao l.length cap) l b tb w w':=by
 have c2:=hR.c2;have c6:=hR.c6;have j:=hR.fz 2;have blt:=hR.lt;have d:=hid (λ(n:Nat)=>show Eh s cs ns nl f i src bi vc (.slice ao l.length cap) l b tb w ((w.drewN n).setCell ⟨b,2,none⟩ (.bool true))from⟨i,true,ao,l.length,cap,cu l,(hR.drewN n).set2 true,ag hT ((aH (· =b) _ _).trans (aj _ _ _ _)) (λg hg h=>fV hT hR (by decide) (h▸hg)),λg hg=>Or.inl hg,bP _,hl24,Or.inr ⟨rfl,he⟩⟩);have a:=hid (kO [48,49,50,51,52,53,54,55,56,57,114,119,108,115,43,45,42,47,60,61,101,110,122,103,112,99,120,44,105,111] (pk s i).toNat);rw[show([48,49,50,51,52,53,54,55,56,57,114,119,108,115,43,45,42,47,60,61,101,110,122,103,112,99,120,44,105,111]:L_).map (λx=>x.toNat)=cr from rfl]at a
 clear he
 cases hk:cr.contains (pk s i).toNat with
 |false=>
  rw[hk]at a;clear hk hx
  go_in
  go_wp2_with fail;refine(bO b s i false src bi vc _ _ hs hR).mono ?_;rintro en w1 ⟨rfl,c,rfl⟩;go_wp2_with fail;refine(a.out _ (by simp)).mono ?_;rintro en e ⟨rfl,rfl⟩;go_wp2_with fail;exact fY results133 rfl ⟨rfl,((aH _ _ _).trans (aj _ _ _ _)).mono (λk _ h=>Or.inl h),d.out c⟩
 |true=>
  rw[hk]at a hx
  have hl:(24:Int)<=(l.length:Int):=by
   obtain h|h:=hx
   .cases h
   .omega
  clear hk hx
  go_in
  go_wp2_with fail;refine(bO b s i false src bi vc _ _ hs hR).mono ?_;rintro en w1 ⟨rfl,c,rfl⟩;go_wp2_with fail;refine(a.out _ (by simp)).mono ?_;rintro en e ⟨rfl,rfl⟩;go_wp2_with fail;exact fY results133 rfl ⟨rfl,((aH _ _ _).trans (aj _ _ _ _)).mono (λk _ h=>Or.inl h),d.out c⟩
theorem Bq (base top tb:Nat) (cs:List Cls) (gs:List Sig) (v2:Value) (nl:Nat) (hnl:nl<=5) (hs:s.size<=2000) (hbi:b≠bi) (hbb:b<base) (htb:top<=tb) (hbt:base<=top) (hbib:bi<base): ∀(F f i:Nat) (vt:Value) (l:List (Ins×Nat)) (w:World),f<=F->l.length+f=24->RdB w b s i false src bi vc vt->TrB w tb vt l->tb<=w.heap.size->dh w base top bi cs gs v2->
  Calls prog 133 #[.pointer (some ⟨b,0,none⟩),.int .i64 nl] w λen w'=>en= .returned (.tuple #[])/\But (λk=>k=b\/vt.ownBlock=some k) w w'/\Eh s cs gs.length nl f i src bi vc vt l b tb w w':=by
 intro F
 induction F with
 |zero=>
  intro f i vt l w j3 h5 hR hT k5 hH;obtain⟨ao,cap,rfl⟩:=ay hT;obtain rfl:f=0:=by omega
  exact vp b s src bi vc tb nl 0 i cs gs.length ao cap l w hs hR hT (by omega) (Or.inr (by omega)) rfl
 |succ F ih=>
  intro f i vt l w j3 h5 hR hT k5 hH
  by_cases hle:f<=F
  .exact ih f i vt l w hle h5 hR hT k5 hH
  obtain rfl:f=F+1:=by omega
  obtain⟨ao,cap,rfl⟩:=ay hT
  cases hk:cr.contains (pk s i).toNat with
  |false=>exact vp b s src bi vc tb nl (F+1) i cs gs.length ao cap l w hs hR hT (by omega) (Or.inl hk) (by simp only[cK,lx,hk];rfl)
  |true=>
   have IH:=hid ih;clear ih hle j3;obtain⟨i0,i2,i3,i4,i5⟩:=info_parts Bp;have c2:=hR.c2;have c6:=hR.c6;have c1:=hR.c1;have f1:=hR.fz 1;have blt:=hR.lt
   have h0:0<(pk s i).toNat:=by
    obtain h|h:=Nat.eq_zero_or_pos (pk s i).toNat
    .rw[h]at hk;exact absurd hk (by decide)
    .exact h
   have hi:i<s.size:=iw h0;have hl: ¬(24:Int)<=(l.length:Int):=by omega
   have m1:=(pk s i).toNat_lt;have HA:=hid (kO [48,49,50,51,52,53,54,55,56,57,114,119,108,115,43,45,42,47,60,61,101,110,122,103,112,99,120,44,105,111] (pk s i).toNat);rw[show([48,49,50,51,52,53,54,55,56,57,114,119,108,115,43,45,42,47,60,61,101,110,122,103,112,99,120,44,105,111]:L_).map (λx=>x.toNat)=cr from rfl,hk]at HA;have HK:=hid hk;have j0:=hid hR;clear hk h0
   go_in
   go_wp2_with fail;refine(bO b s i false src bi vc _ _ hs hR).mono ?_;rintro en w1 ⟨rfl,n1,rfl⟩;go_wp2_with fail;refine(HA.out _ (by simp)).mono ?_;rintro en w2 ⟨rfl,rfl⟩;clear HA;go_wp2_with fail;refine(F7 b s (i+1) src bi vc _ _ base top cs gs v2 (pk s i).toNat nl (by omega) hnl hs hbi hbb (hR.drewN n1).inc ((hH.but (aH (λ_=>False) _ _) (λh=>h) (λk h=>h.elim)).but (aj _ _ _ _) (λh=>hbi h.symm) (λk h=>by omega))).mono ?_;rintro en w3 ⟨j1,x,y,j,b5,rfl,f0,c9⟩;have i6:=hid c9;clear c9;have a3:But (· =b) w w3:=((aH _ _ _).trans (aj _ _ _ _)).trans j1;have h8:w3.ownsRow tb 147 5 (.slice ao l.length cap) l.length (cu l):=ag hT a3 (λg hg h=>fV hT j0.out (by decide) (h▸hg))
   have m0:dh w3 base top bi cs gs v2:=hH.but a3 (λh=>hbi h.symm) (λk h=>by omega);have m2:=a3.size;have e6:=f0.c6;have q6:=f0.fz 6;have ab:(Value.slice ao l.length cap).ownBlock≠some b:=λh=>fV hT j0.out (by decide) h
   have a2:=f0.lt;have l5:=aw h8
   obtain⟨d,g5,HD⟩: ∃d:Int,((True/\(48:Int)<=((pk s i).toNat:Int)/\((pk s i).toNat:Int)<=57/\IntKind.u8.wrap (((pk s i).toNat:Int)-48)=d/\wrap64 d=d)\/(d=y/\ ¬(48:Int)<=((pk s i).toNat:Int))\/(d=y/\(48:Int)<=((pk s i).toNat:Int)/\ ¬((pk s i).toNat:Int)<=57))/\Hid (d=if aQ (pk s i)=true then(((pk s i).toNat-48:Nat):Int)else y):=by
    by_cases h1:48<=(pk s i).toNat
    .by_cases h2:(pk s i).toNat<=57
     .refine⟨(((pk s i).toNat-48:Nat):Int),Or.inl ⟨trivial,by omega,by omega,by rw[IntWalk.u8_in _ (by omega)];omega,IntWalk.wrap64_in _ ⟨by omega,by omega⟩⟩,hid ?_⟩;rw[if_pos (by simp[aQ,h1,h2])]
     .refine⟨y,Or.inr (Or.inr ⟨rfl,by omega,by omega⟩),hid ?_⟩;rw[if_neg (by simp[aQ,h2])]
    .refine⟨y,Or.inr (Or.inl ⟨rfl,by omega⟩),hid ?_⟩;rw[if_neg (by simp[aQ,h1])]
   have e5:=hid (λw=>oR (pk s i) w);obtain⟨ar,h9⟩: ∃ar,az (pk s i)=ar:=⟨_,rfl⟩;have l4:ar<=3:=by rw[<-h9];unfold az;split;omega;split;omega;split<;>omega
   rw[h9]at e5;have e4:=hid h9;obtain⟨R,j2⟩: ∃R,cK s cs gs.length nl (F+1) (l.map (·.1)) 1 i=R:=⟨_,rfl⟩;have e7:=hid j2
   have k4:tH s cs gs.length nl F i l R ar 0 (l.length+1) (cu l++ [.int .u8 (pk s i).toNat,.int .i64 x,.int .i64 d,.int .i64 i,.int .i64 0]) j b5:=by
    have e8:=e7.out;simp only[cK,lx,HK.out,if_true]at e8;obtain⟨rfl,a,q,rfl,l6,ho⟩ | ⟨rfl,ho⟩:=i6.out
    .rw[ho]at e8;simp only at e8;refine Or.inl ⟨rfl,⟨pk s i,a,if aQ (pk s i)=true then(pk s i).toNat-48 else q,i⟩,[],rfl,by omega,trivial,by simp,?_,?_⟩
     .simp only[du,List.append_nil,tF,ndC];have hd:=HD.out;rw[l6]at hd
      split at hd<;>rename_i hdg
      .simp[hdg,hd]
      .simp[hdg,hd]
     .simp only[List.length_nil,Nat.sub_zero,List.append_nil];rw[<-e4.out];simpa using e8
    .rw[ho]at e8;exact Or.inr ⟨rfl,e8.symm⟩
   have i1:=hid k4;clear c1 c2 c6 f1 j1 k4 h9 j2 i6 HK HD;obtain⟨g7,g1,g2,g3,g4⟩ | ⟨g7,g1⟩ | ⟨g7,g1,g2⟩:=g5
   .try subst g7
    go_wp2_with (at_builtin;refine wpList_append_lies _ rfl _ _ _ rfl tb 147 i0 _ 5 40 Tryz.underlying50 i2 i3 i4 i5 rfl (by omega) _ l.length (cu l) rfl (h8.alloc _) ⟨w3.heap.size,0,none⟩ 1 1 [.int .u8 (pk s i).toNat,.int .i64 x,.int .i64 d,.int .i64 i,.int .i64 0] rfl rfl (iu (cs:=#[.int .u8 (pk s i).toNat,.int .i64 x,.int .i64 d,.int .i64 i,.int .i64 0]) (t:=147) (fr:=(0,0)) (aO w3 _)) (by simp[Value.oneCell']) (by omega) (by unfold maxLen;omega) (by omega) (by simp;omega) (w3.heap.size+1) (by simp) ?_);intro gg m w4 r G c8 h6;have B:But (λk=>(Value.slice ao l.length cap).ownBlock=some k) w3 w4:=(aa _ _ _).trans (a8 G)
    have y0:=(B.cell (p:=⟨b,6,none⟩) a2 ab).trans e6;have y1:=(B.frozen (p:=⟨b,6,none⟩) a2 ab).trans q6;have b9:=f0.but B ab;have j4:=aw r gg rfl;have H:But (λk=>k=b\/(Value.slice ao l.length cap).ownBlock=some k) w (w4.setCell ⟨b,6,none⟩ (.slice (some ⟨gg,0,none⟩) (l.length+1) m)):=((a3.mono (λk _ h=>Or.inl h)).trans (B.mono (λk _ h=>Or.inr h))).trans ((aj _ _ _ _).mono (λk _ h=>Or.inl h));have X:=b9.set6 (.slice (some ⟨gg,0,none⟩) (l.length+1) m);have S:=ag r (aj w4 b 6 (.slice (some ⟨gg,0,none⟩) (l.length+1) m)) (λg hg h=>by have:=aw r g hg;omega)
    have a6: ∀g,(Value.slice (some ⟨gg,0,none⟩) (l.length+1) m).ownBlock=some g->(Value.slice ao l.length cap).ownBlock=some g\/w.heap.size<=g:=by
     intro g hg;simp[Value.ownBlock]at hg;subst hg;obtain h|h:=c8
     .exact Or.inl h
     .exact Or.inr (by omega)
    have k7:=B.size;clear e6 q6 G c8;go_wp2_with fail;revert H X S;generalize (w4.setCell ⟨b,6,none⟩ (.slice (some ⟨gg,0,none⟩) (l.length+1) m))=W5;intro H X S;have l0:=H.size;refine(e5.out W5).mono ?_;rintro en w6 ⟨rfl,e3⟩;rw[e3];clear e3 w6 e5 y0 y1 B b9 r;go_wp2_with fail
    go_loopg [11] ar (λmm js wr=> ∃(jj i':Nat) (bad':Bool) (ao':Option Addr) (n cap':Nat) (cells:List Value),js= .int .i64 jj/\jj<=ar/\jj+mm<=ar/\ar<=jj+mm/\RdB wr b s i' bad' src bi vc (.slice ao' n cap')/\wr.ownsRow tb 147 5 (.slice ao' n cap') n cells/\(∀g,(Value.slice ao' n cap').ownBlock=some g->(Value.slice ao l.length cap).ownBlock=some g\/w.heap.size<=g)/\l.length+1<=n/\n<=24/\But (λk=>k=b\/(Value.slice ao l.length cap).ownBlock=some k) w wr/\Hid (tH s cs gs.length nl F i l R ar jj n cells i' bad'))
    case atStart=>exact⟨0,j,b5,_,l.length+1,m,_,rfl,by omega,by omega,by omega,X,S,a6,by omega,by omega,H,i1⟩
    case round=>
     obtain⟨jj,i',bad',ao',n,cap',cells,rfl,j5,h3,k0,z,e,C,k3,e0,D,HI⟩:=hrel;clear h3;have k2:=z.c2;have k6:=z.c6;have bltr:=z.lt;have l3:=D.size
     by_cases hlt:jj<ar
     .have h4:(jj:Int)<(ar:Int):=by omega
      cases bad' with
      |false=>
       obtain⟨l',M,L,e1⟩:=HI.out.next hlt h5;have b6:=hid e1
       have b8:dh wr base top bi cs gs v2:=hH.but D (λh=>by
        obtain h|h:=h
        .exact hbi h.symm
        .have:=aw hT _ h;omega) (λk h=>by
        obtain h|h:=h
        .omega
        .have:=aw hT _ h;omega)
       have HC:=hid (IH.out (24-n) i' (.slice ao' n cap') l' wr (by omega) (by omega) z (by unfold TrB;rw[<-M,<-L];exact e) (by omega) b8);have f3:=hid M;clear e1 b8 HI L;go_wp2_with fail;refine HC.out.mono ?_;rintro en w7 ⟨rfl,f5,f4⟩;obtain⟨j7,I,b7,n7,J,cells7,g0,f6,b0,k1,h7,e2⟩:=f4;have f2:=hid (b6.out n7 cells7 j7 I e2)
       have a4:But (λk=>k=b\/(Value.slice ao l.length cap).ownBlock=some k) w w7:=D.next f5 (λk hk h=>by
        obtain h|h:=h
        .exact Or.inl h
        .obtain h|h:=C k h
         .exact Or.inr h
         .omega)
       have a0: ∀g,(Value.slice b7 n7 J).ownBlock=some g->(Value.slice ao l.length cap).ownBlock=some g\/w.heap.size<=g:=λg hg=>by
        obtain h|h:=b0 g hg
        .exact C g h
        .exact Or.inr (by omega)
       have b4:l.length+1<=n7:=by have:=f3.out;omega
       clear e2 b6 HC;go_wp2_with fail
       go_roundg (ar-(jj+1))
       case measure=>omega
       case rel=>exact⟨jj+1,j7,I,b7,n7,J,cells7,by simp,by omega,by omega,by omega,g0,f6,a0,b4,h7,a4,f2⟩
      |true=>
       have O:=hid (HI.out.fin e4.out.symm (Or.inl rfl) e7.out);clear HI;obtain⟨gq,Z,A,b1,E⟩:=aE e (by omega);have g6:cells.length=n*5:=e.1;have b3:l.length*5+4<cells.length:=by omega
       have v9:=E _ _ (aG b3);subst Z;have P:=eA e (l.length*5+4);clear E;have b2:(l.length:Int)<(n:Int):=by omega
       have a1: ¬(l.length:Int)<0:=by omega
       have a5:gq≠b:=λh=>fV e z (by decide) (by rw[<-h];rfl)
       go_wp2_with fail;have c:B_ wr wr.drew:=aA _ _;refine aD (B_ wr) 10 ?_
       iterate 10 (refine aF (v:=?_) rfl c ?_ ?_;rotate_left;(focus (intro wS h;have q0:=(h.kc k6 bltr);clear h;go_simp;try rfl));dsimp only[Act.put];try simp only[bW])
       refine au rfl ?_;intro KS hKS;go_simp;refine hKS.out _ _ nofun ?_;clear hKS KS;refine au rfl ?_;intro KS hKS;go_simp;refine hKS.out _ _ nofun ?_;clear hKS KS;have v9d:=c.kc v9 A;have fz9d:=c.kz P A;refine au rfl ?_;intro KS hKS;go_simp;refine hKS.out _ _ nofun ?_;clear hKS KS;refine aI rfl ?_;have T:=eI (ag e c (λ_ _ h=>h)) (l.length*5+4) (.int .i64 n)
       have Q:But (λk=>k=b\/(Value.slice ao l.length cap).ownBlock=some k) w (wr.drew.setCell ⟨gq,l.length*5+4,none⟩ (.int .i64 n)):=(D.next c (λ_ _ h=>h.elim)).next (aj _ _ _ _) (λk hk h=>by
        obtain h'|h':=C gq rfl
        .exact Or.inr (h▸h')
        .omega)
       have Y:=(z.but c (λh=>h)).but (aj wr.drew gq (l.length*5+4) (.int .i64 n)) (λh=>a5 h.symm);go_wp2_with fail;go_end0;exact⟨rfl,Q,⟨i',_,_,n,_,_,Y,T,C,by omega,e0,Or.inr ⟨rfl,by rcases O.out with⟨h,_⟩ |h;(cases h);exact h.2⟩⟩⟩
     .have h4: ¬(jj:Int)<(ar:Int):=by omega
      have O:=hid (HI.out.fin e4.out.symm (Or.inr hlt) e7.out);clear HI;obtain⟨gq,Z,A,b1,E⟩:=aE e (by omega);have g6:cells.length=n*5:=e.1;have b3:l.length*5+4<cells.length:=by omega
      have v9:=E _ _ (aG b3);subst Z;have P:=eA e (l.length*5+4);clear E;have b2:(l.length:Int)<(n:Int):=by omega
      have a1: ¬(l.length:Int)<0:=by omega
      have a5:gq≠b:=λh=>fV e z (by decide) (by rw[<-h];rfl)
      go_wp2_with fail;have c:B_ wr wr.drew:=aA _ _;refine aD (B_ wr) 10 ?_
      iterate 10 (refine aF (v:=?_) rfl c ?_ ?_;rotate_left;(focus (intro wS h;have q0:=(h.kc k6 bltr);clear h;go_simp;try rfl));dsimp only[Act.put];try simp only[bW])
      refine au rfl ?_;intro KS hKS;go_simp;refine hKS.out _ _ nofun ?_;clear hKS KS;refine au rfl ?_;intro KS hKS;go_simp;refine hKS.out _ _ nofun ?_;clear hKS KS;have v9d:=c.kc v9 A;have fz9d:=c.kz P A;refine au rfl ?_;intro KS hKS;go_simp;refine hKS.out _ _ nofun ?_;clear hKS KS;refine aI rfl ?_;have T:=eI (ag e c (λ_ _ h=>h)) (l.length*5+4) (.int .i64 n)
      have Q:But (λk=>k=b\/(Value.slice ao l.length cap).ownBlock=some k) w (wr.drew.setCell ⟨gq,l.length*5+4,none⟩ (.int .i64 n)):=(D.next c (λ_ _ h=>h.elim)).next (aj _ _ _ _) (λk hk h=>by
       obtain h'|h':=C gq rfl
       .exact Or.inr (h▸h')
       .omega)
      have Y:=(z.but c (λh=>h)).but (aj wr.drew gq (l.length*5+4) (.int .i64 n)) (λh=>a5 h.symm);go_wp2_with fail;go_end0;exact⟨rfl,Q,⟨i',_,_,n,_,_,Y,T,C,by omega,e0,O.out⟩⟩
   .try subst g7
    go_wp2_with (at_builtin;refine wpList_append_lies _ rfl _ _ _ rfl tb 147 i0 _ 5 40 Tryz.underlying50 i2 i3 i4 i5 rfl (by omega) _ l.length (cu l) rfl (h8.alloc _) ⟨w3.heap.size,0,none⟩ 1 1 [.int .u8 (pk s i).toNat,.int .i64 x,.int .i64 d,.int .i64 i,.int .i64 0] rfl rfl (iu (cs:=#[.int .u8 (pk s i).toNat,.int .i64 x,.int .i64 d,.int .i64 i,.int .i64 0]) (t:=147) (fr:=(0,0)) (aO w3 _)) (by simp[Value.oneCell']) (by omega) (by unfold maxLen;omega) (by omega) (by simp;omega) (w3.heap.size+1) (by simp) ?_);intro gg m w4 r G c8 h6;have B:But (λk=>(Value.slice ao l.length cap).ownBlock=some k) w3 w4:=(aa _ _ _).trans (a8 G)
    have y0:=(B.cell (p:=⟨b,6,none⟩) a2 ab).trans e6;have y1:=(B.frozen (p:=⟨b,6,none⟩) a2 ab).trans q6;have b9:=f0.but B ab;have j4:=aw r gg rfl;have H:But (λk=>k=b\/(Value.slice ao l.length cap).ownBlock=some k) w (w4.setCell ⟨b,6,none⟩ (.slice (some ⟨gg,0,none⟩) (l.length+1) m)):=((a3.mono (λk _ h=>Or.inl h)).trans (B.mono (λk _ h=>Or.inr h))).trans ((aj _ _ _ _).mono (λk _ h=>Or.inl h));have X:=b9.set6 (.slice (some ⟨gg,0,none⟩) (l.length+1) m);have S:=ag r (aj w4 b 6 (.slice (some ⟨gg,0,none⟩) (l.length+1) m)) (λg hg h=>by have:=aw r g hg;omega)
    have a6: ∀g,(Value.slice (some ⟨gg,0,none⟩) (l.length+1) m).ownBlock=some g->(Value.slice ao l.length cap).ownBlock=some g\/w.heap.size<=g:=by
     intro g hg;simp[Value.ownBlock]at hg;subst hg;obtain h|h:=c8
     .exact Or.inl h
     .exact Or.inr (by omega)
    have k7:=B.size;clear e6 q6 G c8;go_wp2_with fail;revert H X S;generalize (w4.setCell ⟨b,6,none⟩ (.slice (some ⟨gg,0,none⟩) (l.length+1) m))=W5;intro H X S;have l0:=H.size;refine(e5.out W5).mono ?_;rintro en w6 ⟨rfl,e3⟩;rw[e3];clear e3 w6 e5 y0 y1 B b9 r;go_wp2_with fail
    go_loopg [11] ar (λmm js wr=> ∃(jj i':Nat) (bad':Bool) (ao':Option Addr) (n cap':Nat) (cells:List Value),js= .int .i64 jj/\jj<=ar/\jj+mm<=ar/\ar<=jj+mm/\RdB wr b s i' bad' src bi vc (.slice ao' n cap')/\wr.ownsRow tb 147 5 (.slice ao' n cap') n cells/\(∀g,(Value.slice ao' n cap').ownBlock=some g->(Value.slice ao l.length cap).ownBlock=some g\/w.heap.size<=g)/\l.length+1<=n/\n<=24/\But (λk=>k=b\/(Value.slice ao l.length cap).ownBlock=some k) w wr/\Hid (tH s cs gs.length nl F i l R ar jj n cells i' bad'))
    case atStart=>exact⟨0,j,b5,_,l.length+1,m,_,rfl,by omega,by omega,by omega,X,S,a6,by omega,by omega,H,i1⟩
    case round=>
     obtain⟨jj,i',bad',ao',n,cap',cells,rfl,j5,h3,k0,z,e,C,k3,e0,D,HI⟩:=hrel;clear h3;have k2:=z.c2;have k6:=z.c6;have bltr:=z.lt;have l3:=D.size
     by_cases hlt:jj<ar
     .have h4:(jj:Int)<(ar:Int):=by omega
      cases bad' with
      |false=>
       obtain⟨l',M,L,e1⟩:=HI.out.next hlt h5;have b6:=hid e1
       have b8:dh wr base top bi cs gs v2:=hH.but D (λh=>by
        obtain h|h:=h
        .exact hbi h.symm
        .have:=aw hT _ h;omega) (λk h=>by
        obtain h|h:=h
        .omega
        .have:=aw hT _ h;omega)
       have HC:=hid (IH.out (24-n) i' (.slice ao' n cap') l' wr (by omega) (by omega) z (by unfold TrB;rw[<-M,<-L];exact e) (by omega) b8);have f3:=hid M;clear e1 b8 HI L;go_wp2_with fail;refine HC.out.mono ?_;rintro en w7 ⟨rfl,f5,f4⟩;obtain⟨j7,I,b7,n7,J,cells7,g0,f6,b0,k1,h7,e2⟩:=f4;have f2:=hid (b6.out n7 cells7 j7 I e2)
       have a4:But (λk=>k=b\/(Value.slice ao l.length cap).ownBlock=some k) w w7:=D.next f5 (λk hk h=>by
        obtain h|h:=h
        .exact Or.inl h
        .obtain h|h:=C k h
         .exact Or.inr h
         .omega)
       have a0: ∀g,(Value.slice b7 n7 J).ownBlock=some g->(Value.slice ao l.length cap).ownBlock=some g\/w.heap.size<=g:=λg hg=>by
        obtain h|h:=b0 g hg
        .exact C g h
        .exact Or.inr (by omega)
       have b4:l.length+1<=n7:=by have:=f3.out;omega
       clear e2 b6 HC;go_wp2_with fail
       go_roundg (ar-(jj+1))
       case measure=>omega
       case rel=>exact⟨jj+1,j7,I,b7,n7,J,cells7,by simp,by omega,by omega,by omega,g0,f6,a0,b4,h7,a4,f2⟩
      |true=>
       have O:=hid (HI.out.fin e4.out.symm (Or.inl rfl) e7.out);clear HI;obtain⟨gq,Z,A,b1,E⟩:=aE e (by omega);have g6:cells.length=n*5:=e.1;have b3:l.length*5+4<cells.length:=by omega
       have v9:=E _ _ (aG b3);subst Z;have P:=eA e (l.length*5+4);clear E;have b2:(l.length:Int)<(n:Int):=by omega
       have a1: ¬(l.length:Int)<0:=by omega
       have a5:gq≠b:=λh=>fV e z (by decide) (by rw[<-h];rfl)
       go_wp2_with fail;have c:B_ wr wr.drew:=aA _ _;refine aD (B_ wr) 10 ?_
       iterate 10 (refine aF (v:=?_) rfl c ?_ ?_;rotate_left;(focus (intro wS h;have q0:=(h.kc k6 bltr);clear h;go_simp;try rfl));dsimp only[Act.put];try simp only[bW])
       refine au rfl ?_;intro KS hKS;go_simp;refine hKS.out _ _ nofun ?_;clear hKS KS;refine au rfl ?_;intro KS hKS;go_simp;refine hKS.out _ _ nofun ?_;clear hKS KS;have v9d:=c.kc v9 A;have fz9d:=c.kz P A;refine au rfl ?_;intro KS hKS;go_simp;refine hKS.out _ _ nofun ?_;clear hKS KS;refine aI rfl ?_;have T:=eI (ag e c (λ_ _ h=>h)) (l.length*5+4) (.int .i64 n)
       have Q:But (λk=>k=b\/(Value.slice ao l.length cap).ownBlock=some k) w (wr.drew.setCell ⟨gq,l.length*5+4,none⟩ (.int .i64 n)):=(D.next c (λ_ _ h=>h.elim)).next (aj _ _ _ _) (λk hk h=>by
        obtain h'|h':=C gq rfl
        .exact Or.inr (h▸h')
        .omega)
       have Y:=(z.but c (λh=>h)).but (aj wr.drew gq (l.length*5+4) (.int .i64 n)) (λh=>a5 h.symm);go_wp2_with fail;go_end0;exact⟨rfl,Q,⟨i',_,_,n,_,_,Y,T,C,by omega,e0,Or.inr ⟨rfl,by rcases O.out with⟨h,_⟩ |h;(cases h);exact h.2⟩⟩⟩
     .have h4: ¬(jj:Int)<(ar:Int):=by omega
      have O:=hid (HI.out.fin e4.out.symm (Or.inr hlt) e7.out);clear HI;obtain⟨gq,Z,A,b1,E⟩:=aE e (by omega);have g6:cells.length=n*5:=e.1;have b3:l.length*5+4<cells.length:=by omega
      have v9:=E _ _ (aG b3);subst Z;have P:=eA e (l.length*5+4);clear E;have b2:(l.length:Int)<(n:Int):=by omega
      have a1: ¬(l.length:Int)<0:=by omega
      have a5:gq≠b:=λh=>fV e z (by decide) (by rw[<-h];rfl)
      go_wp2_with fail;have c:B_ wr wr.drew:=aA _ _;refine aD (B_ wr) 10 ?_
      iterate 10 (refine aF (v:=?_) rfl c ?_ ?_;rotate_left;(focus (intro wS h;have q0:=(h.kc k6 bltr);clear h;go_simp;try rfl));dsimp only[Act.put];try simp only[bW])
      refine au rfl ?_;intro KS hKS;go_simp;refine hKS.out _ _ nofun ?_;clear hKS KS;refine au rfl ?_;intro KS hKS;go_simp;refine hKS.out _ _ nofun ?_;clear hKS KS;have v9d:=c.kc v9 A;have fz9d:=c.kz P A;refine au rfl ?_;intro KS hKS;go_simp;refine hKS.out _ _ nofun ?_;clear hKS KS;refine aI rfl ?_;have T:=eI (ag e c (λ_ _ h=>h)) (l.length*5+4) (.int .i64 n)
      have Q:But (λk=>k=b\/(Value.slice ao l.length cap).ownBlock=some k) w (wr.drew.setCell ⟨gq,l.length*5+4,none⟩ (.int .i64 n)):=(D.next c (λ_ _ h=>h.elim)).next (aj _ _ _ _) (λk hk h=>by
       obtain h'|h':=C gq rfl
       .exact Or.inr (h▸h')
       .omega)
      have Y:=(z.but c (λh=>h)).but (aj wr.drew gq (l.length*5+4) (.int .i64 n)) (λh=>a5 h.symm);go_wp2_with fail;go_end0;exact⟨rfl,Q,⟨i',_,_,n,_,_,Y,T,C,by omega,e0,O.out⟩⟩
   .try subst g7
    go_wp2_with (at_builtin;refine wpList_append_lies _ rfl _ _ _ rfl tb 147 i0 _ 5 40 Tryz.underlying50 i2 i3 i4 i5 rfl (by omega) _ l.length (cu l) rfl (h8.alloc _) ⟨w3.heap.size,0,none⟩ 1 1 [.int .u8 (pk s i).toNat,.int .i64 x,.int .i64 d,.int .i64 i,.int .i64 0] rfl rfl (iu (cs:=#[.int .u8 (pk s i).toNat,.int .i64 x,.int .i64 d,.int .i64 i,.int .i64 0]) (t:=147) (fr:=(0,0)) (aO w3 _)) (by simp[Value.oneCell']) (by omega) (by unfold maxLen;omega) (by omega) (by simp;omega) (w3.heap.size+1) (by simp) ?_);intro gg m w4 r G c8 h6;have B:But (λk=>(Value.slice ao l.length cap).ownBlock=some k) w3 w4:=(aa _ _ _).trans (a8 G)
    have y0:=(B.cell (p:=⟨b,6,none⟩) a2 ab).trans e6;have y1:=(B.frozen (p:=⟨b,6,none⟩) a2 ab).trans q6;have b9:=f0.but B ab;have j4:=aw r gg rfl;have H:But (λk=>k=b\/(Value.slice ao l.length cap).ownBlock=some k) w (w4.setCell ⟨b,6,none⟩ (.slice (some ⟨gg,0,none⟩) (l.length+1) m)):=((a3.mono (λk _ h=>Or.inl h)).trans (B.mono (λk _ h=>Or.inr h))).trans ((aj _ _ _ _).mono (λk _ h=>Or.inl h));have X:=b9.set6 (.slice (some ⟨gg,0,none⟩) (l.length+1) m);have S:=ag r (aj w4 b 6 (.slice (some ⟨gg,0,none⟩) (l.length+1) m)) (λg hg h=>by have:=aw r g hg;omega)
    have a6: ∀g,(Value.slice (some ⟨gg,0,none⟩) (l.length+1) m).ownBlock=some g->(Value.slice ao l.length cap).ownBlock=some g\/w.heap.size<=g:=by
     intro g hg;simp[Value.ownBlock]at hg;subst hg;obtain h|h:=c8
     .exact Or.inl h
     .exact Or.inr (by omega)
    have k7:=B.size;clear e6 q6 G c8;go_wp2_with fail;revert H X S;generalize (w4.setCell ⟨b,6,none⟩ (.slice (some ⟨gg,0,none⟩) (l.length+1) m))=W5;intro H X S;have l0:=H.size;refine(e5.out W5).mono ?_;rintro en w6 ⟨rfl,e3⟩;rw[e3];clear e3 w6 e5 y0 y1 B b9 r;go_wp2_with fail
    go_loopg [11] ar (λmm js wr=> ∃(jj i':Nat) (bad':Bool) (ao':Option Addr) (n cap':Nat) (cells:List Value),js= .int .i64 jj/\jj<=ar/\jj+mm<=ar/\ar<=jj+mm/\RdB wr b s i' bad' src bi vc (.slice ao' n cap')/\wr.ownsRow tb 147 5 (.slice ao' n cap') n cells/\(∀g,(Value.slice ao' n cap').ownBlock=some g->(Value.slice ao l.length cap).ownBlock=some g\/w.heap.size<=g)/\l.length+1<=n/\n<=24/\But (λk=>k=b\/(Value.slice ao l.length cap).ownBlock=some k) w wr/\Hid (tH s cs gs.length nl F i l R ar jj n cells i' bad'))
    case atStart=>exact⟨0,j,b5,_,l.length+1,m,_,rfl,by omega,by omega,by omega,X,S,a6,by omega,by omega,H,i1⟩
    case round=>
     obtain⟨jj,i',bad',ao',n,cap',cells,rfl,j5,h3,k0,z,e,C,k3,e0,D,HI⟩:=hrel;clear h3;have k2:=z.c2;have k6:=z.c6;have bltr:=z.lt;have l3:=D.size
     by_cases hlt:jj<ar
     .have h4:(jj:Int)<(ar:Int):=by omega
      cases bad' with
      |false=>
       obtain⟨l',M,L,e1⟩:=HI.out.next hlt h5;have b6:=hid e1
       have b8:dh wr base top bi cs gs v2:=hH.but D (λh=>by
        obtain h|h:=h
        .exact hbi h.symm
        .have:=aw hT _ h;omega) (λk h=>by
        obtain h|h:=h
        .omega
        .have:=aw hT _ h;omega)
       have HC:=hid (IH.out (24-n) i' (.slice ao' n cap') l' wr (by omega) (by omega) z (by unfold TrB;rw[<-M,<-L];exact e) (by omega) b8);have f3:=hid M;clear e1 b8 HI L;go_wp2_with fail;refine HC.out.mono ?_;rintro en w7 ⟨rfl,f5,f4⟩;obtain⟨j7,I,b7,n7,J,cells7,g0,f6,b0,k1,h7,e2⟩:=f4;have f2:=hid (b6.out n7 cells7 j7 I e2)
       have a4:But (λk=>k=b\/(Value.slice ao l.length cap).ownBlock=some k) w w7:=D.next f5 (λk hk h=>by
        obtain h|h:=h
        .exact Or.inl h
        .obtain h|h:=C k h
         .exact Or.inr h
         .omega)
       have a0: ∀g,(Value.slice b7 n7 J).ownBlock=some g->(Value.slice ao l.length cap).ownBlock=some g\/w.heap.size<=g:=λg hg=>by
        obtain h|h:=b0 g hg
        .exact C g h
        .exact Or.inr (by omega)
       have b4:l.length+1<=n7:=by have:=f3.out;omega
       clear e2 b6 HC;go_wp2_with fail
       go_roundg (ar-(jj+1))
       case measure=>omega
       case rel=>exact⟨jj+1,j7,I,b7,n7,J,cells7,by simp,by omega,by omega,by omega,g0,f6,a0,b4,h7,a4,f2⟩
      |true=>
       have O:=hid (HI.out.fin e4.out.symm (Or.inl rfl) e7.out);clear HI;obtain⟨gq,Z,A,b1,E⟩:=aE e (by omega);have g6:cells.length=n*5:=e.1;have b3:l.length*5+4<cells.length:=by omega
       have v9:=E _ _ (aG b3);subst Z;have P:=eA e (l.length*5+4);clear E;have b2:(l.length:Int)<(n:Int):=by omega
       have a1: ¬(l.length:Int)<0:=by omega
       have a5:gq≠b:=λh=>fV e z (by decide) (by rw[<-h];rfl)
       go_wp2_with fail;have c:B_ wr wr.drew:=aA _ _;refine aD (B_ wr) 10 ?_
       iterate 10 (refine aF (v:=?_) rfl c ?_ ?_;rotate_left;(focus (intro wS h;have q0:=(h.kc k6 bltr);clear h;go_simp;try rfl));dsimp only[Act.put];try simp only[bW])
       refine au rfl ?_;intro KS hKS;go_simp;refine hKS.out _ _ nofun ?_;clear hKS KS;refine au rfl ?_;intro KS hKS;go_simp;refine hKS.out _ _ nofun ?_;clear hKS KS;have v9d:=c.kc v9 A;have fz9d:=c.kz P A;refine au rfl ?_;intro KS hKS;go_simp;refine hKS.out _ _ nofun ?_;clear hKS KS;refine aI rfl ?_;have T:=eI (ag e c (λ_ _ h=>h)) (l.length*5+4) (.int .i64 n)
       have Q:But (λk=>k=b\/(Value.slice ao l.length cap).ownBlock=some k) w (wr.drew.setCell ⟨gq,l.length*5+4,none⟩ (.int .i64 n)):=(D.next c (λ_ _ h=>h.elim)).next (aj _ _ _ _) (λk hk h=>by
        obtain h'|h':=C gq rfl
        .exact Or.inr (h▸h')
        .omega)
       have Y:=(z.but c (λh=>h)).but (aj wr.drew gq (l.length*5+4) (.int .i64 n)) (λh=>a5 h.symm);go_wp2_with fail;go_end0;exact⟨rfl,Q,⟨i',_,_,n,_,_,Y,T,C,by omega,e0,Or.inr ⟨rfl,by rcases O.out with⟨h,_⟩ |h;(cases h);exact h.2⟩⟩⟩
     .have h4: ¬(jj:Int)<(ar:Int):=by omega
      have O:=hid (HI.out.fin e4.out.symm (Or.inr hlt) e7.out);clear HI;obtain⟨gq,Z,A,b1,E⟩:=aE e (by omega);have g6:cells.length=n*5:=e.1;have b3:l.length*5+4<cells.length:=by omega
      have v9:=E _ _ (aG b3);subst Z;have P:=eA e (l.length*5+4);clear E;have b2:(l.length:Int)<(n:Int):=by omega
      have a1: ¬(l.length:Int)<0:=by omega
      have a5:gq≠b:=λh=>fV e z (by decide) (by rw[<-h];rfl)
      go_wp2_with fail;have c:B_ wr wr.drew:=aA _ _;refine aD (B_ wr) 10 ?_
      iterate 10 (refine aF (v:=?_) rfl c ?_ ?_;rotate_left;(focus (intro wS h;have q0:=(h.kc k6 bltr);clear h;go_simp;try rfl));dsimp only[Act.put];try simp only[bW])
      refine au rfl ?_;intro KS hKS;go_simp;refine hKS.out _ _ nofun ?_;clear hKS KS;refine au rfl ?_;intro KS hKS;go_simp;refine hKS.out _ _ nofun ?_;clear hKS KS;have v9d:=c.kc v9 A;have fz9d:=c.kz P A;refine au rfl ?_;intro KS hKS;go_simp;refine hKS.out _ _ nofun ?_;clear hKS KS;refine aI rfl ?_;have T:=eI (ag e c (λ_ _ h=>h)) (l.length*5+4) (.int .i64 n)
      have Q:But (λk=>k=b\/(Value.slice ao l.length cap).ownBlock=some k) w (wr.drew.setCell ⟨gq,l.length*5+4,none⟩ (.int .i64 n)):=(D.next c (λ_ _ h=>h.elim)).next (aj _ _ _ _) (λk hk h=>by
       obtain h'|h':=C gq rfl
       .exact Or.inr (h▸h')
       .omega)
      have Y:=(z.but c (λh=>h)).but (aj wr.drew gq (l.length*5+4) (.int .i64 n)) (λh=>a5 h.symm);go_wp2_with fail;go_end0;exact⟨rfl,Q,⟨i',_,_,n,_,_,Y,T,C,by omega,e0,O.out⟩⟩
end
structure nJ (w:World) (top:Nat) (v2:Value) (l:List (Bod×Value×Value)):Prop where
 own:w.ownsRow top 52 5 v2 l.length (da l)
 code: ∀x∈l,w.ownsRow top 147 5 x.2.2 x.1.code.length (cu (du 0 x.1.code))/\x.2.1= S_/\(∀g,x.2.2.ownBlock=some g->v2.ownBlock≠some g)
theorem nJ.but {F:Nat->Prop} {w w':World} {top:Nat} {v2:Value} {l:List (Bod×Value×Value)} (h:nJ w top v2 l) (hb:But F w w') (hF: ∀k,F k->k<top):nJ w' top v2 l:=
 ⟨ag h.own hb (λg hg hf=>by have:=aw h.own g hg;have:=hF g hf;omega),λx hx=>⟨ag (h.code x hx).1 hb (λg hg hf=>by have:=aw (h.code x hx).1 g hg;have:=hF g hf;omega),(h.code x hx).2⟩⟩
def FU (s:ByteArray) (cs:List Cls) (gs:List Sig) (i bi b base top:Nat) (l:List (Bod×Value×Value)) (cl me:Int) (loc:L_) (w':World):Prop:=
 ∃j bad vc' vt',RdB w' b s j bad true bi vc' vt'/\
  ((bad=false/\ ∃is vk v2',fX s cs gs.length loc.length i= .ok (is,j)/\dh w' base top bi cs gs v2'/\nJ w' top v2' (l++ [(⟨cl,me,loc,is⟩,S_,vk)]))\/(bad=true/\fX s cs gs.length loc.length i= .error j))
section
variable (b:Nat) (s:ByteArray) (i:Nat) (bi:Nat) (vc vt:Value) (w:World)
theorem qw (base top:Nat) (cs:List Cls) (gs:List Sig) (v2:Value) (l:List (Bod×Value×Value)) (cl me:Int) (loc:L_) (hll:l.length<=7) (hloc:loc.length<=5) (hs:s.size<=2000) (hbi:b≠bi) (hbb:b<base) (hbib:bi<base) (hbt:base<=top) (hR:RdB w b s i false true bi vc vt) (hH:dh w base top bi cs gs v2) (hBd:nJ w top v2 l) (htw:top<=w.heap.size):
  Calls prog 80 #[.pointer (some ⟨b,0,none⟩),.agg #[.int .i64 cl,.int .i64 me,.string ⟨loc.toArray⟩,S_,S_]] w λen w'=>en= .returned (.tuple #[])/\But (λk=>k=b\/k=bi\/top<=k) w w'/\
   FU s cs gs i bi b base top l cl me loc w':=by
 obtain⟨i0,f3,g6,g7,h0⟩:=info_parts F8;have c3:=hR.c3;have c5:=hR.c5;have c6:=hR.c6;have f5:=hR.fz 5;have f6:=hR.fz 6;have blt:=hR.lt
 go_in
 go_wp2_with fail;have f0:RdB ((w.setCell ⟨b,5,none⟩ S_).setCell ⟨b,6,none⟩ S_) b s i false true bi S_ S_:=(hR.set5 _).set6 _;have e0:But (· =b) w ((w.setCell ⟨b,5,none⟩ S_).setCell ⟨b,6,none⟩ S_):=(aj _ _ _ _).trans (aj _ _ _ _);have g4:((w.setCell ⟨b,5,none⟩ S_).setCell ⟨b,6,none⟩ S_).heap.size=w.heap.size:=by rw[aU,aU]
 generalize ((w.setCell ⟨b,5,none⟩ S_).setCell ⟨b,6,none⟩ S_)=w0 at*;have b2:But (· =b) w (w0.alloc (.cells #[.int .i64 cl,.int .i64 me,.string ⟨loc.toArray⟩,S_,S_] 52)):=e0.trans (aa _ _ _);have b8:bi<base:=hbib;refine(Bq b s true bi _ base top (w.heap.size+1) cs gs v2 loc.length hloc hs hbi hbb (by omega) hbt hbib 24 24 i _ [] _ (by omega) rfl (f0.alloc _) (cR _ _ _ _) (by simp;omega) (hH.but b2 (λh=>hbi h.symm) (λk h=>by omega))).mono ?_;rintro en w1 ⟨rfl,a4,HQ⟩
 have b3:But (· =b) (w0.alloc (.cells #[.int .i64 cl,.int .i64 me,.string ⟨loc.toArray⟩,S_,S_] 52)) w1:=a4.mono (λk _ h=>by
  obtain h|h:=h
  .exact h
  .cases h)
 obtain⟨j,bad,ak,n,capk,cells,X,G,_,_,g1,a3⟩:=HQ
 have M:w1.heap[w.heap.size]?=some (.cells #[.int .i64 cl,.int .i64 me,.string ⟨loc.toArray⟩,S_,S_] 52):=by
  rw[b3.block _ (by simp;omega) (by omega)];exact aB g4 _
 have J:But (· =b) w w1:=b2.trans b3;have e2:=X.c2;clear c3 c5 c6 f5 f6;obtain⟨rfl,is,c,a0,c9,r⟩ | ⟨rfl,c⟩:=a3
 .obtain rfl:n=is.length:=by simpa using c9
  have D:cells=cu (du 0 is):=by simpa using r
  subst D
  have HC:Hid (fX s cs gs.length loc.length i=if(pk s j).toNat=46 then .ok (is,j+1)else .error j):=hid (by
   have:cK s cs gs.length loc.length 24 [] 1 i= .ok (is,j):=by simpa using c
   unfold fX;rw[this])
  clear c c9 r a0;go_wp2_with fail;refine(F5 b s j true bi _ _ _ 46 46 rfl hs X (by decide)).mono ?_;rintro en B ⟨rfl,Q,j2,e,Y,c8⟩;have P:=hid c8;clear c8
  have f:B.heap[w.heap.size]?=some (.cells #[.int .i64 cl,.int .i64 me,.string ⟨loc.toArray⟩,S_,S_] 52):=by
   rw[Q.block _ (ae M) (by omega)];exact M
  have a5:But (· =b) w B:=J.trans Q
  have b7:B.ownsRow top 147 5 (.slice ak is.length capk) is.length (cu (du 0 is)):=by
   have:=ag G Q (λg hg h=>by have:=aw G g hg;omega);refine⟨this.1,?_⟩;obtain h| ⟨g,cp,cur,y,m,h3⟩:=this.2
   .exact Or.inl h
   .exact Or.inr ⟨g,cp,cur,y,by omega,h3⟩
  have E: ∀g,(Value.slice ak is.length capk).ownBlock=some g->w.heap.size<g:=λg hg=>by have:=aw G g hg;omega
  have f4:=aY b7;have e5:=Y.c5;have e6:=Y.c6;have k3:=ce3 f;have k4:=ce4 f;have h8:B.frozen? ⟨w.heap.size,3,none⟩=false:=bG B _ 3 _ _ f;have h9:B.frozen? ⟨w.heap.size,4,none⟩=false:=bG B _ 4 _ _ f;have a6:b≠w.heap.size:=by omega
  have b9:w.heap.size≠b:=by omega
  clear e2;go_wp2_with fail;have d:((B.setCell ⟨w.heap.size,3,none⟩ S_).setCell ⟨w.heap.size,4,none⟩ (.slice ak is.length capk)).heap[w.heap.size]?=some (.cells #[.int .i64 cl,.int .i64 me,.string ⟨loc.toArray⟩,S_,.slice ak is.length capk] 52):=cQ _ _ 4 _ _ _ (cQ B _ 3 _ _ _ f);have S:But (· =w.heap.size) B ((B.setCell ⟨w.heap.size,3,none⟩ S_).setCell ⟨w.heap.size,4,none⟩ (.slice ak is.length capk)):=(aj _ _ _ _).trans (aj _ _ _ _);generalize ((B.setCell ⟨w.heap.size,3,none⟩ S_).setCell ⟨w.heap.size,4,none⟩ (.slice ak is.length capk))=W at*
  have Z:RdB W b s j2 e true bi S_ (.slice ak is.length capk):=Y.but S a6;have T:But (· =b) w W:=a5.next S (λk hk h=>by omega);have e1:dh W base top bi cs gs v2:=hH.but T (λh=>hbi h.symm) (λk h=>by omega);have b4:nJ W top v2 l:=hBd.but T (λk h=>by omega);have L:=ag b7 S (λg hg h=>by have:=E g hg;omega);obtain⟨g5,g2,g3,v0,v1,H,b5,b6,b1⟩:=e1;obtain⟨I,a,rfl⟩:=ay hBd.own;have z:=b4.own;have F:=aY hBd.own;have e4:=Z.c4;have i2:=H.c2;have iz:=H.fz 2;have bltW:=Z.lt;have biltW:=H.lt;have gltW:=ae d;have k0:=ce0 d;have k1:=ce1 d;have k2:=ce2 d;have h4:=ce3 d;have h6:=ce4 d
  have ab:(Value.slice I l.length a).ownBlock≠some b:=λh=>by have:=aw z _ h;omega
  have abi:(Value.slice I l.length a).ownBlock≠some bi:=λh=>by have:=aw z _ h;omega
  have agk:(Value.slice I l.length a).ownBlock≠some w.heap.size:=λh=>by have:=F _ h;omega
  have f1:But (λk=>(Value.slice I l.length a).ownBlock=some k) W W.drew:=aA _ _;refine aD (But (λk=>(Value.slice I l.length a).ownBlock=some k) W) 14 ?_
  iterate 12 (refine aF (v:=?_) rfl f1 ?_ ?_;rotate_left;(focus (intro wS h;have q0:=((h.cell (p:=⟨b,4,none⟩) bltW ab).trans e4);have q1:=((h.cell (p:=⟨bi,2,none⟩) biltW abi).trans i2);have q2:=((h.cell (p:=⟨w.heap.size,0,none⟩) gltW agk).trans k0);have q3:=((h.cell (p:=⟨w.heap.size,1,none⟩) gltW agk).trans k1);have q4:=((h.cell (p:=⟨w.heap.size,2,none⟩) gltW agk).trans k2);have q5:=((h.cell (p:=⟨w.heap.size,3,none⟩) gltW agk).trans h4);have q6:=((h.cell (p:=⟨w.heap.size,4,none⟩) gltW agk).trans h6);clear h;go_simp;try rfl));dsimp only[Act.put];try simp only[bW])
  refine au rfl ?_;intro KS hKS;go_simp;refine hKS.out _ _ (λ_=>(aa _ _ _).trans (aA _ _)) ?_;clear hKS KS;refine au rfl ?_;intro KS hKS
  refine step_append_lies _ (by rfl) _ _ _ (by rfl) top 52 i0 _ 5 80 Tryz.underlying42 f3 g6 g7 h0 rfl (by omega) _ l.length (da l) (by rfl) ((z.alloc _).drew)
     ⟨W.heap.size,0,none⟩ 1 1 [.int .i64 cl,.int .i64 me,.string ⟨loc.toArray⟩,S_,.slice ak is.length capk] (by rfl) (by rfl) (iu (cs:=#[.int .i64 cl,.int .i64 me,.string ⟨loc.toArray⟩,S_,.slice ak is.length capk]) (t:=52) (fr:=(0,0)) (aO W _)) (by simp[Value.oneCell'])
     (by omega) (by unfold maxLen;omega) (by omega) (by simp;omega) (W.heap.size+1) (by simp) ?_
  intro gg cap3 w3 q a1 f2 g0;have A:But (λk=>(Value.slice I l.length a).ownBlock=some k) W w3:=((aa _ _ _).trans (aA _ _)).trans (a8 a1);refine hKS.out _ _ (λ_=>A) ?_;clear hKS KS;have y0:=(A.cell (p:=⟨bi,2,none⟩) biltW abi).trans i2;have y1:=(A.frozen (p:=⟨bi,2,none⟩) biltW abi).trans iz;refine au rfl ?_;intro KS hKS;go_simp;refine hKS.out _ _ nofun ?_;clear hKS KS;refine au rfl ?_;intro KS hKS;go_simp;refine hKS.out _ _ nofun ?_;clear hKS KS;refine au rfl ?_;intro KS hKS;go_simp;refine hKS.out _ _ nofun ?_;clear hKS KS;refine aI rfl ?_;have h7:=aw q gg rfl;have e8:RdB (w3.setCell ⟨bi,2,none⟩ (.slice (some ⟨gg,0,none⟩) (l.length+1) cap3)) b s j2 e true bi S_ (.slice ak is.length capk):=(Z.but A ab).but (aj _ _ _ _) hbi
  have e3:ImB (w3.setCell ⟨bi,2,none⟩ (.slice (some ⟨gg,0,none⟩) (l.length+1) cap3)) bi v0 v1 (.slice (some ⟨gg,0,none⟩) (l.length+1) cap3):=(H.but A abi).set2 _;have C:But (λk=>k=bi\/(Value.slice I l.length a).ownBlock=some k) W (w3.setCell ⟨bi,2,none⟩ (.slice (some ⟨gg,0,none⟩) (l.length+1) cap3)):=(A.mono (λ_ _ h=>Or.inr h)).next (aj _ _ _ _) (λ_ _ h=>Or.inl h);have e7:=ag q (aj w3 bi 2 (.slice (some ⟨gg,0,none⟩) (l.length+1) cap3)) (λg hg h=>by have:=aw q g hg;omega);generalize (w3.setCell ⟨bi,2,none⟩ (.slice (some ⟨gg,0,none⟩) (l.length+1) cap3))=w4 at*
  have O: ∀g,g<W.heap.size->(Value.slice I l.length a).ownBlock≠some g->gg≠g:=λg hg hn h=>by
   obtain h'|h':=f2
   .exact hn (by rw[<-h];exact h')
   .omega
  go_wp2_with fail;go_end0
  have b0:(e=false/\fX s cs gs.length loc.length i= .ok (is,j2))\/(e=true/\fX s cs gs.length loc.length i= .error j2):=by
   rw[HC.out];unfold mH at P
   by_cases h46:pk s j=46
   .rw[if_pos (by rw[h46];rfl)];obtain⟨y,m⟩ | ⟨y,m⟩:=P.out
    .rw[if_pos h46]at m;cases m;exact Or.inl ⟨y,rfl⟩
    .rw[if_pos h46]at m;cases m
   .rw[if_neg (λh=>h46 (bJ (by rw[h];rfl)))];obtain⟨y,m⟩ | ⟨y,m⟩:=P.out
    .rw[if_neg h46]at m;cases m
    .rw[if_neg h46]at m;cases m;exact Or.inr ⟨y,rfl⟩
  refine⟨rfl,(T.mono (λ_ _ h=>Or.inl h)).next C (λk hk h=> ?_),j2,e,_,_,e8,b0.imp (λhr=>⟨hr.1,is,.slice ak is.length capk,.slice (some ⟨gg,0,none⟩) (l.length+1) cap3,hr.2,⟨g5,g2,g3,v0,v1,e3,?_,?_,b1⟩,⟨?_,?_⟩⟩) id⟩
  .obtain h|h:=h
   .exact Or.inr (Or.inl h)
   .exact Or.inr (Or.inr (aw z _ h))
  .exact ag b5 C (λg hg h=>by
    have y:=aw b5 g hg;have m:=b1 g (Or.inl hg);obtain h|h:=h
    .omega
    .have:=aw z _ h;omega)
  .exact ag b6 C (λg hg h=>by
    have y:=aw b6 g hg;have m:=b1 g (Or.inr hg);obtain h|h:=h
    .omega
    .have:=aw z _ h;omega)
  .rw[mI,aN];exact e7
  .intro x hx;obtain hx|hx:=gz hx
   .obtain⟨y,m,h3⟩:=b4.code x hx;refine⟨ag y C (λg hg h=> ?_),m,λg hg h=> ?_⟩
    .have:=aw y g hg;obtain h|h:=h
     .omega
     .exact h3 g hg h
    .have h5:gg=g:=by simpa[Value.ownBlock]using h
     exact O g (aY y g hg) (h3 g hg) h5
   .simp at hx;subst hx;refine⟨ag L C (λg hg h=> ?_),rfl,λg hg h=> ?_⟩
    .have:=E g hg;obtain h|h:=h
     .omega
     .have:=F _ h;omega
    .have h5:gg=g:=by simpa[Value.ownBlock]using h
     refine O g (aY L g hg) (λh=> ?_) h5;have:=F _ h;have:=E g hg;omega
 .have HC:Hid (fX s cs gs.length loc.length i= .error j):=hid (by
   have:cK s cs gs.length loc.length 24 [] 1 i= .error j:=by simpa using c
   unfold fX;rw[this])
  clear c;go_wp2_with fail;exact fY results80 rfl ⟨rfl,J.mono (λ_ _ h=>Or.inl h),j,true,_,_,X,Or.inr ⟨rfl,HC.out⟩⟩
end
end
section
open Go Go.RowKit Sp
def Br (R:Except Nat (List Bod×Nat)) (b:Nat) (s:ByteArray) (bi base top:Nat) (cs:List Cls) (gs:List Sig) (w':World):Prop:=
 ∃j bad vc' vt',RdB w' b s j bad true bi vc' vt'/\
  ((bad=false/\ ∃l v2,R= .ok (l.map (·.1),j)/\l.length<=6/\dh w' base top bi cs gs v2/\nJ w' top v2 l)\/(bad=true/\R= .error j))
section
variable (b:Nat) (s:ByteArray) (i:Nat) (bi:Nat) (vc vt:Value) (w:World)
theorem vq (base top:Nat) (cs:List Cls) (gs:List Sig) (hs:s.size<=2000) (hbi:b≠bi) (hbb:b<base) (hbib:bi<base) (hbt:base<=top) (hR:RdB w b s i false true bi vc vt) (hH:dh w base top bi cs gs S_) (htw:top<=w.heap.size):
  Calls prog 78 #[.pointer (some ⟨b,0,none⟩)] w λen w'=>en= .returned (.tuple #[])/\But (λk=>k=b\/k=bi\/top<=k) w w'/\
   Br (fZ s cs gs 6 [] i) b s bi base top cs gs w':=by
 obtain⟨R,b8⟩: ∃R,fZ s cs gs 6 [] i=R:=⟨_,rfl⟩;rw[b8];have g6:Hid (fZ s cs gs 6 [] i=R):=b8;clear b8;have c9:=hH.nc;have i5:=hH.ns
 go_in
 go_wp2_with (go_at_call 127;refine(bO b s i false true bi vc vt _ hs hR).mono ?_;rintro en w' ⟨rfl,nn,rfl⟩)
 go_loopg [2] 7 (λm c wr=> ∃(i':Nat) (bad':Bool) (vc vt:Value),c= .int .u8 (pk s i').toNat/\But (λk=>k=b\/k=bi\/top<=k) w wr/\RdB wr b s i' bad' true bi vc vt/\
  ((bad'=false/\ ∃f l v2,m=f+1/\f+List.length l=6/\fZ s cs gs f (l.map (·.1)) i'=R/\dh wr base top bi cs gs v2/\nJ wr top v2 l)\/(bad'=true/\m=0/\R= .error i')))
 case atStart=>exact⟨i,false,_,_,rfl,aH _ _ _,hR.drewN _,Or.inl ⟨rfl,6,[],_,rfl,rfl,g6.out,hH.but (aH (λ_=>False) _ _) (λh=>h) (λk h=>h.elim),⟨cR _ _ _ _,λx hx=>by cases hx⟩⟩⟩
 case round=>
  obtain⟨i',bad',vc,vt,rfl,hB,n,b0⟩:=hrel;have c1:=n.c1;have c2:=n.c2;have c4:=n.c4;have f1:=n.fz 1;have f2:=n.fz 2;obtain⟨rfl,f,l,v2,rfl,h6,f4,Q,G⟩ | ⟨rfl,rfl,rfl⟩:=b0
  .have HT:Hid (fZ s cs gs f (l.map (·.1)) i'=R):=f4;have h7:f+l.length<=6:=by omega
   have h8:6<=f+l.length:=by omega
   have blt:=n.lt;clear f4 h6;obtain⟨a2,a3,rfl⟩:=ay G.own;obtain⟨j5,_,_,v0,v1,A,e6,T,j2⟩:=Q;obtain⟨a0,cap0,rfl⟩:=ay e6;obtain⟨a1,cap1,rfl⟩:=ay T;have d0:=A.c0;have d1:=A.c1;have d2:=A.c2;have bilt:=A.lt;have Q:dh wr base top bi cs gs (.slice a2 l.length a3):=⟨j5,c9,i5,_,_,A,e6,T,j2⟩
   by_cases hpe:(pk s i').toNat=59
   · --the end
    have hi:i'<s.size:=iw (by omega);have i4:(((pk s i').toNat:Int)!=59)=false:=by rw[bne_eq_false_iff_eq];omega
    have d:R= .ok (l.map (·.1),i'+1):=by rw[<-HT.out];cases f<;>simp[fZ,hpe]
    subst d;clear HT hpe;go_wp2_with fail;go_end0;have b3:But (· =b) wr (wr.setCell ⟨b,1,none⟩ (.int .i64 ((i':Int)+1))):=aj _ _ _ _;exact⟨rfl,hB.next b3 (λ_ _ h=>Or.inl h),i'+1,false,_,_,n.inc,Or.inl ⟨rfl,l,_,rfl,by omega,Q.but b3 (λh=>hbi h.symm) (λk h=>by omega),G.but b3 (λk h=>by omega)⟩⟩
   .have i4:(((pk s i').toNat:Int)!=59)=true:=by rw[bne_iff_ne];omega
    have y:Hid (¬(pk s i').toNat=59):=hpe;clear hpe
    cases f with
    |zero=>
     have d:R= .error i':=by rw[<-HT.out];simp[fZ,y.out]
     subst d;have c8:(6:Int)<=(l.length:Int):=by omega
     clear HT;go_wp2_with fail;exact fY results78 rfl ⟨rfl,hB.next (aj _ _ _ _) (λ_ _ h=>Or.inl h),i',true,_,_,n.set2 true,Or.inr ⟨rfl,rfl⟩⟩
    |succ f=>
     have c8: ¬(6:Int)<=(l.length:Int):=by omega
     go_wp2_with fail;refine(gH b s i' true bi vc vt _ _ cs.length rfl c9 hs n).mono ?_;rintro en w1 ⟨b2,xv,j,bad,rfl,X,a⟩;have b4:But (λk=>k=b\/k=bi\/top<=k) w w1:=hB.next b2 (λ_ _ h=>Or.inl h);have e2:=X.c2;have e4:=X.c4;have b5:=A.but b2 (λh=>hbi h.symm);clear c1 c2 c4 f1 f2 d0 d1 d2;have d0:=b5.c0;have d1:=b5.c1;obtain⟨rfl,x,rfl,k4,hx⟩ | ⟨rfl,hx⟩:=a
     case inr=>
      have d:R= .error j:=by rw[<-HT.out];simp[fZ,y.out,hx]
      subst d;clear HT hx;go_wp2_with fail;exact fY results78 rfl ⟨rfl,b4,j,true,_,_,X,Or.inr ⟨rfl,rfl⟩⟩
     have HX:Hid (fj s cs.length i'= .ok (x,j)):=hx;clear hx;go_wp2_with fail;refine(dD b s j true bi vc vt _ _ gs.length rfl hs X).mono ?_;rintro en w2 ⟨e3,mv,p,bad,rfl,v,a⟩;have D:But (· =b) wr w2:=b2.trans e3;have a4:But (λk=>k=b\/k=bi\/top<=k) w w2:=hB.next D (λ_ _ h=>Or.inl h);have S:=b5.but e3 (λh=>hbi h.symm);clear e2 e4 d0 d1;have e1:=v.c1;have e2:=v.c2;have e4:=v.c4;have g1:=v.fz 1;have g2:=v.fz 2;have d0:=S.c0;have d1:=S.c1;obtain⟨rfl,m,rfl,i1,hm⟩ | ⟨rfl,hm⟩:=a
     case inr=>
      have d:R= .error p:=by rw[<-HT.out];simp[fZ,y.out,HX.out,hm]
      subst d;clear HT hm;go_wp2_with fail;exact fY results78 rfl ⟨rfl,a4,p,true,_,_,v,Or.inr ⟨rfl,rfl⟩⟩
     have HM:Hid (eB s gs.length j= .ok (m,p)):=hm;obtain⟨f0,i3,k0⟩:=yl hm;clear hm;have h4:w2.ownsRow top 52 5 (.slice a2 l.length a3) l.length (da l):=ag G.own D (λg hg h=>by have:=aw G.own g hg;omega);go_wp2_with fail;refine(tz top bi _ _ _ l (x:Int) (m:Int) _ (by omega) S h4).mono ?_;rintro en wx ⟨rfl,f5⟩;rw[f5];clear f5 wx;have B:=py (l.map (·.1)) (x:Int) (m:Int);obtain⟨oi,M⟩: ∃oi,gx (l.map (·.1)) (x:Int) (m:Int)=oi:=⟨_,rfl⟩;rw[M]at B⊢;clear M
     by_cases M:0<=oi
     · --there is one already
      have O:(ia (l.map (·.1)) (x:Int) (m:Int)).isSome=true:=by rw[B];simpa using M
      have d:R= .error j:=by rw[<-HT.out];simp only[fZ,if_neg y.out,HX.out,HM.out,if_pos O]
      subst d;have f3:(p:Int)-1=(j:Int):=by omega
      have g5:Hid ((p:Int)-1=(j:Int)):=f3;have k1:(1:Int)<=(p:Int):=by omega
      have k2:(p:Int)<=3000:=by omega
      clear HT O B f3 f0;go_wp2_with fail;refine fY results78 rfl ⟨rfl,?_,j,true,vc,vt,?_,Or.inr ⟨rfl,rfl⟩⟩
      .exact(a4.next (aj _ _ _ _) (λ_ _ h=>Or.inl h)).next (aj _ _ _ _) (λ_ _ h=>Or.inl h)
      .rw[g5.out];exact(v.set1 j).set2 true
     .have L: ¬(ia (l.map (·.1)) (x:Int) (m:Int)).isSome=true:=by rw[B];simpa using M
      have e0:Hid (¬(ia (l.map (·.1)) (x:Int) (m:Int)).isSome=true):=L;clear L B f0;go_wp2_with fail;refine(iD b s p true bi vc vt _ _ _ _ 3 cs.length 58 rfl rfl rfl hs c9 (by omega) (by decide) v).mono ?_;rintro en w3 ⟨e5,o,q,bad,rfl,i6,Y,a⟩;have E:But (· =b) wr w3:=D.trans e5;have a5:But (λk=>k=b\/k=bi\/top<=k) w w3:=hB.next E (λ_ _ h=>Or.inl h);have h3:=S.but e5 (λh=>hbi h.symm);clear e1 e2 e4 g1 g2 d0 d1;have e2:=Y.c2;have e4:=Y.c4;have d1:=h3.c1;obtain⟨rfl,t,rfl,ht⟩ | ⟨rfl,ht⟩:=a
      case inr=>
       have d:R= .error q:=by rw[<-HT.out];simp only[fZ,if_neg y.out,HX.out,HM.out,if_neg e0.out,ht]
       subst d;clear HT ht;go_wp2_with fail;exact fY results78 rfl ⟨rfl,a5,q,true,_,_,Y,Or.inr ⟨rfl,rfl⟩⟩
      have g7:Hid (tys s cs.length 58 3 [] p= .ok (t,q)):=ht;have j1:=fL ht;simp only[List.length_nil,Nat.add_zero]at j1;clear ht;have b9:=aG i3;have b6:=ag T E (λg hg h=>by have:=aw T g hg;omega);obtain⟨gS,rfl,h9,i0,I⟩:=aE b6 (by omega);have e7:=I _ _ (kM b9);clear I;have i2:(m:Int)<(gs.length:Int):=by omega
      have k3:(x:Int)<4:=by omega
      obtain⟨arg,H⟩: ∃arg:UInt8,gs[m].arg=arg:=⟨_,rfl⟩
      have b1:Hid (ib gs m=arg):=by
       show ib gs m=arg
       unfold ib;rw[b9];exact H
      rw[H]at e7;clear H b9;obtain⟨cx,J⟩: ∃cx:UInt8,UInt8.ofNat (65+x)=cx:=⟨_,rfl⟩
      have e8:(65+(x:Int))=(cx.toNat:Int):=by
       rw[<-J,UInt8.toNat_ofNat'];omega
      have g0:Hid ((65+(x:Int))=(cx.toNat:Int)):=e8;have f6:Hid (UInt8.ofNat (65+x)=cx):=J;have h5:=xd (65+(x:Int)) (arg.toNat:Int) cx arg g0.out rfl;have j0:(⟨#[cx,arg]⟩:ByteArray).size+(⟨t.toArray⟩:ByteArray).size<=1000:=by show 2+t.toArray.size<=1000;simp;omega
      clear e8 J;go_wp2_with fail;rw[show(⟨#[cx,arg]⟩:ByteArray)++⟨t.toArray⟩=⟨(cx::arg::t).toArray⟩from db [cx,arg] t];have F:But (· =b) wr (w3.alloc (.cells #[.int .u8 (65+(x:Int)),.int .u8 arg.toNat] 5)):=E.trans (aa _ _ _);have j7:=hB.size;have j3:=a5.size;refine(qw b s q bi _ _ _ base top cs gs _ l (x:Int) (m:Int) (cx::arg::t) (by omega) (by simp;omega) hs hbi hbb hbib hbt (Y.alloc _) (Q.but F (λh=>hbi h.symm) (λk h=>by omega)) (G.but F (λk h=>by omega)) (by simp;omega)).mono ?_;rintro en w4 ⟨rfl,h0,g3⟩;obtain⟨j4,C,k5,k6,b7,a⟩:=g3;have g4:Hid ((C=false/\ ∃is vk Z,fX s cs gs.length (cx::arg::t).length q= .ok (is,j4)/\dh w4 base top bi cs gs Z/\nJ w4 top Z (l++ [(⟨x,m,cx::arg::t,is⟩,S_,vk)]))\/(C=true/\fX s cs gs.length (cx::arg::t).length q= .error j4)):=a
      have a6:But (λk=>k=b\/k=bi\/top<=k) w w4:=(hB.next F (λ_ _ h=>Or.inl h)).trans h0;clear a e2 e4 d1 e7 h5;go_wp2_with (go_at_call 127;refine(bO b s j4 C true bi _ _ _ hs b7).mono ?_;rintro en w' ⟨rfl,n3,rfl⟩)
      have P: ∀r,fX s cs gs.length (cx::arg::t).length q=r->R=match r with
        | .error e=> .error e
        | .ok (is,z)=>fZ s cs gs f (l.map (·.1)++ [⟨x,m,cx::arg::t,is⟩]) z:=by
       intro r hr;rw[<-HT.out];simp only[fZ,if_neg y.out,HX.out,HM.out,if_neg e0.out,g7.out,b1.out,f6.out];rw[show(cx::arg::t).length=t.length+2 from rfl]at hr;rw[hr];obtain e| ⟨is,z⟩:=r<;>rfl
      obtain⟨rfl,is,vk,Z,hc,h2,h1⟩ | ⟨rfl,hc⟩:=g4.out
      .go_roundg (f+1)
       case measure=>omega
       case rel=>
        refine⟨j4,false,_,_,rfl,a6.next (aH (λ_=>False) _ _) (λ_ _ h=>h.elim),b7.drewN _,Or.inl ⟨rfl,f,_,Z,rfl,by simp;omega,?_,h2.but (aH (λ_=>False) _ _) (λh=>h) (λk h=>h.elim),h1.but (aH (λ_=>False) _ _) (λk h=>h.elim)⟩⟩;rw[List.map_append];exact(P _ hc).symm
      .go_roundg 0
       case measure=>omega
       case rel=>exact⟨j4,true,_,_,rfl,a6.next (aH (λ_=>False) _ _) (λ_ _ h=>h.elim),b7.drewN _,Or.inr ⟨rfl,rfl,P _ hc⟩⟩
  .go_wp2_with fail;go_end0;exact⟨rfl,hB,i',true,_,_,n,Or.inr ⟨rfl,rfl⟩⟩
end
def dZ (w:World) (bi:Nat) (im:Img):Prop:=
 ∃v0 v1 v2 l,ImB w bi v0 v1 v2/\w.ownsRow 0 203 2 v0 im.zq.length (dw im.zq)/\w.ownsRow 0 129 2 v1 im.zx.length (dj im.zx)/\
  w.ownsRow 0 52 5 v2 l.length (da l)/\l.map (·.1)=im.zj/\
  ∀x∈l,w.ownsRow 0 147 5 x.2.2 x.1.code.length (cu (du 0 x.1.code))/\x.2.1= S_
theorem dZ.but {w w':World} {bi:Nat} {im:Img} (h:dZ w bi im) (hb:B_ w w'):dZ w' bi im:=by
 obtain⟨v0,v1,v2,l,d,a,b,c,hl,hc⟩:=h;exact⟨v0,v1,v2,l,d.but hb (λh=>h),ag a hb (λ_ _ h=>h),ag b hb (λ_ _ h=>h),ag c hb (λ_ _ h=>h),hl,λx hx=>⟨ag (hc x hx).1 hb (λ_ _ h=>h),(hc x hx).2⟩⟩
def zf (R:Except Nat Img) (bi:Nat) (w':World):Prop:=match R with
 | .ok im=>dZ w' bi im
 | .error _=>True
section
variable (s:ByteArray) (w:World)
theorem zg (hs:s.size<=2000):
  Calls prog 52 #[.string s,.bool true] w λen w'=>en= .returned (.tuple #[.pointer (some ⟨w.heap.size,0,none⟩),.int .i64 (sw (dH s))])/\B_ w w'/\zf (dH s) w.heap.size w':=by
 obtain⟨R,Y⟩: ∃R,dH s=R:=⟨_,rfl⟩;rw[Y];have b:Hid (dH s=R):=Y;clear Y
 go_in
 go_wp2_with fail;have e8:RdB ((w.alloc (.cells #[S_,S_,S_] 44)).alloc (.cells #[.string s,.int .i64 0,.bool false,.bool true,.pointer (some ⟨w.heap.size,0,none⟩),S_,S_] 140)) (w.heap.size+1) s 0 false true w.heap.size S_ S_:=aB (by simp) _;have e3:ImB ((w.alloc (.cells #[S_,S_,S_] 44)).alloc (.cells #[.string s,.int .i64 0,.bool false,.bool true,.pointer (some ⟨w.heap.size,0,none⟩),S_,S_] 140)) w.heap.size S_ S_ S_:=ImB.but (w:=w.alloc (.cells #[S_,S_,S_] 44)) (aO w _) (aa (λ_=>False) _ _) (λh=>h)
 have b9:B_ w ((w.alloc (.cells #[S_,S_,S_] 44)).alloc (.cells #[.string s,.int .i64 0,.bool false,.bool true,.pointer (some ⟨w.heap.size,0,none⟩),S_,S_] 140)):=(aa _ _ _).trans (aa _ _ _);have g4:((w.alloc (.cells #[S_,S_,S_] 44)).alloc (.cells #[.string s,.int .i64 0,.bool false,.bool true,.pointer (some ⟨w.heap.size,0,none⟩),S_,S_] 140)).heap.size=w.heap.size+2:=by simp
 generalize ((w.alloc (.cells #[S_,S_,S_] 44)).alloc (.cells #[.string s,.int .i64 0,.bool false,.bool true,.pointer (some ⟨w.heap.size,0,none⟩),S_,S_] 140))=w0 at*;have B:w.heap.size+1≠w.heap.size:=by omega
 refine(pu (w.heap.size+1) s 0 true w.heap.size _ _ w0 hs B e8 e3).mono ?_;rintro en w1 ⟨rfl,a4,e⟩;have E:B_ w w1:=b9.next a4 (λk hk h=>by omega);have g0:=a4.size;rcases hc1:dR s 4 [] 0 with j| ⟨cs,j⟩
 .rw[hc1]at e;simp only at e;have n:=e.c1;have p:=e.c2;have M:=e.c4;have a:R= .error j:=by rw[<-b.out];simp[dH,hc1]
  subst a;clear b;go_wp2_with fail
  go_quiet (fail)
  go_wp2
  go_ret2
  exact⟨rfl,E.next (aH (λ_=>False) _ _) (λ_ _ h=>h),trivial⟩
 rw[hc1]at e;obtain⟨T,v0,e5,S⟩:=e;have m:Hid (dR s 4 [] 0= .ok (cs,j)):=hc1;obtain⟨b4,i⟩:=ny hc1;clear hc1;obtain⟨a0,cap0,rfl⟩:=ay S;have n:=T.c1;have p:=T.c2;go_wp2_with fail;refine(F6 (w.heap.size+1) s j true w.heap.size _ _ w1 a0 cs.length cap0 i hs B T e5).mono ?_;rintro en Z ⟨rfl,O,f⟩;have F:B_ w Z:=E.next O (λk hk h=>by omega);have g1:=O.size;clear n p;rcases hc2:fk s cs.length 3 [] j with j2| ⟨gs,j2⟩
 .rw[hc2]at f;simp only at f;have n:=f.c1;have p:=f.c2;have M:=f.c4;have a:R= .error j2:=by rw[<-b.out];simp[dH,m.out,hc2]
  subst a;clear b;go_wp2_with fail
  go_quiet (fail)
  go_wp2
  go_ret2
  exact⟨rfl,F.next (aH (λ_=>False) _ _) (λ_ _ h=>h),trivial⟩
 rw[hc2]at f;obtain⟨X,v1,e6,b2⟩:=f;have v:Hid (fk s cs.length 3 [] j= .ok (gs,j2)):=hc2;have J:=lC hc2;clear hc2;have I:=ag S O (λg hg h=>by have:=aw S g hg;omega)
 have c9:dh Z (w.heap.size+2) Z.heap.size w.heap.size cs gs S_:=⟨b4,i,by simpa using J,_,_,e6,dV I (by omega),dV b2 (by omega),λg hg=>by
  obtain hg|hg:=hg
  .exact aY I g hg
  .exact aY b2 g hg⟩
 have n:=X.c1;have p:=X.c2;go_wp2_with fail;refine(vq (w.heap.size+1) s j2 w.heap.size _ _ Z (w.heap.size+2) Z.heap.size cs gs hs B (by omega) (by omega) (by omega) X c9 (bP _)).mono ?_;rintro en w3 ⟨rfl,a5,j3,b6,g6,h0,d,c⟩;have G:B_ w w3:=F.next a5 (λk hk h=>by omega);have g2:=a5.size;clear n p;obtain⟨rfl,l,v2,C,f6,Q,a6⟩ | ⟨rfl,C⟩:=c
 case inr=>
  have n:=d.c1;have p:=d.c2;have M:=d.c4;have a:R= .error j3:=by rw[<-b.out];simp[dH,m.out,v.out,C]
  subst a;clear b;go_wp2_with fail
  go_quiet (fail)
  go_wp2
  go_ret2
  exact⟨rfl,G.next (aH (λ_=>False) _ _) (λ_ _ h=>h),trivial⟩
 have z:Hid (fZ s cs gs 6 [] j2= .ok (l.map (·.1),j3)):=C;clear C;obtain⟨a2,a1,rfl⟩:=ay a6.own;obtain⟨_,_,_,u0,u1,b1,b3,f0,f5⟩:=Q;obtain⟨b0,capb0,rfl⟩:=ay b3;have Q:dh w3 (w.heap.size+2) Z.heap.size w.heap.size cs gs (.slice a2 l.length a1):=⟨b4,i,by simpa using J,_,_,b1,b3,f0,f5⟩;have n:=d.c1;have p:=d.c2;have M:=d.c4;have d0:=b1.c0;go_wp2_with fail;refine(iD (w.heap.size+1) s j3 true w.heap.size _ _ w3 _ _ _ 3 cs.length 58 rfl rfl rfl hs i (by omega) (by decide) d).mono ?_;rintro en w4 ⟨A,o,j4,b7,rfl,f3,q,c⟩;have H:B_ w w4:=G.next A (λk hk h=>by omega);have g3:=A.size;clear n p M d0
 obtain⟨rfl,t,rfl,ht⟩ | ⟨rfl,ht⟩:=c
 case inr=>
  have n:=q.c1;have p:=q.c2;have M:=q.c4;have a:R= .error j4:=by rw[<-b.out];simp[dH,m.out,v.out,z.out,ht]
  subst a;clear b;go_wp2_with fail
  go_quiet (fail)
  go_wp2
  go_ret2
  exact⟨rfl,H.next (aH (λ_=>False) _ _) (λ_ _ h=>h),trivial⟩
 have L:Hid (tys s cs.length 58 3 [] j3= .ok (t,j4)):=ht;have f4:=fL ht;simp only[List.length_nil,Nat.add_zero]at f4;clear ht;have n:=q.c1;have p:=q.c2;go_wp2_with fail;refine(qw (w.heap.size+1) s j4 w.heap.size _ _ w4 (w.heap.size+2) Z.heap.size cs gs _ l (-1) (-1) t (by omega) (by omega) hs B (by omega) (by omega) (by omega) q (Q.but A (by omega) (λk h=>by omega)) (a6.but A (λk h=>by omega)) (by omega)).mono ?_;rintro en w5 ⟨rfl,c8,b5⟩;obtain⟨j5,b8,g7,h1,r,c⟩:=b5;have y:B_ w w5:=H.next c8 (λk hk h=>by omega);clear n p;obtain⟨rfl,is,vk,g5,D,e0,P⟩ | ⟨rfl,D⟩:=c
 case inr=>
  have n:=r.c1;have p:=r.c2;have M:=r.c4;have a:R= .error j5:=by rw[<-b.out];simp[dH,m.out,v.out,z.out,L.out,D]
  subst a;clear b;go_wp2_with fail
  go_quiet (fail)
  go_wp2
  go_ret2
  exact⟨rfl,y.next (aH (λ_=>False) _ _) (λ_ _ h=>h),trivial⟩
 have a3:Hid (fX s cs gs.length t.length j4= .ok (is,j5)):=D;clear D;have n:=r.c1;have p:=r.c2;have M:=r.c4
 by_cases hend:(j5:Int)<(s.size:Int)
 .have a:R= .error j5:=by rw[<-b.out];simp[dH,m.out,v.out,z.out,L.out,a3.out];omega
  subst a;clear b;go_wp2_with fail
  go_quiet (fail)
  go_wp2
  go_ret2
  exact⟨rfl,y.next (aH (λ_=>False) _ _) (λ_ _ h=>h),trivial⟩
 .have a:R= .ok ⟨cs,gs,l.map (·.1)++ [⟨-1,-1,t,is⟩]⟩:=by rw[<-b.out];simp[dH,m.out,v.out,z.out,L.out,a3.out];omega
  subst a;clear b;obtain⟨_,_,_,x0,x1,e7,f1,f2,_⟩:=e0;go_wp2_with fail
  go_ret2
  refine⟨rfl,y,?_⟩;exact⟨_,_,_,_,e7,dV f1 (by omega),dV f2 (by omega),dV P.own (by omega),by simp,λx hx=>⟨dV (P.code x hx).1 (by omega),(P.code x hx).2.1⟩⟩
end
theorem dZ.hds {w:World} {bi:Nat} {im:Img} (h:dZ w bi im):Ee w bi im:=by
 obtain⟨v0,v1,v2,l,d,a,b,c,hl,_⟩:=h;exact⟨v0,v1,v2,l,d,a,b,c,hl⟩
theorem rT (bi:Nat) (im:Img) (bd:Bod) (vk:Value) (w:World) (hI:dZ w bi im) (hW:dN im) (hbd:ey im.zq im.zx bd) (hO:w.ownsRow 0 147 5 vk bd.code.length (cu (du 0 bd.code))):
  Calls prog 53 #[.pointer (some ⟨bi,0,none⟩),.agg #[.int .i64 bd.cls,.int .i64 bd.meth,.string ⟨bd.zy.toArray⟩,S_,vk]] w λen w'=>en= .returned (.int .i64 (qr (unl im.zq im.zj bd.code)))/\B_ w w':=by
 obtain⟨R,p⟩: ∃R,unl im.zq im.zj bd.code=R:=⟨_,rfl⟩;rw[p];have z:Hid (unl im.zq im.zj bd.code=R):=p;clear p;obtain⟨ak,capk,rfl⟩:=ay hO;obtain⟨n,hn⟩: ∃n,bd.code.length=n:=⟨_,rfl⟩;rw[hn]at hO⊢;have P:Hid (bd.code.length=n):=hn;have E:=hbd.len;rw[hn]at E;clear hn
 go_in
 go_wp2_with fail;have M:B_ w (w.alloc (.cells #[.int .i64 bd.cls,.int .i64 bd.meth,.string ⟨bd.zy.toArray⟩,S_,.slice ak n capk] 52)):=aa _ _ _;have B:(w.alloc (.cells #[.int .i64 bd.cls,.int .i64 bd.meth,.string ⟨bd.zy.toArray⟩,S_,.slice ak n capk] 52)).heap[w.heap.size]?=some (.cells #[.int .i64 bd.cls,.int .i64 bd.meth,.string ⟨bd.zy.toArray⟩,S_,.slice ak n capk] 52):=aO _ _;generalize (w.alloc (.cells #[.int .i64 bd.cls,.int .i64 bd.meth,.string ⟨bd.zy.toArray⟩,S_,.slice ak n capk] 52))=w0 at*
 go_loopg [5] 0 (λmm ks wr=>ks= .int .i64 0/\wr=w0)
 case atStart=>exact⟨rfl,rfl⟩
 case round=>
  obtain⟨rfl,F⟩:=hrel;rw[F];clear F;have S:=ce3 B;go_wp2_with fail;clear S
  go_loopg [8] n (λmm ks wq=> ∃(k:Nat),ks= .int .i64 k/\k<=n/\k+mm<=n/\n<=k+mm/\B_ w0 wq/\Hid (∀j (hj:j<bd.code.length),j<k->cy im.zq im.zj bd.code.length bd.code[j]=false))
  case atStart=>exact⟨0,rfl,by omega,by omega,by omega,bf _ _,λj hj h=>absurd h (by omega)⟩
  case round=>
   obtain⟨k,rfl,a0,a1,a2,H,I⟩:=hrel;have C:wr.heap[w.heap.size]?=some (.cells #[.int .i64 bd.cls,.int .i64 bd.meth,.string ⟨bd.zy.toArray⟩,S_,.slice ak n capk] 52):=H.kp B;have g4:=ce4 C;have i:B_ w wr:=M.trans H;have Z:=ae C
   by_cases hlt:k<n
   .have d:k<bd.code.length:=by rw[P.out];exact hlt
    obtain⟨X,A⟩: ∃X,bd.code[k]=X:=⟨_,rfl⟩
    obtain⟨e,t⟩: ∃e,(du 0 bd.code)[k]?=some (X,e):=by
     have D:k<(du 0 bd.code).length:=by rw[oT];exact d
     refine⟨((du 0 bd.code)[k]).2,?_⟩;rw[aG D];have G:((du 0 bd.code).map (·.1))[k]?=bd.code[k]?:=by rw[oS]
     rw[cV,aG D,aG d,A]at G;have L:((du 0 bd.code)[k]).1=X:=Option.some.inj G;rw[<-L]
    have O:=ag hO i (λ_ _ h=>h);obtain⟨g,rfl,T,Y,c⟩:=aE O (by omega);have q0:wr.cell? ⟨g,k*5,none⟩=some (.int .u8 X.op.toNat):=c _ _ (cL (k:=0) t (by omega));have q1:wr.cell? ⟨g,k*5+1,none⟩=some (.int .i64 X.a):=c _ _ (cL (k:=1) t (by omega));have q2:wr.cell? ⟨g,k*5+2,none⟩=some (.int .i64 X.b):=c _ _ (cL (k:=2) t (by omega));have q3:wr.cell? ⟨g,k*5+3,none⟩=some (.int .i64 X.pos):=c _ _ (cL (k:=3) t (by omega));have q4:wr.cell? ⟨g,k*5+4,none⟩=some (.int .i64 e):=c _ _ (cL (k:=4) t (by omega));have s:WfN im.zq im.zx.length bd.zy.length bd.code[k]:=hbd.code _ (bD d)
    have J:Hid (cy im.zq im.zj bd.code.length X=true->R=some X.pos):=λh=>by
     subst A;rw[<-z.out];exact Bf d h I.out
    have y:Hid (cy im.zq im.zj bd.code.length X=false-> ∀j (hj:j<bd.code.length),j<k+1->cy im.zq im.zj bd.code.length bd.code[j]=false):=λh j hj hjk=>by
     subst A;obtain h'|h':=gC j k
     .exact I.out j hj h'
     .have:j=k:=by omega
      subst this;exact h
    rw[A]at s;clear c t A;have a3:(k:Int)<(n:Int):=by omega
    by_cases h99:X.op.toNat=99
    .have t1:((X.op.toNat:Int)==99)=true:=by rw[aX];omega
     have a4:X.a<im.zq.length:=s.cls (by omega);have v:Hid (X.op.toNat=99):=h99;clear h99;go_wp2_with fail;refine(nF bi im _ _ _ ((hI.but i).but (aa _ _ _)).hds hW.cls hW.nc hW.nb (by omega) (by omega)).mono ?_;rintro en wx ⟨rfl,m⟩;rw[m];clear m wx;obtain⟨fr,q⟩: ∃fr,bM im.zq im.zj (X.b:Int) 5 (X.a:Int)=fr:=⟨_,rfl⟩;rw[q];have x:Hid (bM im.zq im.zj (X.b:Int) 5 (X.a:Int)=fr):=q;clear q
     by_cases hf0:fr<0
     .have f:R=some X.pos:=J.out (by simp[cy,v.out,x.out,hf0]);subst f;go_wp2_with fail;go_ret;exact⟨rfl,i.trans (aa _ _ _)⟩
     .have r:Hid (cy im.zq im.zj bd.code.length X=false):=by show _=_;simp[cy,v.out,x.out];omega
      go_wp2_with fail
      go_roundg (n-(k+1))
      case measure=>omega
      case rel=>exact⟨k+1,by simp,by omega,by omega,by omega,H.trans (aa _ _ _),y.out r.out⟩
    .have t1:=tf X.op.toNat 99 (by omega)
     have r:Hid (cy im.zq im.zj bd.code.length X=false):=by
      show _=_
      have l:=s.op;have G:X.op.toNat≠106:=λh=>by rw[h]at l;exact absurd l (by decide)
      have L:X.op.toNat≠102:=λh=>by rw[h]at l;exact absurd l (by decide)
      simp[cy,h99,G,L]
     have Q:Hid (∀j (hj:j<bd.code.length),j<k+1->cy im.zq im.zj bd.code.length bd.code[j]=false):=y.out r.out;clear h99;go_wp2_with fail
     go_roundg (n-(k+1))
     case measure=>omega
     case rel=>exact⟨k+1,by simp,by omega,by omega,by omega,H.trans (aa _ _ _),Q⟩
   .have f:R=none:=by
     rw[<-z.out];exact va (λj hj=>I.out j hj (by rw[P.out]at hj;omega))
    subst f;go_wp2_with fail;go_ret;exact⟨rfl,i⟩
def zh (R:Except (Nat×Nat) Img) (bi:Nat) (w':World):Prop:=match R with
 | .ok im=>dZ w' bi im/\dN im
 | .error _=>True
theorem pB (s:ByteArray) (w:World) (hmax:s.size<=maxLen):
  Calls prog 28 #[.string s,.bool true] w λen w'=>en= .returned (nG (cO s) w.heap.size)/\B_ w w'/\zh (cO s) w.heap.size w':=by
 obtain⟨R,e⟩: ∃R,cO s=R:=⟨_,rfl⟩;rw[e];unfold maxLen at hmax
 by_cases hbig:400<s.size
 .have c:R= .error (1,0):=by rw[<-e,cO,if_pos hbig]
  subst c;have I:(400:Int)<(s.size:Int):=by omega
  clear e
  go_in
  go_wp2_with fail
  go_ret3
  exact⟨rfl,bf _ _,trivial⟩
 have hs:s.size<=400:=by omega
 have I: ¬(400:Int)<(s.size:Int):=by omega
 have i:Hid (cO s=R):=e;clear e hbig
 go_in
 go_wp2_with fail;refine(zg s w (by omega)).mono ?_;rintro en w1 ⟨rfl,t,hp⟩
 cases hread:dH s with
 |error j=>
  have c:R= .error (2,j):=by rw[<-i.out,cO,if_neg (by omega),hread]
  subst c;simp only[sw];have a3:(0:Int)<=(j:Int):=by omega
  clear hp i hread;go_wp2_with fail
  go_ret3
  exact⟨rfl,t,trivial⟩
 |ok im=>
  rw[hread]at hp;have H:=ql (by omega) hread;simp only[sw];have G:dZ w1 w.heap.size im:=hp;have A:Hid (dH s= .ok im):=hread;clear hread hp;obtain⟨v0,v1,v2,l,C,hC,hS,S,hl,D⟩:=G;have G:dZ w1 w.heap.size im:=⟨v0,v1,v2,l,C,hC,hS,S,hl,D⟩;obtain⟨a2,Y,rfl⟩:=ay S;have b1:l.length<=7:=by have:=H.nb;rw[<-hl]at this;simpa using this
  have F:Hid (l.map (·.1)=im.zj):=hl;clear hl;go_wp2_with fail
  go_loopg [9] l.length (λmm ks wr=> ∃(k:Nat),ks= .int .i64 k/\k<=l.length/\k+mm<=l.length/\l.length<=k+mm/\B_ w1 wr/\Hid (∀j (v:j<l.length),j<k->unl im.zq im.zj l[j].1.code=none))
  case atStart=>exact⟨0,rfl,by omega,by omega,by omega,bf _ _,λj v h=>absurd h (by omega)⟩
  case round=>
   obtain⟨k,rfl,a4,a5,a6,d,P⟩:=hrel;have d2:=(C.but d (λh=>h)).c2
   by_cases hlt:k<l.length
   .have n:=aG hlt;obtain⟨g,rfl,a0,a1,a⟩:=aE (ag S d (λ_ _ h=>h)) (by omega);have J:=a _ _ (eP n);have L:=a _ _ (eQ n);have M:=a _ _ (fO n);have E:=a _ _ (fP n);have O:=a _ _ (fQ n);have f:l[k]∈l:=bD hlt;obtain⟨m,y⟩:=D _ f;have z:ey im.zq im.zx l[k].1:=H.bod _ (by rw[<-F.out];exact List.mem_map_of_mem f)
    have q:Hid (∀p,unl im.zq im.zj l[k].1.code=some p->R= .error (3,p)):=λp hp=>by
     rw[<-i.out,cO,if_neg (by omega),A.out];simp only;rw[show im.zj.findSome? (λb=>unl im.zq im.zj b.code)=some p from ?_];rw[<-F.out,List.findSome?_map];rw[F.out];exact pz hlt hp P.out
    have r:Hid (unl im.zq im.zj l[k].1.code=none-> ∀j (v:j<l.length),j<k+1->unl im.zq im.zj l[j].1.code=none):=λh j v hjk=>by
     obtain h'|h':=gC j k
     .exact P.out j v h'
     .have:j=k:=by omega
      subst this;exact h
    obtain⟨X,Z⟩: ∃X,l[k]=X:=⟨_,rfl⟩;rw[Z]at J L M E O m y z q r;rw[y]at E;obtain⟨Xb,Xk,Xt⟩:=X;simp only at J L M E O m z q r;obtain⟨ak,capk,rfl⟩:=ay m;clear a n Z f y;have b0:(k:Int)<(l.length:Int):=by omega
    go_wp2_with fail;refine(rT w.heap.size im Xb _ _ (G.but d) H z (ag m d (λ_ _ h=>h))).mono ?_;rintro en w2 ⟨rfl,B⟩
    cases hu:unl im.zq im.zj Xb.code with
    |some p=>
     have c:R= .error (3,p):=q.out p hu;subst c;simp only[qr];have b2:(0:Int)<=(p:Int):=by omega
     clear hu J L M E O d2;go_wp2_with fail
     go_ret3
     exact⟨rfl,(t.trans d).trans B,trivial⟩
    |none=>
     simp only[qr];have T:=r.out hu;have Q:Hid (∀j (v:j<l.length),j<k+1->unl im.zq im.zj l[j].1.code=none):=T;clear hu T J L M E O d2;go_wp2_with fail
     go_roundg (l.length-(k+1))
     case measure=>omega
     case rel=>exact⟨k+1,by simp,by omega,by omega,by omega,d.trans B,Q⟩
   .have c:R= .ok im:=by
     rw[<-i.out,cO,if_neg (by omega),A.out];simp only;rw[show im.zj.findSome? (λb=>unl im.zq im.zj b.code)=none from ?_];rw[List.findSome?_eq_none_iff];intro b I;rw[<-F.out]at I;obtain⟨x,n,rfl⟩:=List.mem_map.1 I;obtain⟨j,v,rfl⟩:=List.getElem_of_mem n;exact P.out j v (by omega)
    subst c;go_wp2_with fail
    go_ret3
    exact⟨rfl,t.trans d,G.but d,H⟩
end
end Go.Proofs.YtpfkkmacakjmbaaGreatDoor
