import Derived.Test.YtpfkkmacakjmbaaGreatDoorP06
set_option maxRecDepth 100000
set_option maxHeartbeats 6400000
set_option linter.all false
namespace Go.Proofs.YtpfkkmacakjmbaaGreatDoor
open Proofs.Tryz
section
open Go Go.RowKit Sp
def nG (R:Except (Nat×Nat) Img) (bi:Nat):Value:=match R with
 | .error (e,p)=> .tuple #[.pointer none,.int .i64 e,.int .i64 p]
 | .ok _=> .tuple #[.pointer (some ⟨bi,0,none⟩),.int .i64 0,.int .i64 0]
def Bg (R:Except (Nat×Nat) Img) (bi:Nat) (w':World):Prop:=match R with
 | .error _=>True
 | .ok im=>cH w' bi im/\WfI im
theorem pz {α:Type} {f:α->Option Nat}: ∀{l:List α} {k:Nat} {p:Nat} (b:k<l.length),f l[k]=some p->(∀j (hj:j<l.length),j<k->f l[j]=none)->l.findSome? f=some p:=by
 intro l
 induction l with
 |nil=>intro k p b;simp at b
 |cons x l ih=>
  intro k p b h a
  cases k with
  |zero=>simp at h;simp[List.findSome?_cons,h]
  |succ k=>
   have c:=a 0 (by simp) (by omega);simp at c h;rw[List.findSome?_cons,c]
   exact ih (by simpa using b) h (λj hj hjk=>by
    have:=a (j+1) (by simpa using hj) (by omega)
    rwa [List.getElem_cons_succ]at this)
theorem qs (s:ByteArray) (w:World) (hmax:s.size<=maxLen):
  Calls prog 28 #[.string s,.bool false] w λen w'=>en= .returned (nG (gQ s) w.heap.size)/\B_ w w'/\Bg (gQ s) w.heap.size w':=by
 obtain⟨R,e⟩: ∃R,gQ s=R:=⟨_,rfl⟩;rw[e];unfold maxLen at hmax
 by_cases hbig:2000<s.size
 .have c:R= .error (1,0):=by rw[<-e,gQ,if_pos hbig]
  subst c;have I:(2000:Int)<(s.size:Int):=by omega
  clear e
  go_in
  go_wp2_with fail
  go_ret3
  exact⟨rfl,bf _ _,trivial⟩
 have hs:s.size<=2000:=by omega
 have I: ¬(2000:Int)<(s.size:Int):=by omega
 have i:Hid (gQ s=R):=e;clear e hbig
 go_in
 go_wp2_with fail;refine(Be s w hs).mono ?_;rintro en w1 ⟨rfl,t,hp⟩
 cases hread:gP s with
 |error j=>
  have c:R= .error (2,j):=by rw[<-i.out,gQ,if_neg (by omega),hread]
  subst c;simp only[sw];have a3:(0:Int)<=(j:Int):=by omega
  clear hp i hread;go_wp2_with fail
  go_ret3
  exact⟨rfl,t,trivial⟩
 |ok im=>
  rw[hread]at hp;have H:=uJ hs hread;simp only[sw];have G:cH w1 w.heap.size im:=hp;have A:Hid (gP s= .ok im):=hread;clear hread hp;obtain⟨v0,v1,v2,l,C,hC,hS,S,hl,D⟩:=G;have G:cH w1 w.heap.size im:=⟨v0,v1,v2,l,C,hC,hS,S,hl,D⟩;obtain⟨a2,Y,rfl⟩:=ay S;have b1:l.length<=7:=by have:=H.nb;rw[<-hl]at this;simpa using this
  have F:Hid (l.map (·.1)=im.zj):=hl;clear hl;go_wp2_with fail
  go_loopg [9] l.length (λmm ks wr=> ∃(k:Nat),ks= .int .i64 k/\k<=l.length/\k+mm<=l.length/\l.length<=k+mm/\B_ w1 wr/\Hid (∀j (v:j<l.length),j<k->unl im.zq im.zj l[j].1.code=none))
  case atStart=>exact⟨0,rfl,by omega,by omega,by omega,bf _ _,λj v h=>absurd h (by omega)⟩
  case round=>
   obtain⟨k,rfl,a4,a5,a6,d,P⟩:=hrel;have d2:=(C.but d (λh=>h)).c2
   by_cases hlt:k<l.length
   .have n:=aG hlt;obtain⟨g,rfl,a0,a1,a⟩:=aE (ag S d (λ_ _ h=>h)) (by omega);have J:=a _ _ (eP n);have L:=a _ _ (eQ n);have M:=a _ _ (fO n);have O:=a _ _ (fP n);have E:=a _ _ (fQ n);have f:l[k]∈l:=bD hlt;obtain⟨m,y⟩:=D _ f;have z:WfB im.zq im.zx l[k].1:=H.bod _ (by rw[<-F.out];exact List.mem_map_of_mem f)
    have q:Hid (∀p,unl im.zq im.zj l[k].1.code=some p->R= .error (3,p)):=λp hp=>by
     rw[<-i.out,gQ,if_neg (by omega),A.out];simp only;rw[show im.zj.findSome? (λb=>unl im.zq im.zj b.code)=some p from ?_];rw[<-F.out,List.findSome?_map];rw[F.out];exact pz hlt hp P.out
    have r:Hid (unl im.zq im.zj l[k].1.code=none-> ∀j (v:j<l.length),j<k+1->unl im.zq im.zj l[j].1.code=none):=λh j v hjk=>by
     obtain h'|h':=gC j k
     .exact P.out j v h'
     .have:j=k:=by omega
      subst this;exact h
    obtain⟨X,Z⟩: ∃X,l[k]=X:=⟨_,rfl⟩;rw[Z]at J L M O E m y z q r;rw[y]at E;obtain⟨Xb,Xk,Xt⟩:=X;simp only at J L M O E m z q r;obtain⟨ak,capk,rfl⟩:=ay m;clear a n Z f y;have b0:(k:Int)<(l.length:Int):=by omega
    go_wp2_with fail;refine(tB w.heap.size im Xb _ _ (G.but d) H z (ag m d (λ_ _ h=>h))).mono ?_;rintro en w2 ⟨rfl,B⟩
    cases hu:unl im.zq im.zj Xb.code with
    |some p=>
     have c:R= .error (3,p):=q.out p hu;subst c;simp only[qr];have b2:(0:Int)<=(p:Int):=by omega
     clear hu J L M O E d2;go_wp2_with fail
     go_ret3
     exact⟨rfl,(t.trans d).trans B,trivial⟩
    |none=>
     simp only[qr];have T:=r.out hu;have Q:Hid (∀j (v:j<l.length),j<k+1->unl im.zq im.zj l[j].1.code=none):=T;clear hu T J L M O E d2;go_wp2_with fail
     go_roundg (l.length-(k+1))
     case measure=>omega
     case rel=>exact⟨k+1,by simp,by omega,by omega,by omega,d.trans B,Q⟩
   .have c:R= .ok im:=by
     rw[<-i.out,gQ,if_neg (by omega),A.out];simp only;rw[show im.zj.findSome? (λb=>unl im.zq im.zj b.code)=none from ?_];rw[List.findSome?_eq_none_iff];intro b I;rw[<-F.out]at I;obtain⟨x,n,rfl⟩:=List.mem_map.1 I;obtain⟨j,v,rfl⟩:=List.getElem_of_mem n;exact P.out j v (by omega)
    subst c;go_wp2_with fail
    go_ret3
    exact⟨rfl,t.trans d,G.but d,H⟩
def iy (w:World) (bi:Nat) (cs:List Cls):Prop:=
 ∃v0 v1 v2,ImB w bi v0 v1 v2/\w.ownsRow 0 203 2 v0 cs.length (dw cs)
theorem cH.cls {w:World} {bi:Nat} {im:Img} (h:cH w bi im):iy w bi im.zq:=by
 obtain⟨v0,v1,v2,l,b,a,_⟩:=h;exact⟨v0,v1,v2,b,a⟩
theorem iy.but {w w':World} {bi:Nat} {cs:List Cls} (h:iy w bi cs) (hb:B_ w w'):iy w' bi cs:=by
 obtain⟨v0,v1,v2,b,a⟩:=h;exact⟨v0,v1,v2,b.but hb (λh=>h),ag a hb (λ_ _ h=>h)⟩
theorem iy.par {w:World} {bi:Nat} {cs:List Cls} (h:iy w bi cs) (hw:WfC cs) {x:Int} (h0:0<=x) (hx:x<cs.length):
  ∃(g n cap:Nat) (p:Int),w.cell? ⟨bi,0,none⟩=some (.slice (some ⟨g,0,none⟩) n cap)/\x<(n:Int)/\w.cell? ⟨g,x.toNat*2,none⟩=some (.int .i64 p)/\cU cs x=p/\ -1<=p/\p<cs.length:=by
 obtain⟨v0,v1,v2,i,f⟩:=h;obtain⟨a0,cap0,rfl⟩:=ay f;obtain⟨n,rfl⟩:=Int.eq_ofNat_of_zero_le h0;have e:n<cs.length:=by omega
 have c:=aG e;obtain⟨g,rfl,j,k,a⟩:=aE f (by omega);have d:=j9 hw hx h0;have b:cU cs (n:Int)=cs[n].par:=by unfold cU;rw[jZ,c];rfl
 refine⟨g,cs.length,cap0,cs[n].par,i.c0,by omega,?_,b,?_,?_⟩
 .rw[jZ];exact a _ _ (nz c)
 .rw[<-b];exact d.1
 .rw[<-b];exact d.2
theorem mo (bi:Nat) (cs:List Cls) (x y:Int) (w:World) (hI:iy w bi cs) (hw:WfC cs) (hx0: -1<=x) (hx:x<cs.length):
  Calls prog 122 #[.pointer (some ⟨bi,0,none⟩),.int .i64 x,.int .i64 y] w λen w'=>en= .returned (.bool (bu cs 5 x y))/\w'=w:=by
 obtain⟨R,b⟩: ∃R,bu cs 5 x y=R:=⟨_,rfl⟩;rw[b];have h:Hid (bu cs 5 x y=R):=b;clear b
 go_in
 go_wp2_with fail
 go_loopg [1,7] 5 (λmm xs ks wr=> ∃(xv:Int) (kn:Nat),xs= .int .i64 xv/\ks= .int .i64 kn/\kn<=5/\5<=kn+mm/\kn+mm<=5/\wr=w/\ -1<=xv/\xv<cs.length/\Hid (bu cs mm xv y=R))
 case atStart=>exact⟨x,0,rfl,rfl,by omega,by omega,by omega,rfl,hx0,hx,h⟩
 case round=>
  obtain⟨xv,kn,rfl,rfl,v,q,r,k,s,l,c⟩:=hrel;subst k
  by_cases hxn:0<=xv
  .cases gk with
   |zero=>
    have a:R=false:=by rw[<-c.out];rfl
    subst a;have d: ¬(kn:Int)<=4:=by omega
    go_wp2_with fail;go_ret;exact⟨rfl,rfl⟩
   |succ f=>
    have d:(kn:Int)<=4:=by omega
    by_cases hxy:xv=y
    .have a:R=true:=by rw[<-c.out,bu,if_neg (by omega),if_pos hxy]
     subst a;have t:(xv==y)=true:=by simpa using hxy
     clear hxy c;go_wp2_with fail;go_ret;exact⟨rfl,rfl⟩
    .have m:Hid (bu cs f (cU cs xv) y=R):=by show _=_;rw[<-c.out,bu,if_neg (by omega),if_neg hxy]
     have t:(xv==y)=false:=by simpa using hxy
     obtain⟨g,n,cap,p,d0,hn,hc,e,i,j⟩:=hI.par hw hxn l;rw[e]at m;clear e hxy c;go_wp2_with fail
     go_roundg f
     case measure=>omega
     case rel=>exact⟨p,kn+1,rfl,by simp,by omega,by omega,by omega,rfl,i,j,m⟩
  .have a:R=false:=by
    rw[<-c.out]
    cases gk with
    |zero=>rfl
    |succ f=>rw[bu,if_pos (by omega)]
   subst a
   by_cases d:(kn:Int)<=4
   .go_wp2_with fail;go_ret;exact⟨rfl,rfl⟩
   .go_wp2_with fail;go_ret;exact⟨rfl,rfl⟩
theorem dY (c:UInt8) (w:World):Calls prog 82 #[.int .u8 c.toNat] w λen w'=>en= .returned (.bool (isC c))/\w'=w:=by
 obtain⟨n,hn⟩: ∃n:Nat,c.toNat=n:=⟨_,rfl⟩
 have a:isC c=(decide (65<=(n:Int))&&decide ((n:Int)<=68)):=by
  unfold isC;rw[hn];rw[Bool.eq_iff_iff];simp;omega
 rw[hn,a];clear a hn
 by_cases h:(65:Int)<=(n:Int)
 .by_cases h2:(n:Int)<=68
  .go_in
   go_wp2
   go_ret;exact⟨by simp[h,h2],rfl⟩
  .go_in
   go_wp2
   go_ret;exact⟨by simp[h,h2],rfl⟩
 .go_in
  go_wp2
  go_ret;exact⟨by simp;omega,rfl⟩
theorem iE (c:UInt8) (w:World):Calls prog 119 #[.int .u8 c.toNat] w λen w'=>en= .returned (.bool (isR c))/\w'=w:=by
 obtain⟨r,d⟩: ∃r,isC c=r:=⟨_,rfl⟩
 by_cases h:c.toNat=122
 .have f:((c.toNat:Int)==122)=true:=by rw[aX];omega
  have a:isR c=true:=by simp[isR,h]
  rw[a];clear h a d
  go_in
  go_wp2_with fail;go_ret;exact⟨rfl,rfl⟩
 .have f:=tf c.toNat 122 (by omega);have a:isR c=r:=by simp[isR,h,d]
  rw[a];have e:Hid (isC c=r):=d;clear h a d
  go_in
  go_wp2_with fail;refine(dY c _).mono ?_;rw[e.out];rintro en wx ⟨rfl,b⟩;rw[b];clear b wx;go_wp2_with fail;go_ret;exact⟨rfl,rfl⟩
theorem mp (bi:Nat) (cs:List Cls) (a b:UInt8) (w:World) (hI:iy w bi cs) (hw:WfC cs) (hn:cs.length<=4) (ha:okT cs.length a=true):
  Calls prog 73 #[.pointer (some ⟨bi,0,none⟩),.int .u8 a.toNat,.int .u8 b.toNat] w λen w'=>en= .returned (.bool (bj cs a b))/\w'=w:=by
 obtain⟨R,d⟩: ∃R,bj cs a b=R:=⟨_,rfl⟩;rw[d];unfold bj at d;have e:=gr.1 ha
 by_cases h1:a.toNat=b.toNat
 .rw[if_pos (Or.inl h1)]at d;subst d;have p:((a.toNat:Int)==(b.toNat:Int))=true:=by rw[aX];omega
  clear h1 e
  go_in
  go_wp2_with fail;go_ret;exact⟨rfl,rfl⟩
 have q:((a.toNat:Int)==(b.toNat:Int))=false:=by rw[eu];omega
 by_cases h2:b.toNat=45
 .rw[if_pos (Or.inr h2)]at d;subst d;have p:((b.toNat:Int)==45)=true:=by rw[aX];omega
  clear h1 h2 e
  go_in
  go_wp2_with fail;go_ret;exact⟨rfl,rfl⟩
 have r:=tf b.toNat 45 (by omega);rw[if_neg (by omega)]at d;clear h1 h2
 cases hcb:isC b with
 |false=>
  rw[if_pos hcb]at d;subst d
  go_in
  go_wp2_with (go_at_call 82;refine(dY b _).mono ?_;rw[hcb];rintro en wx ⟨rfl,c⟩;rw[c];clear c wx);go_ret;exact⟨rfl,rfl⟩
 |true=>
  rw[if_neg (by rw[hcb];decide)]at d
  by_cases h3:a.toNat=122
  .rw[if_pos h3]at d;subst d;have i:((a.toNat:Int)==122)=true:=by rw[aX];omega
   clear h3 e
   go_in
   go_wp2_with (go_at_call 82;refine(dY b _).mono ?_;rw[hcb];rintro en wx ⟨rfl,c⟩;rw[c];clear c wx);go_ret;exact⟨rfl,rfl⟩
  .rw[if_neg h3]at d;have i:=tf a.toNat 122 (by omega);clear h3
   cases hca:isC a with
   |false=>
    rw[if_pos hca]at d;subst d;clear e
    go_in
    go_wp2_with fail;refine(dY b _).mono ?_;rw[hcb];rintro en wx ⟨rfl,c⟩;rw[c];clear c wx;go_wp2_with fail;refine(dY a _).mono ?_;rw[hca];rintro en wx ⟨rfl,c⟩;rw[c];clear c wx;go_wp2_with fail;go_ret;exact⟨rfl,rfl⟩
   |true=>
    rw[if_neg (by rw[hca];decide)]at d;have k:=bL.1 hca;have l:=bL.1 hcb;have m:(65:Int)<=(a.toNat:Int):=by omega
    have n:(a.toNat:Int)<=68:=by omega
    have s:(65:Int)<=(b.toNat:Int):=by omega
    have t:(b.toNat:Int)<=68:=by omega
    have h:(a.toNat:Int)-65<cs.length:=by omega
    have j:Hid (bu cs 5 ((a.toNat:Int)-65) ((b.toNat:Int)-65)=R):=d;have f:Hid (isC a=true):=hca;have g:Hid (isC b=true):=hcb;clear e k l d hca hcb
    go_in
    go_wp2_with fail;refine(dY b _).mono ?_;rw[g.out];rintro en wx ⟨rfl,c⟩;rw[c];clear c wx;go_wp2_with fail;refine(dY a _).mono ?_;rw[f.out];rintro en wx ⟨rfl,c⟩;rw[c];clear c wx;go_wp2_with fail;refine(mo bi cs _ _ _ hI hw (by omega) h).mono ?_;rw[j.out];rintro en wx ⟨rfl,c⟩;rw[c];clear c wx;go_wp2_with fail;go_ret;exact⟨rfl,rfl⟩
theorem vd (bi:Nat) (cs:List Cls) (a b:UInt8) (w:World) (hI:iy w bi cs) (hw:WfC cs) (hn:cs.length<=4) (ha:okT cs.length a=true) (hb:okT cs.length b=true):
  Calls prog 120 #[.pointer (some ⟨bi,0,none⟩),.int .u8 a.toNat,.int .u8 b.toNat] w λen w'=>en= .returned (.int .u8 (eG cs a b).toNat)/\w'=w:=by
 obtain⟨R,d⟩: ∃R,eG cs a b=R:=⟨_,rfl⟩;rw[d];unfold eG at d
 cases h1:bj cs a b with
 |true=>
  rw[if_pos h1]at d;subst d;have m:Hid (bj cs a b=true):=h1;clear h1
  go_in
  go_wp2_with fail;refine(mp bi cs a b _ hI hw hn ha).mono ?_;rw[m.out];rintro en wx ⟨rfl,c⟩;rw[c];clear c wx;go_wp2_with fail;go_ret;exact⟨rfl,rfl⟩
 |false=>
 rw[if_neg (by rw[h1];decide)]at d;have m:Hid (bj cs a b=false):=h1;clear h1
 go_in
 go_wp2_with fail;refine(mp bi cs a b _ hI hw hn ha).mono ?_;rw[m.out];rintro en wx ⟨rfl,c⟩;rw[c];clear c wx;go_wp2_with fail;refine(mp bi cs b a _ hI hw hn hb).mono ?_
 cases h2:bj cs b a with
 |true=>
  rw[if_pos h2]at d;subst d;clear h2;rintro en wx ⟨rfl,c⟩;rw[c];clear c wx;go_wp2_with fail;go_ret;exact⟨rfl,rfl⟩
 |false=>
 rw[if_neg (by rw[h2];decide)]at d;clear h2;rintro en wx ⟨rfl,c⟩;rw[c];clear c wx;go_wp2_with fail;refine(dY a _).mono ?_
 cases hca:isC a with
 |false=>
  rw[if_pos (Or.inl hca)]at d;subst d;clear hca;rintro en wx ⟨rfl,c⟩;rw[c];clear c wx;go_wp2_with fail;go_ret;exact⟨rfl,rfl⟩
 |true=>
 rintro en wx ⟨rfl,c⟩;rw[c];clear c wx;go_wp2_with fail;refine(dY b _).mono ?_
 cases hcb:isC b with
 |false=>
  rw[if_pos (Or.inr hcb)]at d;subst d;clear hcb hca;rintro en wx ⟨rfl,c⟩;rw[c];clear c wx;go_wp2_with fail;go_ret;exact⟨rfl,rfl⟩
 |true=>
 rw[if_neg (by rw[hca,hcb];decide)]at d;rintro en wx ⟨rfl,c⟩;rw[c];clear c wx;have t:=gr.1 ha;have y:=gr.1 hb;have J:=bL.1 hca;have L:=bL.1 hcb;have M:(65:Int)<=(a.toNat:Int):=by omega
 have O:(a.toNat:Int)<=68:=by omega
 have P:(65:Int)<=(b.toNat:Int):=by omega
 have Q:(b.toNat:Int)<=68:=by omega
 have s:(a.toNat:Int)-65<cs.length:=by omega
 have v:(b.toNat:Int)-65<cs.length:=by omega
 obtain⟨g,n,cap,p,d0,k,hc,h,z,A⟩:=hI.par hw (x:=(a.toNat:Int)-65) (by omega) s;rw[h]at d;have r:Hid (ji cs ((b.toNat:Int)-65) 5 p=R):=d;rw[show((a.toNat:Int)-65).toNat=a.toNat-65 from by omega]at hc;clear t y J L hca hcb d h;go_wp2_with fail
 go_loopg [9,10] 5 (λmm xs ks wr=> ∃(xv:Int) (kn:Nat),xs= .int .i64 xv/\ks= .int .i64 kn/\kn<=5/\5<=kn+mm/\kn+mm<=5/\wr=w/\ -1<=xv/\xv<cs.length/\Hid (ji cs ((b.toNat:Int)-65) mm xv=R))
 case atStart=>exact⟨p,0,rfl,rfl,by omega,by omega,by omega,rfl,z,A,r⟩
 case round=>
  obtain⟨xv,kn,rfl,rfl,S,F,G,D,H,E,i⟩:=hrel;subst D;clear d0 hc k
  by_cases hxn:0<=xv
  .cases gk with
   |zero=>
    have e:R=45:=by rw[<-i.out];rfl
    subst e;have j: ¬(kn:Int)<=4:=by omega
    go_wp2_with fail;go_ret;exact⟨rfl,rfl⟩
   |succ f=>
    have j:(kn:Int)<=4:=by omega
    go_wp2_with fail;refine(mo bi cs _ _ _ hI hw (by omega) v).mono ?_
    cases hu:bu cs 5 ((b.toNat:Int)-65) xv with
    |true=>
     have e:R=UInt8.ofNat (65+xv.toNat):=by rw[<-i.out,ji,if_neg (by omega),if_pos hu]
     have l:(R.toNat:Int)=65+xv:=by rw[e,UInt8.toNat_ofNat'];omega
     have q:Hid ((R.toNat:Int)=65+xv):=l;clear hu e l;rintro en wx ⟨rfl,c⟩;rw[c];clear c wx;go_wp2_with fail;go_ret;exact⟨l9 (by rw[q.out]),rfl⟩
    |false=>
     obtain⟨g,n,cap,p',d0,k,hc,h,B,C⟩:=hI.par hw hxn E;have I:Hid (ji cs ((b.toNat:Int)-65) f p'=R):=by show _=_;rw[<-i.out,ji,if_neg (by omega),if_neg (by rw[hu];decide),h]
     clear hu h i;rintro en wx ⟨rfl,c⟩;rw[c];clear c wx;go_wp2_with fail
     go_roundg f
     case measure=>omega
     case rel=>exact⟨p',kn+1,rfl,by simp,by omega,by omega,by omega,rfl,B,C,I⟩
  .have e:R=45:=by
    rw[<-i.out]
    cases gk with
    |zero=>rfl
    |succ f=>rw[ji,if_pos (by omega)]
   subst e
   by_cases j:(kn:Int)<=4
   .go_wp2_with fail;go_ret;exact⟨rfl,rfl⟩
   .go_wp2_with fail;go_ret;exact⟨rfl,rfl⟩
end
section
open Go Go.RowKit Sp
attribute [local go_sem ↓] eY eZ
theorem ii (l:L_) (k:Nat) (h:k<l.length) (h':k<(⟨l.toArray⟩:ByteArray).size):(⟨l.toArray⟩:ByteArray)[k]=l[k]:=rfl
theorem bF (l:L_) (k:Nat) (h:k<l.length):l.getD k 0=l[k]:=by simp[List.getD,h]
theorem ve (bi:Nat) (cs:List Cls) (st wa:L_) (w:World) (hI:iy w bi cs) (hw:WfC cs) (hn:cs.length<=4) (hst: ∀c∈st,okT cs.length c=true) (hl1:st.length<=300000000) (hl2:wa.length<=300000000):
  Calls prog 83 #[.pointer (some ⟨bi,0,none⟩),.string ⟨st.toArray⟩,.string ⟨wa.toArray⟩] w λen w'=>en= .returned (.bool (cF cs st wa))/\B_ w w':=by
 obtain⟨R,g⟩: ∃R,cF cs st wa=R:=⟨_,rfl⟩;rw[g];have f:Hid (cF cs st wa=R):=g;clear g
 by_cases hlen:(st.length:Int)-(wa.length:Int)<0
 .have a:R=false:=by rw[<-f.out];exact uL (by omega)
  subst a
  go_in
  go_wp2_with fail;go_ret;exact⟨rfl,bf _ _⟩
 go_in
 go_wp2_with fail
 go_loopg [8] wa.length (λmm ks wr=> ∃(k:Nat),ks= .int .i64 k/\k<=wa.length/\k+mm<=wa.length/\wa.length<=k+mm/\B_ w wr/\Hid (∀j,j<k->bj cs (st.getD (st.length-wa.length+j) 0) (wa.getD j 0)=true))
 case atStart=>exact⟨0,rfl,by omega,by omega,by omega,bf _ _,λj h=>absurd h (by omega)⟩
 case round=>
  obtain⟨k,rfl,C,D,E,d,s⟩:=hrel
  by_cases hlt:k<wa.length
  .have F:(k:Int)<(wa.length:Int):=by omega
   have y:(0:Int)<=(st.length:Int)-(wa.length:Int)+(k:Int):=by omega
   have z:(st.length:Int)-(wa.length:Int)+(k:Int)<(st.length:Int):=by omega
   have e:st.length-wa.length+k<st.length:=by omega
   have l:=dc ((st.length:Int)-(wa.length:Int)+(k:Int)) (by omega) (by omega);go_wp2_with fail;refine aD (B_ wr) 10 ?_;have b:B_ wr wr.drew:=aA _ _
   iterate 9 (refine aF (v:=?_) rfl b ?_ ?_;rotate_left;(focus (intro wS h;clear h;go_simp;try rfl));dsimp only[Act.put];try simp only[bW])
   clear l;refine au rfl ?_;intro KS hKS;go_simp
   have ha: ∀h,(⟨st.toArray⟩:ByteArray)[((st.length:Int)-(wa.length:Int)+(k:Int)).toNat]'h=st.getD (st.length-wa.length+k) 0:=λh=>by
    have i:((st.length:Int)-(wa.length:Int)+(k:Int)).toNat=st.length-wa.length+k:=by omega
    rw[bF st _ e];simp only[i];exact ii st _ e _
   have t: ∀h,(⟨wa.toArray⟩:ByteArray)[k]'h=wa.getD k 0:=λh=>by
    rw[bF wa _ hlt];exact ii wa _ hlt _
   simp only[ha,t];have r:okT cs.length (st.getD (st.length-wa.length+k) 0)=true:=by rw[bF st _ e];exact hst _ (bD _)
   have p:Hid (∀q,bj cs (st.getD (st.length-wa.length+k) 0) (wa.getD k 0)=q->(q=false->R=false)/\(q=true-> ∀j,j<k+1->bj cs (st.getD (st.length-wa.length+j) 0) (wa.getD j 0)=true)):=λq hq=>by
    refine⟨λh=>by subst h;rw[<-f.out];exact AZ hlt hq,λh j hj=> ?_⟩;obtain h'|h':=gC j k
    .exact s.out j h'
    .have:j=k:=by omega
     subst this;rw[hq,h]
   clear ha t e;generalize st.getD (st.length-wa.length+k) 0=A at*;generalize wa.getD k 0=B at*;refine(mp bi cs A B _ ((hI.but d).but b) hw hn r).mono ?_;rintro en wx ⟨rfl,m⟩;rw[m];clear m wx;refine hKS.out _ _ (λ_=>b) ?_;clear hKS KS;refine au rfl ?_;intro KS hKS;go_simp;refine hKS.out _ _ nofun ?_;clear hKS KS;refine aI rfl ?_;have n:=p.out _ rfl
   cases hq:bj cs A B with
   |false=>
    have a:R=false:=n.1 hq;subst a;clear n hq;go_wp2_with fail;go_ret;exact⟨rfl,d.trans b⟩
   |true=>
    have x:Hid (∀j,j<k+1->bj cs (st.getD (st.length-wa.length+j) 0) (wa.getD j 0)=true):=n.2 hq;clear n hq;go_wp2_with fail
    go_roundg (wa.length-(k+1))
    case measure=>omega
    case rel=>exact⟨k+1,by simp,by omega,by omega,by omega,d.trans b,x⟩
  .have a:R=true:=by rw[<-f.out];exact oN (by omega) (λj hj=>s.out j (by omega))
   subst a;go_wp2_with fail;go_ret;exact⟨rfl,d⟩
theorem vg (bi:Nat) (cs:List Cls) (a b:L_) (w:World) (hI:iy w bi cs) (hw:WfC cs) (hn:cs.length<=4) (ha: ∀c∈a,okT cs.length c=true) (hb: ∀c∈b,okT cs.length c=true) (hl:a.length=b.length) (hl1:a.length<=100000):
  Calls prog 244 #[.pointer (some ⟨bi,0,none⟩),.string ⟨a.toArray⟩,.string ⟨b.toArray⟩] w λen w'=>en= .returned (.string ⟨(e9 cs a b).toArray⟩)/\B_ w w':=by
 obtain⟨R,g⟩: ∃R,e9 cs a b=R:=⟨_,rfl⟩;rw[g];have m:Hid (e9 cs a b=R):=g;have x:Hid (a.length=b.length):=hl;have H:a.length<=b.length:=by omega
 clear g hl
 go_in
 go_wp2_with fail
 go_loopg [7,8] a.length (λmm ts ks wr=> ∃(k:Nat) (t:L_),ts= .string ⟨t.toArray⟩/\t.length<=k/\ks= .int .i64 k/\k<=a.length/\k+mm<=a.length/\a.length<=k+mm/\B_ w wr/\Hid (e9 cs (a.take k) (b.take k)=t))
 case atStart=>exact⟨0,[],rfl,by simp,rfl,by omega,by omega,by omega,bf _ _,rfl⟩
 case round=>
  obtain⟨k,t,rfl,L,rfl,D,E,F,f,q⟩:=hrel
  by_cases hlt:k<a.length
  .have G:(k:Int)<(a.length:Int):=by omega
   have d:k<b.length:=by omega
   have p:(k:Int)<(b.length:Int):=by omega
   go_wp2_with fail;refine aD (B_ wr) 8 ?_;have e:B_ wr wr.drew:=aA _ _
   iterate 7 (refine aF (v:=?_) rfl e ?_ ?_;rotate_left;(focus (intro wS h;clear h;go_simp;try rfl));dsimp only[Act.put];try simp only[bW])
   refine au rfl ?_;intro KS hKS;go_simp
   have r: ∀h,(⟨a.toArray⟩:ByteArray)[k]'h=a.getD k 0:=λh=>by
    rw[bF a _ hlt];exact ii a _ hlt _
   have s: ∀h,(⟨b.toArray⟩:ByteArray)[k]'h=b.getD k 0:=λh=>by
    rw[bF b _ d];exact ii b _ d _
   simp only[r,s];have y:okT cs.length (a.getD k 0)=true:=by rw[bF a _ hlt];exact ha _ (bD _)
   have z:okT cs.length (b.getD k 0)=true:=by rw[bF b _ d];exact hb _ (bD _)
   have l:Hid (e9 cs (a.take (k+1)) (b.take (k+1))=t++ [eG cs (a.getD k 0) (b.getD k 0)]):=by
    show _=_
    rw[wN hlt d,q.out]
   clear r s d p;generalize a.getD k 0=A at*;generalize b.getD k 0=B at*;refine(vd bi cs A B _ ((hI.but f).but e) hw hn y z).mono ?_;rintro en wx ⟨rfl,j⟩;rw[j];clear j wx;refine hKS.out _ _ (λ_=>e) ?_;clear hKS KS;refine au rfl ?_;intro KS hKS;go_simp;refine hKS.out _ _ nofun ?_;clear hKS KS;refine aI rfl ?_;generalize eG cs A B=J at*;have C:=qf J;have I:(⟨t.toArray⟩:ByteArray).size+(⟨#[J]⟩:ByteArray).size<=200000:=by show t.toArray.size+1<=200000;simp;omega
   have n:B_ w wr.drew:=f.trans e;generalize wr.drew=wd at*;go_wp2_with fail
   go_roundg (a.length-(k+1))
   case measure=>omega
   case rel=>exact⟨k+1,t++ [J],congrArg Value.string (fp _ _),by simp;omega,by simp,by omega,by omega,by omega,n.trans (aa _ _ _),l⟩
  .have i:t=R:=by
    rw[<-m.out,<-q.out,fd (by omega),fd (by have:=x.out;omega)]
   subst i;go_wp2_with fail;go_ret;exact⟨rfl,f⟩
theorem sA (x:Ins) (st:L_) (w:World) (hl1:st.length<=300000000):
  Calls prog 135 #[.agg #[.int .u8 x.op.toNat,.int .i64 x.a,.int .i64 x.b,.int .i64 x.pos],.string ⟨st.toArray⟩] w λen w'=>en= .returned (.int .i64 (qr (cY x.op.toNat st)))/\B_ w w':=by
 obtain⟨R,c⟩: ∃R,cY x.op.toNat st=R:=⟨_,rfl⟩;rw[c];unfold cY at c
 by_cases h101:x.op.toNat=101
 .rw[if_pos h101]at c;have t1:((x.op.toNat:Int)==101)=true:=by rw[aX];omega
  clear h101
  by_cases h2:(st.length:Int)<2
  .rw[if_pos (Or.inl (by omega))]at c;subst c
   go_in
   go_wp2_with fail;go_ret;exact⟨rfl,aa _ _ _⟩
  .have e:st.length-1<st.length:=by omega
   have f:st.length-2<st.length:=by omega
   have n: ∀h,(⟨st.toArray⟩:ByteArray)[st.length-1]'h=st.getD (st.length-1) 0:=λh=>by rw[bF st _ e];exact ii st _ e _
   have p: ∀h,(⟨st.toArray⟩:ByteArray)[st.length-2]'h=st.getD (st.length-2) 0:=λh=>by rw[bF st _ f];exact ii st _ f _
   rw[bF st _ e,bF st _ f]at c;obtain⟨P,g⟩: ∃P,st[st.length-1]'e=P:=⟨_,rfl⟩;obtain⟨Q,k⟩: ∃Q,st[st.length-2]'f=Q:=⟨_,rfl⟩;rw[g,k]at c;have j:Hid (st[st.length-1]'e=P):=g;have m:Hid (st[st.length-2]'f=Q):=k;have l: ¬st.length<2:=by omega
   clear g k;have k1: ∀h,(⟨st.toArray⟩:ByteArray)[st.length-1]'h=P:=λh=>(ii st _ e _).trans j.out
   have k2: ∀h,(⟨st.toArray⟩:ByteArray)[st.length-2]'h=Q:=λh=>(ii st _ f _).trans m.out
   clear n p
   go_in
   go_wp2_with fail;refine(iE P _).mono ?_
   cases hp:isR P with
   |false=>
    rw[if_pos (Or.inr (Or.inl hp))]at c;subst c;rintro en wx ⟨rfl,d⟩;rw[d];clear d wx hp;go_wp2_with fail;go_ret;exact⟨rfl,aa _ _ _⟩
   |true=>
    rintro en wx ⟨rfl,d⟩;rw[d];clear d wx;go_wp2_with fail;refine(iE Q _).mono ?_
    cases hq:isR Q with
    |false=>
     rw[if_pos (Or.inr (Or.inr hq))]at c;subst c;rintro en wx ⟨rfl,d⟩;rw[d];clear d wx hp hq;go_wp2_with fail;go_ret;exact⟨rfl,aa _ _ _⟩
    |true=>
     rw[if_neg (by rw[hp,hq];simp;omega)]at c;subst c;rintro en wx ⟨rfl,d⟩;rw[d];clear d wx hp hq;go_wp2_with fail;go_ret;exact⟨rfl,aa _ _ _⟩
 .rw[if_neg h101]at c;have t1:=tf x.op.toNat 101 (by omega);clear h101
  by_cases h1:(st.length:Int)<1
  .rw[if_pos (Or.inl (by omega))]at c;subst c
   go_in
   go_wp2_with fail;go_ret;exact⟨rfl,aa _ _ _⟩
  .have e:st.length-1<st.length:=by omega
   by_cases h120:x.op.toNat=120
   .have t2:((x.op.toNat:Int)==120)=true:=by rw[aX];omega
    rw[bF st _ e]at c;obtain⟨P,g⟩: ∃P,st[st.length-1]'e=P:=⟨_,rfl⟩;rw[g]at c;have j:Hid (st[st.length-1]'e=P):=g;clear g;have k1: ∀h,(⟨st.toArray⟩:ByteArray)[st.length-1]'h=P:=λh=>(ii st _ e _).trans j.out
    have i:Hid (x.op.toNat=120):=h120;clear h120
    go_in
    go_wp2_with fail;refine(iE P _).mono ?_
    cases hp:isR P with
    |false=>
     rw[if_pos (Or.inr ⟨i.out,hp⟩)]at c;subst c;rintro en wx ⟨rfl,d⟩;rw[d];clear d wx hp;go_wp2_with fail;go_ret;exact⟨rfl,aa _ _ _⟩
    |true=>
     rw[if_neg (λh=>by
      obtain h| ⟨_,h⟩:=h
      .omega
      .rw[hp]at h;cases h)]at c
     subst c;rintro en wx ⟨rfl,d⟩;rw[d];clear d wx hp;go_wp2_with fail;go_ret;exact⟨rfl,aa _ _ _⟩
   .have t2:=tf x.op.toNat 120 (by omega);rw[if_neg (by omega)]at c;subst c;clear h120
    go_in
    go_wp2_with fail;go_ret;exact⟨rfl,aa _ _ _⟩
theorem tC (a:Int) (c:UInt8) (ha:a=c.toNat) (w:World):(convert 112 9 (.slice (some ⟨w.heap.size,0,none⟩) 1 1)).run prog (w.alloc (.cells #[.int .u8 a] 5))= .ok (.string ⟨#[c]⟩) (w.alloc (.cells #[.int .u8 a] 5)):=by
 subst ha;exact qf c w
theorem Bh (a:Int) (c:UInt8) (ha:a=c.toNat) (w:World):(convert 112 9 (.slice (some ⟨w.heap.size,0,none⟩) 1 1)).run prog (w.alloc (.cells #[.int .u8 a] 5)).drew= .ok (.string ⟨#[c]⟩) (w.alloc (.cells #[.int .u8 a] 5)).drew:=tC a c ha w.drew
theorem tD (a d:Int) (c e:UInt8) (ha:a=c.toNat) (hd:d=e.toNat) (w:World):(convert 112 9 (.slice (some ⟨w.heap.size,0,none⟩) 2 2)).run prog (w.alloc (.cells #[.int .u8 a,.int .u8 d] 5)).drew= .ok (.string ⟨#[c,e]⟩) (w.alloc (.cells #[.int .u8 a,.int .u8 d] 5)).drew:=xd a d c e ha hd w.drew
theorem jL {a:Nat} (h:a<4):(65+(a:Int))=((bQ a).toNat:Int):=by
 unfold bQ;rw[UInt8.toNat_ofNat'];omega
def ym (w:World) (bi:Nat) (gs:List Sig):Prop:=
 ∃v0 v1 v2,ImB w bi v0 v1 v2/\w.ownsRow 0 129 2 v1 gs.length (dj gs)
theorem cH.sig {w:World} {bi:Nat} {im:Img} (h:cH w bi im):ym w bi im.zx:=by
 obtain⟨v0,v1,v2,l,b,_,a,_⟩:=h;exact⟨v0,v1,v2,b,a⟩
theorem ym.at {w:World} {bi:Nat} {gs:List Sig} (h:ym w bi gs) {k:Nat} (hk:k<gs.length):
  ∃(g n cap:Nat),w.cell? ⟨bi,1,none⟩=some (.slice (some ⟨g,0,none⟩) n cap)/\(k:Int)<(n:Int)/\w.cell? ⟨g,k*2,none⟩=some (.int .u8 (fU gs k).toNat)/\w.cell? ⟨g,k*2+1,none⟩=some (.int .u8 (fq gs k).toNat)/\bi<w.heap.size/\g<w.heap.size:=by
 obtain⟨v0,v1,v2,d,e⟩:=h;obtain⟨a0,cap0,rfl⟩:=ay e;have b:=aG hk;obtain⟨g,rfl,c,f,a⟩:=aE e (by omega);refine⟨g,gs.length,cap0,d.c1,by omega,?_,?_,d.lt,c⟩
 .rw[show fU gs k=gs[k].arg from by simp[fU,b]];exact a _ _ (kM b)
 .rw[show fq gs k=gs[k].ret from by simp[fq,b]];exact a _ _ (tg b)
theorem iy.flds {w:World} {bi:Nat} {cs:List Cls} (h:iy w bi cs) {k j:Nat} (hk:k<cs.length) (hj:j<bB cs k):
  ∃(g n cap:Nat) (fl:L_),w.cell? ⟨bi,0,none⟩=some (.slice (some ⟨g,0,none⟩) n cap)/\(k:Int)<(n:Int)/\w.cell? ⟨g,k*2+1,none⟩=some (.string ⟨fl.toArray⟩)/\j<fl.length/\fl.getD j 0=cj cs k j/\bi<w.heap.size/\g<w.heap.size:=by
 obtain⟨v0,v1,v2,d,e⟩:=h;obtain⟨a0,cap0,rfl⟩:=ay e;have b:=aG hk;obtain⟨g,rfl,c,f,a⟩:=aE e (by omega);refine⟨g,cs.length,cap0,cs[k].fields,d.c0,by omega,a _ _ (ic b),?_,?_,d.lt,c⟩
 .simpa[bB,b]using hj
 .simp[cj,b]
theorem Bi (bi:Nat) (im:Img) (bd:Bod) (ak:Option Addr) (n capk:Nat) (x:Ins) (w:World) (hI:cH w bi im) (hW:WfI im) (hbd:WfB im.zq im.zx bd) (hx:WfX im.zq im.zx.length bd.zy.length x) (hdummy:True):
  Calls prog 137 #[.pointer (some ⟨bi,0,none⟩),.agg #[.int .i64 bd.cls,.int .i64 bd.meth,.string ⟨bd.zy.toArray⟩,.slice ak n capk,S_],.agg #[.int .u8 x.op.toNat,.int .i64 x.a,.int .i64 x.b,.int .i64 x.pos]] w λen w'=>en= .returned (.string ⟨(bE im.zq im.zx bd x).toArray⟩)/\B_ w w':=by
 have e:=hx.op;simp[cE]at e;have T:=hW.nc;obtain⟨W,j⟩: ∃W,(w.alloc (.cells #[.int .i64 bd.cls,.int .i64 bd.meth,.string ⟨bd.zy.toArray⟩,.slice ak n capk,S_] 52)).alloc (.cells #[.int .u8 x.op.toNat,.int .i64 x.a,.int .i64 x.b,.int .i64 x.pos] 144)=W:=⟨_,rfl⟩;have i:B_ w W:=by rw[<-j];exact(aa _ _ _).trans (aa _ _ _)
 have t:W.heap[w.heap.size+1]?=some (.cells #[.int .u8 x.op.toNat,.int .i64 x.a,.int .i64 x.b,.int .i64 x.pos] 144):=by rw[<-j];exact aB (by simp) _
 have y:W.heap[w.heap.size]?=some (.cells #[.int .i64 bd.cls,.int .i64 bd.meth,.string ⟨bd.zy.toArray⟩,.slice ak n capk,S_] 52):=by rw[<-j];exact((aa (λ_=>False) _ _).block w.heap.size (by simp) (λh=>h)).trans (aO w _)
 have l:W.heap.size=w.heap.size+2:=by rw[<-j];simp
 have I:=cz W _ 1 _ _ (0,0) t;have J:=cz W _ 2 _ _ (0,0) t;have B:=cz W _ 1 _ _ (0,0) y;simp at I J B;have lI:=ae t;have lB:=ae y;have p:=hI.but i;have d:=hid j;have q:B_ W W.drew:=aA _ _;clear j t y;have f: ∀a:Nat,a<4->(65+(a:Int))=((bQ a).toNat:Int):=λa h=>jL h
 by_cases h112:x.op.toNat=112
 .have A:=hx.cls (by omega);obtain⟨g,m,cap,fl,d0,hm,hc,G,F,lbi,lg⟩:=p.cls.flds A (hx.fld (by omega));rw[show bE im.zq im.zx bd x=[bQ x.a,cj im.zq x.a x.b]from by simp[bE,h112,arith],h112,<-F];rw[h112,show((112:Nat):Int)=112 from rfl]at d;have S:(x.b:Int)<(fl.length:Int):=by omega
  have M:=dc (65+(x.a:Int)) (by omega) (by omega);have H:=IntWalk.u8_in (65+(x.a:Int)) (by omega);have s:=tD (65+(x.a:Int)) ((fl.getD x.b 0).toNat:Int) (bQ x.a) (fl.getD x.b 0) (f _ (by omega)) rfl;have L: ∀h,(⟨fl.toArray⟩:ByteArray)[x.b]'h=fl.getD x.b 0:=λh=>by rw[bF fl _ G];exact ii fl _ G _
  generalize fl.getD x.b 0=E at*;generalize bQ x.a=C at*;clear f e h112 F l
  go_in
  go_wp2_with fail;rw[d.out];refine aD (B_ W) 18 ?_
  iterate 16 (refine aF (v:=?_) rfl q ?_ ?_;rotate_left;(focus (intro wS h;have O:=(h.kc I lI);have P:=(h.kc J lI);have Q:=(h.kc d0 lbi);have Y:=(h.kc hc lg);clear h;go_simp;try rfl));dsimp only[Act.put];try simp only[bW])
  refine au rfl ?_;intro KS hKS;simp only[L];go_simp;refine hKS.out _ _ (λ_=>(aa _ _ _).trans (aA _ _)) ?_;clear hKS KS;refine au rfl ?_;intro KS hKS;go_simp;refine hKS.out _ _ (λ_=>(aa _ _ _).trans (aA _ _)) ?_;clear hKS KS;refine au rfl ?_;intro KS hKS;go_simp;refine hKS.out _ _ nofun ?_;clear hKS KS;refine aI rfl ?_;go_wp2_with fail;go_ret;exact⟨rfl,i.trans ((aa _ _ _).trans (aA _ _))⟩
 by_cases h99:x.op.toNat=99
 .have A:=hx.cls (by omega);obtain⟨g,m,cap,d1,hm,hc,D,lbi,lg⟩:=p.sig.at (hx.sig h99);rw[show bE im.zq im.zx bd x=[bQ x.a,fU im.zx x.b]from by simp[bE,h99,arith],h99];rw[h99,show((99:Nat):Int)=99 from rfl]at d;have M:=dc (65+(x.a:Int)) (by omega) (by omega);have H:=IntWalk.u8_in (65+(x.a:Int)) (by omega);have s:=tD (65+(x.a:Int)) ((fU im.zx x.b).toNat:Int) (bQ x.a) (fU im.zx x.b) (f _ (by omega)) rfl;generalize fU im.zx x.b=E at*;generalize bQ x.a=C at*;clear f e h112 h99 l
  go_in
  go_wp2_with fail;rw[d.out];refine aD (B_ W) 15 ?_
  iterate 13 (refine aF (v:=?_) rfl q ?_ ?_;rotate_left;(focus (intro wS h;have O:=(h.kc I lI);have P:=(h.kc J lI);have Q:=(h.kc d1 lbi);have Y:=(h.kc hc lg);clear h;go_simp;try rfl));dsimp only[Act.put];try simp only[bW])
  refine au rfl ?_;intro KS hKS;go_simp;refine hKS.out _ _ (λ_=>(aa _ _ _).trans (aA _ _)) ?_;clear hKS KS;refine au rfl ?_;intro KS hKS;go_simp;refine hKS.out _ _ (λ_=>(aa _ _ _).trans (aA _ _)) ?_;clear hKS KS;refine au rfl ?_;intro KS hKS;go_simp;refine hKS.out _ _ nofun ?_;clear hKS KS;refine aI rfl ?_;go_wp2_with fail;go_ret;exact⟨rfl,i.trans ((aa _ _ _).trans (aA _ _))⟩
 by_cases c:x.op.toNat=116/\ ¬bd.cls<0
 .obtain⟨c,r⟩:=c;obtain⟨mn,z⟩: ∃mn:Nat,bd.meth=mn:=⟨bd.meth.toNat,by rcases hbd.cls with h|h<;>omega⟩;obtain⟨g,m,cap,d1,hm,hc,D,lbi,lg⟩:=p.sig.at (k:=mn) (by rcases hbd.cls with h|h<;>omega);rw[show bE im.zq im.zx bd x=[fq im.zx mn]from by simp[bE,c,arith,r,z],c];rw[c,show((116:Nat):Int)=116 from rfl]at d;rw[z]at B;have s:=Bh ((fq im.zx mn).toNat:Int) (fq im.zx mn) rfl;generalize fq im.zx mn=E at*;clear f e h112 h99 c z l
  go_in
  go_wp2_with fail;rw[d.out];refine aD (B_ W) 11 ?_
  iterate 9 (refine aF (v:=?_) rfl q ?_ ?_;rotate_left;(focus (intro wS h;have O:=(h.kc B lB);have P:=(h.kc d1 lbi);have Q:=(h.kc D lg);clear h;go_simp;try rfl));dsimp only[Act.put];try simp only[bW])
  refine au rfl ?_;intro KS hKS;go_simp;refine hKS.out _ _ (λ_=>(aa _ _ _).trans (aA _ _)) ?_;clear hKS KS;refine au rfl ?_;intro KS hKS;go_simp;refine hKS.out _ _ (λ_=>(aa _ _ _).trans (aA _ _)) ?_;clear hKS KS;refine au rfl ?_;intro KS hKS;go_simp;refine hKS.out _ _ nofun ?_;clear hKS KS;refine aI rfl ?_;go_wp2_with fail;go_ret;exact⟨rfl,i.trans ((aa _ _ _).trans (aA _ _))⟩
 by_cases h103:x.op.toNat=103
 .have A:=hx.cls (by omega);rw[show bE im.zq im.zx bd x=[bQ x.a]from by simp[bE,h103,arith],h103];rw[h103,show((103:Nat):Int)=103 from rfl]at d;have s:=tC (65+(x.a:Int)) (bQ x.a) (f _ (by omega)) W;rw[l,<-d.out]at s;have X:(x.a:Int)<4:=by omega
  generalize bQ x.a=C at*;clear f e h112 h99 c h103 l d p hI hx i I J B lI lB q
  go_in
  go_wp2_with fail;go_ret;exact⟨rfl,((aa _ _ _).trans (aa _ _ _)).trans (aa _ _ _)⟩
 simp only[h112,h99,h103,or_false,false_or]at e;clear l d p hI i I J B lI lB q f
 by_cases r:bd.cls<0
 all_goals
  simp only[r,not_false_eq_true,not_true_eq_false,and_true,and_false]at c
 .obtain h'|h'|h'|h'|h'|h'|h'|h'|h'|h'|h'|h'|h'|h'|h'|h'|h'|h'|h':=e
  all_goals
   rw[show bE im.zq im.zx bd x=_ from by simp only[bE,arith,h',r];rfl,h'];clear h112 h99 h103 h' hx
   go_in
   go_wp2_with fail;go_ret;exact⟨rfl,(aa _ _ _).trans (aa _ _ _)⟩
 .simp only[c,or_false]at e;obtain h'|h'|h'|h'|h'|h'|h'|h'|h'|h'|h'|h'|h'|h'|h'|h'|h'|h':=e
  all_goals
   rw[show bE im.zq im.zx bd x=_ from by simp only[bE,arith,h'];rfl,h'];clear h112 h99 h103 c h' hx
   go_in
   go_wp2_with fail;go_ret;exact⟨rfl,(aa _ _ _).trans (aa _ _ _)⟩
end
end Go.Proofs.YtpfkkmacakjmbaaGreatDoor
