import Derived.Test.YtpfkkmacakjmbaaGreatDoorP19
set_option maxRecDepth 100000
set_option maxHeartbeats 6400000
set_option linter.all false
namespace Go.Proofs.YtpfkkmacakjmbaaGreatDoor
open Proofs.Tryz
section
open Go Go.RowKit Sp
theorem Ap: ∀{its:List XIt} {is:List Ins} {p:XIt->Bool} {q:Ins->Bool},its.length=is.length->(∀(k:Nat) x y,its[k]?=some x->is[k]?=some y->p x=q y/\x.place=y.pos)->(its.find? p).map (·.place)=(is.find? q).map (·.pos):=by
 intro its
 induction its with
 |nil=>intro is p q hl _;cases is with|nil=>rfl|cons y is=>simp at hl
 |cons x its ih=>
  intro is p q hl h
  cases is with
  |nil=>simp at hl
  |cons y is=>
   obtain⟨c,d⟩:=h 0 x y rfl rfl;rw[List.find?_cons,List.find?_cons,c]
   cases q y with
   |true=>simp[d]
   |false=>exact ih (by simpa using hl) (λk a b ha hb=>h (k+1) a b (by simpa using ha) (by simpa using hb))
theorem rE {α β γ:Type}: ∀{bs:List α} {BS:List β} {f:α->Option γ} {g:β->Option γ},bs.length=BS.length->(∀(k:Nat) x y,bs[k]?=some x->BS[k]?=some y->f x=g y)->bs.findSome? f=BS.findSome? g:=by
 intro bs
 induction bs with
 |nil=>intro BS f g hl _;cases BS with|nil=>rfl|cons y BS=>simp at hl
 |cons x bs ih=>
  intro BS f g hl h
  cases BS with
  |nil=>simp at hl
  |cons y BS=>
   rw[List.findSome?_cons,List.findSome?_cons,h 0 x y rfl rfl,ih (by simpa using hl) (λk a b ha hb=>h (k+1) a b (by simpa using ha) (by simpa using hb))]
theorem pm {cs:List bP} {xs ys:List bK} (h:xs.map lw=ys.map lw) (m:Nat): ∀(f:Nat) (c:UInt8),gM cs xs m f c=gM cs ys m f c:=by
 intro f
 induction f with
 |zero=>intro c;rfl
 |succ f ih=>
  intro c;simp only[gM,oN h,qq h,ih]
theorem yM {cs:List Cls} {gs:List Sig} {b:Bod} (h:lE cs gs b) (hn:cs.length<=4):(b.cls= -1)\/hU b:=by
 obtain⟨a,_⟩ | ⟨a,d,c,e⟩:=h.cls
 .exact Or.inl a
 .exact Or.inr ⟨a,by omega,c⟩
theorem xG (y:Ins):(bQ y).place=y.pos:=by unfold bQ;split<;>rfl
theorem FM {cs:List Cls} {gs:List Sig} {BS:List Bod} {bs:List bK} {y:Ins} {x:XIt} {nl n n':Nat} (hw:WfC cs) (hn:cs.length<=4) (hB: ∀b∈BS,(b.cls= -1)\/hU b) (hy:WfN cs gs.length nl y) (hh:bs.map lw=(BS.map (aR gs)).map lw)
  (h1:x.op=(bQ y).op) (h2:x.cls=(bQ y).cls) (h3:x.num=(bQ y).num):gO (cs.map toX) bs n x=lB cs BS n' y:=by
 have f:=hy.op;have e: ∀v:Nat,dm.contains v=false->y.op.toNat≠v:=λv hv h=>by rw[h,hv]at f;cases f
 have d:=e 106 (by decide);have c:=e 102 (by decide);unfold gO lB;rw[h1,h2,h3]
 by_cases hd:aY y.op=true
 .have m:=lF hd;have g:bQ y=⟨y.pos,107,45,y.b,none,0,0⟩:=by unfold bQ;rw[if_pos hd]
  rw[g];have i: ¬y.op.toNat=99:=by omega
  simp[d,c,i]
 .have g:bQ y=aJ y:=by unfold bQ;rw[if_neg hd]
  rw[g];have j:(aJ y).op=y.op:=rfl;have k:(aJ y).num=y.b:=rfl;rw[j,k,if_neg (by omega)]
  by_cases h9:y.op.toNat=99
  .rw[if_pos h9];have ha:=hy.cls (by omega)
   have l:(aJ y).cls=UInt8.ofNat (65+y.a):=by
    unfold aJ;rw[if_pos (by omega)]
   rw[l,bZ,pm hh,jK hw hn hB y.b cs.length 5 y.a ha ha (by omega)];simp[h9]
  .rw[if_neg h9];simp[h9,d,c]
theorem qM (b:Nat) (im:Img) (w:World) (hW:iQ im) (hT:eS w b im):
  Calls prog 104 #[.pointer (some ⟨b,0,none⟩)] w λe w'=>e= .returned (.int .i64 (mW (im.zj.findSome? (λb=>unl im.zq im.zj b.code))))/\B_ w w':=by
 obtain⟨bs,g,a⟩:=hT.bod
 have c:(bs.findSome? λx=>nR (im.zq.map toX) bs x.items)=im.zj.findSome? (λb=>unl im.zq im.zj b.code):=by
  refine rE a.1 (λk X B hX hB=> ?_);have f:=a.2 k X B hX hB;have h:=hW.bod B (a9 hB);unfold nR unl;refine Ap f.its.len (λq x y hx hy=> ?_);obtain⟨j,l,m,n,_⟩:=f.its.at' q y x hy hx;exact⟨FM hW.cls hW.nc (λb hb=>yM (hW.bod b hb) hW.nc) (h.code y (a9 hy)) a.heads l m n,by rw[j,xG]⟩
 rw[<-c];refine li b (im.zq.map toX) bs w (by rw[bZ];have:=hW.nc;omega) (by rw[a.1];have:=hW.nb;omega) ?_ hT.cls g;intro x hx;obtain⟨k,i,rfl⟩:=List.getElem_of_mem hx;have d:k<im.zj.length:=by rw[<-a.1];exact i
 have f:=a.2 k _ _ (aM i) (aM d);have:=(hW.bod _ (cS d)).len;rw[f.its.len];omega
theorem Dv: ∀{t:List Ins} {m:Nat},full m t-> ∀i,i<t.length-> ∃m',full (m'+1) (t.drop i):=by
 intro t
 induction t with
 |nil=>intro m _ i h;simp at h
 |cons x t ih=>
  intro m h i hi
  cases m with
  |zero=>cases h
  |succ m=>
   cases i with
   |zero=>exact⟨m,h⟩
   |succ i=>exact ih (m:=m+ay x.op) h i (by simpa using hi)
theorem B3 {t:List Ins}: ∀{j m k:Nat},full (m+j) (t.drop k)->(cy t j k).length=j:=by
 intro j
 induction j with
 |zero=>intro m k _;rfl
 |succ j ih=>
  intro m k h;have b:=uO (m:=m+j) (by rw[show m+j+1=m+(j+1)from by omega];exact h);rw[List.length_drop]at b;have a:=zE (u:=t.drop k) (m:=m+j) (by rw[show 1+(m+j)=m+(j+1)from by omega];exact h);rw[List.drop_drop]at a;simp only[cy,show k<t.length from by omega,if_true,ie];rw[ih (m:=m) (k:=bk t k) a]
theorem vB {t:List Ins} (hf:full 1 t) {i:Nat} {x:Ins} (hx:t[i]?=some x):(eu t i).length=ay x.op:=by
 obtain⟨hl,b⟩:=bn hx;obtain⟨m,hm⟩:=Dv hf i hl;rw[List.drop_eq_getElem_cons hl,b]at hm;have a:full (m+ay x.op) (t.drop (i+1)):=hm;unfold eu;rw[hx];exact B3 a
theorem B4 {t:List Ins}: ∀{j k:Nat},∀q∈cy t j k,k<=q/\q<t.length:=by
 intro j
 induction j with
 |zero=>intro k q h;simp[cy]at h
 |succ j ih=>
  intro k q h;unfold cy at h
  split at h
  .rename_i hk
   obtain rfl|h:=List.mem_cons.1 h
   .exact⟨bG _,hk⟩
   .have a:=ih q h;have b:=pO hk;exact⟨by omega,a.2⟩
  .simp at h
theorem jq {t:List Ins} {i q:Nat} (h:q∈eu t i):i<q/\q<t.length:=by
 unfold eu at h
 split at h
 .have:=B4 q h;exact⟨by omega,this.2⟩
 .simp at h
section
variable {cs:List Cls} {gs:List Sig} {lo:L_} {t:List Ins}
theorem pq {f g:Nat->Option UInt8}: ∀{n k:Nat},(∀q,k<=q->q<t.length->f q=g q)->(∀q,t.length<=q->f q=none/\g q=none)->bO t f n k=bO t g n k:=by
 intro n
 induction n with
 |zero=>intro k _ _;rfl
 |succ n ih=>
  intro k b a;unfold bO;obtain hk|hk:=ju k t.length
  .rw[b k (bG _) hk,ih (λq hq=>b q (by have:=pO hk;omega)) a]
  .rw[(a k hk).1,(a k hk).2]
theorem fp {F q:Nat} (h:t.length<=q):cA cs gs lo t F q=none:=by
 cases F with
 |zero=>rfl
 |succ F=>simp[cA,List.getElem?_eq_none h]
theorem Aq: ∀{F G k:Nat},t.length-k<=F->t.length-k<=G->cA cs gs lo t F k=cA cs gs lo t G k:=by
 intro F
 induction F with
 |zero=>intro G k a _;rw[fp (by omega),fp (by omega)]
 |succ F ih=>
  intro G k a b
  cases G with
  |zero=>rw[fp (by omega),fp (by omega)]
  |succ G=>
   have hp: ∀n,bO t (cA cs gs lo t F) n (k+1)=bO t (cA cs gs lo t G) n (k+1):=λn=>
    pq (λq hq hl=>ih (by omega) (by omega)) (λq hq=>⟨fp hq,fp hq⟩)
   simp only[cA,hp]
theorem sq {k:Nat} {x:Ins} (hx:t[k]?=some x):cA cs gs lo t t.length k=match bO t (cA cs gs lo t t.length) (ay x.op) (k+1)with
  |none=>none
  |some ts=>ba cs gs lo x ts:=by
 have hl:=(bn hx).1;obtain⟨n,hn⟩: ∃n,t.length=n+1:=⟨t.length-1,by omega⟩;have a:cA cs gs lo t t.length k=cA cs gs lo t (n+1) k:=by rw[hn]
 rw[a]
 have hp:bO t (cA cs gs lo t n) (ay x.op) (k+1)=bO t (cA cs gs lo t t.length) (ay x.op) (k+1):=
  pq (λq hq hl=>Aq (by omega) (by omega)) (λq hq=>⟨fp hq,fp hq⟩)
 simp only[cA,hx,hp]
 cases bO t (cA cs gs lo t t.length) (ay x.op) (k+1)<;>rfl
theorem xH {ty:Nat->UInt8}: ∀{n k:Nat},(cy t n k).length=n->(∀q∈cy t n k,cA cs gs lo t t.length q=some (ty q))->bO t (cA cs gs lo t t.length) n k=some ((cy t n k).map ty):=by
 intro n
 induction n with
 |zero=>intro k _ _;rfl
 |succ n ih=>
  intro k hl h;unfold cy at hl h⊢
  split at hl
  .rename_i hk
   rw[if_pos hk]at h⊢;unfold bO;rw[h k (by simp),ih (by simpa using hl) (λq hq=>h q (by simp[hq]))]
   rfl
  .simp at hl
theorem Dw: ∀{F k:Nat},t.length-k<=F->cA cs gs lo t t.length k≠none-> ∀j,k<=j->j<bk t k->cA cs gs lo t t.length j≠none:=by
 intro F
 induction F with
 |zero=>intro k g h j _ _;exact absurd (fp (by omega)) h
 |succ F ih=>
  intro k g h j d e;obtain rfl|d:=Nat.eq_or_lt_of_le d
  .exact h
  .have hl:k<t.length:=by
    obtain hl|hl:=ju k t.length
    .exact hl
    .exact absurd (fp hl) h
   have hx:=aM hl;rw[sq hx]at h;rw[mx hx]at e
   have hp: ∀n p,k<p->bO t (cA cs gs lo t t.length) n p≠none-> ∀j,p<=j->j<p+sk n (t.drop p)->cA cs gs lo t t.length j≠none:=by
    intro n
    induction n with
    |zero=>intro p _ _ j a1 c;rw[pJ]at c;omega
    |succ n ihn=>
     intro p i b j a1 c;rw[ox]at c;have f:cA cs gs lo t t.length p≠none:=λa=>b (by simp[bO,a])
     obtain hj|hj:=ju j (bk t p)
     .exact ih (k:=p) (by omega) f j a1 hj
     .refine ihn (bk t p) ?_ ?_ j hj c
      .have:p<t.length:=by
        obtain hl|hl:=ju p t.length
        .exact hl
        .exact absurd (fp hl) f
       have:=pO this;omega
      .intro a
       apply b
       unfold bO
       cases cA cs gs lo t t.length p<;>simp[a]
   refine hp (ay t[k].op) (k+1) (by omega) ?_ j (by omega) e;intro a;rw[a]at h;exact h rfl
theorem B5 (hf:full 1 t) (h:cA cs gs lo t t.length 0≠none): ∀j,j<t.length->cA cs gs lo t t.length j≠none:=by
 intro j a;refine Dw (F:=t.length) (by omega) h j (Nat.zero_le _) ?_;unfold bk;rw[List.drop_zero];have:=sR (v:=[]) hf;rw[List.append_nil]at this;omega
end
end
section
open Go Go.RowKit Sp
attribute [local go_sem ↓] eF eG
def dn (cs:List bP) (ms:List Sig) (lo:L_) (y:Ins) (ps:L_):Option UInt8:=
 if ly cs (cQ cs ms lo (bQ y).op (bQ y).cls (bQ y).num) ps=true/\(eI cs ms lo (bQ y).op (bQ y).cls (bQ y).num ps).toNat≠45 then some (eI cs ms lo (bQ y).op (bQ y).cls (bQ y).num ps)else none
def stepX (cs:List bP) (ms:List Sig) (lo:L_) (is:List Ins) (i:Nat) (ty:L_):Option L_:=match is[i]? with
 |none=>none
 |some y=>(dn cs ms lo y ((eu is i).map (cC ty))).map λc=>ty.set i c
def pE (cs:List bP) (ms:List Sig) (lo:L_) (is:List Ins):Nat->L_->Option L_
 |0,ty=>some ty
 |q+1,ty=>match stepX cs ms lo is q ty with
  |none=>none
  |some ty'=>pE cs ms lo is q ty'
def tS (cs:List bP) (r:UInt8):Option L_->Bool
 |none=>false
 |some ty=>fQ cs (cC ty 0) r
def B6 (cs:List bP) (ms:List Sig) (lo:L_) (is:List Ins) (r:UInt8):Bool:=tS cs r (pE cs ms lo is is.length (List.replicate is.length 0))
theorem Dx (t:List Ins): ∀n k,(cy t n k).length<=n:=by
 intro n
 induction n with
 |zero=>intro k;simp[cy]
 |succ n ih=>
  intro k;unfold cy
  split
  .have:=ih (bk t k);simp;omega
  .simp
theorem Dy (t:List Ins) (k:Nat):(eu t k).length<=3:=by
 unfold eu
 split
 .rename_i x _
  have h:=Dx t (ay x.op) (k+1);have:ay x.op<=3:=by unfold ay;split;omega;split;omega;split<;>omega
  omega
 .simp
theorem Ar (cs:List bP) (ms:List Sig) (lo:L_) (c k:UInt8) (n:Nat):(cQ cs ms lo c k n).length<=2:=by
 unfold cQ aB
 repeat' split
 all_goals simp
theorem Dz (n:Nat):madeCells #[.int .u8 0] n=(aU (List.replicate n 0)).toArray:=by
 apply Array.ext
 .rw[size_madeCells];simp[aU]
 .intro k a b;have e:k % 1=0:=by omega
  simp[madeCells,e,aU]
theorem DA (n:Nat) (hn:n<=1000) (w:World):(Instr.makeSlice 112 (.int .i64 (n:Int)) (.int .i64 (n:Int))).run prog w= .ok (.slice (some ⟨w.heap.size,0,none⟩) n n) (w.alloc (.cells (aU (List.replicate n 0)).toArray 5)):=by
 have a:=kL
 cases hi:prog.info? 5 with
 |none=>rw[hi]at a;cases a
 |some i=>
  rw[hi]at a;simp only[Option.map_some,Option.some.injEq,Prod.mk.injEq]at a;obtain⟨c,b,hb⟩:=a;have:=run_make (P:=prog) w 112 5 i _ (by kernel_rfl) hi c .i64 .i64 n n (by omega) (by omega) (by rw[hb];omega) (by omega);rw[this,b];simp only[ny,Value.cells,Nat.mul_one];rw[Dz]
section
variable (b:Nat) (cs:List bP) (ms:List Sig) (c0:UInt8) (m0:Nat) (r0:UInt8) (al ai:Option Addr) (capl capi:Nat) (lo:L_) (its:List XIt) (is:List Ins) (w:World)
theorem tT (hn:cs.length<=100) (hm:ms.length<=100) (hlen:its.length<=24) (hT:TxC w b cs) (hM:TxM w b ms) (hB:BtB w 0 (.slice al lo.length capl) lo) (hI:ItB w 0 (.slice ai its.length capi) its) (hN:mB w 0 its is):
  Calls prog 91 #[.pointer (some ⟨b,0,none⟩),hdV c0 m0 r0 (.slice al lo.length capl) (.slice ai its.length capi)] w λen w'=>B_ w w'/\en= .returned (.bool (B6 cs ms lo is r0)):=by
 obtain⟨R,a6⟩: ∃R,B6 cs ms lo is r0=R:=⟨_,rfl⟩;rw[a6];have b4:=hN.len;have i2:=DA its.length (by omega);have g6:Hid (tS cs r0 (pE cs ms lo is its.length (List.replicate its.length 0))=R):=by rw[b4];exact hid a6
 have b8:=hid b4;clear a6 b4;unfold hdV;have d6:B_ w (w.alloc (.cells #[.int .u8 c0.toNat,.int .i64 m0,.int .u8 r0.toNat,.slice al lo.length capl,.slice ai its.length capi] 115)):=ag _ _ _;have b3:(w.alloc (.cells #[.int .u8 c0.toNat,.int .i64 m0,.int .u8 r0.toNat,.slice al lo.length capl,.slice ai its.length capi] 115)).heap[w.heap.size]?=some (.cells #[.int .u8 c0.toNat,.int .i64 m0,.int .u8 r0.toNat,.slice al lo.length capl,.slice ai its.length capi] 115):=bj _ _
 go_in
 go_wp2_with fail;have i7:(w.alloc (.cells #[.int .u8 c0.toNat,.int .i64 m0,.int .u8 r0.toNat,.slice al lo.length capl,.slice ai its.length capi] 115)).heap.size=w.heap.size+1:=by simp
 generalize (w.alloc (.cells #[.int .u8 c0.toNat,.int .i64 m0,.int .u8 r0.toNat,.slice al lo.length capl,.slice ai its.length capi] 115))=w1 at*
 have h8:(w1.alloc (.cells (aU (List.replicate its.length 0)).toArray 5)).ownsRow (w.heap.size+1) 5 1 (.slice (some ⟨w.heap.size+1,0,none⟩) its.length its.length) its.length (aU (List.replicate its.length 0)):=by
  have h:=BtB.lit w1 (w.heap.size+1) (by omega) (List.replicate its.length 0) (by simp;omega);rw[i7]at h;unfold BtB at h;simp only[List.length_replicate]at h;exact h
 have h5:B_ w (w1.alloc (.cells (aU (List.replicate its.length 0)).toArray 5)):=d6.trans (ag _ _ _);have h9:=((ag (λ_=>False) w1 (.cells (aU (List.replicate its.length 0)).toArray 5)).block _ (ae b3) (λh=>h)).trans b3;have j5:(w1.alloc (.cells (aU (List.replicate its.length 0)).toArray 5)).heap.size=w.heap.size+2:=by simp;omega
 generalize (w1.alloc (.cells (aU (List.replicate its.length 0)).toArray 5))=w2 at*;clear i2 d6 b3
 go_loopg [6] its.length (λmm js wr=> ∃(v:Int) (q:Nat) (ty:L_),js= .int .i64 v/\v=(q:Int)-1/\q<=its.length/\q<=mm/\mm<=q/\wr.ownsRow (w.heap.size+1) 5 1 (.slice (some ⟨w.heap.size+1,0,none⟩) its.length its.length) its.length (aU ty)/\B_ w wr/\w.heap.size+1<wr.heap.size/\wr.heap[w.heap.size]?=some (.cells #[.int .u8 c0.toNat,.int .i64 m0,.int .u8 r0.toNat,.slice al lo.length capl,.slice ai its.length capi] 115)/\Hid (ty.length=its.length/\tS cs r0 (pE cs ms lo is q ty)=R))
 case atStart=>exact⟨_,its.length,_,rfl,rfl,by omega,by omega,by omega,h8,h5,by omega,h9,hid ⟨by simp,g6.out⟩⟩
 case round=>
  obtain⟨v,q,ty,rfl,hv,j2,j3,j4,e9,t,l0,E,J⟩:=hrel;obtain⟨k0,k1,k2,k3,k4⟩:=bI E;have A:=ae E
  have b0:BtB wr 0 (.slice (some ⟨w.heap.size+1,0,none⟩) ty.length its.length) ty:=by
   unfold BtB;rw[J.out.1];exact dh e9 (Nat.zero_le _)
  cases q with
  |zero=>
   have i3: ¬(0:Int)<=v:=by omega
   have a8:=d8 _ _ ty 0 wr.drew (BtB.but b0 (aD (λ_=>False) _) (λ_ _ h=>h));rw[J.out.1]at a8;have h1:=hid a8;have g4:=hid (ml b cs (cC ty 0) r0 wr.drew hn (hT.but (t.trans (aD _ _))));have HE:Hid (fQ cs (cC ty 0) r0=R):=hid J.out.2;clear a8 b0;go_wp2_with fail;have r:B_ wr wr.drew:=aD _ _;refine dr (B_ wr) 6 ?_;refine cW [0,1,3,4] ?_
   iterate 4 (refine dt (v:=?_) rfl r ?_ ?_;rotate_left;(focus (intro wS h;have q0:=(h.kc k2 A);clear h;go_simp;try rfl));dsimp only[Act.put];try simp only[bW])
   refine aG (k:=2) rfl ?_;intro KS hKS;go_simp;refine h1.out.mono ?_;rintro en wx ⟨rfl,H⟩;rw[H];clear H wx;refine hKS.out _ _ (λ_=>r) ?_;clear hKS KS;refine aG (k:=5) rfl ?_;intro KS hKS;go_simp;refine g4.out.mono ?_;rintro en wx ⟨rfl,H⟩;rw[H,HE.out];clear H wx;refine hKS.out _ _ (λ_=>r) ?_;clear hKS KS;refine aG (k:=6) rfl ?_;intro KS hKS;go_simp;refine hKS.out _ _ nofun ?_;clear hKS KS;refine dg rfl ?_;go_wp2_with fail;go_ret;exact⟨t.trans r,rfl⟩
  |succ p=>
   have i6:v=(p:Int):=by omega
   subst i6;clear hv;have i4:p<is.length:=by rw[<-b8.out];omega
   obtain⟨x,hx⟩: ∃x,its[p]?=some x:=⟨_,aM (by omega)⟩;have hy:=aM i4;obtain⟨y,f2⟩: ∃y,is[p]=y:=⟨_,rfl⟩;rw[f2]at hy;obtain⟨e1,e2,e3,e4,e5⟩:=hN.at' p y x hy hx;have Y:=hid e2;have Z:=hid e3;have a0:=hid e4;have HY:=hid hy;clear e1 e2 e3 e4 f2 hy;obtain⟨g,rfl,s,i0,c⟩:=aL (ah hI t (λ_ _ h=>h)) (by omega);have z0:wr.cell? ⟨g,p*5,none⟩=some (.int .i64 x.place):=c _ _ (aW (k:=0) hx (by omega));have z1:wr.cell? ⟨g,p*5+1,none⟩=some (.int .u8 x.op.toNat):=c _ _ (aW (k:=1) hx (by omega));have z2:wr.cell? ⟨g,p*5+2,none⟩=some (.int .u8 x.cls.toNat):=c _ _ (aW (k:=2) hx (by omega));have z3:wr.cell? ⟨g,p*5+3,none⟩=some (.int .i64 x.num):=c _ _ (aW (k:=3) hx (by omega))
   have z4:wr.cell? ⟨g,p*5+4,none⟩=some (.slice x.pa x.pn x.pc):=c _ _ (aW (k:=4) hx (by omega));have j1:(p:Int)<(its.length:Int):=by omega
   have j0:(0:Int)<=(p:Int):=by omega
   have P:=tQ x (eu is p) ty _ _ wr (Dy is p) (λk hk=>by have:=(jq hk).2;have:=b8.out;omega) (ah e5 t (λ_ _ h=>h)) b0;rw[J.out.1]at P;unfold itV at P;have b9:=hid P;clear P c;go_wp2_with fail;refine b9.out.mono ?_;rintro en Q ⟨d,a3,c3,rfl,e0⟩;clear b9;obtain⟨PS,O⟩: ∃PS,(eu is p).map (cC ty)=PS:=⟨_,rfl⟩;have F:(eu is p).length=PS.length:=by rw[<-O];simp
   rw[O,F]at e0;rw[F];have a1:=hid O;clear O F;have a5:=t.trans d;have f0:=(d.block _ A (λh=>h)).trans E;have m:=ae f0;have a:g<Q.heap.size:=aP s d.size;obtain⟨f3,f4,f5,f6,f7⟩:=bI f0;have y0:=d.kc z0 s;have y1:=d.kc z1 s;have y2:=d.kc z2 s;have y3:=d.kc z3 s;have y4:=d.kc z4 s;clear z0 z1 z2 z3 z4 k0 k1 k2 k3 k4;have M:B_ w Q.drew:=a5.trans (aD _ _);have e6:BtB Q.drew 0 (.slice a3 PS.length c3) PS:=dh (BtB.but e0 (aD (λ_=>False) _) (λ_ _ h=>h)) (Nat.zero_le _);have X:=hid (tR b cs ms c0 m0 r0 al (some ⟨g,0,none⟩) capl its.length capi lo x Q.drew a3 c3 PS hn hm (hT.but M) (hM.but M) (BtB.but hB M (λ_ _ h=>h)) e6 (by have:=Ar cs ms lo x.op x.cls x.num;omega))
   unfold hdV itV at X;go_wp2_with fail;have r:B_ Q Q.drew:=aD _ _;refine dr (B_ Q) 10 ?_;have fSB:=hid (λwS (h:(B_ Q) wS)=>(And.intro (h.kc f3 m) (And.intro (h.kc f4 m) (And.intro (h.kc f5 m) (And.intro (h.kc f6 m) (And.intro (h.kc f7 m) (And.intro (h.kc y0 a) (And.intro (h.kc y1 a) (And.intro (h.kc y2 a) (And.intro (h.kc y3 a) (h.kc y4 a)))))))))));refine cW [0,1,2,3,4,5,6,7] ?_
   iterate 8 (refine dt (v:=?_) rfl r ?_ ?_;rotate_left;(focus (intro wS h;obtain⟨q0,q1,q2,q3,q4,q5,q6,q7,q8,q9⟩:=fSB.out wS h;clear h;go_simp;try rfl));dsimp only[Act.put];try simp only[bW])
   try clear fSB
   refine aG (k:=8) rfl ?_;intro KS hKS;go_simp;refine X.out.mono ?_;rintro en I ⟨a2,rfl⟩;have T:=M.trans a2;have e:B_ Q I:=r.trans a2;refine hKS.out _ _ (λ_=>e) ?_;clear hKS KS;refine aG (k:=9) rfl ?_;intro KS hKS;go_simp;refine hKS.out _ _ (λ_=>e) ?_;clear hKS KS;refine dg rfl ?_
   cases hac:ly cs (cQ cs ms lo x.op x.cls x.num) PS with
   |false=>
    have G:R=false:=by
     have h2:=J.out.2
     have i5:stepX cs ms lo is p ty=none:=by
      simp only[stepX,HY.out,a1.out,dn,<-Y.out,<-Z.out,<-a0.out,hac];simp
     rw[<-h2];simp only[pE,i5,tS]
    subst G;clear hac;go_wp2_with fail;go_ret;exact⟨T,rfl⟩
   |true=>
    have S:=hid hac;clear hac;have a7:B_ wr I:=d.trans e;have f1:=(a7.block _ A (λh=>h)).trans E;have n:=ae f1;have i:g<I.heap.size:=aP s a7.size;obtain⟨f8,g0,g1,g2,g3⟩:=bI f1;have x0:=e.kc y0 a;have x1:=e.kc y1 a;have x2:=e.kc y2 a;have x3:=e.kc y3 a;have x4:=e.kc y4 a;clear y0 y1 y2 y3 y4 f3 f4 f5 f6 f7 X;have a4:B_ w I.drew:=T.trans (aD _ _);have h7:BtB I.drew 0 (.slice a3 PS.length c3) PS:=BtB.but e6 (a2.trans (aD _ _)) (λ_ _ h=>h);have L:=hid (vz b cs ms c0 m0 r0 al (some ⟨g,0,none⟩) capl its.length capi lo x I.drew a3 c3 PS hn hm (hT.but a4) (hM.but a4) (BtB.but hB a4 (λ_ _ h=>h)) h7)
    unfold hdV itV at L;obtain⟨C,hC⟩: ∃C,eI cs ms lo x.op x.cls x.num PS=C:=⟨_,rfl⟩;rw[hC]at L;have HC:=hid hC;clear hC;go_wp2_with fail;have e7:B_ I I.drew:=aD _ _;refine aF (B_ I) 11 ?_
    iterate 10 (refine aN (v:=?_) rfl e7 ?_ ?_;rotate_left;(focus (intro wS h;have q0:=(h.kc f8 n);have q1:=(h.kc g0 n);have q2:=(h.kc g1 n);have q3:=(h.kc g2 n);have q4:=(h.kc g3 n);have q5:=(h.kc x0 i);have q6:=(h.kc x1 i);have q7:=(h.kc x2 i);have q8:=(h.kc x3 i);have q9:=(h.kc x4 i);clear h;go_simp;try rfl));dsimp only[Act.put];try simp only[bW])
    refine au rfl ?_;intro KS hKS;go_simp;refine L.out.mono ?_;rintro en w5 ⟨h6,rfl⟩;have e8:B_ I w5:=e7.trans h6;refine hKS.out _ _ (λ_=>e8) ?_;clear hKS KS;have f:=a7.trans e8;have b1:=ah e9 f (λ_ _ h=>h);obtain⟨gq,B,b6,b7,z⟩:=aL b1 (by omega);have D:w.heap.size+1=gq:=by injection B with h;injection h with h
    subst D;have b5:p<ty.length:=by rw[J.out.1];omega
    have ct:=z _ _ (dR b5);have ft:=nH b1 p;clear z B;refine au rfl ?_;intro KS hKS;go_simp;refine hKS.out _ _ nofun ?_;clear hKS KS;refine au rfl ?_;intro KS hKS;go_simp;refine hKS.out _ _ nofun ?_;clear hKS KS;refine aK rfl ?_;have b2:=lK b1 p (.int .u8 C.toNat);rw[show(aU ty).set p (.int .u8 C.toNat)=aU (ty.set p C)from by simp[aU,List.map_set]]at b2;have c6:B_ w (w5.setCell ⟨w.heap.size+1,p,none⟩ (.int .u8 C.toNat)):=(t.trans f).next (aq _ _ _ _) (λj hj h=>by omega);have i1:=((aq w5 (w.heap.size+1) p (.int .u8 C.toNat)).block w.heap.size (aP A f.size) (λh=>by omega)).trans ((f.block _ A (λh=>h)).trans E)
    have k9:=(aq w5 (w.heap.size+1) p (.int .u8 C.toNat)).size;have j7:=f.size
    have h0:Hid (C.toNat≠45->stepX cs ms lo is p ty=some (ty.set p C)):=hid (λh=>by
     simp only[stepX,HY.out,a1.out,dn,<-Y.out,<-Z.out,<-a0.out,S.out,HC.out];simp[h])
    have g7:Hid (C.toNat=45->stepX cs ms lo is p ty=none):=hid (λh=>by
     simp only[stepX,HY.out,a1.out,dn,<-Y.out,<-Z.out,<-a0.out,S.out,HC.out];simp[h])
    obtain⟨gq,B,b6,b7,z⟩:=aL b2 (by omega);have D:w.heap.size+1=gq:=by injection B with h;injection h with h
    subst D;have h3:=z _ _ (dR (l:=ty.set p C) (k:=p) (by simpa using b5));rw[show(ty.set p C).getD p 0=C from by simp[List.getD,b5]]at h3;clear z B x0 x1 x2 x3 x4 f8 g0 g1 g2 g3 L ct ft;generalize (w5.setCell ⟨w.heap.size+1,p,none⟩ (.int .u8 C.toNat))=w6 at*
    by_cases h45:C.toNat=45
    .have h4:((C.toNat:Int)==45)=true:=by rw[dS];omega
     have G:R=false:=by
      rw[<-J.out.2];simp only[pE,g7.out h45,tS]
     subst G;clear h45;go_wp2_with fail;go_ret;exact⟨c6,rfl⟩
    .have h4:=tf C.toNat 45 (by omega)
     have g5:Hid ((ty.set p C).length=its.length/\tS cs r0 (pE cs ms lo is p (ty.set p C))=R):=by
      refine hid ⟨by rw[List.length_set];exact J.out.1,?_⟩;rw[<-J.out.2];simp only[pE,h0.out h45]
     clear h45;go_wp2_with fail
     go_roundg p
     case measure=>omega
     case rel=>exact⟨_,p,_,rfl,rfl,by omega,by omega,by omega,b2,c6,by omega,i1,g5⟩
end
end
section
open Go Go.RowKit Sp
section
variable {cs:List bP} {a b c p q:UInt8}
theorem m7 (ts:L_):ly cs [] ts=true:=by simp[ly]
theorem yN:ly cs [p] [a]=cL cs a p:=by simp[ly,cC,List.range_succ]
theorem FN:ly cs [p] [a,b]=cL cs a p:=by simp[ly,cC,List.range_succ]
theorem FO:ly cs [p] [a,b,c]=cL cs a p:=by simp[ly,cC,List.range_succ]
theorem oz:ly cs [p,q] [a,b]=(cL cs a p&&cL cs b q):=by simp[ly,cC,List.range_succ]
theorem xI {cs:List Cls}:dz cs [a] [p]=bR cs a p:=by simp[dz,List.range_succ]
theorem lY {cs:List Cls}:dz cs [a,b] [p,q]=(bR cs a p&&bR cs b q):=by simp[dz,List.range_succ]
end
theorem pr {cs:List Cls} (a:UInt8):bR cs a 105=decide (a.toNat=105):=by
 unfold bR
 by_cases h:a.toNat=105
 .simp[h]
 .have:isC 105=false:=by decide
  simp[h,this]
section
variable {im:Img}
theorem xJ (hW:iQ im) {a c:UInt8} (ha:okT im.zq.length a=true) (hc:okT im.zq.length c=true) (h38:c.toNat≠38):cL (im.zq.map toX) a c=bR im.zq a c:=by
 unfold cL;rw[if_neg h38];exact jk hW.cls hW.nc ha hc
theorem m8 (hW:iQ im) {a:UInt8} (ha:okT im.zq.length a=true):cL (im.zq.map toX) a 105=decide (a.toNat=105):=by
 rw[xJ hW ha uP (by decide),pr]
theorem EO (hW:iQ im) {a:UInt8} (ha:okT im.zq.length a=true):cL (im.zq.map toX) a 38=isR a:=by
 unfold cL isR;rw[if_pos (by decide),bZ,gv hW.cls hW.nc ha]
theorem vC (hW:iQ im) {x:Ins} (ha:x.a<im.zq.length) (hb:x.b<db im.zq x.a):cC (bV (im.zq.map toX) (UInt8.ofNat (65+x.a))) x.b=dc im.zq x.a x.b:=by
 obtain⟨hl,e⟩:=By ha hW.nc;have d:(UInt8.ofNat (65+x.a)).toNat-65=x.a:=by have:=hW.nc;simp;omega
 have c:=kQ (a:=0) hl;rw[d]at c;unfold cC;rw[if_pos (by rw[<-c];exact hb)];unfold dc bV;rw[bZ,if_pos hl,cg,d]
 cases im.zq[x.a]?<;>rfl
end
theorem As {n:Nat} {c:UInt8} (h:okT n c=true):c.toNat≠38:=by rw[ff]at h;omega
theorem tU {n:Nat} {c:UInt8} (h:cY n c=true):c.toNat≠45:=by
 simp[cY,aQ]at h;omega
theorem oA {ts:L_} (h:ts.length=0):ts=[]:=List.length_eq_zero_iff.1 h
theorem DB {ts:L_} (h:ts.length=1): ∃a,ts=[a]:=List.length_eq_one_iff.1 h
theorem qN {ts:L_} (h:ts.length=2): ∃a b,ts=[a,b]:=by
 match ts,h with
 | [a,b],_=>exact⟨a,b,rfl⟩
theorem Ga {ts:L_} (h:ts.length=3): ∃a b c,ts=[a,b,c]:=by
 match ts,h with
 | [a,b,c],_=>exact⟨a,b,c,rfl⟩
theorem pQ {lo:L_} {n:Nat} (h:n<lo.length):cC lo n=lo.getD n 0:=by unfold cC;rw[if_pos h]
section
theorem B7 {im:Img} (hW:iQ im) {bd:Bod} (hbd:lE im.zq im.zx bd) {y:Ins} (hy:WfN im.zq im.zx.length bd.zy.length y) {ts:L_} (hl:ts.length=ay y.op) (hok: ∀c∈ts,okT im.zq.length c=true) (hne: ∀c∈ts,c.toNat≠45):dn (im.zq.map toX) im.zx bd.zy y ts=ba im.zq im.zx bd.zy y ts:=by
 have p:=List.elem_iff.1 hy.op;simp only[dm,List.mem_cons,List.not_mem_nil,or_false]at p
 have e: ∀n:Nat,y.op.toNat=n-> ¬(48<=n/\n<=57)->bQ y=aJ y:=λn h1 h2=>by
  unfold bQ;rw[if_neg (λh=>h2 (by rw[<-h1];exact lF h))]
 have hcl:=λh=>qv (x:=y) h
 have g: ∀h:y.op.toNat=110\/y.op.toNat=120\/y.op.toNat=103\/y.op.toNat=112\/y.op.toNat=99,okT im.zq.length (cE y.a)=true/\(cE y.a).toNat≠45:=λh=>
  ⟨ti (hy.cls h) hW.nc,by have:=hy.cls h;have:=hW.nc;unfold cE;simp;omega⟩
 have eo:(aJ y).op=y.op:=rfl;have en:(aJ y).num=y.b:=rfl;obtain h|h|h|h|h|h|h|h|h|h|h|h|h|h|h|h|h|h|h|h|h|h|h|h|h|h|h|h|h|h:=p
 .have ha:ay y.op=0:=by unfold ay;simp[h]
  rw[ha]at hl;have d:=oA hl;subst d;have f:bQ y=⟨y.pos,107,45,y.b,none,0,0⟩:=by unfold bQ;rw[if_pos (by simp[aY,h])]
  rw[dn,f];simp[cQ,aB,eI,aH,m7,ba,cK,bE,arith,h]
 .have ha:ay y.op=0:=by unfold ay;simp[h]
  rw[ha]at hl;have d:=oA hl;subst d;have f:bQ y=⟨y.pos,107,45,y.b,none,0,0⟩:=by unfold bQ;rw[if_pos (by simp[aY,h])]
  rw[dn,f];simp[cQ,aB,eI,aH,m7,ba,cK,bE,arith,h]
 .have ha:ay y.op=0:=by unfold ay;simp[h]
  rw[ha]at hl;have d:=oA hl;subst d;have f:bQ y=⟨y.pos,107,45,y.b,none,0,0⟩:=by unfold bQ;rw[if_pos (by simp[aY,h])]
  rw[dn,f];simp[cQ,aB,eI,aH,m7,ba,cK,bE,arith,h]
 .have ha:ay y.op=0:=by unfold ay;simp[h]
  rw[ha]at hl;have d:=oA hl;subst d;have f:bQ y=⟨y.pos,107,45,y.b,none,0,0⟩:=by unfold bQ;rw[if_pos (by simp[aY,h])]
  rw[dn,f];simp[cQ,aB,eI,aH,m7,ba,cK,bE,arith,h]
 .have ha:ay y.op=0:=by unfold ay;simp[h]
  rw[ha]at hl;have d:=oA hl;subst d;have f:bQ y=⟨y.pos,107,45,y.b,none,0,0⟩:=by unfold bQ;rw[if_pos (by simp[aY,h])]
  rw[dn,f];simp[cQ,aB,eI,aH,m7,ba,cK,bE,arith,h]
 .have ha:ay y.op=0:=by unfold ay;simp[h]
  rw[ha]at hl;have d:=oA hl;subst d;have f:bQ y=⟨y.pos,107,45,y.b,none,0,0⟩:=by unfold bQ;rw[if_pos (by simp[aY,h])]
  rw[dn,f];simp[cQ,aB,eI,aH,m7,ba,cK,bE,arith,h]
 .have ha:ay y.op=0:=by unfold ay;simp[h]
  rw[ha]at hl;have d:=oA hl;subst d;have f:bQ y=⟨y.pos,107,45,y.b,none,0,0⟩:=by unfold bQ;rw[if_pos (by simp[aY,h])]
  rw[dn,f];simp[cQ,aB,eI,aH,m7,ba,cK,bE,arith,h]
 .have ha:ay y.op=0:=by unfold ay;simp[h]
  rw[ha]at hl;have d:=oA hl;subst d;have f:bQ y=⟨y.pos,107,45,y.b,none,0,0⟩:=by unfold bQ;rw[if_pos (by simp[aY,h])]
  rw[dn,f];simp[cQ,aB,eI,aH,m7,ba,cK,bE,arith,h]
 .have ha:ay y.op=0:=by unfold ay;simp[h]
  rw[ha]at hl;have d:=oA hl;subst d;have f:bQ y=⟨y.pos,107,45,y.b,none,0,0⟩:=by unfold bQ;rw[if_pos (by simp[aY,h])]
  rw[dn,f];simp[cQ,aB,eI,aH,m7,ba,cK,bE,arith,h]
 .have ha:ay y.op=0:=by unfold ay;simp[h]
  rw[ha]at hl;have d:=oA hl;subst d;have f:bQ y=⟨y.pos,107,45,y.b,none,0,0⟩:=by unfold bQ;rw[if_pos (by simp[aY,h])]
  rw[dn,f];simp[cQ,aB,eI,aH,m7,ba,cK,bE,arith,h]
 .have ha:ay y.op=0:=by unfold ay;simp[h]
  rw[ha]at hl;have d:=oA hl;subst d;rw[dn,e _ h (by omega),eo,en];simp[cQ,aB,eI,aH,m7,ba,cK,bE,arith,h]
 .have ha:ay y.op=1:=by unfold ay;simp[h]
  rw[ha]at hl;obtain⟨a,rfl⟩:=DB hl;have oa:=hok a (by simp);have na:=hne a (by simp);rw[dn,e _ h (by omega),eo,en];simp[cQ,aB,eI,aH,yN,m8 hW oa,ba,cK,bE,arith,h,xI,pr]
 .have ha:ay y.op=0:=by unfold ay;simp[h]
  rw[ha]at hl;have d:=oA hl;subst d;rw[dn,e _ h (by omega),eo,en];have hb:=hy.loc (by omega);have s:=tU (hbd.loc.2 _ (cS hb));simp[cQ,aB,eI,aH,m7,ba,cK,bE,arith,h,pQ hb,List.getD,hb,s]
 .have ha:ay y.op=1:=by unfold ay;simp[h]
  rw[ha]at hl;obtain⟨a,rfl⟩:=DB hl;have oa:=hok a (by simp);have na:=hne a (by simp);rw[dn,e _ h (by omega),eo,en];have hb:=hy.loc (by omega);have q:okT im.zq.length (bd.zy.getD y.b 0)=true:=by rw[C6 _ _ hb];exact lL (hbd.loc.2 _ (cS hb))
  have k:=xJ hW oa q (As q);simp only[cQ,eI,h,pQ hb,ba,cK,bE,arith];generalize bd.zy.getD y.b 0=T at*;simp[yN,k,xI]
  cases bR im.zq a T<;>simp
 .have ha:ay y.op=2:=by unfold ay;simp[h]
  rw[ha]at hl;obtain⟨a,b,rfl⟩:=qN hl;have oa:=hok a (by simp);have na:=hne a (by simp);have ob:=hok b (by simp);have nb:=hne b (by simp);rw[dn,e _ h (by omega),eo,en];simp[cQ,aB,eI,aH,oz,m8 hW oa,m8 hW ob,ba,cK,bE,arith,h,lY,pr]
  by_cases h1:a.toNat=105<;>by_cases h2:b.toNat=105<;>simp[h1,h2]
 .have ha:ay y.op=2:=by unfold ay;simp[h]
  rw[ha]at hl;obtain⟨a,b,rfl⟩:=qN hl;have oa:=hok a (by simp);have na:=hne a (by simp);have ob:=hok b (by simp);have nb:=hne b (by simp);rw[dn,e _ h (by omega),eo,en];simp[cQ,aB,eI,aH,oz,m8 hW oa,m8 hW ob,ba,cK,bE,arith,h,lY,pr]
  by_cases h1:a.toNat=105<;>by_cases h2:b.toNat=105<;>simp[h1,h2]
 .have ha:ay y.op=2:=by unfold ay;simp[h]
  rw[ha]at hl;obtain⟨a,b,rfl⟩:=qN hl;have oa:=hok a (by simp);have na:=hne a (by simp);have ob:=hok b (by simp);have nb:=hne b (by simp);rw[dn,e _ h (by omega),eo,en];simp[cQ,aB,eI,aH,oz,m8 hW oa,m8 hW ob,ba,cK,bE,arith,h,lY,pr]
  by_cases h1:a.toNat=105<;>by_cases h2:b.toNat=105<;>simp[h1,h2]
 .have ha:ay y.op=2:=by unfold ay;simp[h]
  rw[ha]at hl;obtain⟨a,b,rfl⟩:=qN hl;have oa:=hok a (by simp);have na:=hne a (by simp);have ob:=hok b (by simp);have nb:=hne b (by simp);rw[dn,e _ h (by omega),eo,en];simp[cQ,aB,eI,aH,oz,m8 hW oa,m8 hW ob,ba,cK,bE,arith,h,lY,pr]
  by_cases h1:a.toNat=105<;>by_cases h2:b.toNat=105<;>simp[h1,h2]
 .have ha:ay y.op=2:=by unfold ay;simp[h]
  rw[ha]at hl;obtain⟨a,b,rfl⟩:=qN hl;have oa:=hok a (by simp);have na:=hne a (by simp);have ob:=hok b (by simp);have nb:=hne b (by simp);rw[dn,e _ h (by omega),eo,en];simp[cQ,aB,eI,aH,oz,m8 hW oa,m8 hW ob,ba,cK,bE,arith,h,lY,pr]
  by_cases h1:a.toNat=105<;>by_cases h2:b.toNat=105<;>simp[h1,h2]
 .have ha:ay y.op=2:=by unfold ay;simp[h]
  rw[ha]at hl;obtain⟨a,b,rfl⟩:=qN hl;have oa:=hok a (by simp);have na:=hne a (by simp);have ob:=hok b (by simp);have nb:=hne b (by simp);rw[dn,e _ h (by omega),eo,en];simp[cQ,aB,eI,aH,oz,m8 hW oa,m8 hW ob,ba,cK,bE,arith,h,lY,pr]
  by_cases h1:a.toNat=105<;>by_cases h2:b.toNat=105<;>simp[h1,h2]
 .have ha:ay y.op=2:=by unfold ay;simp[h]
  rw[ha]at hl;obtain⟨a,b,rfl⟩:=qN hl;have oa:=hok a (by simp);have na:=hne a (by simp);have ob:=hok b (by simp);have nb:=hne b (by simp);rw[dn,e _ h (by omega),eo,en];simp[cQ,aB,eI,aH,oz,EO hW oa,EO hW ob,ba,cK,bE,arith,h]
 .have ha:ay y.op=0:=by unfold ay;simp[h]
  rw[ha]at hl;have d:=oA hl;subst d;rw[dn,e _ h (by omega),eo,en];rw[hcl (by omega)];simp[cQ,aB,eI,aH,m7,ba,cK,bE,arith,h,(g (by omega)).2]
 .have ha:ay y.op=0:=by unfold ay;simp[h]
  rw[ha]at hl;have d:=oA hl;subst d;rw[dn,e _ h (by omega),eo,en];simp[cQ,aB,eI,aH,m7,ba,cK,bE,arith,h]
 .have ha:ay y.op=1:=by unfold ay;simp[h]
  rw[ha]at hl;obtain⟨a,rfl⟩:=DB hl;have oa:=hok a (by simp);have na:=hne a (by simp);rw[dn,e _ h (by omega),eo,en];have t:cC (bV (im.zq.map toX) (cE y.a)) y.b=dc im.zq y.a y.b:=vC hW (hy.cls (by omega)) (hy.fld (by omega));have C:=uQ hW hbd hy;rw[hcl (by omega)];have k:=xJ hW oa (g (by omega)).1 (As (g (by omega)).1)
  have v:(dc im.zq y.a y.b).toNat≠45:=by
   have j:=hy.fld (by omega);have i:=aM (hy.cls (by omega));unfold db at j;unfold dc;rw[i]at j⊢;simp at j⊢;rw[aM j];exact tU (n:=im.zq.length) (gn (by have:=hy.cls (by omega);omega) ((hW.cls _ _ i).2.2.2 _ (cS j)))
  simp[cQ,aB,eI,aH,h,ba,cK,bE,arith,t,yN,k,xI,v]
  cases bR im.zq a (cE y.a)<;>simp
 .have ha:ay y.op=2:=by unfold ay;simp[h]
  rw[ha]at hl;obtain⟨a,b,rfl⟩:=qN hl;have oa:=hok a (by simp);have na:=hne a (by simp);have ob:=hok b (by simp);have nb:=hne b (by simp);rw[dn,e _ h (by omega),eo,en];have t:cC (bV (im.zq.map toX) (cE y.a)) y.b=dc im.zq y.a y.b:=vC hW (hy.cls (by omega)) (hy.fld (by omega));rw[hcl (by omega)];have k:=xJ hW oa (g (by omega)).1 (As (g (by omega)).1)
  have m:okT im.zq.length (dc im.zq y.a y.b)=true:=by
   have j:=hy.fld (by omega);have i:=aM (hy.cls (by omega));unfold db at j;unfold dc;rw[i]at j⊢;simp at j⊢;rw[aM j];exact lL (gn (by have:=hy.cls (by omega);omega) ((hW.cls _ _ i).2.2.2 _ (cS j)))
  have r:=xJ hW ob m (As m);simp[cQ,aB,eI,aH,h,ba,cK,bE,arith,t,oz,k,r,lY]
  cases bR im.zq a (cE y.a)<;>cases bR im.zq b (dc im.zq y.a y.b)<;>simp
 .have ha:ay y.op=2:=by unfold ay;simp[h]
  rw[ha]at hl;obtain⟨a,b,rfl⟩:=qN hl;have oa:=hok a (by simp);have na:=hne a (by simp);have ob:=hok b (by simp);have nb:=hne b (by simp);rw[dn,e _ h (by omega),eo,en];have A:=nU (hy.sig h);rw[hcl (by omega)];have B:=hW.sig _ (cS (hy.sig h));have l:okT im.zq.length (jv im.zx y.b)=true:=by unfold jv;rw[aM (hy.sig h)];exact lL B.1
  have z:(gI im.zx y.b).toNat≠45:=by unfold gI;rw[aM (hy.sig h)];exact tU B.2
  have k:=xJ hW oa (g (by omega)).1 (As (g (by omega)).1);have r:=xJ hW ob l (As l);simp[cQ,aB,eI,aH,oz,A.1,A.2,k,r,ba,cK,bE,arith,h,lY,z]
  cases bR im.zq a (cE y.a)<;>cases bR im.zq b (jv im.zx y.b)<;>simp
 .have ha:ay y.op=1:=by unfold ay;simp[h]
  rw[ha]at hl;obtain⟨a,rfl⟩:=DB hl;have oa:=hok a (by simp);have na:=hne a (by simp);rw[dn,e _ h (by omega),eo,en];rw[hcl (by omega)];simp[cQ,aB,eI,aH,yN,EO hW oa,ba,cK,bE,arith,h,(g (by omega)).2]
 .have ha:ay y.op=2:=by unfold ay;simp[h]
  rw[ha]at hl;obtain⟨a,b,rfl⟩:=qN hl;have oa:=hok a (by simp);have na:=hne a (by simp);have ob:=hok b (by simp);have nb:=hne b (by simp);rw[dn,e _ h (by omega),eo,en];simp[cQ,aB,eI,aH,m7,ba,cK,bE,arith,h,cC,nb]
 .have ha:ay y.op=3:=by unfold ay;simp[h]
  rw[ha]at hl;obtain⟨a,b,c,rfl⟩:=Ga hl;have oa:=hok a (by simp);have na:=hne a (by simp);have ob:=hok b (by simp);have nb:=hne b (by simp);have oc:=hok c (by simp);have nc:=hne c (by simp);rw[dn,e _ h (by omega),eo,en];have k:=pb hW.cls hW.nc ob oc;simp[cQ,aB,eI,aH,FO,m8 hW oa,ba,cK,bE,arith,h,cC,k]
 .have ha:ay y.op=2:=by unfold ay;simp[h]
  rw[ha]at hl;obtain⟨a,b,rfl⟩:=qN hl;have oa:=hok a (by simp);have na:=hne a (by simp);have ob:=hok b (by simp);have nb:=hne b (by simp);rw[dn,e _ h (by omega),eo,en];simp[cQ,aB,eI,aH,FN,m8 hW oa,ba,cK,bE,arith,h,cC]
end
end
end Go.Proofs.YtpfkkmacakjmbaaGreatDoor
