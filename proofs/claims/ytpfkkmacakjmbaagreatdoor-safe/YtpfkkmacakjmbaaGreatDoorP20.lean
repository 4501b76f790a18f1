import Derived.Test.YtpfkkmacakjmbaaGreatDoorP19
set_option maxRecDepth 100000
set_option maxHeartbeats 6400000
set_option linter.all false
namespace Go.Proofs.YtpfkkmacakjmbaaGreatDoor
open Proofs.Tryz
section
open Go Go.RowKit Sp
theorem yS: ∀{its:List XIt} {is:List Ins} {p:XIt->Bool} {q:Ins->Bool},its.length=is.length->(∀(k:Nat) x y,its[k]?=some x->is[k]?=some y->p x=q y/\x.place=y.pos)->(its.find? p).map (·.place)=(is.find? q).map (·.pos):=by
 intro its
 induction its with
 |nil=>intro is p q hl _;cases is with|nil=>rfl|cons y is=>simp at hl
 |cons x its ih=>
  intro is p q hl h
  cases is with
  |nil=>simp at hl
  |cons y is=>
   obtain⟨h1,h2⟩:=h 0 x y rfl rfl;rw[List.find?_cons,List.find?_cons,h1]
   cases q y with
   |true=>simp[h2]
   |false=>exact ih (by simpa using hl) (λk a b ha hb=>h (k+1) a b (by simpa using ha) (by simpa using hb))
theorem qH {α β γ:Type}: ∀{bs:List α} {BS:List β} {f:α->Option γ} {g:β->Option γ},bs.length=BS.length->(∀(k:Nat) x y,bs[k]?=some x->BS[k]?=some y->f x=g y)->bs.findSome? f=BS.findSome? g:=by
 intro bs
 induction bs with
 |nil=>intro BS f g hl _;cases BS with|nil=>rfl|cons y BS=>simp at hl
 |cons x bs ih=>
  intro BS f g hl h
  cases BS with
  |nil=>simp at hl
  |cons y BS=>
   rw[List.findSome?_cons,List.findSome?_cons,h 0 x y rfl rfl,ih (by simpa using hl) (λk a b ha hb=>h (k+1) a b (by simpa using ha) (by simpa using hb))]
theorem uA {cs:List bV} {xs ys:List bM} (h:xs.map kK=ys.map kK) (m:Nat): ∀(f:Nat) (c:UInt8),iU cs xs m f c=iU cs ys m f c:=by
 intro f
 induction f with
 |zero=>intro c;rfl
 |succ f ih=>
  intro c;simp only[iU,nP h,pC h,ih]
theorem Cj {cs:List Cls} {gs:List Sig} {b:Bod} (h:lM cs gs b) (hn:cs.length<=4):(b.cls= -1)\/gF b:=by
 obtain⟨h1,_⟩ | ⟨h1,h2,h3,h4⟩:=h.cls
 .exact Or.inl h1
 .exact Or.inr ⟨h1,by omega,h3⟩
theorem wu (y:Ins):(bY y).place=y.pos:=by unfold bY;split<;>rfl
theorem Eh {cs:List Cls} {gs:List Sig} {BS:List Bod} {bs:List bM} {y:Ins} {x:XIt} {nl n n':Nat} (hw:WfC cs) (hn:cs.length<=4) (hB: ∀b∈BS,(b.cls= -1)\/gF b) (hy:WfN cs gs.length nl y) (hh:bs.map kK=(BS.map (bu gs)).map kK)
  (h1:x.op=(bY y).op) (h2:x.cls=(bY y).cls) (h3:x.num=(bY y).num):gd (cs.map toX) bs n x=dp cs BS n' y:=by
 have a3:=hy.op;have a2: ∀v:Nat,dV.contains v=false->y.op.toNat≠v:=λv hv h=>by rw[h,hv]at a3;cases a3
 have a1:=a2 106 (by decide);have a0:=a2 102 (by decide);unfold gd dp;rw[h1,h2,h3]
 by_cases hd:cd y.op=true
 .have hr:=kP hd;have e1:bY y=⟨y.pos,107,45,y.b,none,0,0⟩:=by unfold bY;rw[if_pos hd]
  rw[e1];have a4: ¬y.op.toNat=99:=by omega
  simp[a1,a0,a4]
 .have e1:bY y=bP y:=by unfold bY;rw[if_neg hd]
  rw[e1];have e2:(bP y).op=y.op:=rfl;have e3:(bP y).num=y.b:=rfl;rw[e2,e3,if_neg (by omega)]
  by_cases h9:y.op.toNat=99
  .rw[if_pos h9];have ha:=hy.cls (by omega)
   have e4:(bP y).cls=UInt8.ofNat (65+y.a):=by
    unfold bP;rw[if_pos (by omega)]
   rw[e4,cP,uA hh,ow hw hn hB y.b cs.length 5 y.a ha ha (by omega)];simp[h9]
  .rw[if_neg h9];simp[h9,a1,a0]
theorem pW (b:Nat) (im:Img) (w:World) (hW:jG im) (hT:ii w b im):
  Calls prog 104 #[.pointer (some ⟨b,0,none⟩)] w λe w'=>e= .returned (.int .i64 (ml (im.zq.findSome? (λb=>unl im.zz im.zq b.code))))/\B_ w w':=by
 obtain⟨bs,a3,a0⟩:=hT.bod
 have a1:(bs.findSome? λx=>mW (im.zz.map toX) bs x.items)=im.zq.findSome? (λb=>unl im.zz im.zq b.code):=by
  refine qH a0.1 (λk X B hX hB=> ?_);have h1:=a0.2 k X B hX hB;have a4:=hW.bod B (bp hB);unfold mW unl;refine yS h1.its.len (λq x y hx hy=> ?_);obtain⟨e1,e2,e3,e4,_⟩:=h1.its.at' q y x hy hx;exact⟨Eh hW.cls hW.nc (λb hb=>Cj (hW.bod b hb) hW.nc) (a4.code y (bp hy)) a0.heads e2 e3 e4,by rw[e1,wu]⟩
 rw[<-a1];refine kE b (im.zz.map toX) bs w (by rw[cP];have:=hW.nc;omega) (by rw[a0.1];have:=hW.nb;omega) ?_ hT.cls a3;intro x hx;obtain⟨k,hk,rfl⟩:=List.getElem_of_mem hx;have a2:k<im.zq.length:=by rw[<-a0.1];exact hk
 have h1:=a0.2 k _ _ (aH hk) (aH a2);have:=(hW.bod _ (cN a2)).len;rw[h1.its.len];omega
theorem Ck: ∀{t:List Ins} {m:Nat},full m t-> ∀i,i<t.length-> ∃m',full (m'+1) (t.drop i):=by
 intro t
 induction t with
 |nil=>intro m _ i h;simp at h
 |cons x t ih=>
  intro m h i hi
  cases m with
  |zero=>cases h
  |succ m=>
   cases i with
   |zero=>exact⟨m,h⟩
   |succ i=>exact ih (m:=m+aA x.op) h i (by simpa using hi)
theorem A1 {t:List Ins}: ∀{j m k:Nat},full (m+j) (t.drop k)->(di t j k).length=j:=by
 intro j
 induction j with
 |zero=>intro m k _;rfl
 |succ j ih=>
  intro m k h;have h0:=tW (m:=m+j) (by rw[show m+j+1=m+(j+1)from by omega];exact h);rw[List.length_drop]at h0;have h1:=ym (u:=t.drop k) (m:=m+j) (by rw[show 1+(m+j)=m+(j+1)from by omega];exact h);rw[List.drop_drop]at h1;simp only[di,show k<t.length from by omega,if_true,List.length_cons];rw[ih (m:=m) (k:=bO t k) h1]
theorem uB {t:List Ins} (hf:full 1 t) {i:Nat} {x:Ins} (hx:t[i]?=some x):(ek t i).length=aA x.op:=by
 obtain⟨hl,hg⟩:=bC hx;obtain⟨m,hm⟩:=Ck hf i hl;rw[List.drop_eq_getElem_cons hl,hg]at hm;have a0:full (m+aA x.op) (t.drop (i+1)):=hm;unfold ek;rw[hx];exact A1 a0
theorem A2 {t:List Ins}: ∀{j k:Nat},∀q∈di t j k,k<=q/\q<t.length:=by
 intro j
 induction j with
 |zero=>intro k q h;simp[di]at h
 |succ j ih=>
  intro k q h;unfold di at h
  split at h
  .rename_i hk
   obtain rfl|h:=List.mem_cons.1 h
   .exact⟨b8 _,hk⟩
   .have h1:=ih q h;have h2:=oT hk;exact⟨by omega,h1.2⟩
  .simp at h
theorem iZ {t:List Ins} {i q:Nat} (h:q∈ek t i):i<q/\q<t.length:=by
 unfold ek at h
 split at h
 .have:=A2 q h;exact⟨by omega,this.2⟩
 .simp at h
section
variable {cs:List Cls} {gs:List Sig} {lo:L_} {t:List Ins}
theorem oy {f g:Nat->Option UInt8}: ∀{n k:Nat},(∀q,k<=q->q<t.length->f q=g q)->(∀q,t.length<=q->f q=none/\g q=none)->cz t f n k=cz t g n k:=by
 intro n
 induction n with
 |zero=>intro k _ _;rfl
 |succ n ih=>
  intro k h1 h2;unfold cz;obtain hk|hk:=Nat.lt_or_ge k t.length
  .rw[h1 k (b8 _) hk,ih (λq hq=>h1 q (by have:=oT hk;omega)) h2]
  .rw[(h2 k hk).1,(h2 k hk).2]
theorem eU {F q:Nat} (h:t.length<=q):cS cs gs lo t F q=none:=by
 cases F with
 |zero=>rfl
 |succ F=>simp[cS,List.getElem?_eq_none h]
theorem yT: ∀{F G k:Nat},t.length-k<=F->t.length-k<=G->cS cs gs lo t F k=cS cs gs lo t G k:=by
 intro F
 induction F with
 |zero=>intro G k h1 _;rw[eU (by omega),eU (by omega)]
 |succ F ih=>
  intro G k h1 h2
  cases G with
  |zero=>rw[eU (by omega),eU (by omega)]
  |succ G=>
   have hp: ∀n,cz t (cS cs gs lo t F) n (k+1)=cz t (cS cs gs lo t G) n (k+1):=λn=>
    oy (λq hq hl=>ih (by omega) (by omega)) (λq hq=>⟨eU hq,eU hq⟩)
   simp only[cS,hp]
theorem rl {k:Nat} {x:Ins} (hx:t[k]?=some x):cS cs gs lo t t.length k=match cz t (cS cs gs lo t t.length) (aA x.op) (k+1)with
  |none=>none
  |some ts=>bT cs gs lo x ts:=by
 have hl:=(bC hx).1;obtain⟨n,hn⟩: ∃n,t.length=n+1:=⟨t.length-1,by omega⟩;have h1:cS cs gs lo t t.length k=cS cs gs lo t (n+1) k:=by rw[hn]
 rw[h1]
 have hp:cz t (cS cs gs lo t n) (aA x.op) (k+1)=cz t (cS cs gs lo t t.length) (aA x.op) (k+1):=
  oy (λq hq hl=>yT (by omega) (by omega)) (λq hq=>⟨eU hq,eU hq⟩)
 simp only[cS,hx,hp]
 cases cz t (cS cs gs lo t t.length) (aA x.op) (k+1)<;>rfl
theorem wv {ty:Nat->UInt8}: ∀{n k:Nat},(di t n k).length=n->(∀q∈di t n k,cS cs gs lo t t.length q=some (ty q))->cz t (cS cs gs lo t t.length) n k=some ((di t n k).map ty):=by
 intro n
 induction n with
 |zero=>intro k _ _;rfl
 |succ n ih=>
  intro k hl h;unfold di at hl h⊢
  split at hl
  .rename_i hk
   rw[if_pos hk]at h⊢;unfold cz;rw[h k (by simp),ih (by simpa using hl) (λq hq=>h q (by simp[hq]))]
   rfl
  .simp at hl
theorem Cl: ∀{F k:Nat},t.length-k<=F->cS cs gs lo t t.length k≠none-> ∀j,k<=j->j<bO t k->cS cs gs lo t t.length j≠none:=by
 intro F
 induction F with
 |zero=>intro k hF h j _ _;exact absurd (eU (by omega)) h
 |succ F ih=>
  intro k hF h j h1 h2;obtain rfl|h1:=Nat.eq_or_lt_of_le h1
  .exact h
  .have hl:k<t.length:=by
    obtain hl|hl:=Nat.lt_or_ge k t.length
    .exact hl
    .exact absurd (eU hl) h
   have hx:=aH hl;rw[rl hx]at h;rw[lJ hx]at h2
   have hp: ∀n p,k<p->cz t (cS cs gs lo t t.length) n p≠none-> ∀j,p<=j->j<p+sk n (t.drop p)->cS cs gs lo t t.length j≠none:=by
    intro n
    induction n with
    |zero=>intro p _ _ j a1 a2;rw[oP]at a2;omega
    |succ n ihn=>
     intro p a3 a0 j a1 a2;rw[m9]at a2;have hT:cS cs gs lo t t.length p≠none:=λh0=>a0 (by simp[cz,h0])
     obtain hj|hj:=Nat.lt_or_ge j (bO t p)
     .exact ih (k:=p) (by omega) hT j a1 hj
     .refine ihn (bO t p) ?_ ?_ j hj a2
      .have:p<t.length:=by
        obtain hl|hl:=Nat.lt_or_ge p t.length
        .exact hl
        .exact absurd (eU hl) hT
       have:=oT this;omega
      .intro h0
       apply a0
       unfold cz
       cases cS cs gs lo t t.length p<;>simp[h0]
   refine hp (aA t[k].op) (k+1) (by omega) ?_ j (by omega) h2;intro h0;rw[h0]at h;exact h rfl
theorem A3 (hf:full 1 t) (h:cS cs gs lo t t.length 0≠none): ∀j,j<t.length->cS cs gs lo t t.length j≠none:=by
 intro j hj;refine Cl (F:=t.length) (by omega) h j (Nat.zero_le _) ?_;unfold bO;rw[List.drop_zero];have:=xd (v:=[]) hf;rw[List.append_nil]at this;omega
end
end
section
open Go Go.RowKit Sp
attribute [local go_sem ↓] dG dH
def dk (cs:List bV) (ms:List Sig) (lo:L_) (y:Ins) (ps:L_):Option UInt8:=
 if kL cs (cR cs ms lo (bY y).op (bY y).cls (bY y).num) ps=true/\(el cs ms lo (bY y).op (bY y).cls (bY y).num ps).toNat≠45 then some (el cs ms lo (bY y).op (bY y).cls (bY y).num ps)else none
def stepX (cs:List bV) (ms:List Sig) (lo:L_) (is:List Ins) (i:Nat) (ty:L_):Option L_:=match is[i]? with
 |none=>none
 |some y=>(dk cs ms lo y ((ek is i).map (cB ty))).map λc=>ty.set i c
def oM (cs:List bV) (ms:List Sig) (lo:L_) (is:List Ins):Nat->L_->Option L_
 |0,ty=>some ty
 |q+1,ty=>match stepX cs ms lo is q ty with
  |none=>none
  |some ty'=>oM cs ms lo is q ty'
def sH (cs:List bV) (r:UInt8):Option L_->Bool
 |none=>false
 |some ty=>fq cs (cB ty 0) r
def A4 (cs:List bV) (ms:List Sig) (lo:L_) (is:List Ins) (r:UInt8):Bool:=sH cs r (oM cs ms lo is is.length (List.replicate is.length 0))
theorem Cm (t:List Ins): ∀n k,(di t n k).length<=n:=by
 intro n
 induction n with
 |zero=>intro k;simp[di]
 |succ n ih=>
  intro k;unfold di
  split
  .have:=ih (bO t k);simp;omega
  .simp
theorem Cn (t:List Ins) (k:Nat):(ek t k).length<=3:=by
 unfold ek
 split
 .rename_i x _
  have h:=Cm t (aA x.op) (k+1);have:aA x.op<=3:=by unfold aA;split;omega;split;omega;split<;>omega
  omega
 .simp
theorem yU (cs:List bV) (ms:List Sig) (lo:L_) (c k:UInt8) (n:Nat):(cR cs ms lo c k n).length<=2:=by
 unfold cR aE
 repeat' split
 all_goals simp
theorem Co (n:Nat):madeCells #[.int .u8 0] n=(aP (List.replicate n 0)).toArray:=by
 apply Array.ext
 .rw[size_madeCells];simp[aP]
 .intro k h1 h2;have e:k % 1=0:=by omega
  simp[madeCells,e,aP]
theorem Cp (n:Nat) (hn:n<=1000) (w:World):(Instr.makeSlice 112 (.int .i64 (n:Int)) (.int .i64 (n:Int))).run prog w= .ok (.slice (some ⟨w.heap.size,0,none⟩) n n) (w.alloc (.cells (aP (List.replicate n 0)).toArray 5)):=by
 have a0:=ke
 cases hi:prog.info? 5 with
 |none=>rw[hi]at a0;cases a0
 |some i=>
  rw[hi]at a0;simp only[Option.map_some,Option.some.injEq,Prod.mk.injEq]at a0;obtain⟨hz,hs,hb⟩:=a0;have:=run_make (P:=prog) w 112 5 i _ (by kernel_rfl) hi hz .i64 .i64 n n (by omega) (by omega) (by rw[hb];omega) (by omega);rw[this,hs];simp only[Int.toNat_natCast,Value.cells,Nat.mul_one];rw[Co]
section
variable (b:Nat) (cs:List bV) (ms:List Sig) (c0:UInt8) (m0:Nat) (r0:UInt8) (al ai:Option Addr) (capl capi:Nat) (lo:L_) (its:List XIt) (is:List Ins) (w:World)
theorem sI (hn:cs.length<=100) (hm:ms.length<=100) (hlen:its.length<=24) (hT:TxC w b cs) (hM:TxM w b ms) (hB:BtB w 0 (.slice al lo.length capl) lo) (hI:ItB w 0 (.slice ai its.length capi) its) (hN:lN w 0 its is):
  Calls prog 91 #[.pointer (some ⟨b,0,none⟩),hdV c0 m0 r0 (.slice al lo.length capl) (.slice ai its.length capi)] w λen w'=>B_ w w'/\en= .returned (.bool (A4 cs ms lo is r0)):=by
 obtain⟨R,g0⟩: ∃R,A4 cs ms lo is r0=R:=⟨_,rfl⟩;rw[g0];have g7:=hN.len;have n5:=Cp its.length (by omega);have l4:Hid (sH cs r0 (oM cs ms lo is its.length (List.replicate its.length 0))=R):=by rw[g7];exact hid g0
 have h4:=hid g7;clear g0 g7;unfold hdV;have h7:B_ w (w.alloc (.cells #[.int .u8 c0.toNat,.int .i64 m0,.int .u8 r0.toNat,.slice al lo.length capl,.slice ai its.length capi] 115)):=ag _ _ _;have g6:(w.alloc (.cells #[.int .u8 c0.toNat,.int .i64 m0,.int .u8 r0.toNat,.slice al lo.length capl,.slice ai its.length capi] 115)).heap[w.heap.size]?=some (.cells #[.int .u8 c0.toNat,.int .i64 m0,.int .u8 r0.toNat,.slice al lo.length capl,.slice ai its.length capi] 115):=aO _ _
 go_in
 go_wp2_with fail;have o0:(w.alloc (.cells #[.int .u8 c0.toNat,.int .i64 m0,.int .u8 r0.toNat,.slice al lo.length capl,.slice ai its.length capi] 115)).heap.size=w.heap.size+1:=by simp
 generalize (w.alloc (.cells #[.int .u8 c0.toNat,.int .i64 m0,.int .u8 r0.toNat,.slice al lo.length capl,.slice ai its.length capi] 115))=w1 at*
 have n1:(w1.alloc (.cells (aP (List.replicate its.length 0)).toArray 5)).ownsRow (w.heap.size+1) 5 1 (.slice (some ⟨w.heap.size+1,0,none⟩) its.length its.length) its.length (aP (List.replicate its.length 0)):=by
  have h:=BtB.lit w1 (w.heap.size+1) (by omega) (List.replicate its.length 0) (by simp;omega);rw[o0]at h;unfold BtB at h;simp only[List.length_replicate]at h;exact h
 have m4:B_ w (w1.alloc (.cells (aP (List.replicate its.length 0)).toArray 5)):=h7.trans (ag _ _ _);have n2:=((ag (λ_=>False) w1 (.cells (aP (List.replicate its.length 0)).toArray 5)).block _ (ae g6) (λh=>h)).trans g6;have o6:(w1.alloc (.cells (aP (List.replicate its.length 0)).toArray 5)).heap.size=w.heap.size+2:=by simp;omega
 generalize (w1.alloc (.cells (aP (List.replicate its.length 0)).toArray 5))=w2 at*;clear n5 h7 g6
 go_loopg [6] its.length (λmm js wr=> ∃(v:Int) (q:Nat) (ty:L_),js= .int .i64 v/\v=(q:Int)-1/\q<=its.length/\q<=mm/\mm<=q/\wr.ownsRow (w.heap.size+1) 5 1 (.slice (some ⟨w.heap.size+1,0,none⟩) its.length its.length) its.length (aP ty)/\B_ w wr/\w.heap.size+1<wr.heap.size/\wr.heap[w.heap.size]?=some (.cells #[.int .u8 c0.toNat,.int .i64 m0,.int .u8 r0.toNat,.slice al lo.length capl,.slice ai its.length capi] 115)/\Hid (ty.length=its.length/\sH cs r0 (oM cs ms lo is q ty)=R))
 case atStart=>exact⟨_,its.length,_,rfl,rfl,by omega,by omega,by omega,n1,m4,by omega,n2,hid ⟨by simp,l4.out⟩⟩
 case round=>
  obtain⟨v,q,ty,rfl,hv,o3,o4,o5,i2,b5,p2,e0,HI⟩:=hrel;obtain⟨k0,k1,k2,k3,k4⟩:=bN e0;have c9:=ae e0
  have g3:BtB wr 0 (.slice (some ⟨w.heap.size+1,0,none⟩) ty.length its.length) ty:=by
   unfold BtB;rw[HI.out.1];exact dn i2 (Nat.zero_le _)
  cases q with
  |zero=>
   have n6: ¬(0:Int)<=v:=by omega
   have g2:=dZ _ _ ty 0 wr.drew (BtB.but g3 (aD (λ_=>False) _) (λ_ _ h=>h));rw[HI.out.1]at g2;have m1:=hid g2;have l0:=hid (lF b cs (cB ty 0) r0 wr.drew hn (hT.but (b5.trans (aD _ _))));have HE:Hid (fq cs (cB ty 0) r0=R):=hid HI.out.2;clear g2 g3;go_wp2_with fail;have b0:B_ wr wr.drew:=aD _ _;refine dv (B_ wr) 6 ?_;refine dg [0,1,3,4] ?_
   iterate 4 (refine dw (v:=?_) rfl b0 ?_ ?_;rotate_left;(focus (intro wS h;have q0:=(h.kc k2 c9);clear h;go_simp;try rfl));dsimp only[Act.put];try simp only[cH])
   refine aG (k:=2) rfl ?_;intro KS hKS;go_simp;refine m1.out.mono ?_;rintro en wx ⟨rfl,e6⟩;rw[e6];clear e6 wx;refine hKS.out _ _ (λ_=>b0) ?_;clear hKS KS;refine aG (k:=5) rfl ?_;intro KS hKS;go_simp;refine l0.out.mono ?_;rintro en wx ⟨rfl,e6⟩;rw[e6,HE.out];clear e6 wx;refine hKS.out _ _ (λ_=>b0) ?_;clear hKS KS;refine aG (k:=6) rfl ?_;intro KS hKS;go_simp;refine hKS.out _ _ nofun ?_;clear hKS KS;refine dl rfl ?_;go_wp2_with fail;go_ret;exact⟨b5.trans b0,rfl⟩
  |succ p=>
   have n9:v=(p:Int):=by omega
   subst n9;clear hv;have n7:p<is.length:=by rw[<-h4.out];omega
   obtain⟨x,hx⟩: ∃x,its[p]?=some x:=⟨_,aH (by omega)⟩;have hy:=aH n7;obtain⟨y,i5⟩: ∃y,is[p]=y:=⟨_,rfl⟩;rw[i5]at hy;obtain⟨e1,e2,e3,e4,e5⟩:=hN.at' p y x hy hx;have f2:=hid e2;have f3:=hid e3;have f4:=hid e4;have HY:=hid hy;clear e1 e2 e3 e4 i5 hy;obtain⟨g,rfl,b1,n3,a1⟩:=aF (aj hI b5 (λ_ _ h=>h)) (by omega);have z0:wr.cell? ⟨g,p*5,none⟩=some (.int .i64 x.place):=a1 _ _ (aS (k:=0) hx (by omega));have z1:wr.cell? ⟨g,p*5+1,none⟩=some (.int .u8 x.op.toNat):=a1 _ _ (aS (k:=1) hx (by omega));have z2:wr.cell? ⟨g,p*5+2,none⟩=some (.int .u8 x.cls.toNat):=a1 _ _ (aS (k:=2) hx (by omega));have z3:wr.cell? ⟨g,p*5+3,none⟩=some (.int .i64 x.num):=a1 _ _ (aS (k:=3) hx (by omega))
   have z4:wr.cell? ⟨g,p*5+4,none⟩=some (.slice x.pa x.pn x.pc):=a1 _ _ (aS (k:=4) hx (by omega));have o2:(p:Int)<(its.length:Int):=by omega
   have o1:(0:Int)<=(p:Int):=by omega
   have f0:=sF x (ek is p) ty _ _ wr (Cn is p) (λk hk=>by have:=(iZ hk).2;have:=h4.out;omega) (aj e5 b5 (λ_ _ h=>h)) g3;rw[HI.out.1]at f0;unfold itV at f0;have h5:=hid f0;clear f0 a1;go_wp2_with fail;refine h5.out.mono ?_;rintro en w3 ⟨a7,a3,c3,rfl,h8⟩;clear h5;obtain⟨PS,e9⟩: ∃PS,(ek is p).map (cB ty)=PS:=⟨_,rfl⟩;have b3:(ek is p).length=PS.length:=by rw[<-e9];simp
   rw[e9,b3]at h8;rw[b3];have f5:=hid e9;clear e9 b3;have f8:=b5.trans a7;have i3:=(a7.block _ c9 (λh=>h)).trans e0;have a5:=ae i3;have a0:g<w3.heap.size:=bq b1 a7.size;obtain⟨i6,i7,j0,j1,j2⟩:=bN i3;have y0:=a7.kc z0 b1;have y1:=a7.kc z1 b1;have y2:=a7.kc z2 b1;have y3:=a7.kc z3 b1;have y4:=a7.kc z4 b1;clear z0 z1 z2 z3 z4 k0 k1 k2 k3 k4;have e8:B_ w w3.drew:=f8.trans (aD _ _);have h9:BtB w3.drew 0 (.slice a3 PS.length c3) PS:=dn (BtB.but h8 (aD (λ_=>False) _) (λ_ _ h=>h)) (Nat.zero_le _);have f1:=hid (sG b cs ms c0 m0 r0 al (some ⟨g,0,none⟩) capl its.length capi lo x w3.drew a3 c3 PS hn hm (hT.but e8) (hM.but e8) (BtB.but hB e8 (λ_ _ h=>h)) h9 (by have:=yU cs ms lo x.op x.cls x.num;omega))
   unfold hdV itV at f1;go_wp2_with fail;have b0:B_ w3 w3.drew:=aD _ _;refine dv (B_ w3) 10 ?_;have fSB:=hid (λwS (h:(B_ w3) wS)=>(And.intro (h.kc i6 a5) (And.intro (h.kc i7 a5) (And.intro (h.kc j0 a5) (And.intro (h.kc j1 a5) (And.intro (h.kc j2 a5) (And.intro (h.kc y0 a0) (And.intro (h.kc y1 a0) (And.intro (h.kc y2 a0) (And.intro (h.kc y3 a0) (h.kc y4 a0)))))))))));refine dg [0,1,2,3,4,5,6,7] ?_
   iterate 8 (refine dw (v:=?_) rfl b0 ?_ ?_;rotate_left;(focus (intro wS h;obtain⟨q0,q1,q2,q3,q4,q5,q6,q7,q8,q9⟩:=fSB.out wS h;clear h;go_simp;try rfl));dsimp only[Act.put];try simp only[cH])
   try clear fSB
   refine aG (k:=8) rfl ?_;intro KS hKS;go_simp;refine f1.out.mono ?_;rintro en w4 ⟨f6,rfl⟩;have b9:=e8.trans f6;have a8:B_ w3 w4:=b0.trans f6;refine hKS.out _ _ (λ_=>a8) ?_;clear hKS KS;refine aG (k:=9) rfl ?_;intro KS hKS;go_simp;refine hKS.out _ _ (λ_=>a8) ?_;clear hKS KS;refine dl rfl ?_
   cases hac:kL cs (cR cs ms lo x.op x.cls x.num) PS with
   |false=>
    have b4:R=false:=by
     have h2:=HI.out.2
     have n8:stepX cs ms lo is p ty=none:=by
      simp only[stepX,HY.out,f5.out,dk,<-f2.out,<-f3.out,<-f4.out,hac];simp
     rw[<-h2];simp only[oM,n8,sH]
    subst b4;clear hac;go_wp2_with fail;go_ret;exact⟨b9,rfl⟩
   |true=>
    have b6:=hid hac;clear hac;have g1:B_ wr w4:=a7.trans a8;have i4:=(g1.block _ c9 (λh=>h)).trans e0;have a6:=ae i4;have a4:g<w4.heap.size:=bq b1 g1.size;obtain⟨j3,j4,j5,j7,k9⟩:=bN i4;have x0:=a8.kc y0 a0;have x1:=a8.kc y1 a0;have x2:=a8.kc y2 a0;have x3:=a8.kc y3 a0;have x4:=a8.kc y4 a0;clear y0 y1 y2 y3 y4 i6 i7 j0 j1 j2 f1;have f7:B_ w w4.drew:=b9.trans (aD _ _);have n0:BtB w4.drew 0 (.slice a3 PS.length c3) PS:=BtB.but h9 (f6.trans (aD _ _)) (λ_ _ h=>h);have e7:=hid (uy b cs ms c0 m0 r0 al (some ⟨g,0,none⟩) capl its.length capi lo x w4.drew a3 c3 PS hn hm (hT.but f7) (hM.but f7) (BtB.but hB f7 (λ_ _ h=>h)) n0)
    unfold hdV itV at e7;obtain⟨C,hC⟩: ∃C,el cs ms lo x.op x.cls x.num PS=C:=⟨_,rfl⟩;rw[hC]at e7;have HC:=hid hC;clear hC;go_wp2_with fail;have i0:B_ w4 w4.drew:=aD _ _;refine aI (B_ w4) 11 ?_
    iterate 10 (refine aQ (v:=?_) rfl i0 ?_ ?_;rotate_left;(focus (intro wS h;have q0:=(h.kc j3 a6);have q1:=(h.kc j4 a6);have q2:=(h.kc j5 a6);have q3:=(h.kc j7 a6);have q4:=(h.kc k9 a6);have q5:=(h.kc x0 a4);have q6:=(h.kc x1 a4);have q7:=(h.kc x2 a4);have q8:=(h.kc x3 a4);have q9:=(h.kc x4 a4);clear h;go_simp;try rfl));dsimp only[Act.put];try simp only[cH])
    refine az rfl ?_;intro KS hKS;go_simp;refine e7.out.mono ?_;rintro en w5 ⟨m5,rfl⟩;have i1:B_ w4 w5:=i0.trans m5;refine hKS.out _ _ (λ_=>i1) ?_;clear hKS KS;have a2:=g1.trans i1;have g4:=aj i2 a2 (λ_ _ h=>h);obtain⟨gq,d6,h1,h3,c7⟩:=aF g4 (by omega);have b2:w.heap.size+1=gq:=by injection d6 with h;injection h with h
    subst b2;have h0:p<ty.length:=by rw[HI.out.1];omega
    have ct:=c7 _ _ (dP h0);have ft:=gU g4 p;clear c7 d6;refine az rfl ?_;intro KS hKS;go_simp;refine hKS.out _ _ nofun ?_;clear hKS KS;refine az rfl ?_;intro KS hKS;go_simp;refine hKS.out _ _ nofun ?_;clear hKS KS;refine aR rfl ?_;have g5:=iR g4 p (.int .u8 C.toNat);rw[show(aP ty).set p (.int .u8 C.toNat)=aP (ty.set p C)from by simp[aP,List.map_set]]at g5;have h6:B_ w (w5.setCell ⟨w.heap.size+1,p,none⟩ (.int .u8 C.toNat)):=(b5.trans a2).next (au _ _ _ _) (λj hj h=>by omega);have n4:=((au w5 (w.heap.size+1) p (.int .u8 C.toNat)).block w.heap.size (bq c9 a2.size) (λh=>by omega)).trans ((a2.block _ c9 (λh=>h)).trans e0)
    have p1:=(au w5 (w.heap.size+1) p (.int .u8 C.toNat)).size;have p0:=a2.size
    have l6:Hid (C.toNat≠45->stepX cs ms lo is p ty=some (ty.set p C)):=hid (λh=>by
     simp only[stepX,HY.out,f5.out,dk,<-f2.out,<-f3.out,<-f4.out,b6.out,HC.out];simp[h])
    have l5:Hid (C.toNat=45->stepX cs ms lo is p ty=none):=hid (λh=>by
     simp only[stepX,HY.out,f5.out,dk,<-f2.out,<-f3.out,<-f4.out,b6.out,HC.out];simp[h])
    obtain⟨gq,d6,h1,h3,c7⟩:=aF g5 (by omega);have b2:w.heap.size+1=gq:=by injection d6 with h;injection h with h
    subst b2;have m2:=c7 _ _ (dP (l:=ty.set p C) (k:=p) (by simpa using h0));rw[show(ty.set p C).getD p 0=C from by simp[List.getD,h0]]at m2;clear c7 d6 x0 x1 x2 x3 x4 j3 j4 j5 j7 k9 e7 ct ft;generalize (w5.setCell ⟨w.heap.size+1,p,none⟩ (.int .u8 C.toNat))=w6 at*
    by_cases h45:C.toNat=45
    .have m3:((C.toNat:Int)==45)=true:=by rw[beq_iff_eq];omega
     have b4:R=false:=by
      rw[<-HI.out.2];simp only[oM,l5.out h45,sH]
     subst b4;clear h45;go_wp2_with fail;go_ret;exact⟨h6,rfl⟩
    .have m3:=tf C.toNat 45 (by omega)
     have l3:Hid ((ty.set p C).length=its.length/\sH cs r0 (oM cs ms lo is p (ty.set p C))=R):=by
      refine hid ⟨by rw[List.length_set];exact HI.out.1,?_⟩;rw[<-HI.out.2];simp only[oM,l6.out h45]
     clear h45;go_wp2_with fail
     go_roundg p
     case measure=>omega
     case rel=>exact⟨_,p,_,rfl,rfl,by omega,by omega,by omega,g5,h6,by omega,n4,l3⟩
end
end
section
open Go Go.RowKit Sp
section
variable {cs:List bV} {a b c p q:UInt8}
theorem mw (ts:L_):kL cs [] ts=true:=by simp[kL]
theorem xz:kL cs [p] [a]=cJ cs a p:=by simp[kL,cB,List.range_succ]
theorem Ei:kL cs [p] [a,b]=cJ cs a p:=by simp[kL,cB,List.range_succ]
theorem Ej:kL cs [p] [a,b,c]=cJ cs a p:=by simp[kL,cB,List.range_succ]
theorem nk:kL cs [p,q] [a,b]=(cJ cs a p&&cJ cs b q):=by simp[kL,cB,List.range_succ]
theorem ww {cs:List Cls}:eG cs [a] [p]=cy cs a p:=by simp[eG,List.range_succ]
theorem lm {cs:List Cls}:eG cs [a,b] [p,q]=(cy cs a p&&cy cs b q):=by simp[eG,List.range_succ]
end
theorem oz {cs:List Cls} (a:UInt8):cy cs a 105=decide (a.toNat=105):=by
 unfold cy
 by_cases h:a.toNat=105
 .simp[h]
 .have:isC 105=false:=by decide
  simp[h,this]
section
variable {im:Img}
theorem wy (hW:jG im) {a c:UInt8} (ha:okT im.zz.length a=true) (hc:okT im.zz.length c=true) (h38:c.toNat≠38):cJ (im.zz.map toX) a c=cy im.zz a c:=by
 unfold cJ;rw[if_neg h38];exact iT hW.cls hW.nc ha hc
theorem mx (hW:jG im) {a:UInt8} (ha:okT im.zz.length a=true):cJ (im.zz.map toX) a 105=decide (a.toNat=105):=by
 rw[wy hW ha tX (by decide),oz]
theorem Dy (hW:jG im) {a:UInt8} (ha:okT im.zz.length a=true):cJ (im.zz.map toX) a 38=isR a:=by
 unfold cJ isR;rw[if_pos (by decide),cP,fP hW.cls hW.nc ha]
theorem uC (hW:jG im) {x:Ins} (ha:x.a<im.zz.length) (hb:x.b<bH im.zz x.a):cB (cQ (im.zz.map toX) (UInt8.ofNat (65+x.a))) x.b=cO im.zz x.a x.b:=by
 obtain⟨hl,hk⟩:=AJ ha hW.nc;have hv:(UInt8.ofNat (65+x.a)).toNat-65=x.a:=by have:=hW.nc;simp;omega
 have a0:=km (a:=0) hl;rw[hv]at a0;unfold cB;rw[if_pos (by rw[<-a0];exact hb)];unfold cO cQ;rw[cP,if_pos hl,cg,hv]
 cases im.zz[x.a]?<;>rfl
end
theorem yV {n:Nat} {c:UInt8} (h:okT n c=true):c.toNat≠38:=by rw[eF]at h;omega
theorem sJ {n:Nat} {c:UInt8} (h:cZ n c=true):c.toNat≠45:=by
 simp[cZ,aN]at h;omega
theorem nm {ts:L_} (h:ts.length=0):ts=[]:=List.length_eq_zero_iff.1 h
theorem Cq {ts:L_} (h:ts.length=1): ∃a,ts=[a]:=List.length_eq_one_iff.1 h
theorem pX {ts:L_} (h:ts.length=2): ∃a b,ts=[a,b]:=by
 match ts,h with
 | [a,b],_=>exact⟨a,b,rfl⟩
theorem E8 {ts:L_} (h:ts.length=3): ∃a b c,ts=[a,b,c]:=by
 match ts,h with
 | [a,b,c],_=>exact⟨a,b,c,rfl⟩
theorem oV {lo:L_} {n:Nat} (h:n<lo.length):cB lo n=lo.getD n 0:=by unfold cB;rw[if_pos h]
section
theorem A5 {im:Img} (hW:jG im) {bd:Bod} (hbd:lM im.zz im.zj bd) {y:Ins} (hy:WfN im.zz im.zj.length bd.locals.length y) {ts:L_} (hl:ts.length=aA y.op) (hok: ∀c∈ts,okT im.zz.length c=true) (hne: ∀c∈ts,c.toNat≠45):dk (im.zz.map toX) im.zj bd.locals y ts=bT im.zz im.zj bd.locals y ts:=by
 have a7:=List.elem_iff.1 hy.op;simp only[dV,List.mem_cons,List.not_mem_nil,or_false]at a7
 have a1: ∀n:Nat,y.op.toNat=n-> ¬(48<=n/\n<=57)->bY y=bP y:=λn h1 h2=>by
  unfold bY;rw[if_neg (λh=>h2 (by rw[<-h1];exact kP h))]
 have a3:=λh=>pJ (x:=y) h
 have a2: ∀h:y.op.toNat=110\/y.op.toNat=120\/y.op.toNat=103\/y.op.toNat=112\/y.op.toNat=99,okT im.zz.length (dI y.a)=true/\(dI y.a).toNat≠45:=λh=>
  ⟨rW (hy.cls h) hW.nc,by have:=hy.cls h;have:=hW.nc;unfold dI;simp;omega⟩
 have eo:(bP y).op=y.op:=rfl;have en:(bP y).num=y.b:=rfl;obtain h|h|h|h|h|h|h|h|h|h|h|h|h|h|h|h|h|h|h|h|h|h|h|h|h|h|h|h|h|h:=a7
 .have ha:aA y.op=0:=by unfold aA;simp[h]
  rw[ha]at hl;have a0:=nm hl;subst a0;have e1:bY y=⟨y.pos,107,45,y.b,none,0,0⟩:=by unfold bY;rw[if_pos (by simp[cd,h])]
  rw[dk,e1];simp[cR,aE,el,aM,mw,bT,dJ,cj,arith,h]
 .have ha:aA y.op=0:=by unfold aA;simp[h]
  rw[ha]at hl;have a0:=nm hl;subst a0;have e1:bY y=⟨y.pos,107,45,y.b,none,0,0⟩:=by unfold bY;rw[if_pos (by simp[cd,h])]
  rw[dk,e1];simp[cR,aE,el,aM,mw,bT,dJ,cj,arith,h]
 .have ha:aA y.op=0:=by unfold aA;simp[h]
  rw[ha]at hl;have a0:=nm hl;subst a0;have e1:bY y=⟨y.pos,107,45,y.b,none,0,0⟩:=by unfold bY;rw[if_pos (by simp[cd,h])]
  rw[dk,e1];simp[cR,aE,el,aM,mw,bT,dJ,cj,arith,h]
 .have ha:aA y.op=0:=by unfold aA;simp[h]
  rw[ha]at hl;have a0:=nm hl;subst a0;have e1:bY y=⟨y.pos,107,45,y.b,none,0,0⟩:=by unfold bY;rw[if_pos (by simp[cd,h])]
  rw[dk,e1];simp[cR,aE,el,aM,mw,bT,dJ,cj,arith,h]
 .have ha:aA y.op=0:=by unfold aA;simp[h]
  rw[ha]at hl;have a0:=nm hl;subst a0;have e1:bY y=⟨y.pos,107,45,y.b,none,0,0⟩:=by unfold bY;rw[if_pos (by simp[cd,h])]
  rw[dk,e1];simp[cR,aE,el,aM,mw,bT,dJ,cj,arith,h]
 .have ha:aA y.op=0:=by unfold aA;simp[h]
  rw[ha]at hl;have a0:=nm hl;subst a0;have e1:bY y=⟨y.pos,107,45,y.b,none,0,0⟩:=by unfold bY;rw[if_pos (by simp[cd,h])]
  rw[dk,e1];simp[cR,aE,el,aM,mw,bT,dJ,cj,arith,h]
 .have ha:aA y.op=0:=by unfold aA;simp[h]
  rw[ha]at hl;have a0:=nm hl;subst a0;have e1:bY y=⟨y.pos,107,45,y.b,none,0,0⟩:=by unfold bY;rw[if_pos (by simp[cd,h])]
  rw[dk,e1];simp[cR,aE,el,aM,mw,bT,dJ,cj,arith,h]
 .have ha:aA y.op=0:=by unfold aA;simp[h]
  rw[ha]at hl;have a0:=nm hl;subst a0;have e1:bY y=⟨y.pos,107,45,y.b,none,0,0⟩:=by unfold bY;rw[if_pos (by simp[cd,h])]
  rw[dk,e1];simp[cR,aE,el,aM,mw,bT,dJ,cj,arith,h]
 .have ha:aA y.op=0:=by unfold aA;simp[h]
  rw[ha]at hl;have a0:=nm hl;subst a0;have e1:bY y=⟨y.pos,107,45,y.b,none,0,0⟩:=by unfold bY;rw[if_pos (by simp[cd,h])]
  rw[dk,e1];simp[cR,aE,el,aM,mw,bT,dJ,cj,arith,h]
 .have ha:aA y.op=0:=by unfold aA;simp[h]
  rw[ha]at hl;have a0:=nm hl;subst a0;have e1:bY y=⟨y.pos,107,45,y.b,none,0,0⟩:=by unfold bY;rw[if_pos (by simp[cd,h])]
  rw[dk,e1];simp[cR,aE,el,aM,mw,bT,dJ,cj,arith,h]
 .have ha:aA y.op=0:=by unfold aA;simp[h]
  rw[ha]at hl;have a0:=nm hl;subst a0;rw[dk,a1 _ h (by omega),eo,en];simp[cR,aE,el,aM,mw,bT,dJ,cj,arith,h]
 .have ha:aA y.op=1:=by unfold aA;simp[h]
  rw[ha]at hl;obtain⟨a,rfl⟩:=Cq hl;have oa:=hok a (by simp);have na:=hne a (by simp);rw[dk,a1 _ h (by omega),eo,en];simp[cR,aE,el,aM,xz,mx hW oa,bT,dJ,cj,arith,h,ww,oz]
 .have ha:aA y.op=0:=by unfold aA;simp[h]
  rw[ha]at hl;have a0:=nm hl;subst a0;rw[dk,a1 _ h (by omega),eo,en];have hb:=hy.loc (by omega);have b0:=sJ (hbd.loc.2 _ (cN hb));simp[cR,aE,el,aM,mw,bT,dJ,cj,arith,h,oV hb,List.getD,hb,b0]
 .have ha:aA y.op=1:=by unfold aA;simp[h]
  rw[ha]at hl;obtain⟨a,rfl⟩:=Cq hl;have oa:=hok a (by simp);have na:=hne a (by simp);rw[dk,a1 _ h (by omega),eo,en];have hb:=hy.loc (by omega);have a8:okT im.zz.length (bd.locals.getD y.b 0)=true:=by rw[xk _ _ hb];exact kW (hbd.loc.2 _ (cN hb))
  have e5:=wy hW oa a8 (yV a8);simp only[cR,el,h,oV hb,bT,dJ,cj,arith];generalize bd.locals.getD y.b 0=T at*;simp[xz,e5,ww]
  cases cy im.zz a T<;>simp
 .have ha:aA y.op=2:=by unfold aA;simp[h]
  rw[ha]at hl;obtain⟨a,b,rfl⟩:=pX hl;have oa:=hok a (by simp);have na:=hne a (by simp);have ob:=hok b (by simp);have nb:=hne b (by simp);rw[dk,a1 _ h (by omega),eo,en];simp[cR,aE,el,aM,nk,mx hW oa,mx hW ob,bT,dJ,cj,arith,h,lm,oz]
  by_cases h1:a.toNat=105<;>by_cases h2:b.toNat=105<;>simp[h1,h2]
 .have ha:aA y.op=2:=by unfold aA;simp[h]
  rw[ha]at hl;obtain⟨a,b,rfl⟩:=pX hl;have oa:=hok a (by simp);have na:=hne a (by simp);have ob:=hok b (by simp);have nb:=hne b (by simp);rw[dk,a1 _ h (by omega),eo,en];simp[cR,aE,el,aM,nk,mx hW oa,mx hW ob,bT,dJ,cj,arith,h,lm,oz]
  by_cases h1:a.toNat=105<;>by_cases h2:b.toNat=105<;>simp[h1,h2]
 .have ha:aA y.op=2:=by unfold aA;simp[h]
  rw[ha]at hl;obtain⟨a,b,rfl⟩:=pX hl;have oa:=hok a (by simp);have na:=hne a (by simp);have ob:=hok b (by simp);have nb:=hne b (by simp);rw[dk,a1 _ h (by omega),eo,en];simp[cR,aE,el,aM,nk,mx hW oa,mx hW ob,bT,dJ,cj,arith,h,lm,oz]
  by_cases h1:a.toNat=105<;>by_cases h2:b.toNat=105<;>simp[h1,h2]
 .have ha:aA y.op=2:=by unfold aA;simp[h]
  rw[ha]at hl;obtain⟨a,b,rfl⟩:=pX hl;have oa:=hok a (by simp);have na:=hne a (by simp);have ob:=hok b (by simp);have nb:=hne b (by simp);rw[dk,a1 _ h (by omega),eo,en];simp[cR,aE,el,aM,nk,mx hW oa,mx hW ob,bT,dJ,cj,arith,h,lm,oz]
  by_cases h1:a.toNat=105<;>by_cases h2:b.toNat=105<;>simp[h1,h2]
 .have ha:aA y.op=2:=by unfold aA;simp[h]
  rw[ha]at hl;obtain⟨a,b,rfl⟩:=pX hl;have oa:=hok a (by simp);have na:=hne a (by simp);have ob:=hok b (by simp);have nb:=hne b (by simp);rw[dk,a1 _ h (by omega),eo,en];simp[cR,aE,el,aM,nk,mx hW oa,mx hW ob,bT,dJ,cj,arith,h,lm,oz]
  by_cases h1:a.toNat=105<;>by_cases h2:b.toNat=105<;>simp[h1,h2]
 .have ha:aA y.op=2:=by unfold aA;simp[h]
  rw[ha]at hl;obtain⟨a,b,rfl⟩:=pX hl;have oa:=hok a (by simp);have na:=hne a (by simp);have ob:=hok b (by simp);have nb:=hne b (by simp);rw[dk,a1 _ h (by omega),eo,en];simp[cR,aE,el,aM,nk,mx hW oa,mx hW ob,bT,dJ,cj,arith,h,lm,oz]
  by_cases h1:a.toNat=105<;>by_cases h2:b.toNat=105<;>simp[h1,h2]
 .have ha:aA y.op=2:=by unfold aA;simp[h]
  rw[ha]at hl;obtain⟨a,b,rfl⟩:=pX hl;have oa:=hok a (by simp);have na:=hne a (by simp);have ob:=hok b (by simp);have nb:=hne b (by simp);rw[dk,a1 _ h (by omega),eo,en];simp[cR,aE,el,aM,nk,Dy hW oa,Dy hW ob,bT,dJ,cj,arith,h]
 .have ha:aA y.op=0:=by unfold aA;simp[h]
  rw[ha]at hl;have a0:=nm hl;subst a0;rw[dk,a1 _ h (by omega),eo,en];rw[a3 (by omega)];simp[cR,aE,el,aM,mw,bT,dJ,cj,arith,h,(a2 (by omega)).2]
 .have ha:aA y.op=0:=by unfold aA;simp[h]
  rw[ha]at hl;have a0:=nm hl;subst a0;rw[dk,a1 _ h (by omega),eo,en];simp[cR,aE,el,aM,mw,bT,dJ,cj,arith,h]
 .have ha:aA y.op=1:=by unfold aA;simp[h]
  rw[ha]at hl;obtain⟨a,rfl⟩:=Cq hl;have oa:=hok a (by simp);have na:=hne a (by simp);rw[dk,a1 _ h (by omega),eo,en];have hf:cB (cQ (im.zz.map toX) (dI y.a)) y.b=cO im.zz y.a y.b:=uC hW (hy.cls (by omega)) (hy.fld (by omega));have hg:=tY hW hbd hy;rw[a3 (by omega)];have e5:=wy hW oa (a2 (by omega)).1 (yV (a2 (by omega)).1)
  have b1:(cO im.zz y.a y.b).toNat≠45:=by
   have hq:=hy.fld (by omega);have a4:=aH (hy.cls (by omega));unfold bH at hq;unfold cO;rw[a4]at hq⊢;simp at hq⊢;rw[aH hq];exact sJ (n:=im.zz.length) (fK (by have:=hy.cls (by omega);omega) ((hW.cls _ _ a4).2.2.2 _ (cN hq)))
  simp[cR,aE,el,aM,h,bT,dJ,cj,arith,hf,xz,e5,ww,b1]
  cases cy im.zz a (dI y.a)<;>simp
 .have ha:aA y.op=2:=by unfold aA;simp[h]
  rw[ha]at hl;obtain⟨a,b,rfl⟩:=pX hl;have oa:=hok a (by simp);have na:=hne a (by simp);have ob:=hok b (by simp);have nb:=hne b (by simp);rw[dk,a1 _ h (by omega),eo,en];have hf:cB (cQ (im.zz.map toX) (dI y.a)) y.b=cO im.zz y.a y.b:=uC hW (hy.cls (by omega)) (hy.fld (by omega));rw[a3 (by omega)];have e5:=wy hW oa (a2 (by omega)).1 (yV (a2 (by omega)).1)
  have a6:okT im.zz.length (cO im.zz y.a y.b)=true:=by
   have hq:=hy.fld (by omega);have a4:=aH (hy.cls (by omega));unfold bH at hq;unfold cO;rw[a4]at hq⊢;simp at hq⊢;rw[aH hq];exact kW (fK (by have:=hy.cls (by omega);omega) ((hW.cls _ _ a4).2.2.2 _ (cN hq)))
  have e6:=wy hW ob a6 (yV a6);simp[cR,aE,el,aM,h,bT,dJ,cj,arith,hf,nk,e5,e6,lm]
  cases cy im.zz a (dI y.a)<;>cases cy im.zz b (cO im.zz y.a y.b)<;>simp
 .have ha:aA y.op=2:=by unfold aA;simp[h]
  rw[ha]at hl;obtain⟨a,b,rfl⟩:=pX hl;have oa:=hok a (by simp);have na:=hne a (by simp);have ob:=hok b (by simp);have nb:=hne b (by simp);rw[dk,a1 _ h (by omega),eo,en];have e3:=mY (hy.sig h);rw[a3 (by omega)];have hs:=hW.sig _ (cN (hy.sig h));have a5:okT im.zz.length (gY im.zj y.b)=true:=by unfold gY;rw[aH (hy.sig h)];exact kW hs.1
  have b2:(gZ im.zj y.b).toNat≠45:=by unfold gZ;rw[aH (hy.sig h)];exact sJ hs.2
  have e5:=wy hW oa (a2 (by omega)).1 (yV (a2 (by omega)).1);have e6:=wy hW ob a5 (yV a5);simp[cR,aE,el,aM,nk,e3.1,e3.2,e5,e6,bT,dJ,cj,arith,h,lm,b2]
  cases cy im.zz a (dI y.a)<;>cases cy im.zz b (gY im.zj y.b)<;>simp
 .have ha:aA y.op=1:=by unfold aA;simp[h]
  rw[ha]at hl;obtain⟨a,rfl⟩:=Cq hl;have oa:=hok a (by simp);have na:=hne a (by simp);rw[dk,a1 _ h (by omega),eo,en];rw[a3 (by omega)];simp[cR,aE,el,aM,xz,Dy hW oa,bT,dJ,cj,arith,h,(a2 (by omega)).2]
 .have ha:aA y.op=2:=by unfold aA;simp[h]
  rw[ha]at hl;obtain⟨a,b,rfl⟩:=pX hl;have oa:=hok a (by simp);have na:=hne a (by simp);have ob:=hok b (by simp);have nb:=hne b (by simp);rw[dk,a1 _ h (by omega),eo,en];simp[cR,aE,el,aM,mw,bT,dJ,cj,arith,h,cB,nb]
 .have ha:aA y.op=3:=by unfold aA;simp[h]
  rw[ha]at hl;obtain⟨a,b,c,rfl⟩:=E8 hl;have oa:=hok a (by simp);have na:=hne a (by simp);have ob:=hok b (by simp);have nb:=hne b (by simp);have oc:=hok c (by simp);have nc:=hne c (by simp);rw[dk,a1 _ h (by omega),eo,en];have e5:=oo hW.cls hW.nc ob oc;simp[cR,aE,el,aM,Ej,mx hW oa,bT,dJ,cj,arith,h,cB,e5]
 .have ha:aA y.op=2:=by unfold aA;simp[h]
  rw[ha]at hl;obtain⟨a,b,rfl⟩:=pX hl;have oa:=hok a (by simp);have na:=hne a (by simp);have ob:=hok b (by simp);have nb:=hne b (by simp);rw[dk,a1 _ h (by omega),eo,en];simp[cR,aE,el,aM,Ei,mx hW oa,bT,dJ,cj,arith,h,cB]
end
end
end Go.Proofs.YtpfkkmacakjmbaaGreatDoor
