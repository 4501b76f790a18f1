import Derived.Test.YtpfkkmacakjmbaaGreatDoorP25
import Derived.Test.YtpfkkmacakjmbaaGreatDoorP10
set_option maxRecDepth 100000
set_option maxHeartbeats 6400000
set_option linter.all false
namespace Go.Proofs.YtpfkkmacakjmbaaGreatDoor
open Proofs.Tryz
section
open Go Go.RowKit Sp
theorem Av: ∀{its:List XIt} {is:List Ins} {p:XIt->Bool} {q:Ins->Bool},its.length=is.length->(∀(k:Nat) x y,its[k]?=some x->is[k]?=some y->p x=q y/\x.place=y.pos)->(its.find? p).map (·.place)=(is.find? q).map (·.pos):=by
 intro its
 induction its with
 |nil=>intro is p q hl _;cases is with|nil=>rfl|cons y is=>simp at hl
 |cons x its ih=>
  intro is p q hl h
  cases is with
  |nil=>simp at hl
  |cons y is=>
   obtain⟨c,d⟩:=h 0 x y rfl rfl;rw[List.find?_cons,List.find?_cons,c]
   cases q y with
   |true=>simp[d]
   |false=>exact ih (by simpa using hl) (λk a b ha hb=>h (k+1) a b (by simpa using ha) (by simpa using hb))
theorem rY {α β γ:Type}: ∀{bs:List α} {BS:List β} {f:α->Option γ} {g:β->Option γ},bs.length=BS.length->(∀(k:Nat) x y,bs[k]?=some x->BS[k]?=some y->f x=g y)->bs.findSome? f=BS.findSome? g:=by
 intro bs
 induction bs with
 |nil=>intro BS f g hl _;cases BS with|nil=>rfl|cons y BS=>simp at hl
 |cons x bs ih=>
  intro BS f g hl h
  cases BS with
  |nil=>simp at hl
  |cons y BS=>
   rw[List.findSome?_cons,List.findSome?_cons,h 0 x y rfl rfl,ih (by simpa using hl) (λk a b ha hb=>h (k+1) a b (by simpa using ha) (by simpa using hb))]
theorem vY {cs:List cd} {xs ys:List cZ} (h:xs.map ly=ys.map ly) (m:Nat): ∀(f:Nat) (c:UInt8),jO cs xs m f c=jO cs ys m f c:=by
 intro f
 induction f with
 |zero=>intro c;rfl
 |succ f ih=>
  intro c;simp only[jO,oZ h,qF h,ih]
theorem Dx {cs:List Cls} {gs:List Sig} {b:Bod} (h:ey cs gs b) (hn:cs.length<=4):(b.cls= -1)\/lP b:=by
 obtain⟨a,_⟩ | ⟨a,d,c,e⟩:=h.cls
 .exact Or.inl a
 .exact Or.inr ⟨a,by omega,c⟩
theorem xM (y:Ins):(co y).place=y.pos:=by unfold co;split<;>rfl
theorem Fe {cs:List Cls} {gs:List Sig} {BS:List Bod} {bs:List cZ} {y:Ins} {x:XIt} {nl n n':Nat} (hw:WfC cs) (hn:cs.length<=4) (hB: ∀b∈BS,(b.cls= -1)\/lP b) (hy:WfN cs gs.length nl y) (hh:bs.map ly=(BS.map (fG gs)).map ly)
  (h1:x.op=(co y).op) (h2:x.cls=(co y).cls) (h3:x.num=(co y).num):i8 (cs.map toX) bs n x=cy cs BS n' y:=by
 have f:=hy.op;have e: ∀v:Nat,cr.contains v=false->y.op.toNat≠v:=λv hv h=>by rw[h,hv]at f;cases f
 have d:=e 106 (by decide);have c:=e 102 (by decide);unfold i8 cy;rw[h1,h2,h3]
 by_cases hd:aQ y.op=true
 .have m:=lG hd;have g:co y=⟨y.pos,107,45,y.b,none,0,0⟩:=by unfold co;rw[if_pos hd]
  rw[g];have i: ¬y.op.toNat=99:=by omega
  simp[d,c,i]
 .have g:co y=cB y:=by unfold co;rw[if_neg hd]
  rw[g];have j:(cB y).op=y.op:=rfl;have k:(cB y).num=y.b:=rfl;rw[j,k,if_neg (by omega)]
  by_cases h9:y.op.toNat=99
  .rw[if_pos h9];have ha:=hy.cls (by omega)
   have l:(cB y).cls=UInt8.ofNat (65+y.a):=by
    unfold cB;rw[if_pos (by omega)]
   rw[l,eF,vY hh,vG hw hn hB y.b cs.length 5 y.a ha ha (by omega)];simp[h9]
  .rw[if_neg h9];simp[h9,d,c]
theorem rj (b:Nat) (im:Img) (w:World) (hW:dN im) (hT:ku w b im):
  Calls prog 104 #[.pointer (some ⟨b,0,none⟩)] w λe w'=>e= .returned (.int .i64 (tS (im.zj.findSome? (λb=>unl im.zq im.zj b.code))))/\B_ w w':=by
 obtain⟨bs,g,a⟩:=hT.bod
 have c:(bs.findSome? λx=>qE (im.zq.map toX) bs x.items)=im.zj.findSome? (λb=>unl im.zq im.zj b.code):=by
  refine rY a.1 (λk X B hX hB=> ?_);have f:=a.2 k X B hX hB;have h:=hW.bod B (bn hB);unfold qE unl;refine Av f.its.len (λq x y i hy=> ?_);obtain⟨l,m,n,p,_⟩:=f.its.at' q y x hy i;exact⟨Fe hW.cls hW.nc (λb hb=>Dx (hW.bod b hb) hW.nc) (h.code y (bn hy)) a.heads m n p,by rw[l,xM]⟩
 rw[<-c];refine pQ b (im.zq.map toX) bs w (by rw[eF];have:=hW.nc;omega) (by rw[a.1];have:=hW.nb;omega) ?_ hT.cls g;intro x i;obtain⟨k,j,rfl⟩:=List.getElem_of_mem i;have d:k<im.zj.length:=by rw[<-a.1];exact j
 have f:=a.2 k _ _ (aG j) (aG d);have:=(hW.bod _ (bD d)).len;rw[f.its.len];omega
theorem Dy: ∀{t:List Ins} {m:Nat},full m t-> ∀i,i<t.length-> ∃m',full (m'+1) (t.drop i):=by
 intro t
 induction t with
 |nil=>intro m _ i h;simp at h
 |cons x t ih=>
  intro m h i hi
  cases m with
  |zero=>cases h
  |succ m=>
   cases i with
   |zero=>exact⟨m,h⟩
   |succ i=>exact ih (m:=m+az x.op) h i (by simpa using hi)
theorem Co {t:List Ins}: ∀{j m k:Nat},full (m+j) (t.drop k)->(de t j k).length=j:=by
 intro j
 induction j with
 |zero=>intro m k _;rfl
 |succ j ih=>
  intro m k h;have b:=nK (m:=m+j) (by rw[show m+j+1=m+(j+1)from by omega];exact h);rw[List.length_drop]at b;have a:=sG (u:=t.drop k) (m:=m+j) (by rw[show 1+(m+j)=m+(j+1)from by omega];exact h);rw[List.drop_drop]at a;simp only[de,show k<t.length from by omega,if_true,iU];rw[ih (m:=m) (k:=aR t k) a]
theorem vZ {t:List Ins} (hf:full 1 t) {i:Nat} {x:Ins} (hx:t[i]?=some x):(eK t i).length=az x.op:=by
 obtain⟨hl,b⟩:=bc hx;obtain⟨m,hm⟩:=Dy hf i hl;rw[List.drop_eq_getElem_cons hl,b]at hm;have a:full (m+az x.op) (t.drop (i+1)):=hm;unfold eK;rw[hx];exact Co a
theorem Cp {t:List Ins}: ∀{j k:Nat},∀q∈de t j k,k<=q/\q<t.length:=by
 intro j
 induction j with
 |zero=>intro k q h;simp[de]at h
 |succ j ih=>
  intro k q h;unfold de at h
  split at h
  .rename_i hk
   obtain rfl|h:=List.mem_cons.1 h
   .exact⟨bP _,hk⟩
   .have a:=ih q h;have b:=p9 hk;exact⟨by omega,a.2⟩
  .simp at h
theorem jW {t:List Ins} {i q:Nat} (h:q∈eK t i):i<q/\q<t.length:=by
 unfold eK at h
 split at h
 .have:=Cp q h;exact⟨by omega,this.2⟩
 .simp at h
section
variable {cs:List Cls} {gs:List Sig} {lo:L_} {t:List Ins}
theorem pH {f g:Nat->Option UInt8}: ∀{n k:Nat},(∀q,k<=q->q<t.length->f q=g q)->(∀q,t.length<=q->f q=none/\g q=none)->bp t f n k=bp t g n k:=by
 intro n
 induction n with
 |zero=>intro k _ _;rfl
 |succ n ih=>
  intro k b a;unfold bp;obtain hk|hk:=gC k t.length
  .rw[b k (bP _) hk,ih (λq hq=>b q (by have:=p9 hk;omega)) a]
  .rw[(a k hk).1,(a k hk).2]
theorem fH {F q:Nat} (h:t.length<=q):bX cs gs lo t F q=none:=by
 cases F with
 |zero=>rfl
 |succ F=>simp[bX,List.getElem?_eq_none h]
theorem Aw: ∀{F G k:Nat},t.length-k<=F->t.length-k<=G->bX cs gs lo t F k=bX cs gs lo t G k:=by
 intro F
 induction F with
 |zero=>intro G k a _;rw[fH (by omega),fH (by omega)]
 |succ F ih=>
  intro G k a b
  cases G with
  |zero=>rw[fH (by omega),fH (by omega)]
  |succ G=>
   have hp: ∀n,bp t (bX cs gs lo t F) n (k+1)=bp t (bX cs gs lo t G) n (k+1):=λn=>
    pH (λq hq hl=>ih (by omega) (by omega)) (λq hq=>⟨fH hq,fH hq⟩)
   simp only[bX,hp]
theorem sX {k:Nat} {x:Ins} (hx:t[k]?=some x):bX cs gs lo t t.length k=match bp t (bX cs gs lo t t.length) (az x.op) (k+1)with
  |none=>none
  |some ts=>aV cs gs lo x ts:=by
 have hl:=(bc hx).1;obtain⟨n,hn⟩: ∃n,t.length=n+1:=⟨t.length-1,by omega⟩;have a:bX cs gs lo t t.length k=bX cs gs lo t (n+1) k:=by rw[hn]
 rw[a]
 have hp:bp t (bX cs gs lo t n) (az x.op) (k+1)=bp t (bX cs gs lo t t.length) (az x.op) (k+1):=
  pH (λq hq hl=>Aw (by omega) (by omega)) (λq hq=>⟨fH hq,fH hq⟩)
 simp only[bX,hx,hp]
 cases bp t (bX cs gs lo t t.length) (az x.op) (k+1)<;>rfl
theorem xN {ty:Nat->UInt8}: ∀{n k:Nat},(de t n k).length=n->(∀q∈de t n k,bX cs gs lo t t.length q=some (ty q))->bp t (bX cs gs lo t t.length) n k=some ((de t n k).map ty):=by
 intro n
 induction n with
 |zero=>intro k _ _;rfl
 |succ n ih=>
  intro k hl h;unfold de at hl h⊢
  split at hl
  .rename_i hk
   rw[if_pos hk]at h⊢;unfold bp;rw[h k (by simp),ih (by simpa using hl) (λq hq=>h q (by simp[hq]))]
   rfl
  .simp at hl
theorem Dz: ∀{F k:Nat},t.length-k<=F->bX cs gs lo t t.length k≠none-> ∀j,k<=j->j<aR t k->bX cs gs lo t t.length j≠none:=by
 intro F
 induction F with
 |zero=>intro k i h j _ _;exact absurd (fH (by omega)) h
 |succ F ih=>
  intro k i h j d e;obtain rfl|d:=Nat.eq_or_lt_of_le d
  .exact h
  .have hl:k<t.length:=by
    obtain hl|hl:=gC k t.length
    .exact hl
    .exact absurd (fH hl) h
   have g:=aG hl;rw[sX g]at h;rw[mD g]at e
   have hp: ∀n p,k<p->bp t (bX cs gs lo t t.length) n p≠none-> ∀j,p<=j->j<p+sk n (t.drop p)->bX cs gs lo t t.length j≠none:=by
    intro n
    induction n with
    |zero=>intro p _ _ j a1 c;rw[pW]at c;omega
    |succ n ihn=>
     intro p l b j a1 c;rw[oy]at c;have f:bX cs gs lo t t.length p≠none:=λa=>b (by simp[bp,a])
     obtain hj|hj:=gC j (aR t p)
     .exact ih (k:=p) (by omega) f j a1 hj
     .refine ihn (aR t p) ?_ ?_ j hj c
      .have:p<t.length:=by
        obtain hl|hl:=gC p t.length
        .exact hl
        .exact absurd (fH hl) f
       have:=p9 this;omega
      .intro a
       apply b
       unfold bp
       cases bX cs gs lo t t.length p<;>simp[a]
   refine hp (az t[k].op) (k+1) (by omega) ?_ j (by omega) e;intro a;rw[a]at h;exact h rfl
theorem Cq (hf:full 1 t) (h:bX cs gs lo t t.length 0≠none): ∀j,j<t.length->bX cs gs lo t t.length j≠none:=by
 intro j a;refine Dz (F:=t.length) (by omega) h j (Nat.zero_le _) ?_;unfold aR;rw[List.drop_zero];have:=mf (v:=[]) hf;rw[List.append_nil]at this;omega
end
end
section
open Go Go.RowKit Sp
attribute [local go_sem ↓] eY eZ
def di (cs:List cd) (ms:List Sig) (lo:L_) (y:Ins) (ps:L_):Option UInt8:=
 if lA cs (cP cs ms lo (co y).op (co y).cls (co y).num) ps=true/\(ez cs ms lo (co y).op (co y).cls (co y).num ps).toNat≠45 then some (ez cs ms lo (co y).op (co y).cls (co y).num ps)else none
def stepX (cs:List cd) (ms:List Sig) (lo:L_) (is:List Ins) (i:Nat) (ty:L_):Option L_:=match is[i]? with
 |none=>none
 |some y=>(di cs ms lo y ((eK is i).map (cM ty))).map λc=>ty.set i c
def pR (cs:List cd) (ms:List Sig) (lo:L_) (is:List Ins):Nat->L_->Option L_
 |0,ty=>some ty
 |q+1,ty=>match stepX cs ms lo is q ty with
  |none=>none
  |some ty'=>pR cs ms lo is q ty'
def ur (cs:List cd) (r:UInt8):Option L_->Bool
 |none=>false
 |some ty=>gd cs (cM ty 0) r
def Cr (cs:List cd) (ms:List Sig) (lo:L_) (is:List Ins) (r:UInt8):Bool:=ur cs r (pR cs ms lo is is.length (List.replicate is.length 0))
theorem DA (t:List Ins): ∀n k,(de t n k).length<=n:=by
 intro n
 induction n with
 |zero=>intro k;simp[de]
 |succ n ih=>
  intro k;unfold de
  split
  .have:=ih (aR t k);simp;omega
  .simp
theorem DB (t:List Ins) (k:Nat):(eK t k).length<=3:=by
 unfold eK
 split
 .rename_i x _
  have h:=DA t (az x.op) (k+1);have:az x.op<=3:=by unfold az;split;omega;split;omega;split<;>omega
  omega
 .simp
theorem Ax (cs:List cd) (ms:List Sig) (lo:L_) (c k:UInt8) (n:Nat):(cP cs ms lo c k n).length<=2:=by
 unfold cP aS
 repeat' split
 all_goals simp
theorem DC (n:Nat):madeCells #[.int .u8 0] n=(a7 (List.replicate n 0)).toArray:=by
 apply Array.ext
 .rw[size_madeCells];simp[a7]
 .intro k a b;have e:k % 1=0:=by omega
  simp[madeCells,e,a7]
theorem DD (n:Nat) (hn:n<=1000) (w:World):(Instr.makeSlice 112 (.int .i64 (n:Int)) (.int .i64 (n:Int))).run prog w= .ok (.slice (some ⟨w.heap.size,0,none⟩) n n) (w.alloc (.cells (a7 (List.replicate n 0)).toArray 5)):=by
 have a:=nN
 cases hi:prog.info? 5 with
 |none=>rw[hi]at a;cases a
 |some i=>
  rw[hi]at a;simp only[Option.map_some,Option.some.injEq,Prod.mk.injEq]at a;obtain⟨d,c,b⟩:=a;have:=run_make (P:=prog) w 112 5 i _ (by kernel_rfl) hi d .i64 .i64 n n (by omega) (by omega) (by rw[b];omega) (by omega);rw[this,c];simp only[jZ,Value.cells,Nat.mul_one];rw[DC]
section
variable (b:Nat) (cs:List cd) (ms:List Sig) (c0:UInt8) (m0:Nat) (r0:UInt8) (al ai:Option Addr) (capl capi:Nat) (lo:L_) (its:List XIt) (is:List Ins) (w:World)
theorem ut (hn:cs.length<=100) (hm:ms.length<=100) (hlen:its.length<=24) (hT:TxC w b cs) (hM:TxM w b ms) (hB:BtB w 0 (.slice al lo.length capl) lo) (hI:ItB w 0 (.slice ai its.length capi) its) (hN:mG w 0 its is):
  Calls prog 91 #[.pointer (some ⟨b,0,none⟩),hdV c0 m0 r0 (.slice al lo.length capl) (.slice ai its.length capi)] w λen w'=>B_ w w'/\en= .returned (.bool (Cr cs ms lo is r0)):=by
 obtain⟨R,a6⟩: ∃R,Cr cs ms lo is r0=R:=⟨_,rfl⟩;rw[a6];have b6:=hN.len;have j0:=DD its.length (by omega);have h4:Hid (ur cs r0 (pR cs ms lo is its.length (List.replicate its.length 0))=R):=by rw[b6];exact hid a6
 have c8:=hid b6;clear a6 b6;unfold hdV;have e6:B_ w (w.alloc (.cells #[.int .u8 c0.toNat,.int .i64 m0,.int .u8 r0.toNat,.slice al lo.length capl,.slice ai its.length capi] 115)):=aa _ _ _;have b5:(w.alloc (.cells #[.int .u8 c0.toNat,.int .i64 m0,.int .u8 r0.toNat,.slice al lo.length capl,.slice ai its.length capi] 115)).heap[w.heap.size]?=some (.cells #[.int .u8 c0.toNat,.int .i64 m0,.int .u8 r0.toNat,.slice al lo.length capl,.slice ai its.length capi] 115):=aO _ _
 go_in
 go_wp2_with fail;have j5:(w.alloc (.cells #[.int .u8 c0.toNat,.int .i64 m0,.int .u8 r0.toNat,.slice al lo.length capl,.slice ai its.length capi] 115)).heap.size=w.heap.size+1:=by simp
 generalize (w.alloc (.cells #[.int .u8 c0.toNat,.int .i64 m0,.int .u8 r0.toNat,.slice al lo.length capl,.slice ai its.length capi] 115))=w1 at*
 have i3:(w1.alloc (.cells (a7 (List.replicate its.length 0)).toArray 5)).ownsRow (w.heap.size+1) 5 1 (.slice (some ⟨w.heap.size+1,0,none⟩) its.length its.length) its.length (a7 (List.replicate its.length 0)):=by
  have h:=BtB.lit w1 (w.heap.size+1) (by omega) (List.replicate its.length 0) (by simp;omega);rw[j5]at h;unfold BtB at h;simp only[List.length_replicate]at h;exact h
 have i0:B_ w (w1.alloc (.cells (a7 (List.replicate its.length 0)).toArray 5)):=e6.trans (aa _ _ _);have i4:=((aa (λ_=>False) w1 (.cells (a7 (List.replicate its.length 0)).toArray 5)).block _ (ae b5) (λh=>h)).trans b5;have l3:(w1.alloc (.cells (a7 (List.replicate its.length 0)).toArray 5)).heap.size=w.heap.size+2:=by simp;omega
 generalize (w1.alloc (.cells (a7 (List.replicate its.length 0)).toArray 5))=w2 at*;clear j0 e6 b5
 go_loopg [6] its.length (λmm js wr=> ∃(v:Int) (q:Nat) (ty:L_),js= .int .i64 v/\v=(q:Int)-1/\q<=its.length/\q<=mm/\mm<=q/\wr.ownsRow (w.heap.size+1) 5 1 (.slice (some ⟨w.heap.size+1,0,none⟩) its.length its.length) its.length (a7 ty)/\B_ w wr/\w.heap.size+1<wr.heap.size/\wr.heap[w.heap.size]?=some (.cells #[.int .u8 c0.toNat,.int .i64 m0,.int .u8 r0.toNat,.slice al lo.length capl,.slice ai its.length capi] 115)/\Hid (ty.length=its.length/\ur cs r0 (pR cs ms lo is q ty)=R))
 case atStart=>exact⟨_,its.length,_,rfl,rfl,by omega,by omega,by omega,i3,i0,by omega,i4,hid ⟨by simp,h4.out⟩⟩
 case round=>
  obtain⟨v,q,ty,rfl,hv,k6,k7,l0,f2,t,l6,E,J⟩:=hrel;obtain⟨k0,k1,k2,k3,k4⟩:=dp E;have A:=ae E
  have b2:BtB wr 0 (.slice (some ⟨w.heap.size+1,0,none⟩) ty.length its.length) ty:=by
   unfold BtB;rw[J.out.1];exact ie f2 (Nat.zero_le _)
  cases q with
  |zero=>
   have j1: ¬(0:Int)<=v:=by omega
   have b1:=d7 _ _ ty 0 wr.drew (BtB.but b2 (aA (λ_=>False) _) (λ_ _ h=>h));rw[J.out.1]at b1;have h7:=hid b1;have h1:=hid (mw b cs (cM ty 0) r0 wr.drew hn (hT.but (t.trans (aA _ _))));have HE:Hid (gd cs (cM ty 0) r0=R):=hid J.out.2;clear b1 b2;go_wp2_with fail;have r:B_ wr wr.drew:=aA _ _;refine fR (B_ wr) 6 ?_;refine eR [0,1,3,4] ?_
   iterate 4 (refine fS (v:=?_) rfl r ?_ ?_;rotate_left;(focus (intro wS h;have q0:=(h.kc k2 A);clear h;go_simp;try rfl));dsimp only[Act.put];try simp only[bW])
   refine aM (k:=2) rfl ?_;intro KS hKS;go_simp;refine h7.out.mono ?_;rintro en wx ⟨rfl,H⟩;rw[H];clear H wx;refine hKS.out _ _ (λ_=>r) ?_;clear hKS KS;refine aM (k:=5) rfl ?_;intro KS hKS;go_simp;refine h1.out.mono ?_;rintro en wx ⟨rfl,H⟩;rw[H,HE.out];clear H wx;refine hKS.out _ _ (λ_=>r) ?_;clear hKS KS;refine aM (k:=6) rfl ?_;intro KS hKS;go_simp;refine hKS.out _ _ nofun ?_;clear hKS KS;refine eE rfl ?_;go_wp2_with fail;go_ret;exact⟨t.trans r,rfl⟩
  |succ p=>
   have j4:v=(p:Int):=by omega
   subst j4;clear hv;have j2:p<is.length:=by rw[<-c8.out];omega
   obtain⟨x,hx⟩: ∃x,its[p]?=some x:=⟨_,aG (by omega)⟩;have hy:=aG j2;obtain⟨y,f5⟩: ∃y,is[p]=y:=⟨_,rfl⟩;rw[f5]at hy;obtain⟨e1,e2,e3,e4,e5⟩:=hN.at' p y x hy hx;have Y:=hid e2;have Z:=hid e3;have a0:=hid e4;have HY:=hid hy;clear e1 e2 e3 e4 f5 hy;obtain⟨g,rfl,s,i5,c⟩:=aE (ag hI t (λ_ _ h=>h)) (by omega);have z0:wr.cell? ⟨g,p*5,none⟩=some (.int .i64 x.place):=c _ _ (bq (k:=0) hx (by omega));have z1:wr.cell? ⟨g,p*5+1,none⟩=some (.int .u8 x.op.toNat):=c _ _ (bq (k:=1) hx (by omega));have z2:wr.cell? ⟨g,p*5+2,none⟩=some (.int .u8 x.cls.toNat):=c _ _ (bq (k:=2) hx (by omega));have z3:wr.cell? ⟨g,p*5+3,none⟩=some (.int .i64 x.num):=c _ _ (bq (k:=3) hx (by omega))
   have z4:wr.cell? ⟨g,p*5+4,none⟩=some (.slice x.pa x.pn x.pc):=c _ _ (bq (k:=4) hx (by omega));have k5:(p:Int)<(its.length:Int):=by omega
   have j7:(0:Int)<=(p:Int):=by omega
   have P:=uo x (eK is p) ty _ _ wr (DB is p) (λk hk=>by have:=(jW hk).2;have:=c8.out;omega) (ag e5 t (λ_ _ h=>h)) b2;rw[J.out.1]at P;unfold itV at P;have c9:=hid P;clear P c;go_wp2_with fail;refine c9.out.mono ?_;rintro en Q ⟨d,a3,c3,rfl,e7⟩;clear c9;obtain⟨PS,O⟩: ∃PS,(eK is p).map (cM ty)=PS:=⟨_,rfl⟩;have F:(eK is p).length=PS.length:=by rw[<-O];simp
   rw[O,F]at e7;rw[F];have a1:=hid O;clear O F;have a5:=t.trans d;have f3:=(d.block _ A (λh=>h)).trans E;have m:=ae f3;have a:g<Q.heap.size:=bK s d.size;obtain⟨f6,g0,g1,g2,g3⟩:=dp f3;have y0:=d.kc z0 s;have y1:=d.kc z1 s;have y2:=d.kc z2 s;have y3:=d.kc z3 s;have y4:=d.kc z4 s;clear z0 z1 z2 z3 z4 k0 k1 k2 k3 k4;have M:B_ w Q.drew:=a5.trans (aA _ _);have e8:BtB Q.drew 0 (.slice a3 PS.length c3) PS:=ie (BtB.but e7 (aA (λ_=>False) _) (λ_ _ h=>h)) (Nat.zero_le _);have X:=hid (uq b cs ms c0 m0 r0 al (some ⟨g,0,none⟩) capl its.length capi lo x Q.drew a3 c3 PS hn hm (hT.but M) (hM.but M) (BtB.but hB M (λ_ _ h=>h)) e8 (by have:=Ax cs ms lo x.op x.cls x.num;omega))
   unfold hdV itV at X;go_wp2_with fail;have r:B_ Q Q.drew:=aA _ _;refine fR (B_ Q) 10 ?_;have fSB:=hid (λwS (h:(B_ Q) wS)=>(And.intro (h.kc f6 m) (And.intro (h.kc g0 m) (And.intro (h.kc g1 m) (And.intro (h.kc g2 m) (And.intro (h.kc g3 m) (And.intro (h.kc y0 a) (And.intro (h.kc y1 a) (And.intro (h.kc y2 a) (And.intro (h.kc y3 a) (h.kc y4 a)))))))))));refine eR [0,1,2,3,4,5,6,7] ?_
   iterate 8 (refine fS (v:=?_) rfl r ?_ ?_;rotate_left;(focus (intro wS h;obtain⟨q0,q1,q2,q3,q4,q5,q6,q7,q8,q9⟩:=fSB.out wS h;clear h;go_simp;try rfl));dsimp only[Act.put];try simp only[bW])
   try clear fSB
   refine aM (k:=8) rfl ?_;intro KS hKS;go_simp;refine X.out.mono ?_;rintro en I ⟨a2,rfl⟩;have T:=M.trans a2;have e:B_ Q I:=r.trans a2;refine hKS.out _ _ (λ_=>e) ?_;clear hKS KS;refine aM (k:=9) rfl ?_;intro KS hKS;go_simp;refine hKS.out _ _ (λ_=>e) ?_;clear hKS KS;refine eE rfl ?_
   cases hac:lA cs (cP cs ms lo x.op x.cls x.num) PS with
   |false=>
    have G:R=false:=by
     have h2:=J.out.2
     have j3:stepX cs ms lo is p ty=none:=by
      simp only[stepX,HY.out,a1.out,di,<-Y.out,<-Z.out,<-a0.out,hac];simp
     rw[<-h2];simp only[pR,j3,ur]
    subst G;clear hac;go_wp2_with fail;go_ret;exact⟨T,rfl⟩
   |true=>
    have S:=hid hac;clear hac;have b0:B_ wr I:=d.trans e;have f4:=(b0.block _ A (λh=>h)).trans E;have n:=ae f4;have i:g<I.heap.size:=bK s b0.size;obtain⟨g4,g5,g6,g7,h0⟩:=dp f4;have x0:=e.kc y0 a;have x1:=e.kc y1 a;have x2:=e.kc y2 a;have x3:=e.kc y3 a;have x4:=e.kc y4 a;clear y0 y1 y2 y3 y4 f6 g0 g1 g2 g3 X;have a4:B_ w I.drew:=T.trans (aA _ _);have i2:BtB I.drew 0 (.slice a3 PS.length c3) PS:=BtB.but e8 (a2.trans (aA _ _)) (λ_ _ h=>h);have L:=hid (vW b cs ms c0 m0 r0 al (some ⟨g,0,none⟩) capl its.length capi lo x I.drew a3 c3 PS hn hm (hT.but a4) (hM.but a4) (BtB.but hB a4 (λ_ _ h=>h)) i2)
    unfold hdV itV at L;obtain⟨C,hC⟩: ∃C,ez cs ms lo x.op x.cls x.num PS=C:=⟨_,rfl⟩;rw[hC]at L;have HC:=hid hC;clear hC;go_wp2_with fail;have f0:B_ I I.drew:=aA _ _;refine aD (B_ I) 11 ?_
    iterate 10 (refine aF (v:=?_) rfl f0 ?_ ?_;rotate_left;(focus (intro wS h;have q0:=(h.kc g4 n);have q1:=(h.kc g5 n);have q2:=(h.kc g6 n);have q3:=(h.kc g7 n);have q4:=(h.kc h0 n);have q5:=(h.kc x0 i);have q6:=(h.kc x1 i);have q7:=(h.kc x2 i);have q8:=(h.kc x3 i);have q9:=(h.kc x4 i);clear h;go_simp;try rfl));dsimp only[Act.put];try simp only[bW])
    refine au rfl ?_;intro KS hKS;go_simp;refine L.out.mono ?_;rintro en w5 ⟨i1,rfl⟩;have f1:B_ I w5:=f0.trans i1;refine hKS.out _ _ (λ_=>f1) ?_;clear hKS KS;have f:=b0.trans f1;have b3:=ag f2 f (λ_ _ h=>h);obtain⟨gq,B,b8,b9,z⟩:=aE b3 (by omega);have D:w.heap.size+1=gq:=by injection B with h;injection h with h
    subst D;have b7:p<ty.length:=by rw[J.out.1];omega
    have ct:=z _ _ (jN b7);have ft:=eA b3 p;clear z B;refine au rfl ?_;intro KS hKS;go_simp;refine hKS.out _ _ nofun ?_;clear hKS KS;refine au rfl ?_;intro KS hKS;go_simp;refine hKS.out _ _ nofun ?_;clear hKS KS;refine aI rfl ?_;have b4:=eI b3 p (.int .u8 C.toNat);rw[show(a7 ty).set p (.int .u8 C.toNat)=a7 (ty.set p C)from by simp[a7,List.map_set]]at b4;have e0:B_ w (w5.setCell ⟨w.heap.size+1,p,none⟩ (.int .u8 C.toNat)):=(t.trans f).next (aj _ _ _ _) (λj hj h=>by omega);have i6:=((aj w5 (w.heap.size+1) p (.int .u8 C.toNat)).block w.heap.size (bK A f.size) (λh=>by omega)).trans ((f.block _ A (λh=>h)).trans E)
    have l5:=(aj w5 (w.heap.size+1) p (.int .u8 C.toNat)).size;have l4:=f.size
    have h6:Hid (C.toNat≠45->stepX cs ms lo is p ty=some (ty.set p C)):=hid (λh=>by
     simp only[stepX,HY.out,a1.out,di,<-Y.out,<-Z.out,<-a0.out,S.out,HC.out];simp[h])
    have h5:Hid (C.toNat=45->stepX cs ms lo is p ty=none):=hid (λh=>by
     simp only[stepX,HY.out,a1.out,di,<-Y.out,<-Z.out,<-a0.out,S.out,HC.out];simp[h])
    obtain⟨gq,B,b8,b9,z⟩:=aE b4 (by omega);have D:w.heap.size+1=gq:=by injection B with h;injection h with h
    subst D;have h8:=z _ _ (jN (l:=ty.set p C) (k:=p) (by simpa using b7));rw[show(ty.set p C).getD p 0=C from by simp[List.getD,b7]]at h8;clear z B x0 x1 x2 x3 x4 g4 g5 g6 g7 h0 L ct ft;generalize (w5.setCell ⟨w.heap.size+1,p,none⟩ (.int .u8 C.toNat))=w6 at*
    by_cases h45:C.toNat=45
    .have h9:((C.toNat:Int)==45)=true:=by rw[aX];omega
     have G:R=false:=by
      rw[<-J.out.2];simp only[pR,h5.out h45,ur]
     subst G;clear h45;go_wp2_with fail;go_ret;exact⟨e0,rfl⟩
    .have h9:=tf C.toNat 45 (by omega)
     have h3:Hid ((ty.set p C).length=its.length/\ur cs r0 (pR cs ms lo is p (ty.set p C))=R):=by
      refine hid ⟨by rw[List.length_set];exact J.out.1,?_⟩;rw[<-J.out.2];simp only[pR,h6.out h45]
     clear h45;go_wp2_with fail
     go_roundg p
     case measure=>omega
     case rel=>exact⟨_,p,_,rfl,rfl,by omega,by omega,by omega,b4,e0,by omega,i6,h3⟩
end
end
section
open Go Go.RowKit Sp
section
variable {cs:List cd} {a b c p q:UInt8}
theorem nk (ts:L_):lA cs [] ts=true:=by simp[lA]
theorem yD:lA cs [p] [a]=dE cs a p:=by simp[lA,cM,List.range_succ]
theorem Ff:lA cs [p] [a,b]=dE cs a p:=by simp[lA,cM,List.range_succ]
theorem Fg:lA cs [p] [a,b,c]=dE cs a p:=by simp[lA,cM,List.range_succ]
theorem oA:lA cs [p,q] [a,b]=(dE cs a p&&dE cs b q):=by simp[lA,cM,List.range_succ]
theorem xO {cs:List Cls}:cF cs [a] [p]=bj cs a p:=by simp[cF,List.range_succ]
theorem lX {cs:List Cls}:cF cs [a,b] [p,q]=(bj cs a p&&bj cs b q):=by simp[cF,List.range_succ]
end
theorem pJ {cs:List Cls} (a:UInt8):bj cs a 105=decide (a.toNat=105):=by
 unfold bj
 by_cases h:a.toNat=105
 .simp[h]
 .have:isC 105=false:=by decide
  simp[h,this]
section
variable {im:Img}
theorem xP (hW:dN im) {a c:UInt8} (ha:okT im.zq.length a=true) (hc:okT im.zq.length c=true) (h38:c.toNat≠38):dE (im.zq.map toX) a c=bj im.zq a c:=by
 unfold dE;rw[if_neg h38];exact kS hW.cls hW.nc ha hc
theorem nm (hW:dN im) {a:UInt8} (ha:okT im.zq.length a=true):dE (im.zq.map toX) a 105=decide (a.toNat=105):=by
 rw[xP hW ha vu (by decide),pJ]
theorem EE (hW:dN im) {a:UInt8} (ha:okT im.zq.length a=true):dE (im.zq.map toX) a 38=isR a:=by
 unfold dE isR;rw[if_pos (by decide),eF,iH hW.cls hW.nc ha]
theorem wb (hW:dN im) {x:Ins} (ha:x.a<im.zq.length) (hb:x.b<bB im.zq x.a):cM (cD (im.zq.map toX) (UInt8.ofNat (65+x.a))) x.b=cj im.zq x.a x.b:=by
 obtain⟨hl,d⟩:=D5 ha hW.nc;have hv:(UInt8.ofNat (65+x.a)).toNat-65=x.a:=by have:=hW.nc;simp;omega
 have c:=nS (a:=0) hl;rw[hv]at c;unfold cM;rw[if_pos (by rw[<-c];exact hb)];unfold cj cD;rw[eF,if_pos hl,cV,hv]
 cases im.zq[x.a]?<;>rfl
end
theorem Ay {n:Nat} {c:UInt8} (h:okT n c=true):c.toNat≠38:=by rw[gr]at h;omega
theorem uu {n:Nat} {c:UInt8} (h:cw n c=true):c.toNat≠45:=by
 simp[cw,aK]at h;omega
theorem oB {ts:L_} (h:ts.length=0):ts=[]:=List.length_eq_zero_iff.1 h
theorem DE {ts:L_} (h:ts.length=1): ∃a,ts=[a]:=List.length_eq_one_iff.1 h
theorem rl {ts:L_} (h:ts.length=2): ∃a b,ts=[a,b]:=by
 match ts,h with
 | [a,b],_=>exact⟨a,b,rfl⟩
theorem FZ {ts:L_} (h:ts.length=3): ∃a b c,ts=[a,b,c]:=by
 match ts,h with
 | [a,b,c],_=>exact⟨a,b,c,rfl⟩
theorem qb {lo:L_} {n:Nat} (h:n<lo.length):cM lo n=lo.getD n 0:=by unfold cM;rw[if_pos h]
section
theorem Cs {im:Img} (hW:dN im) {bd:Bod} (hbd:ey im.zq im.zx bd) {y:Ins} (hy:WfN im.zq im.zx.length bd.zy.length y) {ts:L_} (hl:ts.length=az y.op) (hok: ∀c∈ts,okT im.zq.length c=true) (hne: ∀c∈ts,c.toNat≠45):di (im.zq.map toX) im.zx bd.zy y ts=aV im.zq im.zx bd.zy y ts:=by
 have r:=List.elem_iff.1 hy.op;simp only[cr,List.mem_cons,List.not_mem_nil,or_false]at r
 have e: ∀n:Nat,y.op.toNat=n-> ¬(48<=n/\n<=57)->co y=cB y:=λn h1 h2=>by
  unfold co;rw[if_neg (λh=>h2 (by rw[<-h1];exact lG h))]
 have i:=λh=>BQ (x:=y) h
 have g: ∀h:y.op.toNat=110\/y.op.toNat=120\/y.op.toNat=103\/y.op.toNat=112\/y.op.toNat=99,okT im.zq.length (bQ y.a)=true/\(bQ y.a).toNat≠45:=λh=>
  ⟨tI (hy.cls h) hW.nc,by have:=hy.cls h;have:=hW.nc;unfold bQ;simp;omega⟩
 have eo:(cB y).op=y.op:=rfl;have en:(cB y).num=y.b:=rfl;obtain h|h|h|h|h|h|h|h|h|h|h|h|h|h|h|h|h|h|h|h|h|h|h|h|h|h|h|h|h|h:=r
 .have ha:az y.op=0:=by unfold az;simp[h]
  rw[ha]at hl;have d:=oB hl;subst d;have f:co y=⟨y.pos,107,45,y.b,none,0,0⟩:=by unfold co;rw[if_pos (by simp[aQ,h])]
  rw[di,f];simp[cP,aS,ez,bC,nk,aV,a9,aT,arith,h]
 .have ha:az y.op=0:=by unfold az;simp[h]
  rw[ha]at hl;have d:=oB hl;subst d;have f:co y=⟨y.pos,107,45,y.b,none,0,0⟩:=by unfold co;rw[if_pos (by simp[aQ,h])]
  rw[di,f];simp[cP,aS,ez,bC,nk,aV,a9,aT,arith,h]
 .have ha:az y.op=0:=by unfold az;simp[h]
  rw[ha]at hl;have d:=oB hl;subst d;have f:co y=⟨y.pos,107,45,y.b,none,0,0⟩:=by unfold co;rw[if_pos (by simp[aQ,h])]
  rw[di,f];simp[cP,aS,ez,bC,nk,aV,a9,aT,arith,h]
 .have ha:az y.op=0:=by unfold az;simp[h]
  rw[ha]at hl;have d:=oB hl;subst d;have f:co y=⟨y.pos,107,45,y.b,none,0,0⟩:=by unfold co;rw[if_pos (by simp[aQ,h])]
  rw[di,f];simp[cP,aS,ez,bC,nk,aV,a9,aT,arith,h]
 .have ha:az y.op=0:=by unfold az;simp[h]
  rw[ha]at hl;have d:=oB hl;subst d;have f:co y=⟨y.pos,107,45,y.b,none,0,0⟩:=by unfold co;rw[if_pos (by simp[aQ,h])]
  rw[di,f];simp[cP,aS,ez,bC,nk,aV,a9,aT,arith,h]
 .have ha:az y.op=0:=by unfold az;simp[h]
  rw[ha]at hl;have d:=oB hl;subst d;have f:co y=⟨y.pos,107,45,y.b,none,0,0⟩:=by unfold co;rw[if_pos (by simp[aQ,h])]
  rw[di,f];simp[cP,aS,ez,bC,nk,aV,a9,aT,arith,h]
 .have ha:az y.op=0:=by unfold az;simp[h]
  rw[ha]at hl;have d:=oB hl;subst d;have f:co y=⟨y.pos,107,45,y.b,none,0,0⟩:=by unfold co;rw[if_pos (by simp[aQ,h])]
  rw[di,f];simp[cP,aS,ez,bC,nk,aV,a9,aT,arith,h]
 .have ha:az y.op=0:=by unfold az;simp[h]
  rw[ha]at hl;have d:=oB hl;subst d;have f:co y=⟨y.pos,107,45,y.b,none,0,0⟩:=by unfold co;rw[if_pos (by simp[aQ,h])]
  rw[di,f];simp[cP,aS,ez,bC,nk,aV,a9,aT,arith,h]
 .have ha:az y.op=0:=by unfold az;simp[h]
  rw[ha]at hl;have d:=oB hl;subst d;have f:co y=⟨y.pos,107,45,y.b,none,0,0⟩:=by unfold co;rw[if_pos (by simp[aQ,h])]
  rw[di,f];simp[cP,aS,ez,bC,nk,aV,a9,aT,arith,h]
 .have ha:az y.op=0:=by unfold az;simp[h]
  rw[ha]at hl;have d:=oB hl;subst d;have f:co y=⟨y.pos,107,45,y.b,none,0,0⟩:=by unfold co;rw[if_pos (by simp[aQ,h])]
  rw[di,f];simp[cP,aS,ez,bC,nk,aV,a9,aT,arith,h]
 .have ha:az y.op=0:=by unfold az;simp[h]
  rw[ha]at hl;have d:=oB hl;subst d;rw[di,e _ h (by omega),eo,en];simp[cP,aS,ez,bC,nk,aV,a9,aT,arith,h]
 .have ha:az y.op=1:=by unfold az;simp[h]
  rw[ha]at hl;obtain⟨a,rfl⟩:=DE hl;have oa:=hok a (by simp);have na:=hne a (by simp);rw[di,e _ h (by omega),eo,en];simp[cP,aS,ez,bC,yD,nm hW oa,aV,a9,aT,arith,h,xO,pJ]
 .have ha:az y.op=0:=by unfold az;simp[h]
  rw[ha]at hl;have d:=oB hl;subst d;rw[di,e _ h (by omega),eo,en];have m:=hy.loc (by omega);have v:=uu (hbd.loc.2 _ (bD m));simp[cP,aS,ez,bC,nk,aV,a9,aT,arith,h,qb m,List.getD,m,v]
 .have ha:az y.op=1:=by unfold az;simp[h]
  rw[ha]at hl;obtain⟨a,rfl⟩:=DE hl;have oa:=hok a (by simp);have na:=hne a (by simp);rw[di,e _ h (by omega),eo,en];have m:=hy.loc (by omega);have s:okT im.zq.length (bd.zy.getD y.b 0)=true:=by rw[bF _ _ m];exact lN (hbd.loc.2 _ (bD m))
  have l:=xP hW oa s (Ay s);simp only[cP,ez,h,qb m,aV,a9,aT,arith];generalize bd.zy.getD y.b 0=T at*;simp[yD,l,xO]
  cases bj im.zq a T<;>simp
 .have ha:az y.op=2:=by unfold az;simp[h]
  rw[ha]at hl;obtain⟨a,b,rfl⟩:=rl hl;have oa:=hok a (by simp);have na:=hne a (by simp);have ob:=hok b (by simp);have nb:=hne b (by simp);rw[di,e _ h (by omega),eo,en];simp[cP,aS,ez,bC,oA,nm hW oa,nm hW ob,aV,a9,aT,arith,h,lX,pJ]
  by_cases h1:a.toNat=105<;>by_cases h2:b.toNat=105<;>simp[h1,h2]
 .have ha:az y.op=2:=by unfold az;simp[h]
  rw[ha]at hl;obtain⟨a,b,rfl⟩:=rl hl;have oa:=hok a (by simp);have na:=hne a (by simp);have ob:=hok b (by simp);have nb:=hne b (by simp);rw[di,e _ h (by omega),eo,en];simp[cP,aS,ez,bC,oA,nm hW oa,nm hW ob,aV,a9,aT,arith,h,lX,pJ]
  by_cases h1:a.toNat=105<;>by_cases h2:b.toNat=105<;>simp[h1,h2]
 .have ha:az y.op=2:=by unfold az;simp[h]
  rw[ha]at hl;obtain⟨a,b,rfl⟩:=rl hl;have oa:=hok a (by simp);have na:=hne a (by simp);have ob:=hok b (by simp);have nb:=hne b (by simp);rw[di,e _ h (by omega),eo,en];simp[cP,aS,ez,bC,oA,nm hW oa,nm hW ob,aV,a9,aT,arith,h,lX,pJ]
  by_cases h1:a.toNat=105<;>by_cases h2:b.toNat=105<;>simp[h1,h2]
 .have ha:az y.op=2:=by unfold az;simp[h]
  rw[ha]at hl;obtain⟨a,b,rfl⟩:=rl hl;have oa:=hok a (by simp);have na:=hne a (by simp);have ob:=hok b (by simp);have nb:=hne b (by simp);rw[di,e _ h (by omega),eo,en];simp[cP,aS,ez,bC,oA,nm hW oa,nm hW ob,aV,a9,aT,arith,h,lX,pJ]
  by_cases h1:a.toNat=105<;>by_cases h2:b.toNat=105<;>simp[h1,h2]
 .have ha:az y.op=2:=by unfold az;simp[h]
  rw[ha]at hl;obtain⟨a,b,rfl⟩:=rl hl;have oa:=hok a (by simp);have na:=hne a (by simp);have ob:=hok b (by simp);have nb:=hne b (by simp);rw[di,e _ h (by omega),eo,en];simp[cP,aS,ez,bC,oA,nm hW oa,nm hW ob,aV,a9,aT,arith,h,lX,pJ]
  by_cases h1:a.toNat=105<;>by_cases h2:b.toNat=105<;>simp[h1,h2]
 .have ha:az y.op=2:=by unfold az;simp[h]
  rw[ha]at hl;obtain⟨a,b,rfl⟩:=rl hl;have oa:=hok a (by simp);have na:=hne a (by simp);have ob:=hok b (by simp);have nb:=hne b (by simp);rw[di,e _ h (by omega),eo,en];simp[cP,aS,ez,bC,oA,nm hW oa,nm hW ob,aV,a9,aT,arith,h,lX,pJ]
  by_cases h1:a.toNat=105<;>by_cases h2:b.toNat=105<;>simp[h1,h2]
 .have ha:az y.op=2:=by unfold az;simp[h]
  rw[ha]at hl;obtain⟨a,b,rfl⟩:=rl hl;have oa:=hok a (by simp);have na:=hne a (by simp);have ob:=hok b (by simp);have nb:=hne b (by simp);rw[di,e _ h (by omega),eo,en];simp[cP,aS,ez,bC,oA,EE hW oa,EE hW ob,aV,a9,aT,arith,h]
 .have ha:az y.op=0:=by unfold az;simp[h]
  rw[ha]at hl;have d:=oB hl;subst d;rw[di,e _ h (by omega),eo,en];rw[i (by omega)];simp[cP,aS,ez,bC,nk,aV,a9,aT,arith,h,(g (by omega)).2]
 .have ha:az y.op=0:=by unfold az;simp[h]
  rw[ha]at hl;have d:=oB hl;subst d;rw[di,e _ h (by omega),eo,en];simp[cP,aS,ez,bC,nk,aV,a9,aT,arith,h]
 .have ha:az y.op=1:=by unfold az;simp[h]
  rw[ha]at hl;obtain⟨a,rfl⟩:=DE hl;have oa:=hok a (by simp);have na:=hne a (by simp);rw[di,e _ h (by omega),eo,en];have z:cM (cD (im.zq.map toX) (bQ y.a)) y.b=cj im.zq y.a y.b:=wb hW (hy.cls (by omega)) (hy.fld (by omega));have E:=vv hW hbd hy;rw[i (by omega)];have l:=xP hW oa (g (by omega)).1 (Ay (g (by omega)).1)
  have A:(cj im.zq y.a y.b).toNat≠45:=by
   have k:=hy.fld (by omega);have j:=aG (hy.cls (by omega));unfold bB at k;unfold cj;rw[j]at k⊢;simp at k⊢;rw[aG k];exact uu (n:=im.zq.length) (iB (by have:=hy.cls (by omega);omega) ((hW.cls _ _ j).2.2.2 _ (bD k)))
  simp[cP,aS,ez,bC,h,aV,a9,aT,arith,z,yD,l,xO,A]
  cases bj im.zq a (bQ y.a)<;>simp
 .have ha:az y.op=2:=by unfold az;simp[h]
  rw[ha]at hl;obtain⟨a,b,rfl⟩:=rl hl;have oa:=hok a (by simp);have na:=hne a (by simp);have ob:=hok b (by simp);have nb:=hne b (by simp);rw[di,e _ h (by omega),eo,en];have z:cM (cD (im.zq.map toX) (bQ y.a)) y.b=cj im.zq y.a y.b:=wb hW (hy.cls (by omega)) (hy.fld (by omega));rw[i (by omega)];have l:=xP hW oa (g (by omega)).1 (Ay (g (by omega)).1)
  have q:okT im.zq.length (cj im.zq y.a y.b)=true:=by
   have k:=hy.fld (by omega);have j:=aG (hy.cls (by omega));unfold bB at k;unfold cj;rw[j]at k⊢;simp at k⊢;rw[aG k];exact lN (iB (by have:=hy.cls (by omega);omega) ((hW.cls _ _ j).2.2.2 _ (bD k)))
  have t:=xP hW ob q (Ay q);simp[cP,aS,ez,bC,h,aV,a9,aT,arith,z,oA,l,t,lX]
  cases bj im.zq a (bQ y.a)<;>cases bj im.zq b (cj im.zq y.a y.b)<;>simp
 .have ha:az y.op=2:=by unfold az;simp[h]
  rw[ha]at hl;obtain⟨a,b,rfl⟩:=rl hl;have oa:=hok a (by simp);have na:=hne a (by simp);have ob:=hok b (by simp);have nb:=hne b (by simp);rw[di,e _ h (by omega),eo,en];have C:=yp (hy.sig h);rw[i (by omega)];have D:=hW.sig _ (bD (hy.sig h));have p:okT im.zq.length (fU im.zx y.b)=true:=by unfold fU;rw[aG (hy.sig h)];exact lN D.1
  have B:(fq im.zx y.b).toNat≠45:=by unfold fq;rw[aG (hy.sig h)];exact uu D.2
  have l:=xP hW oa (g (by omega)).1 (Ay (g (by omega)).1);have t:=xP hW ob p (Ay p);simp[cP,aS,ez,bC,oA,C.1,C.2,l,t,aV,a9,aT,arith,h,lX,B]
  cases bj im.zq a (bQ y.a)<;>cases bj im.zq b (fU im.zx y.b)<;>simp
 .have ha:az y.op=1:=by unfold az;simp[h]
  rw[ha]at hl;obtain⟨a,rfl⟩:=DE hl;have oa:=hok a (by simp);have na:=hne a (by simp);rw[di,e _ h (by omega),eo,en];rw[i (by omega)];simp[cP,aS,ez,bC,yD,EE hW oa,aV,a9,aT,arith,h,(g (by omega)).2]
 .have ha:az y.op=2:=by unfold az;simp[h]
  rw[ha]at hl;obtain⟨a,b,rfl⟩:=rl hl;have oa:=hok a (by simp);have na:=hne a (by simp);have ob:=hok b (by simp);have nb:=hne b (by simp);rw[di,e _ h (by omega),eo,en];simp[cP,aS,ez,bC,nk,aV,a9,aT,arith,h,cM,nb]
 .have ha:az y.op=3:=by unfold az;simp[h]
  rw[ha]at hl;obtain⟨a,b,c,rfl⟩:=FZ hl;have oa:=hok a (by simp);have na:=hne a (by simp);have ob:=hok b (by simp);have nb:=hne b (by simp);have oc:=hok c (by simp);have nc:=hne c (by simp);rw[di,e _ h (by omega),eo,en];have l:=vz hW.cls hW.nc ob oc;simp[cP,aS,ez,bC,Fg,nm hW oa,aV,a9,aT,arith,h,cM,l]
 .have ha:az y.op=2:=by unfold az;simp[h]
  rw[ha]at hl;obtain⟨a,b,rfl⟩:=rl hl;have oa:=hok a (by simp);have na:=hne a (by simp);have ob:=hok b (by simp);have nb:=hne b (by simp);rw[di,e _ h (by omega),eo,en];simp[cP,aS,ez,bC,Ff,nm hW oa,aV,a9,aT,arith,h,cM]
end
section
variable {im:Img} {bd:Bod}
structure EF (im:Img) (bd:Bod) (q:Nat) (ty:L_):Prop where
 len:ty.length=bd.code.length
 at': ∀k,q<=k->k<bd.code.length->bX im.zq im.zx bd.zy bd.code bd.code.length k=some (ty.getD k 0)/\(ty.getD k 0).toNat≠45
theorem Ct (hW:dN im) (hbd:ey im.zq im.zx bd) {p:Nat} {ty:L_} (h:EF im bd (p+1) ty) (hp:p<bd.code.length):
  (stepX (im.zq.map toX) im.zx bd.zy bd.code p ty=none/\bX im.zq im.zx bd.zy bd.code bd.code.length p=none)\/ ∃ty',stepX (im.zq.map toX) im.zx bd.zy bd.code p ty=some ty'/\EF im bd p ty':=by
 have f:=aG hp;obtain⟨y,m⟩: ∃y,bd.code[p]=y:=⟨_,rfl⟩;rw[m]at f;have b: ∀k,k∈eK bd.code p->cM ty k=ty.getD k 0:=λk hk=>qb (by rw[h.len];exact(jW hk).2)
 have d:bp bd.code (bX im.zq im.zx bd.zy bd.code bd.code.length) (az y.op) (p+1)=some ((eK bd.code p).map (cM ty)):=by
  have e:eK bd.code p=de bd.code (az y.op) (p+1):=by unfold eK;rw[f]
  rw[e];refine xN ?_ ?_
  .rw[<-e];exact vZ hbd.full f
  .intro q a;rw[<-e]at a;have hm:=jW a;rw[b q a];exact(h.at' q (by omega) hm.2).1
 have l:=hbd.code y (bn f)
 have j:=Cs hW hbd l (ts:=(eK bd.code p).map (cM ty)) (by rw[eF];exact vZ hbd.full f) (λc hc=>by
  obtain⟨q,a,rfl⟩:=List.mem_map.1 hc;rw[b q a];exact pZ hW hbd (h.at' q (by have:=(jW a).1;omega) (jW a).2).1) (λc hc=>by
  obtain⟨q,a,rfl⟩:=List.mem_map.1 hc;rw[b q a];exact(h.at' q (by have:=(jW a).1;omega) (jW a).2).2)
 have i:bX im.zq im.zx bd.zy bd.code bd.code.length p=di (im.zq.map toX) im.zx bd.zy y ((eK bd.code p).map (cM ty)):=by
  rw[sX f,d,j]
 unfold stepX;rw[f];simp only
 cases hx:di (im.zq.map toX) im.zx bd.zy y ((eK bd.code p).map (cM ty))with
 |none=>exact Or.inl ⟨rfl,by rw[i,hx]⟩
 |some c=>
  right
  have g:c.toNat≠45:=by
   unfold di at hx
   split at hx
   .rename_i hh
    cases hx
    exact hh.2
   .cases hx
  refine⟨ty.set p c,rfl,by rw[List.length_set];exact h.len,λk h1 h2=> ?_⟩
  by_cases hk:p=k
  .subst hk;have e:(ty.set p c).getD p 0=c:=by simp[List.getD,h.len,hp]
   rw[e,i,hx];exact⟨rfl,g⟩
  .have e:(ty.set p c).getD k 0=ty.getD k 0:=by simp[List.getD,List.getElem?_set_ne hk]
   rw[e];exact h.at' k (by omega) h2
theorem EG (hW:dN im) (hbd:ey im.zq im.zx bd):okT im.zq.length (fG im.zx bd).ans=true/\(fG im.zx bd).ans=if bd.cls<0 then 105 else fq im.zx bd.meth.toNat:=by
 obtain⟨a,_⟩ | ⟨a,b,c,d⟩:=hbd.cls
 .simp[fG,a,vu]
 .have hn: ¬bd.cls<0:=by omega
  have hm:bd.meth.toNat<im.zx.length:=by omega
  have e:=(yp hm).2;simp only[fG,hn,if_false,e,and_true];unfold fq;rw[aG hm];exact lN (hW.sig _ (bD hm)).2
theorem DF (hW:dN im) (hbd:ey im.zq im.zx bd): ∀{q:Nat} {ty:L_},q<=bd.code.length->EF im bd q ty->ur (im.zq.map toX) (fG im.zx bd).ans (pR (im.zq.map toX) im.zx bd.zy bd.code q ty)=dt im bd:=by
 intro q
 induction q with
 |zero=>
  intro ty _ h;have f:=nK (m:=0) hbd.full;obtain⟨e,i⟩:=h.at' 0 (bP _) f;obtain⟨a1,g⟩:=EG hW hbd;simp only[pR,ur,dt,e];rw[qb (by rw[h.len];exact f),kS hW.cls hW.nc (pZ hW hbd e) a1,g]
 |succ p ih=>
  intro ty j h;obtain⟨a,b⟩ | ⟨ty',a,b⟩:=Ct hW hbd h (by omega)
  .simp only[pR,a,ur,dt]
   have d:bX im.zq im.zx bd.zy bd.code bd.code.length 0=none:=by
    cases d:bX im.zq im.zx bd.zy bd.code bd.code.length 0 with
    |none=>rfl
    |some c=>exact absurd b (Cq hbd.full (by rw[d];simp) p (by omega))
   rw[d]
  .simp only[pR,a];exact ih (by omega) b
theorem DG (hW:dN im) (hbd:ey im.zq im.zx bd):Cr (im.zq.map toX) im.zx bd.zy bd.code (fG im.zx bd).ans=dt im bd:=by
 unfold Cr;exact DF hW hbd (bP _) ⟨by simp,λk h1 h2=>by omega⟩
end
end
section
open Go Go.RowKit Sp
attribute [local go_sem ↓] eY eZ
theorem ku.but {w w':World} {g:Nat} {im:Img} (h:ku w g im) (hb:B_ w w'):ku w' g im:=by
 obtain⟨bs,a,b⟩:=h.bod;exact⟨h.cls.but hb,h.met.but hb,bs,a.but hb,b.but hb (λ_ _ _ _ h=>h)⟩
theorem Az (g:Nat) (im:Img) (w:World) (hW:dN im) (hTX:ku w g im):
  Calls prog 64 #[.pointer (some ⟨g,0,none⟩),.int .i64 (-1)] w λen w'=>B_ w w'/\en= .returned (nU g im):=by
 have i:B_ w (w.alloc (.cells #[.int .i64 0,.int .i64 0,.pointer none,S_] 60)):=aa _ _ _;have a:=aO w (.cells #[.int .i64 0,.int .i64 0,.pointer none,S_] 60)
 cases hfs:im.zj.findSome? (λb=>unl im.zq im.zj b.code)with
 |some q=>
  have y:((q:Int)== -1)=false:=by rw[eu];omega
  have I:((q:Int)!= -1)=true:=by simp[bne,y]
  have D: ¬(q:Int)= -1:=by omega
  have f:=rj g im (w.alloc (.cells #[.int .i64 0,.int .i64 0,.pointer none,S_] 60)) hW (hTX.but i);rw[hfs]at f;simp only[tS]at f;rw[show nU g im= .agg #[.int .i64 3,.int .i64 q,.pointer none,S_]from by unfold nU;rw[hfs]];have c:=hid f;clear f hfs
  go_in
  go_wp2_with fail;revert i a c;generalize (w.alloc (.cells #[.int .i64 0,.int .i64 0,.pointer none,S_] 60))=W;intro i a c;have p:=ae a;refine c.out.mono ?_;rintro en r ⟨rfl,j⟩;have l:=i.trans j;have e:=(j.block w.heap.size p (λh=>h)).trans a;have n:=hid e;obtain⟨E,F,G,H⟩:=lz e;obtain⟨z,A,B,C⟩:=sK e;clear e a c;go_wp2_with fail;have m:=iJ n.out (.int .i64 3) (.int .i64 q) (.pointer none) S_;have d:=jR r w.heap.size (.int .i64 3) (.int .i64 q) (.pointer none) S_;unfold tX at m d;revert m d;generalize ((((r.setCell ⟨w.heap.size,0,none⟩ (.int .i64 3)).setCell ⟨w.heap.size,1,none⟩ (.int .i64 q)).setCell ⟨w.heap.size,2,none⟩ (.pointer none)).setCell ⟨w.heap.size,3,none⟩ S_)=w9
  intro m d;obtain⟨r0,s,t,x⟩:=lz m;exact cA (v:= .agg #[.int .i64 3,.int .i64 q,.pointer none,S_]) (by simp[results,results64,go_sem,r0,s,t,x]) rfl ⟨l.next d (λk hk h=>by omega),rfl⟩
 |none=>
  have f:=rj g im (w.alloc (.cells #[.int .i64 0,.int .i64 0,.pointer none,S_] 60)) hW (hTX.but i);rw[hfs]at f;simp only[tS]at f;rw[show nU g im= .agg #[.int .i64 0,.int .i64 0,.pointer (some ⟨g,0,none⟩),S_]from by unfold nU;rw[hfs]];have c:=hid f;clear f hfs
  go_in
  go_wp2_with fail;revert i a c;generalize (w.alloc (.cells #[.int .i64 0,.int .i64 0,.pointer none,S_] 60))=W;intro i a c;have p:=ae a;refine c.out.mono ?_;rintro en r ⟨rfl,j⟩;have l:=i.trans j;have e:=(j.block w.heap.size p (λh=>h)).trans a;have n:=hid e;obtain⟨E,F,G,H⟩:=lz e;obtain⟨z,A,B,C⟩:=sK e;clear e a c;go_wp2_with fail;have m:=iJ n.out (.int .i64 0) (.int .i64 0) (.pointer (some ⟨g,0,none⟩)) S_;have d:=jR r w.heap.size (.int .i64 0) (.int .i64 0) (.pointer (some ⟨g,0,none⟩)) S_;unfold tX at m d;revert m d;generalize ((((r.setCell ⟨w.heap.size,0,none⟩ (.int .i64 0)).setCell ⟨w.heap.size,1,none⟩ (.int .i64 0)).setCell ⟨w.heap.size,2,none⟩ (.pointer (some ⟨g,0,none⟩))).setCell ⟨w.heap.size,3,none⟩ S_)=w9
  intro m d;obtain⟨r0,s,t,x⟩:=lz m;exact cA (v:= .agg #[.int .i64 0,.int .i64 0,.pointer (some ⟨g,0,none⟩),S_]) (by simp[results,results64,go_sem,r0,s,t,x]) rfl ⟨l.next d (λk hk h=>by omega),rfl⟩
theorem ku.off {F:Nat->Prop} {w w':World} {g:Nat} {im:Img} (h:ku w g im) (hb:But F w w') (hg: ¬F g) (hf: ∀k cur e,w.heap[k]?=some (.cells cur e)->(e=240\/e=243\/e=115\/e=219\/e=5\/e=3)-> ¬F k):ku w' g im:=by
 obtain⟨⟨v0,l,d,hl,j,hm,c⟩,⟨v1,f,_,b⟩,bs,⟨v2,i,_,m⟩,a⟩:=h;refine⟨⟨v0,l,(hb.cell (p:=⟨g,0,none⟩) hl hg).trans d,bK hl hb.size,dn j hb (λk cur hh _=>hf k cur _ hh (by simp)),hm,λx hx=>dn (c x hx) hb (λk cur hh _=>hf k cur _ hh (by simp))⟩,⟨v1,(hb.cell (p:=⟨g,1,none⟩) hl hg).trans f,bK hl hb.size,dn b hb (λk cur hh _=>hf k cur _ hh (by simp))⟩,bs,⟨v2,(hb.cell (p:=⟨g,2,none⟩) hl hg).trans i,bK hl hb.size,m.but hb (λk e cur hh he _=>hf k cur e hh (by rcases he with h|h|h<;>simp[h]))⟩,a.but hb (λk cur hh _=>hf k cur _ hh (by simp))⟩
def pK (s:ByteArray) (w:World) (en:Ending) (w':World):Prop:=
 match cO s with
 | .error (e,p)=>en= .returned (.agg #[.int .i64 e,.int .i64 p,.pointer none,S_])
 | .ok im=>
  match im.zj.findIdx? (λb=> !dt im b)with
  |some k=>en= .returned (.agg #[.int .i64 4,.int .i64 k,.pointer none,S_])
  |none=> ∃g,en= .returned (.agg #[.int .i64 0,.int .i64 0,.pointer (some ⟨g,0,none⟩),S_])/\dN im/\ku w' g im
theorem rZ (s:ByteArray) (w:World) (hmax:s.size<=maxLen):
  Calls prog 60 #[.string s] w λen w'=>B_ w w'/\pK s w en w':=by
 have c9:B_ w (w.alloc (.cells #[.int .i64 0,.int .i64 0,.pointer none,S_] 60)):=aa _ _ _;have O:=aO w (.cells #[.int .i64 0,.int .i64 0,.pointer none,S_] 60)
 by_cases hbig:400<s.size
 .have i0:400<(s.size:Int):=by omega
  have hL:cO s= .error (1,0):=by unfold cO;rw[if_pos hbig]
  have Z:=hid hL;clear hbig hL
  go_in
  go_wp2_with fail;have f:=aO w (.cells #[.int .i64 1,.int .i64 0,.pointer none,S_] 60);have a:B_ w (w.alloc (.cells #[.int .i64 1,.int .i64 0,.pointer none,S_] 60)):=aa _ _ _;revert f a;generalize (w.alloc (.cells #[.int .i64 1,.int .i64 0,.pointer none,S_] 60))=w9;intro f a;obtain⟨r0,S,T,Y⟩:=lz f;exact cA (v:= .agg #[.int .i64 1,.int .i64 0,.pointer none,S_]) (by simp[results,results60,go_sem,r0,S,T,Y]) rfl ⟨a,by unfold pK;rw[Z.out];rfl⟩
 .have i0: ¬400<(s.size:Int):=by omega
  go_in
  go_wp2_with fail;revert c9 O;generalize (w.alloc (.cells #[.int .i64 0,.int .i64 0,.pointer none,S_] 60))=W;intro c9 O;have i6:=ae O;have c8:=hid O;clear O;refine(xL s W (by omega)).mono ?_;rintro en w1 ⟨f6,g,p,rfl,hg,i1⟩;have J:=c9.trans f6;have B:=hid ((f6.block w.heap.size i6 (λh=>h)).trans c8.out);obtain⟨j,E,rfl,g3⟩ | ⟨rfl,im,E,e0⟩:=i1
  .have Z:Hid (cO s= .error (2,j)):=hid (by unfold cO;rw[if_neg hbig,E]);clear E hbig c8;have e3:=ae g3;go_wp2_with fail;refine(zT g j w1).mono ?_;rintro en z ⟨l,rfl⟩;have t:=J.trans l;have b0:=(l.block g e3 (λh=>h)).trans g3;obtain⟨t0,t1,t2⟩:=FW b0;have e4:=ae b0;have y:=hid (l.kp B.out);go_wp2_with fail;have c:B_ z (z.alloc (.cells #[.int .i64 2,.int .i64 j,.pointer none,S_] 60)):=aa _ _ _;have d:=aO z (.cells #[.int .i64 2,.int .i64 j,.pointer none,S_] 60);revert c d;generalize (z.alloc (.cells #[.int .i64 2,.int .i64 j,.pointer none,S_] 60))=w3
   intro c d;have n:=c.kp y.out;have u2:=c.kc t2 e4;clear t0 t1 t2;obtain⟨k0,k1,k2,k3⟩:=lz d;obtain⟨q0,q1,q2,q3⟩:=lz n;obtain⟨f0,f1,f2,f3⟩:=sK n;have C:=hid n;clear n y B d
   go_loopg [6] 0 (λmm is wr=>is= .int .i64 0/\wr=w3)
   case atStart=>exact⟨rfl,rfl⟩
   case round=>
    obtain⟨rfl,e8⟩:=hrel;subst e8;go_wp2_with fail;have f:=iJ C.out (.int .i64 2) (.int .i64 j) (.pointer none) S_;have a:=jR wr w.heap.size (.int .i64 2) (.int .i64 j) (.pointer none) S_;unfold tX at f a;revert f a;generalize ((((wr.setCell ⟨w.heap.size,0,none⟩ (.int .i64 2)).setCell ⟨w.heap.size,1,none⟩ (.int .i64 j)).setCell ⟨w.heap.size,2,none⟩ (.pointer none)).setCell ⟨w.heap.size,3,none⟩ S_)=w9;intro f a;obtain⟨r0,S,T,Y⟩:=lz f;exact cA (v:= .agg #[.int .i64 2,.int .i64 j,.pointer none,S_]) (by simp[results,results60,go_sem,r0,S,T,Y]) rfl ⟨(t.trans c).next a (λk hk h=>by omega),by unfold pK;rw[Z.out];rfl⟩
  .have hW:=ql (by omega) E;have b2:=hid E;clear E c8;have D:=Az g im w1 hW e0;obtain⟨bs,⟨vb,e7,b6,lb,hO,hm,hf⟩,a0⟩:=e0.bod;obtain⟨a2,h3,rfl⟩:=ay hO;have g6:lb.length=im.zj.length:=by rw[<-a0.1,<-hm];simp
   have k5:=hW.nb;have HM:=hid hm;clear hm
   cases hfs:im.zj.findSome? (λb=>unl im.zq im.zj b.code)with
   |some q=>
    have Z:Hid (cO s= .error (3,q)):=hid (by unfold cO;rw[if_neg hbig,b2.out];simp only[hfs]);rw[show nU g im= .agg #[.int .i64 3,.int .i64 q,.pointer none,S_]from by unfold nU;rw[hfs]]at D;have G:=hid D;clear D hfs hbig b2;go_wp2_with fail;refine G.out.mono ?_;rintro en z ⟨l,rfl⟩;have t:=J.trans l;have y:=hid (l.kp B.out);clear G;go_wp2_with fail;have c:B_ z (z.alloc (.cells #[.int .i64 3,.int .i64 q,.pointer none,S_] 60)):=aa _ _ _;have d:=aO z (.cells #[.int .i64 3,.int .i64 q,.pointer none,S_] 60);revert c d;generalize (z.alloc (.cells #[.int .i64 3,.int .i64 q,.pointer none,S_] 60))=w3
    intro c d;have n:=c.kp y.out;have u2:=((l.trans c).cell (p:=⟨g,2,none⟩) b6 (λh=>h)).trans e7;have L:0<(lb.length:Int)\/ ¬0<(lb.length:Int):=Decidable.em _;obtain⟨k0,k1,k2,k3⟩:=lz d;obtain⟨q0,q1,q2,q3⟩:=lz n;obtain⟨f0,f1,f2,f3⟩:=sK n;have C:=hid n;clear n y B d
    go_loopg [6] 0 (λmm is wr=>is= .int .i64 0/\wr=w3)
    case atStart=>exact⟨rfl,rfl⟩
    case round=>
     obtain⟨rfl,e8⟩:=hrel;subst e8;obtain L|L:=L
     .go_wp2_with fail;have f:=iJ C.out (.int .i64 3) (.int .i64 q) (.pointer none) S_;have a:=jR wr w.heap.size (.int .i64 3) (.int .i64 q) (.pointer none) S_;unfold tX at f a;revert f a;generalize ((((wr.setCell ⟨w.heap.size,0,none⟩ (.int .i64 3)).setCell ⟨w.heap.size,1,none⟩ (.int .i64 q)).setCell ⟨w.heap.size,2,none⟩ (.pointer none)).setCell ⟨w.heap.size,3,none⟩ S_)=w9;intro f a;obtain⟨r0,S,T,Y⟩:=lz f;exact cA (v:= .agg #[.int .i64 3,.int .i64 q,.pointer none,S_]) (by simp[results,results60,go_sem,r0,S,T,Y]) rfl ⟨(t.trans c).next a (λk hk h=>by omega),by unfold pK;rw[Z.out];rfl⟩
     .go_wp2_with fail;have f:=iJ C.out (.int .i64 3) (.int .i64 q) (.pointer none) S_;have a:=jR wr w.heap.size (.int .i64 3) (.int .i64 q) (.pointer none) S_;unfold tX at f a;revert f a;generalize ((((wr.setCell ⟨w.heap.size,0,none⟩ (.int .i64 3)).setCell ⟨w.heap.size,1,none⟩ (.int .i64 q)).setCell ⟨w.heap.size,2,none⟩ (.pointer none)).setCell ⟨w.heap.size,3,none⟩ S_)=w9;intro f a;obtain⟨r0,S,T,Y⟩:=lz f;exact cA (v:= .agg #[.int .i64 3,.int .i64 q,.pointer none,S_]) (by simp[results,results60,go_sem,r0,S,T,Y]) rfl ⟨(t.trans c).next a (λk hk h=>by omega),by unfold pK;rw[Z.out];rfl⟩
   |none=>
    have Z:Hid (cO s= .ok im):=hid (by unfold cO;rw[if_neg hbig,b2.out];simp only[hfs]);rw[show nU g im= .agg #[.int .i64 0,.int .i64 0,.pointer (some ⟨g,0,none⟩),S_]from by unfold nU;rw[hfs]]at D;have G:=hid D;clear D hfs hbig b2;go_wp2_with fail;refine G.out.mono ?_;rintro en z ⟨l,rfl⟩;have t:=J.trans l;have y:=hid (l.kp B.out);clear G;go_wp2_with fail;have c:B_ z (z.alloc (.cells #[.int .i64 0,.int .i64 0,.pointer (some ⟨g,0,none⟩),S_] 60)):=aa _ _ _;have d:=aO z (.cells #[.int .i64 0,.int .i64 0,.pointer (some ⟨g,0,none⟩),S_] 60);revert c d
    generalize (z.alloc (.cells #[.int .i64 0,.int .i64 0,.pointer (some ⟨g,0,none⟩),S_] 60))=w3;intro c d;have n:=c.kp y.out;have r:=l.trans c;have a3:=t.trans c;have a6:g<w3.heap.size:=bK b6 r.size;have j4:w.heap.size<z.heap.size:=ae y.out;have h4:=ae d;have C:=hid n;have a5:=e0.but r;have h6:=ag hO r (λ_ _ h=>h);have j3:=r.kc e7 b6;have i4:g≠z.heap.size:=by have:=bK b6 l.size;omega
    have HF:Hid (∀x∈lb,BtB w3 0 x.2.1 x.1.zy/\ItB w3 0 x.2.2 x.1.items):=hid (λx F=>⟨(hf x F).1.but r (λ_ _ h=>h),ag (hf x F).2 r (λ_ _ h=>h)⟩);have a1:=a0.but r (λ_ _ _ _ h=>h);clear n y B hf e7 hO
    go_loopg [6] lb.length (λmm ks wr=> ∃(k:Nat),ks= .int .i64 k/\k<=lb.length/\k+mm<=lb.length/\lb.length<=k+mm/\B_ w3 wr/\Hid (∀j (hj:j<im.zj.length),j<k->dt im im.zj[j]=true))
    case atStart=>exact⟨0,rfl,by omega,by omega,by omega,bf _ _,λj hj h=>absurd h (by omega)⟩
    case round=>
     obtain⟨k,rfl,j5,j7,k4,m,HA⟩:=hrel;have g4:=m.kp C.out;have g1:=(m.block z.heap.size h4 (λh=>h)).trans d;have H:=hid g4;have e5:=ae g4;have h5:=ae g1;have e6:=m.kc j3 a6;have i5:g<wr.heap.size:=bK a6 m.size;have f5:=hid g6;clear g6;obtain⟨k0,k1,k2,k3⟩:=lz g1
     by_cases hlt:k<lb.length
     .have j2:(k:Int)<(lb.length:Int):=by omega
      have F:=aG hlt;have h7:=ag h6 m (λ_ _ h=>h);obtain⟨gB,i2,i3,_,i⟩:=aE h7 (by omega);obtain⟨X,hX⟩: ∃X,lb[k]=X:=⟨_,rfl⟩;have g5:k<im.zj.length:=by rw[<-f5.out];exact hlt
      have b5:=aG g5;obtain⟨bd,b4⟩: ∃bd,im.zj[k]=bd:=⟨_,rfl⟩;rw[b4]at b5;have g2:bs[k]?=some X.1:=by rw[<-HM.out,cV,F,hX];rfl
      have I:=(a1.but m (λ_ _ _ _ h=>h)).2 k X.1 bd g2 b5;have g7:ey im.zq im.zx bd:=hW.bod _ (bn b5);obtain⟨Q,P⟩:=HF.out _ (bD hlt);rw[hX]at Q P F;have b8:=BtB.but Q m (λ_ _ h=>h);have b7:ItB wr 0 X.2.2 X.1.items:=ag P m (λ_ _ h=>h);clear Q P hX;have p0:wr.cell? ⟨gB,k*5,none⟩=some (.int .u8 X.1.cls.toNat):=i _ _ (dr (k:=0) F (by omega));have p1:wr.cell? ⟨gB,k*5+1,none⟩=some (.int .i64 X.1.meth):=i _ _ (dr (k:=1) F (by omega));have p2:wr.cell? ⟨gB,k*5+2,none⟩=some (.int .u8 X.1.ans.toNat):=i _ _ (dr (k:=2) F (by omega));have p3:wr.cell? ⟨gB,k*5+3,none⟩=some X.2.1:=i _ _ (dr (k:=3) F (by omega))
      have p4:wr.cell? ⟨gB,k*5+4,none⟩=some X.2.2:=i _ _ (dr (k:=4) F (by omega));obtain⟨⟨xc,xm,xa,xl,xi⟩,xv,xw⟩:=X;dsimp only at p0 p1 p2 p3 p4 b8 b7 I;obtain⟨al,capl,rfl⟩:=ay b8;obtain⟨ai,capi,rfl⟩:=ay b7;have A:=a5.but m;have j1:xi.length<=24:=by have h1:xi.length=bd.code.length:=I.its.len;have:=g7.len;omega
      have b3:=ut g (im.zq.map toX) im.zx xc xm xa al ai capl capi xl xi bd.code wr (by rw[eF];have:=hW.nc;omega) (by have:=hW.ns;omega) j1 A.cls A.met b8 b7 I.its
      have e1:Cr (im.zq.map toX) im.zx xl bd.code xa=dt im bd:=by
       have h1:xl=bd.zy:=I.loc;have h2:xa=(fG im.zx bd).ans:=I.ans;rw[h1,h2];exact DG hW g7
      rw[e1]at b3;unfold hdV at b3;have f4:=hid b3;subst i2
      have b1:Hid ((dt im bd=false->im.zj.findIdx? (λb=> !dt im b)=some k)/\(dt im bd=true-> ∀j (hj:j<im.zj.length),j<k+1->dt im im.zj[j]=true)):=by
       refine hid ⟨λh=> ?_,λh j hj hjk=> ?_⟩
       .rw[List.findIdx?_eq_some_iff_getElem];exact⟨g5,by rw[b4,h];rfl,λj hj=>by rw[HA.out j (by omega) hj];simp⟩
       .obtain h'|h':=gC j k
        .exact HA.out j hj h'
        .have:j=k:=by omega
         subst this;rw[b4];exact h
      clear b3 e1 i F g2 b5 b4 b7 b8;go_wp2_with fail;refine f4.out.mono ?_;rintro en w4 ⟨g0,rfl⟩;have a4:=m.trans g0;have M:=(g0.block w.heap.size e5 (λh=>h)).trans H.out;have h0:=hid M;have j0:=ae M;obtain⟨q0,q1,q2,q3⟩:=lz M;obtain⟨f0,f1,f2,f3⟩:=sK M;clear f4 p0 p1 p2 p3 p4 e6 M k0 k1 k2 k3
      cases hbt:dt im bd with
      |false=>
       have b9:=hid (b1.out.1 hbt);clear hbt b1;go_wp2_with fail;have f:=iJ h0.out (.int .i64 4) (.int .i64 k) (.pointer none) S_;have a:=jR w4 w.heap.size (.int .i64 4) (.int .i64 k) (.pointer none) S_;unfold tX at f a;revert f a;generalize ((((w4.setCell ⟨w.heap.size,0,none⟩ (.int .i64 4)).setCell ⟨w.heap.size,1,none⟩ (.int .i64 k)).setCell ⟨w.heap.size,2,none⟩ (.pointer none)).setCell ⟨w.heap.size,3,none⟩ S_)=w9;intro f a;obtain⟨r0,S,T,Y⟩:=lz f;exact cA (v:= .agg #[.int .i64 4,.int .i64 k,.pointer none,S_]) (by simp[results,results60,go_sem,r0,S,T,Y]) rfl ⟨(a3.trans a4).next a (λk' hk' h=>by omega),by unfold pK;rw[Z.out];simp only[b9.out]⟩
      |true=>
       have HY:=hid (b1.out.2 hbt);clear hbt b1;go_wp2_with fail
       go_roundg (lb.length-(k+1))
       case measure=>omega
       case rel=>exact⟨k+1,by simp,by omega,by omega,by omega,a4,HY⟩
     .have j2: ¬(k:Int)<(lb.length:Int):=by omega
      have b9:Hid (im.zj.findIdx? (λb=> !dt im b)=none):=by
       refine hid ?_;rw[List.findIdx?_eq_none_iff];intro x F;obtain⟨j,hj,rfl⟩:=List.getElem_of_mem F;simp[HA.out j hj (by have:=f5.out;omega)]
      clear HA;obtain⟨q0,q1,q2,q3⟩:=lz H.out;obtain⟨f0,f1,f2,f3⟩:=sK H.out;have A:=a5.but m;go_wp2_with fail;have f:=iJ H.out (.int .i64 0) (.int .i64 0) (.pointer (some ⟨g,0,none⟩)) S_;have a:=jR wr w.heap.size (.int .i64 0) (.int .i64 0) (.pointer (some ⟨g,0,none⟩)) S_;unfold tX at f a;revert f a;generalize ((((wr.setCell ⟨w.heap.size,0,none⟩ (.int .i64 0)).setCell ⟨w.heap.size,1,none⟩ (.int .i64 0)).setCell ⟨w.heap.size,2,none⟩ (.pointer (some ⟨g,0,none⟩))).setCell ⟨w.heap.size,3,none⟩ S_)=w9;intro f a;obtain⟨r0,S,T,Y⟩:=lz f
      have e2:ku w9 g im:=A.off a (by omega) (λk' cur e hh he h8=>by
       rw[h8,H.out]at hh;injection hh with hh;injection hh with _ h2;rw[<-h2]at he;revert he
       decide)
      exact cA (v:= .agg #[.int .i64 0,.int .i64 0,.pointer (some ⟨g,0,none⟩),S_]) (by simp[results,results60,go_sem,r0,S,T,Y]) rfl ⟨(a3.trans m).next a (λk' hk' h=>by omega),by unfold pK;rw[Z.out];simp only[b9.out];exact⟨g,rfl,hW,e2⟩⟩
end
end Go.Proofs.YtpfkkmacakjmbaaGreatDoor
