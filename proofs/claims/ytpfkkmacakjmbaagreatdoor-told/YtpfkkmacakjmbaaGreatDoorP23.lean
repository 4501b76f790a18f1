import Derived.Test.YtpfkkmacakjmbaaGreatDoorP22
set_option maxRecDepth 100000
set_option maxHeartbeats 6400000
set_option linter.unusedSimpArgs false
set_option linter.unusedVariables false
namespace Go.Proofs.YtpfkkmacakjmbaaGreatDoor
section
open Go Go.RowKit Sp
theorem wh: ∀{its:List XIt} {is:List Ins} {p:XIt→Bool} {q:Ins→Bool},its.length=is.length→(∀(k:Nat) x y,its[k]?=some x→is[k]?=some y→p x=q y∧x.place=y.pos)→(its.find? p).map (·.place)=(is.find? q).map (·.pos):=by
 intro its
 induction its with
 |nil=>intro is p q hl _;cases is with|nil=>rfl|cons y is=>simp at hl
 |cons x its ih=>
  intro is p q hl h
  cases is with
  |nil=>simp at hl
  |cons y is=>
   obtain⟨h1,h2⟩:=h 0 x y rfl rfl;rw[List.find?_cons,List.find?_cons,h1]
   cases q y with
   |true=>simp[h2]
   |false=>exact ih (by simpa using hl) (fun k a b ha hb=>h (k+1) a b (by simpa using ha) (by simpa using hb))
theorem oJ {α β γ:Type}: ∀{bs:List α} {BS:List β} {f:α→Option γ} {g:β→Option γ},bs.length=BS.length→(∀(k:Nat) x y,bs[k]?=some x→BS[k]?=some y→f x=g y)→bs.findSome? f=BS.findSome? g:=by
 intro bs
 induction bs with
 |nil=>intro BS f g hl _;cases BS with|nil=>rfl|cons y BS=>simp at hl
 |cons x bs ih=>
  intro BS f g hl h
  cases BS with
  |nil=>simp at hl
  |cons y BS=>
   rw[List.findSome?_cons,List.findSome?_cons,h 0 x y rfl rfl,ih (by simpa using hl) (fun k a b ha hb=>h (k+1) a b (by simpa using ha) (by simpa using hb))]
theorem mh {cs:List bv} {xs ys:List bu} (h:xs.map jb=ys.map jb) (m:Nat): ∀(f:Nat) (c:UInt8),eG cs xs m f c=eG cs ys m f c:=by
 intro f
 induction f with
 |zero=>intro c;rfl
 |succ f ih=>
  intro c;simp only[eG,lL h,nz h,ih]
theorem uQ {cs:List Cls} {gs:List Sig} {b:Bod} (h:jX cs gs b) (hn:cs.length≤4):(b.cls= -1)∨eQ b:=by
 rcases h.cls with⟨h1,_⟩ | ⟨h1,h2,h3,h4⟩
 ·exact Or.inl h1
 ·exact Or.inr ⟨h1,by omega,h3⟩
theorem tT (y:Ins):(bF y).place=y.pos:=by unfold bF;split<;>rfl
theorem BQ {cs:List Cls} {gs:List Sig} {BS:List Bod} {bs:List bu} {y:Ins} {x:XIt} {nl n n':Nat} (hw:WfC cs) (hn:cs.length≤4) (hB: ∀b∈BS,(b.cls= -1)∨eQ b) (hy:WfN cs gs.length nl y) (hh:bs.map jb=(BS.map (aN gs)).map jb)
  (h1:x.op=(bF y).op) (h2:x.cls=(bF y).cls) (h3:x.num=(bF y).num):eH (cs.map toX) bs n x=km cs BS n' y:=by
 have a3:=hy.op;have a2: ∀v:Nat,cW.contains v=false→y.op.toNat≠v:=fun v hv h=>by rw[h,hv]at a3;cases a3
 have a1:=a2 106 (by decide);have a0:=a2 102 (by decide);unfold eH km;rw[h1,h2,h3]
 by_cases hd:bI y.op=true
 ·have hr:=jl hd;have e1:bF y=⟨y.pos,107,45,y.b,none,0,0⟩:=by unfold bF;rw[if_pos hd]
  rw[e1];have a4: ¬y.op.toNat=99:=by omega
  simp[a1,a0,a4]
 ·have e1:bF y=aL y:=by unfold bF;rw[if_neg hd]
  rw[e1];have e2:(aL y).op=y.op:=rfl;have e3:(aL y).num=y.b:=rfl;rw[e2,e3,if_neg (by omega)]
  by_cases h9:y.op.toNat=99
  ·rw[if_pos h9];have ha:=hy.cls (by omega)
   have e4:(aL y).cls=UInt8.ofNat (65+y.a):=by
    unfold aL;rw[if_pos (by omega)]
   rw[e4,List.length_map,mh hh,gM hw hn hB y.b cs.length 5 y.a ha ha (by omega)];simp[h9]
  ·rw[if_neg h9];simp[h9,a1,a0]
theorem nS (b:Nat) (im:Img) (w:World) (hW:gn im) (hT:dC w b im):
  Calls Tryz.prog 104 #[.pointer (some ⟨b,0,none⟩)] w fun e w'=>e= .returned (.int .i64 (ky (im.bodies.findSome? (fun b=>unl im.classes im.bodies b.code))))∧But (fun _=>False) w w':=by
 obtain⟨bs,a3,a0⟩:=hT.bod
 have a1:(bs.findSome? fun x=>kX (im.classes.map toX) bs x.items)=im.bodies.findSome? (fun b=>unl im.classes im.bodies b.code):=by
  refine oJ a0.1 (fun k X B hX hB=> ?_);have h1:=a0.2 k X B hX hB;have a4:=hW.bod B (List.mem_of_getElem? hB);unfold kX unl;refine wh h1.its.len (fun q x y hx hy=> ?_);obtain⟨e1,e2,e3,e4,_⟩:=h1.its.at' q y x hy hx;exact⟨BQ hW.cls hW.nc (fun b hb=>uQ (hW.bod b hb) hW.nc) (a4.code y (List.mem_of_getElem? hy)) a0.heads e2 e3 e4,by rw[e1,tT]⟩
 rw[←a1];refine iV b (im.classes.map toX) bs w (by rw[List.length_map];have:=hW.nc;omega) (by rw[a0.1];have:=hW.nb;omega) ?_ hT.cls a3;intro x hx;obtain⟨k,hk,rfl⟩:=List.getElem_of_mem hx;have a2:k<im.bodies.length:=by rw[←a0.1];exact hk
 have h1:=a0.2 k _ _ (List.getElem?_eq_getElem hk) (List.getElem?_eq_getElem a2);have:=(hW.bod _ (List.getElem_mem a2)).len;rw[h1.its.len];omega
theorem zL: ∀{t:List Ins} {m:Nat},full m t→ ∀i,i<t.length→ ∃m',full (m'+1) (t.drop i):=by
 intro t
 induction t with
 |nil=>intro m _ i h;simp at h
 |cons x t ih=>
  intro m h i hi
  cases m with
  |zero=>cases h
  |succ m=>
   cases i with
   |zero=>exact⟨m,h⟩
   |succ i=>exact ih (m:=m+az x.op) h i (by simpa using hi)
theorem yk {t:List Ins}: ∀{j m k:Nat},full (m+j) (t.drop k)→(cr t j k).length=j:=by
 intro j
 induction j with
 |zero=>intro m k _;rfl
 |succ j ih=>
  intro m k h;have h0:=rz (m:=m+j) (by rw[show m+j+1=m+(j+1)from by omega];exact h);rw[List.length_drop]at h0;have h1:=vv (u:=t.drop k) (m:=m+j) (by rw[show 1+(m+j)=m+(j+1)from by omega];exact h);rw[List.drop_drop]at h1;simp only[cr,show k<t.length from by omega,if_true,List.length_cons];rw[ih (m:=m) (k:=bA t k) h1]
theorem r9 {t:List Ins} (hf:full 1 t) {i:Nat} {x:Ins} (hx:t[i]?=some x):(dw t i).length=az x.op:=by
 obtain⟨hl,hg⟩:=List.getElem?_eq_some_iff.1 hx;obtain⟨m,hm⟩:=zL hf i hl;rw[List.drop_eq_getElem_cons hl,hg]at hm;have a0:full (m+az x.op) (t.drop (i+1)):=hm;unfold dw;rw[hx];exact yk a0
theorem yl {t:List Ins}: ∀{j k:Nat},∀q∈cr t j k,k≤q∧q<t.length:=by
 intro j
 induction j with
 |zero=>intro k q h;simp[cr]at h
 |succ j ih=>
  intro k q h;unfold cr at h
  split at h
  ·rename_i hk
   rcases List.mem_cons.1 h with rfl|h
   ·exact⟨Nat.le_refl _,hk⟩
   ·have h1:=ih q h;have h2:=mH hk;exact⟨by omega,h1.2⟩
  ·simp at h
theorem gd {t:List Ins} {i q:Nat} (h:q∈dw t i):i<q∧q<t.length:=by
 unfold dw at h
 split at h
 ·have:=yl q h;exact⟨by omega,this.2⟩
 ·simp at h
section
variable {cs:List Cls} {gs:List Sig} {lo:List UInt8} {t:List Ins}
theorem mi {f g:Nat→Option UInt8}: ∀{n k:Nat},(∀q,k≤q→q<t.length→f q=g q)→(∀q,t.length≤q→f q=none∧g q=none)→bQ t f n k=bQ t g n k:=by
 intro n
 induction n with
 |zero=>intro k _ _;rfl
 |succ n ih=>
  intro k h1 h2;unfold bQ;rcases Nat.lt_or_ge k t.length with hk|hk
  ·rw[h1 k (Nat.le_refl _) hk,ih (fun q hq=>h1 q (by have:=mH hk;omega)) h2]
  ·rw[(h2 k hk).1,(h2 k hk).2]
theorem dU {F q:Nat} (h:t.length≤q):bY cs gs lo t F q=none:=by
 cases F with
 |zero=>rfl
 |succ F=>simp[bY,List.getElem?_eq_none h]
theorem wi: ∀{F G k:Nat},t.length-k≤F→t.length-k≤G→bY cs gs lo t F k=bY cs gs lo t G k:=by
 intro F
 induction F with
 |zero=>intro G k h1 _;rw[dU (by omega),dU (by omega)]
 |succ F ih=>
  intro G k h1 h2
  cases G with
  |zero=>rw[dU (by omega),dU (by omega)]
  |succ G=>
   have hp: ∀n,bQ t (bY cs gs lo t F) n (k+1)=bQ t (bY cs gs lo t G) n (k+1):=fun n=>
    mi (fun q hq hl=>ih (by omega) (by omega)) (fun q hq=>⟨dU hq,dU hq⟩)
   simp only[bY,hp]
theorem po {k:Nat} {x:Ins} (hx:t[k]?=some x):bY cs gs lo t t.length k=match bQ t (bY cs gs lo t t.length) (az x.op) (k+1)with
  |none=>none
  |some ts=>bq cs gs lo x ts:=by
 have hl:=(List.getElem?_eq_some_iff.1 hx).1;obtain⟨n,hn⟩: ∃n,t.length=n+1:=⟨t.length-1,by omega⟩;have h1:bY cs gs lo t t.length k=bY cs gs lo t (n+1) k:=by rw[hn]
 rw[h1]
 have hp:bQ t (bY cs gs lo t n) (az x.op) (k+1)=bQ t (bY cs gs lo t t.length) (az x.op) (k+1):=
  mi (fun q hq hl=>wi (by omega) (by omega)) (fun q hq=>⟨dU hq,dU hq⟩)
 simp only[bY,hx,hp]
 cases bQ t (bY cs gs lo t t.length) (az x.op) (k+1)<;>rfl
theorem tU {ty:Nat→UInt8}: ∀{n k:Nat},(cr t n k).length=n→(∀q∈cr t n k,bY cs gs lo t t.length q=some (ty q))→bQ t (bY cs gs lo t t.length) n k=some ((cr t n k).map ty):=by
 intro n
 induction n with
 |zero=>intro k _ _;rfl
 |succ n ih=>
  intro k hl h;unfold cr at hl h⊢
  split at hl
  ·rename_i hk
   rw[if_pos hk]at h⊢;unfold bQ;rw[h k (by simp),ih (by simpa using hl) (fun q hq=>h q (by simp[hq]))]
   rfl
  ·simp at hl
theorem zM: ∀{F k:Nat},t.length-k≤F→bY cs gs lo t t.length k≠none→ ∀j,k≤j→j<bA t k→bY cs gs lo t t.length j≠none:=by
 intro F
 induction F with
 |zero=>intro k hF h j _ _;exact absurd (dU (by omega)) h
 |succ F ih=>
  intro k hF h j h1 h2;rcases Nat.eq_or_lt_of_le h1 with rfl|h1
  ·exact h
  ·have hl:k<t.length:=by
    rcases Nat.lt_or_ge k t.length with hl|hl
    ·exact hl
    ·exact absurd (dU hl) h
   have hx:=List.getElem?_eq_getElem hl;rw[po hx]at h;rw[jT hx]at h2
   have hp: ∀n p,k<p→bQ t (bY cs gs lo t t.length) n p≠none→ ∀j,p≤j→j<p+sk n (t.drop p)→bY cs gs lo t t.length j≠none:=by
    intro n
    induction n with
    |zero=>intro p _ _ j a1 a2;rw[mE]at a2;omega
    |succ n ihn=>
     intro p a3 a0 j a1 a2;rw[lr]at a2;have hT:bY cs gs lo t t.length p≠none:=fun h0=>a0 (by simp[bQ,h0])
     rcases Nat.lt_or_ge j (bA t p)with hj|hj
     ·exact ih (k:=p) (by omega) hT j a1 hj
     ·refine ihn (bA t p) ?_ ?_ j hj a2
      ·have:p<t.length:=by
        rcases Nat.lt_or_ge p t.length with hl|hl
        ·exact hl
        ·exact absurd (dU hl) hT
       have:=mH this;omega
      ·intro h0
       apply a0
       unfold bQ
       cases bY cs gs lo t t.length p<;>simp[h0]
   refine hp (az t[k].op) (k+1) (by omega) ?_ j (by omega) h2;intro h0;rw[h0]at h;exact h rfl
theorem ym (hf:full 1 t) (h:bY cs gs lo t t.length 0≠none): ∀j,j<t.length→bY cs gs lo t t.length j≠none:=by
 intro j hj;refine zM (F:=t.length) (by omega) h j (Nat.zero_le _) ?_;unfold bA;rw[List.drop_zero];have:=uH (v:=[]) hf;rw[List.append_nil]at this;omega
end
end
section
open Go Go.RowKit Sp
attribute [local go_sem ↓] Go.wp_at_zero Go.wp_at_succ
def cy (cs:List bv) (ms:List Sig) (lo:List UInt8) (y:Ins) (ps:List UInt8):Option UInt8:=
 if jd cs (b7 cs ms lo (bF y).op (bF y).cls (bF y).num) ps=true∧(dx cs ms lo (bF y).op (bF y).cls (bF y).num ps).toNat≠45 then some (dx cs ms lo (bF y).op (bF y).cls (bF y).num ps)else none
def stepX (cs:List bv) (ms:List Sig) (lo:List UInt8) (is:List Ins) (i:Nat) (ty:List UInt8):Option (List UInt8):=match is[i]? with
 |none=>none
 |some y=>(cy cs ms lo y ((dw is i).map (bM ty))).map fun c=>ty.set i c
def mC (cs:List bv) (ms:List Sig) (lo:List UInt8) (is:List Ins):Nat→List UInt8→Option (List UInt8)
 |0,ty=>some ty
 |q+1,ty=>match stepX cs ms lo is q ty with
  |none=>none
  |some ty'=>mC cs ms lo is q ty'
def qx (cs:List bv) (r:UInt8):Option (List UInt8)→Bool
 |none=>false
 |some ty=>ef cs (bM ty 0) r
def yn (cs:List bv) (ms:List Sig) (lo:List UInt8) (is:List Ins) (r:UInt8):Bool:=qx cs r (mC cs ms lo is is.length (List.replicate is.length 0))
theorem zN (t:List Ins): ∀n k,(cr t n k).length≤n:=by
 intro n
 induction n with
 |zero=>intro k;simp[cr]
 |succ n ih=>
  intro k;unfold cr
  split
  ·have:=ih (bA t k);simp;omega
  ·simp
theorem zO (t:List Ins) (k:Nat):(dw t k).length≤3:=by
 unfold dw
 split
 ·rename_i x _
  have h:=zN t (az x.op) (k+1);have:az x.op≤3:=by unfold az;split;omega;split;omega;split<;>omega
  omega
 ·simp
theorem wj (cs:List bv) (ms:List Sig) (lo:List UInt8) (c k:UInt8) (n:Nat):(b7 cs ms lo c k n).length≤2:=by
 unfold b7 ay
 repeat' split
 all_goals simp
theorem zP (n:Nat):madeCells #[.int .u8 0] n=(aM (List.replicate n 0)).toArray:=by
 apply Array.ext
 ·rw[size_madeCells];simp[aM]
 ·intro k h1 h2;have e:k % 1=0:=by omega
  simp[madeCells,e,aM]
theorem zQ (n:Nat) (hn:n≤1000) (w:World):(Instr.makeSlice 112 (.int .i64 (n:Int)) (.int .i64 (n:Int))).run Tryz.prog w= .ok (.slice (some ⟨w.heap.size,0,none⟩) n n) (w.alloc (.cells (aM (List.replicate n 0)).toArray 5)):=by
 have a0:=iG
 cases hi:Tryz.prog.info? 5 with
 |none=>rw[hi]at a0;cases a0
 |some i=>
  rw[hi]at a0;simp only[Option.map_some,Option.some.injEq,Prod.mk.injEq]at a0;obtain⟨hz,hs,hb⟩:=a0;have:=run_make (P:=Tryz.prog) w 112 5 i _ (by kernel_rfl) hi hz .i64 .i64 n n (by omega) (by omega) (by rw[hb];omega) (by omega);rw[this,hs];simp only[Int.toNat_natCast,Value.cells,Nat.mul_one];rw[zP]
section
variable (b:Nat) (cs:List bv) (ms:List Sig) (c0:UInt8) (m0:Nat) (r0:UInt8) (al ai:Option Addr) (capl capi:Nat) (lo:List UInt8) (its:List XIt) (is:List Ins) (w:World)
theorem qy (hn:cs.length≤100) (hm:ms.length≤100) (hlen:its.length≤24) (hT:TxC w b cs) (hM:TxM w b ms) (hB:BtB w 0 (.slice al lo.length capl) lo) (hI:ItB w 0 (.slice ai its.length capi) its) (hN:jY w 0 its is):
  Calls Tryz.prog 91 #[.pointer (some ⟨b,0,none⟩),hdV c0 m0 r0 (.slice al lo.length capl) (.slice ai its.length capi)] w fun en w'=>But (fun _=>False) w w'∧en= .returned (.bool (yn cs ms lo is r0)):=by
 obtain⟨R,g0⟩: ∃R,yn cs ms lo is r0=R:=⟨_,rfl⟩;rw[g0];have g7:=hN.len;have n4:=zQ its.length (by omega);have l3:Hid (qx cs r0 (mC cs ms lo is its.length (List.replicate its.length 0))=R):=by rw[g7];exact hid g0
 have h4:=hid g7;clear g0 g7;unfold hdV;have h7:But (fun _=>False) w (w.alloc (.cells #[.int .u8 c0.toNat,.int .i64 m0,.int .u8 r0.toNat,.slice al lo.length capl,.slice ai its.length capi] 115)):=But.alloc _ _ _;have g6:(w.alloc (.cells #[.int .u8 c0.toNat,.int .i64 m0,.int .u8 r0.toNat,.slice al lo.length capl,.slice ai its.length capi] 115)).heap[w.heap.size]?=some (.cells #[.int .u8 c0.toNat,.int .i64 m0,.int .u8 r0.toNat,.slice al lo.length capl,.slice ai its.length capi] 115):=heap_alloc_new _ _
 go_in
 go_wp2_with fail;have n9:(w.alloc (.cells #[.int .u8 c0.toNat,.int .i64 m0,.int .u8 r0.toNat,.slice al lo.length capl,.slice ai its.length capi] 115)).heap.size=w.heap.size+1:=by simp
 generalize (w.alloc (.cells #[.int .u8 c0.toNat,.int .i64 m0,.int .u8 r0.toNat,.slice al lo.length capl,.slice ai its.length capi] 115))=w1 at*
 have n0:(w1.alloc (.cells (aM (List.replicate its.length 0)).toArray 5)).ownsRow (w.heap.size+1) 5 1 (.slice (some ⟨w.heap.size+1,0,none⟩) its.length its.length) its.length (aM (List.replicate its.length 0)):=by
  have h:=BtB.lit w1 (w.heap.size+1) (by omega) (List.replicate its.length 0) (by simp;omega);rw[n9]at h;unfold BtB at h;simp only[List.length_replicate]at h;exact h
 have m3:But (fun _=>False) w (w1.alloc (.cells (aM (List.replicate its.length 0)).toArray 5)):=h7.trans (But.alloc _ _ _);have n1:=((But.alloc (fun _=>False) w1 (.cells (aM (List.replicate its.length 0)).toArray 5)).block _ (ae g6) (fun h=>h)).trans g6;have o5:(w1.alloc (.cells (aM (List.replicate its.length 0)).toArray 5)).heap.size=w.heap.size+2:=by simp;omega
 generalize (w1.alloc (.cells (aM (List.replicate its.length 0)).toArray 5))=w2 at*;clear n4 h7 g6
 go_loopg [6] its.length (fun mm js wr=> ∃(v:Int) (q:Nat) (ty:List UInt8),js= .int .i64 v∧v=(q:Int)-1∧q≤its.length∧q≤mm∧mm≤q∧wr.ownsRow (w.heap.size+1) 5 1 (.slice (some ⟨w.heap.size+1,0,none⟩) its.length its.length) its.length (aM ty)∧But (fun _=>False) w wr∧w.heap.size+1<wr.heap.size∧wr.heap[w.heap.size]?=some (.cells #[.int .u8 c0.toNat,.int .i64 m0,.int .u8 r0.toNat,.slice al lo.length capl,.slice ai its.length capi] 115)∧Hid (ty.length=its.length∧qx cs r0 (mC cs ms lo is q ty)=R))
 case atStart=>exact⟨_,its.length,_,rfl,rfl,by omega,by omega,by omega,n0,m3,by omega,n1,hid ⟨by simp,l3.out⟩⟩
 case round=>
  obtain⟨v,q,ty,rfl,hv,o2,o3,o4,i2,b5,p1,e0,HI⟩:=hrel;obtain⟨k0,k1,k2,k3,k4⟩:=bn e0;have b0:=ae e0
  have g3:BtB wr 0 (.slice (some ⟨w.heap.size+1,0,none⟩) ty.length its.length) ty:=by
   unfold BtB;rw[HI.out.1];exact World.ownsRow.mono i2 (Nat.zero_le _)
  cases q with
  |zero=>
   have n5: ¬(0:Int)≤v:=by omega
   have g2:=dm _ _ ty 0 wr.drew (BtB.but g3 (But.drew (fun _=>False) _) (fun _ _ h=>h));rw[HI.out.1]at g2;have l6:=hid g2;have k9:=hid (jQ b cs (bM ty 0) r0 wr.drew hn (hT.but (b5.trans (But.drew _ _))));have HE:Hid (ef cs (bM ty 0) r0=R):=hid HI.out.2;clear g2 g3;go_wp2_with fail;have a2:But (fun _=>False) wr wr.drew:=But.drew _ _;refine cA (But (fun _=>False) wr) 6 (by kernel_rfl) ?_;refine aB (k:=0) (v:= ?vA0) rfl (by decide) (by kernel_rfl) (fun _ _ _ h=>h) rfl a2 ?yA0 ?rA0
   case yA0=>intro wS h;have q0:=(h.kc k2 b0);clear h;go_simp;try rfl
   dsimp only[Act.put]
   try simp only[aK]
   refine aB (k:=1) (v:= ?vA1) rfl (by decide) (by kernel_rfl) (fun _ _ _ h=>h) rfl a2 ?yA1 ?rA1
   case yA1=>intro wS h;have q0:=(h.kc k2 b0);clear h;go_simp;try rfl
   dsimp only[Act.put]
   try simp only[aK]
   refine aB (k:=3) (v:= ?vA3) rfl (by decide) (by kernel_rfl) (fun _ _ _ h=>h) rfl a2 ?yA3 ?rA3
   case yA3=>intro wS h;have q0:=(h.kc k2 b0);clear h;go_simp;try rfl
   dsimp only[Act.put]
   try simp only[aK]
   refine aB (k:=4) (v:= ?vA4) rfl (by decide) (by kernel_rfl) (fun _ _ _ h=>h) rfl a2 ?yA4 ?rA4
   case yA4=>intro wS h;have q0:=(h.kc k2 b0);clear h;go_simp;try rfl
   dsimp only[Act.put]
   try simp only[aK]
   refine aE (k:=2) rfl (by decide) (by kernel_rfl) ?_;intro KS hKS;go_simp;refine l6.out.mono ?_;rintro en wx ⟨rfl,e6⟩;rw[e6];clear e6 wx;refine hKS.out _ _ (fun _=>a2) ?_;clear hKS KS;refine aE (k:=5) rfl (by decide) (by kernel_rfl) ?_;intro KS hKS;go_simp;refine k9.out.mono ?_;rintro en wx ⟨rfl,e6⟩;rw[e6,HE.out];clear e6 wx;refine hKS.out _ _ (fun _=>a2) ?_;clear hKS KS;refine aE (k:=6) rfl (by decide) (by kernel_rfl) ?_;intro KS hKS;go_simp;refine hKS.out _ _ nofun ?_;clear hKS KS;refine ck rfl (by kernel_rfl) ?_;go_wp2_with fail;go_ret;exact⟨b5.trans a2,rfl⟩
  |succ p=>
   have n8:v=(p:Int):=by omega
   subst n8;clear hv;have n6:p<is.length:=by rw[←h4.out];omega
   obtain⟨x,hx⟩: ∃x,its[p]?=some x:=⟨_,List.getElem?_eq_getElem (by omega)⟩;have hy:=List.getElem?_eq_getElem n6;obtain⟨y,i5⟩: ∃y,is[p]=y:=⟨_,rfl⟩;rw[i5]at hy;obtain⟨e1,e2,e3,e4,e5⟩:=hN.at' p y x hy hx;have f2:=hid e2;have f3:=hid e3;have f4:=hid e4;have HY:=hid hy;clear e1 e2 e3 e4 i5 hy;obtain⟨g,rfl,b1,n2,a1⟩:=aI (ah hI b5 (fun _ _ h=>h)) (by omega);have z0:wr.cell? ⟨g,p*5,none⟩=some (.int .i64 x.place):=a1 _ _ (aP (k:=0) hx (by omega));have z1:wr.cell? ⟨g,p*5+1,none⟩=some (.int .u8 x.op.toNat):=a1 _ _ (aP (k:=1) hx (by omega));have z2:wr.cell? ⟨g,p*5+2,none⟩=some (.int .u8 x.cls.toNat):=a1 _ _ (aP (k:=2) hx (by omega))
   have z3:wr.cell? ⟨g,p*5+3,none⟩=some (.int .i64 x.num):=a1 _ _ (aP (k:=3) hx (by omega));have z4:wr.cell? ⟨g,p*5+4,none⟩=some (.slice x.pa x.pn x.pc):=a1 _ _ (aP (k:=4) hx (by omega));have o1:(p:Int)<(its.length:Int):=by omega
   have o0:(0:Int)≤(p:Int):=by omega
   have f0:=qv x (dw is p) ty _ _ wr (zO is p) (fun k hk=>by have:=(gd hk).2;have:=h4.out;omega) (ah e5 b5 (fun _ _ h=>h)) g3;rw[HI.out.1]at f0;unfold itV at f0;have h5:=hid f0;clear f0 a1;go_wp2_with fail;refine h5.out.mono ?_;rintro en w3 ⟨a8,a3,c3,rfl,h8⟩;clear h5;obtain⟨PS,e9⟩: ∃PS,(dw is p).map (bM ty)=PS:=⟨_,rfl⟩;have b3:(dw is p).length=PS.length:=by rw[←e9];simp
   rw[e9,b3]at h8;rw[b3];have f5:=hid e9;clear e9 b3;have f8:=b5.trans a8;have i3:=(a8.block _ b0 (fun h=>h)).trans e0;have a6:=ae i3;have a0:g<w3.heap.size:=Nat.lt_of_lt_of_le b1 a8.size;obtain⟨i6,i7,i9,j0,j1⟩:=bn i3;have y0:=a8.kc z0 b1;have y1:=a8.kc z1 b1;have y2:=a8.kc z2 b1;have y3:=a8.kc z3 b1;have y4:=a8.kc z4 b1;clear z0 z1 z2 z3 z4 k0 k1 k2 k3 k4;have e8:But (fun _=>False) w w3.drew:=f8.trans (But.drew _ _);have h9:BtB w3.drew 0 (.slice a3 PS.length c3) PS:=World.ownsRow.mono (BtB.but h8 (But.drew (fun _=>False) _) (fun _ _ h=>h)) (Nat.zero_le _);have f1:=hid (qw b cs ms c0 m0 r0 al (some ⟨g,0,none⟩) capl its.length capi lo x w3.drew a3 c3 PS hn hm (hT.but e8) (hM.but e8) (BtB.but hB e8 (fun _ _ h=>h)) h9 (by have:=wj cs ms lo x.op x.cls x.num;omega))
   unfold hdV itV at f1;go_wp2_with fail;have a2:But (fun _=>False) w3 w3.drew:=But.drew _ _;refine cA (But (fun _=>False) w3) 10 (by kernel_rfl) ?_;have fSB:=hid (fun wS (h:(But (fun _=>False) w3) wS)=>(And.intro (h.kc i6 a6) (And.intro (h.kc i7 a6) (And.intro (h.kc i9 a6) (And.intro (h.kc j0 a6) (And.intro (h.kc j1 a6) (And.intro (h.kc y0 a0) (And.intro (h.kc y1 a0) (And.intro (h.kc y2 a0) (And.intro (h.kc y3 a0) (h.kc y4 a0)))))))))));refine aB (k:=0) (v:= ?vB0) rfl (by decide) (by kernel_rfl) (fun _ _ _ h=>h) rfl a2 ?yB0 ?rB0
   case yB0=>intro wS h;obtain⟨q0,q1,q2,q3,q4,q5,q6,q7,q8,q9⟩:=fSB.out wS h;clear h;go_simp;try rfl
   dsimp only[Act.put]
   try simp only[aK]
   refine aB (k:=1) (v:= ?vB1) rfl (by decide) (by kernel_rfl) (fun _ _ _ h=>h) rfl a2 ?yB1 ?rB1
   case yB1=>intro wS h;obtain⟨q0,q1,q2,q3,q4,q5,q6,q7,q8,q9⟩:=fSB.out wS h;clear h;go_simp;try rfl
   dsimp only[Act.put]
   try simp only[aK]
   refine aB (k:=2) (v:= ?vB2) rfl (by decide) (by kernel_rfl) (fun _ _ _ h=>h) rfl a2 ?yB2 ?rB2
   case yB2=>intro wS h;obtain⟨q0,q1,q2,q3,q4,q5,q6,q7,q8,q9⟩:=fSB.out wS h;clear h;go_simp;try rfl
   dsimp only[Act.put]
   try simp only[aK]
   refine aB (k:=3) (v:= ?vB3) rfl (by decide) (by kernel_rfl) (fun _ _ _ h=>h) rfl a2 ?yB3 ?rB3
   case yB3=>intro wS h;obtain⟨q0,q1,q2,q3,q4,q5,q6,q7,q8,q9⟩:=fSB.out wS h;clear h;go_simp;try rfl
   dsimp only[Act.put]
   try simp only[aK]
   refine aB (k:=4) (v:= ?vB4) rfl (by decide) (by kernel_rfl) (fun _ _ _ h=>h) rfl a2 ?yB4 ?rB4
   case yB4=>intro wS h;obtain⟨q0,q1,q2,q3,q4,q5,q6,q7,q8,q9⟩:=fSB.out wS h;clear h;go_simp;try rfl
   dsimp only[Act.put]
   try simp only[aK]
   refine aB (k:=5) (v:= ?vB5) rfl (by decide) (by kernel_rfl) (fun _ _ _ h=>h) rfl a2 ?yB5 ?rB5
   case yB5=>intro wS h;obtain⟨q0,q1,q2,q3,q4,q5,q6,q7,q8,q9⟩:=fSB.out wS h;clear h;go_simp;try rfl
   dsimp only[Act.put]
   try simp only[aK]
   refine aB (k:=6) (v:= ?vB6) rfl (by decide) (by kernel_rfl) (fun _ _ _ h=>h) rfl a2 ?yB6 ?rB6
   case yB6=>intro wS h;obtain⟨q0,q1,q2,q3,q4,q5,q6,q7,q8,q9⟩:=fSB.out wS h;clear h;go_simp;try rfl
   dsimp only[Act.put]
   try simp only[aK]
   refine aB (k:=7) (v:= ?vB7) rfl (by decide) (by kernel_rfl) (fun _ _ _ h=>h) rfl a2 ?yB7 ?rB7
   case yB7=>intro wS h;obtain⟨q0,q1,q2,q3,q4,q5,q6,q7,q8,q9⟩:=fSB.out wS h;clear h;go_simp;try rfl
   dsimp only[Act.put]
   try simp only[aK]
   try clear fSB
   refine aE (k:=8) rfl (by decide) (by kernel_rfl) ?_;intro KS hKS;go_simp;refine f1.out.mono ?_;rintro en w4 ⟨f6,rfl⟩;have b9:=e8.trans f6;have a9:But (fun _=>False) w3 w4:=a2.trans f6;refine hKS.out _ _ (fun _=>a9) ?_;clear hKS KS;refine aE (k:=9) rfl (by decide) (by kernel_rfl) ?_;intro KS hKS;go_simp;refine hKS.out _ _ (fun _=>a9) ?_;clear hKS KS;refine ck rfl (by kernel_rfl) ?_
   cases hac:jd cs (b7 cs ms lo x.op x.cls x.num) PS with
   |false=>
    have b4:R=false:=by
     have h2:=HI.out.2
     have n7:stepX cs ms lo is p ty=none:=by
      simp only[stepX,HY.out,f5.out,cy,←f2.out,←f3.out,←f4.out,hac];simp
     rw[←h2];simp only[mC,n7,qx]
    subst b4;clear hac;go_wp2_with fail;go_ret;exact⟨b9,rfl⟩
   |true=>
    have b6:=hid hac;clear hac;have g1:But (fun _=>False) wr w4:=a8.trans a9;have i4:=(g1.block _ b0 (fun h=>h)).trans e0;have a7:=ae i4;have a5:g<w4.heap.size:=Nat.lt_of_lt_of_le b1 g1.size;obtain⟨j2,j3,j4,j5,j7⟩:=bn i4;have x0:=a9.kc y0 a0;have x1:=a9.kc y1 a0;have x2:=a9.kc y2 a0;have x3:=a9.kc y3 a0;have x4:=a9.kc y4 a0;clear y0 y1 y2 y3 y4 i6 i7 i9 j0 j1 f1;have f7:But (fun _=>False) w w4.drew:=b9.trans (But.drew _ _);have m5:BtB w4.drew 0 (.slice a3 PS.length c3) PS:=BtB.but h9 (f6.trans (But.drew _ _)) (fun _ _ h=>h);have e7:=hid (rZ b cs ms c0 m0 r0 al (some ⟨g,0,none⟩) capl its.length capi lo x w4.drew a3 c3 PS hn hm (hT.but f7) (hM.but f7) (BtB.but hB f7 (fun _ _ h=>h)) m5)
    unfold hdV itV at e7;obtain⟨C,hC⟩: ∃C,dx cs ms lo x.op x.cls x.num PS=C:=⟨_,rfl⟩;rw[hC]at e7;have HC:=hid hC;clear hC;go_wp2_with fail;have i0:But (fun _=>False) w4 w4.drew:=But.drew _ _;refine aD (But (fun _=>False) w4) 11 (by kernel_rfl) ?_
    iterate 10 (refine aJ (v:=?_) rfl (by kernel_rfl) (fun _ _ _ h=>h) rfl i0 ?_ ?_;rotate_left;(focus (intro wS h;have q0:=(h.kc j2 a7);have q1:=(h.kc j3 a7);have q2:=(h.kc j4 a7);have q3:=(h.kc j5 a7);have q4:=(h.kc j7 a7);have q5:=(h.kc x0 a5);have q6:=(h.kc x1 a5);have q7:=(h.kc x2 a5);have q8:=(h.kc x3 a5);have q9:=(h.kc x4 a5);clear h;go_simp;try rfl));dsimp only[Act.put];try simp only[aK])
    refine ag rfl (by kernel_rfl) ?_;intro KS hKS;go_simp;refine e7.out.mono ?_;rintro en w5 ⟨m4,rfl⟩;have i1:But (fun _=>False) w4 w5:=i0.trans m4;refine hKS.out _ _ (fun _=>i1) ?_;clear hKS KS;have a4:=g1.trans i1;have g4:=ah i2 a4 (fun _ _ h=>h);obtain⟨gq,d6,h1,h3,c6⟩:=aI g4 (by omega);have b2:w.heap.size+1=gq:=by injection d6 with h;injection h with h
    subst b2;have h0:p<ty.length:=by rw[HI.out.1];omega
    have ct:=c6 _ _ (cZ h0);have ft:=kQ g4 p;clear c6 d6;refine ag rfl (by kernel_rfl) ?_;intro KS hKS;go_simp;refine hKS.out _ _ nofun ?_;clear hKS KS;refine ag rfl (by kernel_rfl) ?_;intro KS hKS;go_simp;refine hKS.out _ _ nofun ?_;clear hKS KS;refine aH rfl (by kernel_rfl) ?_;have g5:=jq g4 p (.int .u8 C.toNat);rw[show(aM ty).set p (.int .u8 C.toNat)=aM (ty.set p C)from by simp[aM,List.map_set]]at g5;have h6:But (fun _=>False) w (w5.setCell ⟨w.heap.size+1,p,none⟩ (.int .u8 C.toNat)):=(b5.trans a4).next (But.setB _ _ _ _) (fun j hj h=>by omega);have n3:=((But.setB w5 (w.heap.size+1) p (.int .u8 C.toNat)).block w.heap.size (Nat.lt_of_lt_of_le b0 a4.size) (fun h=>by omega)).trans ((a4.block _ b0 (fun h=>h)).trans e0)
    have p0:=(But.setB w5 (w.heap.size+1) p (.int .u8 C.toNat)).size;have o6:=a4.size
    have l5:Hid (C.toNat≠45→stepX cs ms lo is p ty=some (ty.set p C)):=hid (fun h=>by
     simp only[stepX,HY.out,f5.out,cy,←f2.out,←f3.out,←f4.out,b6.out,HC.out];simp[h])
    have l4:Hid (C.toNat=45→stepX cs ms lo is p ty=none):=hid (fun h=>by
     simp only[stepX,HY.out,f5.out,cy,←f2.out,←f3.out,←f4.out,b6.out,HC.out];simp[h])
    obtain⟨gq,d6,h1,h3,c6⟩:=aI g5 (by omega);have b2:w.heap.size+1=gq:=by injection d6 with h;injection h with h
    subst b2;have m1:=c6 _ _ (cZ (l:=ty.set p C) (k:=p) (by simpa using h0));rw[show(ty.set p C).getD p 0=C from by simp[List.getD,h0]]at m1;clear c6 d6 x0 x1 x2 x3 x4 j2 j3 j4 j5 j7 e7 ct ft;generalize (w5.setCell ⟨w.heap.size+1,p,none⟩ (.int .u8 C.toNat))=w6 at*
    by_cases h45:C.toNat=45
    ·have m2:((C.toNat:Int)==45)=true:=by rw[beq_iff_eq];omega
     have b4:R=false:=by
      rw[←HI.out.2];simp only[mC,l4.out h45,qx]
     subst b4;clear h45;go_wp2_with fail;go_ret;exact⟨h6,rfl⟩
    ·have m2:=tf C.toNat 45 (by omega)
     have l0:Hid ((ty.set p C).length=its.length∧qx cs r0 (mC cs ms lo is p (ty.set p C))=R):=by
      refine hid ⟨by rw[List.length_set];exact HI.out.1,?_⟩;rw[←HI.out.2];simp only[mC,l5.out h45]
     clear h45;go_wp2_with fail
     go_roundg p
     case measure=>omega
     case rel=>exact⟨_,p,_,rfl,rfl,by omega,by omega,by omega,g5,h6,by omega,n3,l0⟩
end
end
section
open Go Go.RowKit Sp
section
variable {cs:List bv} {a b c p q:UInt8}
theorem kD (ts:List UInt8):jd cs [] ts=true:=by simp[jd]
theorem uR:jd cs [p] [a]=bW cs a p:=by simp[jd,bM,List.range_succ]
theorem BR:jd cs [p] [a,b]=bW cs a p:=by simp[jd,bM,List.range_succ]
theorem BT:jd cs [p] [a,b,c]=bW cs a p:=by simp[jd,bM,List.range_succ]
theorem lw:jd cs [p,q] [a,b]=(bW cs a p&&bW cs b q):=by simp[jd,bM,List.range_succ]
theorem tV {cs:List Cls}:dJ cs [a] [p]=bP cs a p:=by simp[dJ,List.range_succ]
theorem jD {cs:List Cls}:dJ cs [a,b] [p,q]=(bP cs a p&&bP cs b q):=by simp[dJ,List.range_succ]
end
theorem mj {cs:List Cls} (a:UInt8):bP cs a 105=decide (a.toNat=105):=by
 unfold bP
 by_cases h:a.toNat=105
 ·simp[h]
 ·have:isC 105=false:=by decide
  simp[h,this]
section
variable {im:Img}
theorem tW (hW:gn im) {a c:UInt8} (ha:okT im.classes.length a=true) (hc:okT im.classes.length c=true) (h38:c.toNat≠38):bW (im.classes.map toX) a c=bP im.classes a c:=by
 unfold bW;rw[if_neg h38];exact fW hW.cls hW.nc ha hc
theorem kE (hW:gn im) {a:UInt8} (ha:okT im.classes.length a=true):bW (im.classes.map toX) a 105=decide (a.toNat=105):=by
 rw[tW hW ha rA (by decide),mj]
theorem AY (hW:gn im) {a:UInt8} (ha:okT im.classes.length a=true):bW (im.classes.map toX) a 38=isR a:=by
 unfold bW isR;rw[if_pos (by decide),List.length_map,ey hW.cls hW.nc ha]
theorem sc (hW:gn im) {x:Ins} (ha:x.a<im.classes.length) (hb:x.b<cF im.classes x.a):bM (bH (im.classes.map toX) (UInt8.ofNat (65+x.a))) x.b=cz im.classes x.a x.b:=by
 obtain⟨hl,hk⟩:=xS ha hW.nc;have hv:(UInt8.ofNat (65+x.a)).toNat-65=x.a:=by have:=hW.nc;simp;omega
 have a0:=iL (a:=0) hl;rw[hv]at a0;unfold bM;rw[if_pos (by rw[←a0];exact hb)];unfold cz bH;rw[List.length_map,if_pos hl,List.getElem?_map,hv]
 cases im.classes[x.a]?<;>rfl
end
theorem wk {n:Nat} {c:UInt8} (h:okT n c=true):c.toNat≠38:=by rw[dI]at h;omega
theorem qz {n:Nat} {c:UInt8} (h:cG n c=true):c.toNat≠45:=by
 simp[cG,aO]at h;omega
theorem lx {ts:List UInt8} (h:ts.length=0):ts=[]:=List.length_eq_zero_iff.1 h
theorem zR {ts:List UInt8} (h:ts.length=1): ∃a,ts=[a]:=List.length_eq_one_iff.1 h
theorem nU {ts:List UInt8} (h:ts.length=2): ∃a b,ts=[a,b]:=by
 match ts,h with
 | [a,b],_=>exact⟨a,b,rfl⟩
theorem Cc {ts:List UInt8} (h:ts.length=3): ∃a b c,ts=[a,b,c]:=by
 match ts,h with
 | [a,b,c],_=>exact⟨a,b,c,rfl⟩
theorem mJ {lo:List UInt8} {n:Nat} (h:n<lo.length):bM lo n=lo.getD n 0:=by unfold bM;rw[if_pos h]
section
theorem yo {im:Img} (hW:gn im) {bd:Bod} (hbd:jX im.classes im.sigs bd) {y:Ins} (hy:WfN im.classes im.sigs.length bd.locals.length y) {ts:List UInt8} (hl:ts.length=az y.op) (hok: ∀c∈ts,okT im.classes.length c=true) (hne: ∀c∈ts,c.toNat≠45):cy (im.classes.map toX) im.sigs bd.locals y ts=bq im.classes im.sigs bd.locals y ts:=by
 have a6:=List.elem_iff.1 hy.op;simp only[cW,List.mem_cons,List.not_mem_nil,or_false]at a6
 have a1: ∀n:Nat,y.op.toNat=n→ ¬(48≤n∧n≤57)→bF y=aL y:=fun n h1 h2=>by
  unfold bF;rw[if_neg (fun h=>h2 (by rw[←h1];exact jl h))]
 have hcl:=fun h=>nG (x:=y) h
 have a2: ∀h:y.op.toNat=110∨y.op.toNat=120∨y.op.toNat=103∨y.op.toNat=112∨y.op.toNat=99,okT im.classes.length (cL y.a)=true∧(cL y.a).toNat≠45:=fun h=>
  ⟨p9 (hy.cls h) hW.nc,by have:=hy.cls h;have:=hW.nc;unfold cL;simp;omega⟩
 have eo:(aL y).op=y.op:=rfl;have en:(aL y).num=y.b:=rfl;rcases a6 with h|h|h|h|h|h|h|h|h|h|h|h|h|h|h|h|h|h|h|h|h|h|h|h|h|h|h|h|h|h
 ·have ha:az y.op=0:=by unfold az;simp[h]
  rw[ha]at hl;have a0:=lx hl;subst a0;have e1:bF y=⟨y.pos,107,45,y.b,none,0,0⟩:=by unfold bF;rw[if_pos (by simp[bI,h])]
  rw[cy,e1];simp[b7,ay,dx,aF,kD,bq,cH,bD,arith,h]
 ·have ha:az y.op=0:=by unfold az;simp[h]
  rw[ha]at hl;have a0:=lx hl;subst a0;have e1:bF y=⟨y.pos,107,45,y.b,none,0,0⟩:=by unfold bF;rw[if_pos (by simp[bI,h])]
  rw[cy,e1];simp[b7,ay,dx,aF,kD,bq,cH,bD,arith,h]
 ·have ha:az y.op=0:=by unfold az;simp[h]
  rw[ha]at hl;have a0:=lx hl;subst a0;have e1:bF y=⟨y.pos,107,45,y.b,none,0,0⟩:=by unfold bF;rw[if_pos (by simp[bI,h])]
  rw[cy,e1];simp[b7,ay,dx,aF,kD,bq,cH,bD,arith,h]
 ·have ha:az y.op=0:=by unfold az;simp[h]
  rw[ha]at hl;have a0:=lx hl;subst a0;have e1:bF y=⟨y.pos,107,45,y.b,none,0,0⟩:=by unfold bF;rw[if_pos (by simp[bI,h])]
  rw[cy,e1];simp[b7,ay,dx,aF,kD,bq,cH,bD,arith,h]
 ·have ha:az y.op=0:=by unfold az;simp[h]
  rw[ha]at hl;have a0:=lx hl;subst a0;have e1:bF y=⟨y.pos,107,45,y.b,none,0,0⟩:=by unfold bF;rw[if_pos (by simp[bI,h])]
  rw[cy,e1];simp[b7,ay,dx,aF,kD,bq,cH,bD,arith,h]
 ·have ha:az y.op=0:=by unfold az;simp[h]
  rw[ha]at hl;have a0:=lx hl;subst a0;have e1:bF y=⟨y.pos,107,45,y.b,none,0,0⟩:=by unfold bF;rw[if_pos (by simp[bI,h])]
  rw[cy,e1];simp[b7,ay,dx,aF,kD,bq,cH,bD,arith,h]
 ·have ha:az y.op=0:=by unfold az;simp[h]
  rw[ha]at hl;have a0:=lx hl;subst a0;have e1:bF y=⟨y.pos,107,45,y.b,none,0,0⟩:=by unfold bF;rw[if_pos (by simp[bI,h])]
  rw[cy,e1];simp[b7,ay,dx,aF,kD,bq,cH,bD,arith,h]
 ·have ha:az y.op=0:=by unfold az;simp[h]
  rw[ha]at hl;have a0:=lx hl;subst a0;have e1:bF y=⟨y.pos,107,45,y.b,none,0,0⟩:=by unfold bF;rw[if_pos (by simp[bI,h])]
  rw[cy,e1];simp[b7,ay,dx,aF,kD,bq,cH,bD,arith,h]
 ·have ha:az y.op=0:=by unfold az;simp[h]
  rw[ha]at hl;have a0:=lx hl;subst a0;have e1:bF y=⟨y.pos,107,45,y.b,none,0,0⟩:=by unfold bF;rw[if_pos (by simp[bI,h])]
  rw[cy,e1];simp[b7,ay,dx,aF,kD,bq,cH,bD,arith,h]
 ·have ha:az y.op=0:=by unfold az;simp[h]
  rw[ha]at hl;have a0:=lx hl;subst a0;have e1:bF y=⟨y.pos,107,45,y.b,none,0,0⟩:=by unfold bF;rw[if_pos (by simp[bI,h])]
  rw[cy,e1];simp[b7,ay,dx,aF,kD,bq,cH,bD,arith,h]
 ·have ha:az y.op=0:=by unfold az;simp[h]
  rw[ha]at hl;have a0:=lx hl;subst a0;rw[cy,a1 _ h (by omega),eo,en];simp[b7,ay,dx,aF,kD,bq,cH,bD,arith,h]
 ·have ha:az y.op=1:=by unfold az;simp[h]
  rw[ha]at hl;obtain⟨a,rfl⟩:=zR hl;have oa:=hok a (by simp);have na:=hne a (by simp);rw[cy,a1 _ h (by omega),eo,en];simp[b7,ay,dx,aF,uR,kE hW oa,bq,cH,bD,arith,h,tV,mj]
 ·have ha:az y.op=0:=by unfold az;simp[h]
  rw[ha]at hl;have a0:=lx hl;subst a0;rw[cy,a1 _ h (by omega),eo,en];have hb:=hy.loc (by omega);have a8:=qz (hbd.loc.2 _ (List.getElem_mem hb));simp[b7,ay,dx,aF,kD,bq,cH,bD,arith,h,mJ hb,List.getD,hb,a8]
 ·have ha:az y.op=1:=by unfold az;simp[h]
  rw[ha]at hl;obtain⟨a,rfl⟩:=zR hl;have oa:=hok a (by simp);have na:=hne a (by simp);rw[cy,a1 _ h (by omega),eo,en];have hb:=hy.loc (by omega);have a7:okT im.classes.length (bd.locals.getD y.b 0)=true:=by rw[zw _ _ hb];exact jr (hbd.loc.2 _ (List.getElem_mem hb))
  have e5:=tW hW oa a7 (wk a7);simp only[b7,dx,h,mJ hb,bq,cH,bD,arith];generalize bd.locals.getD y.b 0=T at*;simp[uR,e5,tV]
  cases bP im.classes a T<;>simp
 ·have ha:az y.op=2:=by unfold az;simp[h]
  rw[ha]at hl;obtain⟨a,b,rfl⟩:=nU hl;have oa:=hok a (by simp);have na:=hne a (by simp);have ob:=hok b (by simp);have nb:=hne b (by simp);rw[cy,a1 _ h (by omega),eo,en];simp[b7,ay,dx,aF,lw,kE hW oa,kE hW ob,bq,cH,bD,arith,h,jD,mj]
  by_cases h1:a.toNat=105<;>by_cases h2:b.toNat=105<;>simp[h1,h2]
 ·have ha:az y.op=2:=by unfold az;simp[h]
  rw[ha]at hl;obtain⟨a,b,rfl⟩:=nU hl;have oa:=hok a (by simp);have na:=hne a (by simp);have ob:=hok b (by simp);have nb:=hne b (by simp);rw[cy,a1 _ h (by omega),eo,en];simp[b7,ay,dx,aF,lw,kE hW oa,kE hW ob,bq,cH,bD,arith,h,jD,mj]
  by_cases h1:a.toNat=105<;>by_cases h2:b.toNat=105<;>simp[h1,h2]
 ·have ha:az y.op=2:=by unfold az;simp[h]
  rw[ha]at hl;obtain⟨a,b,rfl⟩:=nU hl;have oa:=hok a (by simp);have na:=hne a (by simp);have ob:=hok b (by simp);have nb:=hne b (by simp);rw[cy,a1 _ h (by omega),eo,en];simp[b7,ay,dx,aF,lw,kE hW oa,kE hW ob,bq,cH,bD,arith,h,jD,mj]
  by_cases h1:a.toNat=105<;>by_cases h2:b.toNat=105<;>simp[h1,h2]
 ·have ha:az y.op=2:=by unfold az;simp[h]
  rw[ha]at hl;obtain⟨a,b,rfl⟩:=nU hl;have oa:=hok a (by simp);have na:=hne a (by simp);have ob:=hok b (by simp);have nb:=hne b (by simp);rw[cy,a1 _ h (by omega),eo,en];simp[b7,ay,dx,aF,lw,kE hW oa,kE hW ob,bq,cH,bD,arith,h,jD,mj]
  by_cases h1:a.toNat=105<;>by_cases h2:b.toNat=105<;>simp[h1,h2]
 ·have ha:az y.op=2:=by unfold az;simp[h]
  rw[ha]at hl;obtain⟨a,b,rfl⟩:=nU hl;have oa:=hok a (by simp);have na:=hne a (by simp);have ob:=hok b (by simp);have nb:=hne b (by simp);rw[cy,a1 _ h (by omega),eo,en];simp[b7,ay,dx,aF,lw,kE hW oa,kE hW ob,bq,cH,bD,arith,h,jD,mj]
  by_cases h1:a.toNat=105<;>by_cases h2:b.toNat=105<;>simp[h1,h2]
 ·have ha:az y.op=2:=by unfold az;simp[h]
  rw[ha]at hl;obtain⟨a,b,rfl⟩:=nU hl;have oa:=hok a (by simp);have na:=hne a (by simp);have ob:=hok b (by simp);have nb:=hne b (by simp);rw[cy,a1 _ h (by omega),eo,en];simp[b7,ay,dx,aF,lw,kE hW oa,kE hW ob,bq,cH,bD,arith,h,jD,mj]
  by_cases h1:a.toNat=105<;>by_cases h2:b.toNat=105<;>simp[h1,h2]
 ·have ha:az y.op=2:=by unfold az;simp[h]
  rw[ha]at hl;obtain⟨a,b,rfl⟩:=nU hl;have oa:=hok a (by simp);have na:=hne a (by simp);have ob:=hok b (by simp);have nb:=hne b (by simp);rw[cy,a1 _ h (by omega),eo,en];simp[b7,ay,dx,aF,lw,AY hW oa,AY hW ob,bq,cH,bD,arith,h]
 ·have ha:az y.op=0:=by unfold az;simp[h]
  rw[ha]at hl;have a0:=lx hl;subst a0;rw[cy,a1 _ h (by omega),eo,en];rw[hcl (by omega)];simp[b7,ay,dx,aF,kD,bq,cH,bD,arith,h,(a2 (by omega)).2]
 ·have ha:az y.op=0:=by unfold az;simp[h]
  rw[ha]at hl;have a0:=lx hl;subst a0;rw[cy,a1 _ h (by omega),eo,en];simp[b7,ay,dx,aF,kD,bq,cH,bD,arith,h]
 ·have ha:az y.op=1:=by unfold az;simp[h]
  rw[ha]at hl;obtain⟨a,rfl⟩:=zR hl;have oa:=hok a (by simp);have na:=hne a (by simp);rw[cy,a1 _ h (by omega),eo,en];have hf:bM (bH (im.classes.map toX) (cL y.a)) y.b=cz im.classes y.a y.b:=sc hW (hy.cls (by omega)) (hy.fld (by omega));have hg:=rB hW hbd hy;rw[hcl (by omega)];have e5:=tW hW oa (a2 (by omega)).1 (wk (a2 (by omega)).1)
  have a9:(cz im.classes y.a y.b).toNat≠45:=by
   have hq:=hy.fld (by omega);have a3:=List.getElem?_eq_getElem (hy.cls (by omega));unfold cF at hq;unfold cz;rw[a3]at hq⊢;simp at hq⊢;rw[List.getElem?_eq_getElem hq];exact qz (n:=im.classes.length) (ew (by have:=hy.cls (by omega);omega) ((hW.cls _ _ a3).2.2.2 _ (List.getElem_mem hq)))
  simp[b7,ay,dx,aF,h,bq,cH,bD,arith,hf,uR,e5,tV,a9]
  cases bP im.classes a (cL y.a)<;>simp
 ·have ha:az y.op=2:=by unfold az;simp[h]
  rw[ha]at hl;obtain⟨a,b,rfl⟩:=nU hl;have oa:=hok a (by simp);have na:=hne a (by simp);have ob:=hok b (by simp);have nb:=hne b (by simp);rw[cy,a1 _ h (by omega),eo,en];have hf:bM (bH (im.classes.map toX) (cL y.a)) y.b=cz im.classes y.a y.b:=sc hW (hy.cls (by omega)) (hy.fld (by omega));rw[hcl (by omega)];have e5:=tW hW oa (a2 (by omega)).1 (wk (a2 (by omega)).1)
  have a5:okT im.classes.length (cz im.classes y.a y.b)=true:=by
   have hq:=hy.fld (by omega);have a3:=List.getElem?_eq_getElem (hy.cls (by omega));unfold cF at hq;unfold cz;rw[a3]at hq⊢;simp at hq⊢;rw[List.getElem?_eq_getElem hq];exact jr (ew (by have:=hy.cls (by omega);omega) ((hW.cls _ _ a3).2.2.2 _ (List.getElem_mem hq)))
  have e6:=tW hW ob a5 (wk a5);simp[b7,ay,dx,aF,h,bq,cH,bD,arith,hf,lw,e5,e6,jD]
  cases bP im.classes a (cL y.a)<;>cases bP im.classes b (cz im.classes y.a y.b)<;>simp
 ·have ha:az y.op=2:=by unfold az;simp[h]
  rw[ha]at hl;obtain⟨a,b,rfl⟩:=nU hl;have oa:=hok a (by simp);have na:=hne a (by simp);have ob:=hok b (by simp);have nb:=hne b (by simp);rw[cy,a1 _ h (by omega),eo,en];have e3:=kZ (hy.sig h);rw[hcl (by omega)];have hs:=hW.sig _ (List.getElem_mem (hy.sig h));have a4:okT im.classes.length (gU im.sigs y.b)=true:=by unfold gU;rw[List.getElem?_eq_getElem (hy.sig h)];exact jr hs.1
  have b0:(fh im.sigs y.b).toNat≠45:=by unfold fh;rw[List.getElem?_eq_getElem (hy.sig h)];exact qz hs.2
  have e5:=tW hW oa (a2 (by omega)).1 (wk (a2 (by omega)).1);have e6:=tW hW ob a4 (wk a4);simp[b7,ay,dx,aF,lw,e3.1,e3.2,e5,e6,bq,cH,bD,arith,h,jD,b0]
  cases bP im.classes a (cL y.a)<;>cases bP im.classes b (gU im.sigs y.b)<;>simp
 ·have ha:az y.op=1:=by unfold az;simp[h]
  rw[ha]at hl;obtain⟨a,rfl⟩:=zR hl;have oa:=hok a (by simp);have na:=hne a (by simp);rw[cy,a1 _ h (by omega),eo,en];rw[hcl (by omega)];simp[b7,ay,dx,aF,uR,AY hW oa,bq,cH,bD,arith,h,(a2 (by omega)).2]
 ·have ha:az y.op=2:=by unfold az;simp[h]
  rw[ha]at hl;obtain⟨a,b,rfl⟩:=nU hl;have oa:=hok a (by simp);have na:=hne a (by simp);have ob:=hok b (by simp);have nb:=hne b (by simp);rw[cy,a1 _ h (by omega),eo,en];simp[b7,ay,dx,aF,kD,bq,cH,bD,arith,h,bM,nb]
 ·have ha:az y.op=3:=by unfold az;simp[h]
  rw[ha]at hl;obtain⟨a,b,c,rfl⟩:=Cc hl;have oa:=hok a (by simp);have na:=hne a (by simp);have ob:=hok b (by simp);have nb:=hne b (by simp);have oc:=hok c (by simp);have nc:=hne c (by simp);rw[cy,a1 _ h (by omega),eo,en];have e5:=l7 hW.cls hW.nc ob oc;simp[b7,ay,dx,aF,BT,kE hW oa,bq,cH,bD,arith,h,bM,e5]
 ·have ha:az y.op=2:=by unfold az;simp[h]
  rw[ha]at hl;obtain⟨a,b,rfl⟩:=nU hl;have oa:=hok a (by simp);have na:=hne a (by simp);have ob:=hok b (by simp);have nb:=hne b (by simp);rw[cy,a1 _ h (by omega),eo,en];simp[b7,ay,dx,aF,BR,kE hW oa,bq,cH,bD,arith,h,bM]
end
end
end Go.Proofs.YtpfkkmacakjmbaaGreatDoor
