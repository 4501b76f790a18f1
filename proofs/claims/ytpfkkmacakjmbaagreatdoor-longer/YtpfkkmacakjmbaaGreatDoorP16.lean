import Derived.Test.YtpfkkmacakjmbaaGreatDoorP15
set_option maxRecDepth 100000
set_option maxHeartbeats 6400000
set_option linter.unusedSimpArgs false
set_option linter.unusedVariables false
namespace Go.Proofs.YtpfkkmacakjmbaaGreatDoor
section
open Go Go.RowKit Sp
theorem wZ: ∀{its:List XIt} {is:List Ins} {p:XIt→Bool} {q:Ins→Bool},its.length=is.length→(∀(k:Nat) x y,its[k]?=some x→is[k]?=some y→p x=q y∧x.place=y.pos)→(its.find? p).map (·.place)=(is.find? q).map (·.pos):=by
 intro its
 induction its with
 |nil=>intro is p q hl _;cases is with|nil=>rfl|cons y is=>simp at hl
 |cons x its ih=>
  intro is p q hl h
  cases is with
  |nil=>simp at hl
  |cons y is=>
   obtain⟨h1,h2⟩:=h 0 x y rfl rfl;rw[List.find?_cons,List.find?_cons,h1]
   cases q y with
   |true=>simp[h2]
   |false=>exact ih (by simpa using hl) (fun k a b ha hb=>h (k+1) a b (by simpa using ha) (by simpa using hb))
theorem oY {α β γ:Type}: ∀{bs:List α} {BS:List β} {f:α→Option γ} {g:β→Option γ},bs.length=BS.length→(∀(k:Nat) x y,bs[k]?=some x→BS[k]?=some y→f x=g y)→bs.findSome? f=BS.findSome? g:=by
 intro bs
 induction bs with
 |nil=>intro BS f g hl _;cases BS with|nil=>rfl|cons y BS=>simp at hl
 |cons x bs ih=>
  intro BS f g hl h
  cases BS with
  |nil=>simp at hl
  |cons y BS=>
   rw[List.findSome?_cons,List.findSome?_cons,h 0 x y rfl rfl,ih (by simpa using hl) (fun k a b ha hb=>h (k+1) a b (by simpa using ha) (by simpa using hb))]
theorem mA {cs:List bA} {xs ys:List bz} (h:xs.map jo=ys.map jo) (m:Nat): ∀(f:Nat) (c:UInt8),eM cs xs m f c=eM cs ys m f c:=by
 intro f
 induction f with
 |zero=>intro c;rfl
 |succ f ih=>
  intro c;simp only[eM,lU h,nP h,ih]
theorem vy {cs:List Cls} {gs:List Sig} {b:Bod} (h:ki cs gs b) (hn:cs.length≤4):(b.cls= -1)∨eV b:=by
 rcases h.cls with⟨h1,_⟩ | ⟨h1,h2,h3,h4⟩
 ·exact Or.inl h1
 ·exact Or.inr ⟨h1,by omega,h3⟩
theorem uo (y:Ins):(bG y).place=y.pos:=by unfold bG;split<;>rfl
theorem Ct {cs:List Cls} {gs:List Sig} {BS:List Bod} {bs:List bz} {y:Ins} {x:XIt} {nl n n':Nat} (hw:WfC cs) (hn:cs.length≤4) (hB: ∀b∈BS,(b.cls= -1)∨eV b) (hy:WfN cs gs.length nl y) (hh:bs.map jo=(BS.map (aN gs)).map jo)
  (h1:x.op=(bG y).op) (h2:x.cls=(bG y).cls) (h3:x.num=(bG y).num):eN (cs.map toX) bs n x=ky cs BS n' y:=by
 have a3:=hy.op;have a2: ∀v:Nat,cV.contains v=false→y.op.toNat≠v:=fun v hv h=>by rw[h,hv]at a3;cases a3
 have a1:=a2 106 (by decide);have a0:=a2 102 (by decide);unfold eN ky;rw[h1,h2,h3]
 by_cases hd:bJ y.op=true
 ·have hr:=jx hd;have e1:bG y=⟨y.pos,107,45,y.b,none,0,0⟩:=by unfold bG;rw[if_pos hd]
  rw[e1];have a4: ¬y.op.toNat=99:=by omega
  simp[a1,a0,a4]
 ·have e1:bG y=aK y:=by unfold bG;rw[if_neg hd]
  rw[e1];have e2:(aK y).op=y.op:=rfl;have e3:(aK y).num=y.b:=rfl;rw[e2,e3,if_neg (by omega)]
  by_cases h9:y.op.toNat=99
  ·rw[if_pos h9];have ha:=hy.cls (by omega)
   have e4:(aK y).cls=UInt8.ofNat (65+y.a):=by
    unfold aK;rw[if_pos (by omega)]
   rw[e4,List.length_map,mA hh,gV hw hn hB y.b cs.length 5 y.a ha ha (by omega)];simp[h9]
  ·rw[if_neg h9];simp[h9,a1,a0]
theorem om (b:Nat) (im:Img) (w:World) (hW:gH im) (hT:dA w b im):
  Calls Tryz.prog 104 #[.pointer (some ⟨b,0,none⟩)] w fun e w'=>e= .returned (.int .i64 (kJ (im.bodies.findSome? (fun b=>unl im.classes im.bodies b.code))))∧But (fun _=>False) w w':=by
 obtain⟨bs,a3,a0⟩:=hT.bod
 have a1:(bs.findSome? fun x=>lp (im.classes.map toX) bs x.items)=im.bodies.findSome? (fun b=>unl im.classes im.bodies b.code):=by
  refine oY a0.1 (fun k X B hX hB=> ?_);have h1:=a0.2 k X B hX hB;have a4:=hW.bod B (List.mem_of_getElem? hB);unfold lp unl;refine wZ h1.its.len (fun q x y hx hy=> ?_);obtain⟨e1,e2,e3,e4,_⟩:=h1.its.at' q y x hy hx;exact⟨Ct hW.cls hW.nc (fun b hb=>vy (hW.bod b hb) hW.nc) (a4.code y (List.mem_of_getElem? hy)) a0.heads e2 e3 e4,by rw[e1,uo]⟩
 rw[←a1];refine jg b (im.classes.map toX) bs w (by rw[List.length_map];have:=hW.nc;omega) (by rw[a0.1];have:=hW.nb;omega) ?_ hT.cls a3;intro x hx;obtain⟨k,hk,rfl⟩:=List.getElem_of_mem hx;have a2:k<im.bodies.length:=by rw[←a0.1];exact hk
 have h1:=a0.2 k _ _ (List.getElem?_eq_getElem hk) (List.getElem?_eq_getElem a2);have:=(hW.bod _ (List.getElem_mem a2)).len;rw[h1.its.len];omega
theorem Ar: ∀{t:List Ins} {m:Nat},full m t→ ∀i,i<t.length→ ∃m',full (m'+1) (t.drop i):=by
 intro t
 induction t with
 |nil=>intro m _ i h;simp at h
 |cons x t ih=>
  intro m h i hi
  cases m with
  |zero=>cases h
  |succ m=>
   cases i with
   |zero=>exact⟨m,h⟩
   |succ i=>exact ih (m:=m+az x.op) h i (by simpa using hi)
theorem yU {t:List Ins}: ∀{j m k:Nat},full (m+j) (t.drop k)→(cy t j k).length=j:=by
 intro j
 induction j with
 |zero=>intro m k _;rfl
 |succ j ih=>
  intro m k h;have h0:=rR (m:=m+j) (by rw[show m+j+1=m+(j+1)from by omega];exact h);rw[List.length_drop]at h0;have h1:=wj (u:=t.drop k) (m:=m+j) (by rw[show 1+(m+j)=m+(j+1)from by omega];exact h);rw[List.drop_drop]at h1;simp only[cy,show k<t.length from by omega,if_true,List.length_cons];rw[ih (m:=m) (k:=bu t k) h1]
theorem sF {t:List Ins} (hf:full 1 t) {i:Nat} {x:Ins} (hx:t[i]?=some x):(dt t i).length=az x.op:=by
 obtain⟨hl,hg⟩:=List.getElem?_eq_some_iff.1 hx;obtain⟨m,hm⟩:=Ar hf i hl;rw[List.drop_eq_getElem_cons hl,hg]at hm;have a0:full (m+az x.op) (t.drop (i+1)):=hm;unfold dt;rw[hx];exact yU a0
theorem yV {t:List Ins}: ∀{j k:Nat},∀q∈cy t j k,k≤q∧q<t.length:=by
 intro j
 induction j with
 |zero=>intro k q h;simp[cy]at h
 |succ j ih=>
  intro k q h;unfold cy at h
  split at h
  ·rename_i hk
   rcases List.mem_cons.1 h with rfl|h
   ·exact⟨Nat.le_refl _,hk⟩
   ·have h1:=ih q h;have h2:=mT hk;exact⟨by omega,h1.2⟩
  ·simp at h
theorem gD {t:List Ins} {i q:Nat} (h:q∈dt t i):i<q∧q<t.length:=by
 unfold dt at h
 split at h
 ·have:=yV q h;exact⟨by omega,this.2⟩
 ·simp at h
section
variable {cs:List Cls} {gs:List Sig} {lo:List UInt8} {t:List Ins}
theorem mB {f g:Nat→Option UInt8}: ∀{n k:Nat},(∀q,k≤q→q<t.length→f q=g q)→(∀q,t.length≤q→f q=none∧g q=none)→bQ t f n k=bQ t g n k:=by
 intro n
 induction n with
 |zero=>intro k _ _;rfl
 |succ n ih=>
  intro k h1 h2;unfold bQ;rcases Nat.lt_or_ge k t.length with hk|hk
  ·rw[h1 k (Nat.le_refl _) hk,ih (fun q hq=>h1 q (by have:=mT hk;omega)) h2]
  ·rw[(h2 k hk).1,(h2 k hk).2]
theorem dT {F q:Nat} (h:t.length≤q):bY cs gs lo t F q=none:=by
 cases F with
 |zero=>rfl
 |succ F=>simp[bY,List.getElem?_eq_none h]
theorem xb: ∀{F G k:Nat},t.length-k≤F→t.length-k≤G→bY cs gs lo t F k=bY cs gs lo t G k:=by
 intro F
 induction F with
 |zero=>intro G k h1 _;rw[dT (by omega),dT (by omega)]
 |succ F ih=>
  intro G k h1 h2
  cases G with
  |zero=>rw[dT (by omega),dT (by omega)]
  |succ G=>
   have hp: ∀n,bQ t (bY cs gs lo t F) n (k+1)=bQ t (bY cs gs lo t G) n (k+1):=fun n=>
    mB (fun q hq hl=>ih (by omega) (by omega)) (fun q hq=>⟨dT hq,dT hq⟩)
   simp only[bY,hp]
theorem pH {k:Nat} {x:Ins} (hx:t[k]?=some x):bY cs gs lo t t.length k=match bQ t (bY cs gs lo t t.length) (az x.op) (k+1)with
  |none=>none
  |some ts=>br cs gs lo x ts:=by
 have hl:=(List.getElem?_eq_some_iff.1 hx).1;obtain⟨n,hn⟩: ∃n,t.length=n+1:=⟨t.length-1,by omega⟩;have h1:bY cs gs lo t t.length k=bY cs gs lo t (n+1) k:=by rw[hn]
 rw[h1]
 have hp:bQ t (bY cs gs lo t n) (az x.op) (k+1)=bQ t (bY cs gs lo t t.length) (az x.op) (k+1):=
  mB (fun q hq hl=>xb (by omega) (by omega)) (fun q hq=>⟨dT hq,dT hq⟩)
 simp only[bY,hx,hp]
 cases bQ t (bY cs gs lo t t.length) (az x.op) (k+1)<;>rfl
theorem uq {ty:Nat→UInt8}: ∀{n k:Nat},(cy t n k).length=n→(∀q∈cy t n k,bY cs gs lo t t.length q=some (ty q))→bQ t (bY cs gs lo t t.length) n k=some ((cy t n k).map ty):=by
 intro n
 induction n with
 |zero=>intro k _ _;rfl
 |succ n ih=>
  intro k hl h;unfold cy at hl h⊢
  split at hl
  ·rename_i hk
   rw[if_pos hk]at h⊢;unfold bQ;rw[h k (by simp),ih (by simpa using hl) (fun q hq=>h q (by simp[hq]))]
   rfl
  ·simp at hl
theorem As: ∀{F k:Nat},t.length-k≤F→bY cs gs lo t t.length k≠none→ ∀j,k≤j→j<bu t k→bY cs gs lo t t.length j≠none:=by
 intro F
 induction F with
 |zero=>intro k hF h j _ _;exact absurd (dT (by omega)) h
 |succ F ih=>
  intro k hF h j h1 h2;rcases Nat.eq_or_lt_of_le h1 with rfl|h1
  ·exact h
  ·have hl:k<t.length:=by
    rcases Nat.lt_or_ge k t.length with hl|hl
    ·exact hl
    ·exact absurd (dT hl) h
   have hx:=List.getElem?_eq_getElem hl;rw[pH hx]at h;rw[ke hx]at h2
   have hp: ∀n p,k<p→bQ t (bY cs gs lo t t.length) n p≠none→ ∀j,p≤j→j<p+sk n (t.drop p)→bY cs gs lo t t.length j≠none:=by
    intro n
    induction n with
    |zero=>intro p _ _ j a1 a2;rw[mQ]at a2;omega
    |succ n ihn=>
     intro p a3 a0 j a1 a2;rw[lC]at a2;have hT:bY cs gs lo t t.length p≠none:=fun h0=>a0 (by simp[bQ,h0])
     rcases Nat.lt_or_ge j (bu t p)with hj|hj
     ·exact ih (k:=p) (by omega) hT j a1 hj
     ·refine ihn (bu t p) ?_ ?_ j hj a2
      ·have:p<t.length:=by
        rcases Nat.lt_or_ge p t.length with hl|hl
        ·exact hl
        ·exact absurd (dT hl) hT
       have:=mT this;omega
      ·intro h0
       apply a0
       unfold bQ
       cases bY cs gs lo t t.length p<;>simp[h0]
   refine hp (az t[k].op) (k+1) (by omega) ?_ j (by omega) h2;intro h0;rw[h0]at h;exact h rfl
theorem yW (hf:full 1 t) (h:bY cs gs lo t t.length 0≠none): ∀j,j<t.length→bY cs gs lo t t.length j≠none:=by
 intro j hj;refine As (F:=t.length) (by omega) h j (Nat.zero_le _) ?_;unfold bu;rw[List.drop_zero];have:=vm (v:=[]) hf;rw[List.append_nil]at this;omega
end
end
section
open Go Go.RowKit Sp
attribute [local go_sem ↓] Go.wp_at_zero Go.wp_at_succ
def cz (cs:List bA) (ms:List Sig) (lo:List UInt8) (y:Ins) (ps:List UInt8):Option UInt8:=
 if jq cs (b7 cs ms lo (bG y).op (bG y).cls (bG y).num) ps=true∧(du cs ms lo (bG y).op (bG y).cls (bG y).num ps).toNat≠45 then some (du cs ms lo (bG y).op (bG y).cls (bG y).num ps)else none
def stepX (cs:List bA) (ms:List Sig) (lo:List UInt8) (is:List Ins) (i:Nat) (ty:List UInt8):Option (List UInt8):=match is[i]? with
 |none=>none
 |some y=>(cz cs ms lo y ((dt is i).map (bM ty))).map fun c=>ty.set i c
def mN (cs:List bA) (ms:List Sig) (lo:List UInt8) (is:List Ins):Nat→List UInt8→Option (List UInt8)
 |0,ty=>some ty
 |q+1,ty=>match stepX cs ms lo is q ty with
  |none=>none
  |some ty'=>mN cs ms lo is q ty'
def qM (cs:List bA) (r:UInt8):Option (List UInt8)→Bool
 |none=>false
 |some ty=>ei cs (bM ty 0) r
def yX (cs:List bA) (ms:List Sig) (lo:List UInt8) (is:List Ins) (r:UInt8):Bool:=qM cs r (mN cs ms lo is is.length (List.replicate is.length 0))
theorem Au (t:List Ins): ∀n k,(cy t n k).length≤n:=by
 intro n
 induction n with
 |zero=>intro k;simp[cy]
 |succ n ih=>
  intro k;unfold cy
  split
  ·have:=ih (bu t k);simp;omega
  ·simp
theorem Av (t:List Ins) (k:Nat):(dt t k).length≤3:=by
 unfold dt
 split
 ·rename_i x _
  have h:=Au t (az x.op) (k+1);have:az x.op≤3:=by unfold az;split;omega;split;omega;split<;>omega
  omega
 ·simp
theorem xd (cs:List bA) (ms:List Sig) (lo:List UInt8) (c k:UInt8) (n:Nat):(b7 cs ms lo c k n).length≤2:=by
 unfold b7 ay
 repeat' split
 all_goals simp
theorem Aw (n:Nat):madeCells #[.int .u8 0] n=(aM (List.replicate n 0)).toArray:=by
 apply Array.ext
 ·rw[size_madeCells];simp[aM]
 ·intro k h1 h2;have e:k % 1=0:=by omega
  simp[madeCells,e,aM]
theorem Ax (n:Nat) (hn:n≤1000) (w:World):(Instr.makeSlice 112 (.int .i64 (n:Int)) (.int .i64 (n:Int))).run Tryz.prog w= .ok (.slice (some ⟨w.heap.size,0,none⟩) n n) (w.alloc (.cells (aM (List.replicate n 0)).toArray 5)):=by
 have a0:=iR
 cases hi:Tryz.prog.info? 5 with
 |none=>rw[hi]at a0;cases a0
 |some i=>
  rw[hi]at a0;simp only[Option.map_some,Option.some.injEq,Prod.mk.injEq]at a0;obtain⟨hz,hs,hb⟩:=a0;have:=run_make (P:=Tryz.prog) w 112 5 i _ (by kernel_rfl) hi hz .i64 .i64 n n (by omega) (by omega) (by rw[hb];omega) (by omega);rw[this,hs];simp only[Int.toNat_natCast,Value.cells,Nat.mul_one];rw[Aw]
section
variable (b:Nat) (cs:List bA) (ms:List Sig) (c0:UInt8) (m0:Nat) (r0:UInt8) (al ai:Option Addr) (capl capi:Nat) (lo:List UInt8) (its:List XIt) (is:List Ins) (w:World)
theorem qN (hn:cs.length≤100) (hm:ms.length≤100) (hlen:its.length≤24) (hT:TxC w b cs) (hM:TxM w b ms) (hB:BtB w 0 (.slice al lo.length capl) lo) (hI:ItB w 0 (.slice ai its.length capi) its) (hN:kj w 0 its is):
  Calls Tryz.prog 91 #[.pointer (some ⟨b,0,none⟩),hdV c0 m0 r0 (.slice al lo.length capl) (.slice ai its.length capi)] w fun en w'=>But (fun _=>False) w w'∧en= .returned (.bool (yX cs ms lo is r0)):=by
 obtain⟨R,g0⟩: ∃R,yX cs ms lo is r0=R:=⟨_,rfl⟩;rw[g0];have g7:=hN.len;have n5:=Ax its.length (by omega);have l4:Hid (qM cs r0 (mN cs ms lo is its.length (List.replicate its.length 0))=R):=by rw[g7];exact hid g0
 have h4:=hid g7;clear g0 g7;unfold hdV;have h7:But (fun _=>False) w (w.alloc (.cells #[.int .u8 c0.toNat,.int .i64 m0,.int .u8 r0.toNat,.slice al lo.length capl,.slice ai its.length capi] 115)):=But.alloc _ _ _;have g6:(w.alloc (.cells #[.int .u8 c0.toNat,.int .i64 m0,.int .u8 r0.toNat,.slice al lo.length capl,.slice ai its.length capi] 115)).heap[w.heap.size]?=some (.cells #[.int .u8 c0.toNat,.int .i64 m0,.int .u8 r0.toNat,.slice al lo.length capl,.slice ai its.length capi] 115):=heap_alloc_new _ _
 go_in
 go_wp2_with fail;have o0:(w.alloc (.cells #[.int .u8 c0.toNat,.int .i64 m0,.int .u8 r0.toNat,.slice al lo.length capl,.slice ai its.length capi] 115)).heap.size=w.heap.size+1:=by simp
 generalize (w.alloc (.cells #[.int .u8 c0.toNat,.int .i64 m0,.int .u8 r0.toNat,.slice al lo.length capl,.slice ai its.length capi] 115))=w1 at*
 have n1:(w1.alloc (.cells (aM (List.replicate its.length 0)).toArray 5)).ownsRow (w.heap.size+1) 5 1 (.slice (some ⟨w.heap.size+1,0,none⟩) its.length its.length) its.length (aM (List.replicate its.length 0)):=by
  have h:=BtB.lit w1 (w.heap.size+1) (by omega) (List.replicate its.length 0) (by simp;omega);rw[o0]at h;unfold BtB at h;simp only[List.length_replicate]at h;exact h
 have m4:But (fun _=>False) w (w1.alloc (.cells (aM (List.replicate its.length 0)).toArray 5)):=h7.trans (But.alloc _ _ _);have n2:=((But.alloc (fun _=>False) w1 (.cells (aM (List.replicate its.length 0)).toArray 5)).block _ (ae g6) (fun h=>h)).trans g6;have o6:(w1.alloc (.cells (aM (List.replicate its.length 0)).toArray 5)).heap.size=w.heap.size+2:=by simp;omega
 generalize (w1.alloc (.cells (aM (List.replicate its.length 0)).toArray 5))=w2 at*;clear n5 h7 g6
 go_loopg [6] its.length (fun mm js wr=> ∃(v:Int) (q:Nat) (ty:List UInt8),js= .int .i64 v∧v=(q:Int)-1∧q≤its.length∧q≤mm∧mm≤q∧wr.ownsRow (w.heap.size+1) 5 1 (.slice (some ⟨w.heap.size+1,0,none⟩) its.length its.length) its.length (aM ty)∧But (fun _=>False) w wr∧w.heap.size+1<wr.heap.size∧wr.heap[w.heap.size]?=some (.cells #[.int .u8 c0.toNat,.int .i64 m0,.int .u8 r0.toNat,.slice al lo.length capl,.slice ai its.length capi] 115)∧Hid (ty.length=its.length∧qM cs r0 (mN cs ms lo is q ty)=R))
 case atStart=>exact⟨_,its.length,_,rfl,rfl,by omega,by omega,by omega,n1,m4,by omega,n2,hid ⟨by simp,l4.out⟩⟩
 case round=>
  obtain⟨v,q,ty,rfl,hv,o3,o4,o5,i2,b6,p2,e6,HI⟩:=hrel;obtain⟨k0,k1,k2,k3,k4⟩:=bp e6;have b1:=ae e6
  have g3:BtB wr 0 (.slice (some ⟨w.heap.size+1,0,none⟩) ty.length its.length) ty:=by
   unfold BtB;rw[HI.out.1];exact World.ownsRow.mono i2 (Nat.zero_le _)
  cases q with
  |zero=>
   have n6: ¬(0:Int)≤v:=by omega
   have g2:=dj _ _ ty 0 wr.drew (BtB.but g3 (But.drew (fun _=>False) _) (fun _ _ h=>h));rw[HI.out.1]at g2;have m1:=hid g2;have l0:=hid (j8 b cs (bM ty 0) r0 wr.drew hn (hT.but (b6.trans (But.drew _ _))));have HE:Hid (ei cs (bM ty 0) r0=R):=hid HI.out.2;clear g2 g3;go_wp2_with fail;have a2:But (fun _=>False) wr wr.drew:=But.drew _ _;refine cB (But (fun _=>False) wr) 6 (by kernel_rfl) ?_;refine aB (k:=0) (v:= ?vA0) rfl (by decide) (by kernel_rfl) (fun _ _ _ h=>h) rfl a2 ?yA0 ?rA0
   case yA0=>intro wS h;have q0:=(h.kc k2 b1);clear h;go_simp;try rfl
   dsimp only[Act.put]
   try simp only[aL]
   refine aB (k:=1) (v:= ?vA1) rfl (by decide) (by kernel_rfl) (fun _ _ _ h=>h) rfl a2 ?yA1 ?rA1
   case yA1=>intro wS h;have q0:=(h.kc k2 b1);clear h;go_simp;try rfl
   dsimp only[Act.put]
   try simp only[aL]
   refine aB (k:=3) (v:= ?vA3) rfl (by decide) (by kernel_rfl) (fun _ _ _ h=>h) rfl a2 ?yA3 ?rA3
   case yA3=>intro wS h;have q0:=(h.kc k2 b1);clear h;go_simp;try rfl
   dsimp only[Act.put]
   try simp only[aL]
   refine aB (k:=4) (v:= ?vA4) rfl (by decide) (by kernel_rfl) (fun _ _ _ h=>h) rfl a2 ?yA4 ?rA4
   case yA4=>intro wS h;have q0:=(h.kc k2 b1);clear h;go_simp;try rfl
   dsimp only[Act.put]
   try simp only[aL]
   refine aE (k:=2) rfl (by decide) (by kernel_rfl) ?_;intro KS hKS;go_simp;refine m1.out.mono ?_;rintro en wx ⟨rfl,e7⟩;rw[e7];clear e7 wx;refine hKS.out _ _ (fun _=>a2) ?_;clear hKS KS;refine aE (k:=5) rfl (by decide) (by kernel_rfl) ?_;intro KS hKS;go_simp;refine l0.out.mono ?_;rintro en wx ⟨rfl,e7⟩;rw[e7,HE.out];clear e7 wx;refine hKS.out _ _ (fun _=>a2) ?_;clear hKS KS;refine aE (k:=6) rfl (by decide) (by kernel_rfl) ?_;intro KS hKS;go_simp;refine hKS.out _ _ nofun ?_;clear hKS KS;refine ck rfl (by kernel_rfl) ?_;go_wp2_with fail;go_ret;exact⟨b6.trans a2,rfl⟩
  |succ p=>
   have n9:v=(p:Int):=by omega
   subst n9;clear hv;have n7:p<is.length:=by rw[←h4.out];omega
   obtain⟨x,hx⟩: ∃x,its[p]?=some x:=⟨_,List.getElem?_eq_getElem (by omega)⟩;have hy:=List.getElem?_eq_getElem n7;obtain⟨y,i5⟩: ∃y,is[p]=y:=⟨_,rfl⟩;rw[i5]at hy;obtain⟨e1,e2,e3,e4,e5⟩:=hN.at' p y x hy hx;have f3:=hid e2;have f4:=hid e3;have f5:=hid e4;have HY:=hid hy;clear e1 e2 e3 e4 i5 hy;obtain⟨g,rfl,b2,n3,a1⟩:=aI (ag hI b6 (fun _ _ h=>h)) (by omega);have z0:wr.cell? ⟨g,p*5,none⟩=some (.int .i64 x.place):=a1 _ _ (aP (k:=0) hx (by omega));have z1:wr.cell? ⟨g,p*5+1,none⟩=some (.int .u8 x.op.toNat):=a1 _ _ (aP (k:=1) hx (by omega));have z2:wr.cell? ⟨g,p*5+2,none⟩=some (.int .u8 x.cls.toNat):=a1 _ _ (aP (k:=2) hx (by omega))
   have z3:wr.cell? ⟨g,p*5+3,none⟩=some (.int .i64 x.num):=a1 _ _ (aP (k:=3) hx (by omega));have z4:wr.cell? ⟨g,p*5+4,none⟩=some (.slice x.pa x.pn x.pc):=a1 _ _ (aP (k:=4) hx (by omega));have o2:(p:Int)<(its.length:Int):=by omega
   have o1:(0:Int)≤(p:Int):=by omega
   have f1:=qK x (dt is p) ty _ _ wr (Av is p) (fun k hk=>by have:=(gD hk).2;have:=h4.out;omega) (ag e5 b6 (fun _ _ h=>h)) g3;rw[HI.out.1]at f1;unfold itV at f1;have h5:=hid f1;clear f1 a1;go_wp2_with fail;refine h5.out.mono ?_;rintro en w3 ⟨a8,a3,c3,rfl,h8⟩;clear h5;obtain⟨PS,f0⟩: ∃PS,(dt is p).map (bM ty)=PS:=⟨_,rfl⟩;have b4:(dt is p).length=PS.length:=by rw[←f0];simp
   rw[f0,b4]at h8;rw[b4];have f6:=hid f0;clear f0 b4;have f9:=b6.trans a8;have i3:=(a8.block _ b1 (fun h=>h)).trans e6;have a6:=ae i3;have a0:g<w3.heap.size:=Nat.lt_of_lt_of_le b2 a8.size;obtain⟨i6,i7,j0,j1,j2⟩:=bp i3;have y0:=a8.kc z0 b2;have y1:=a8.kc z1 b2;have y2:=a8.kc z2 b2;have y3:=a8.kc z3 b2;have y4:=a8.kc z4 b2;clear z0 z1 z2 z3 z4 k0 k1 k2 k3 k4;have e9:But (fun _=>False) w w3.drew:=f9.trans (But.drew _ _);have h9:BtB w3.drew 0 (.slice a3 PS.length c3) PS:=World.ownsRow.mono (BtB.but h8 (But.drew (fun _=>False) _) (fun _ _ h=>h)) (Nat.zero_le _);have f2:=hid (qL b cs ms c0 m0 r0 al (some ⟨g,0,none⟩) capl its.length capi lo x w3.drew a3 c3 PS hn hm (hT.but e9) (hM.but e9) (BtB.but hB e9 (fun _ _ h=>h)) h9 (by have:=xd cs ms lo x.op x.cls x.num;omega))
   unfold hdV itV at f2;go_wp2_with fail;have a2:But (fun _=>False) w3 w3.drew:=But.drew _ _;refine cB (But (fun _=>False) w3) 10 (by kernel_rfl) ?_;have fSB:=hid (fun wS (h:(But (fun _=>False) w3) wS)=>(And.intro (h.kc i6 a6) (And.intro (h.kc i7 a6) (And.intro (h.kc j0 a6) (And.intro (h.kc j1 a6) (And.intro (h.kc j2 a6) (And.intro (h.kc y0 a0) (And.intro (h.kc y1 a0) (And.intro (h.kc y2 a0) (And.intro (h.kc y3 a0) (h.kc y4 a0)))))))))));refine aB (k:=0) (v:= ?vB0) rfl (by decide) (by kernel_rfl) (fun _ _ _ h=>h) rfl a2 ?yB0 ?rB0
   case yB0=>intro wS h;obtain⟨q0,q1,q2,q3,q4,q5,q6,q7,q8,q9⟩:=fSB.out wS h;clear h;go_simp;try rfl
   dsimp only[Act.put]
   try simp only[aL]
   refine aB (k:=1) (v:= ?vB1) rfl (by decide) (by kernel_rfl) (fun _ _ _ h=>h) rfl a2 ?yB1 ?rB1
   case yB1=>intro wS h;obtain⟨q0,q1,q2,q3,q4,q5,q6,q7,q8,q9⟩:=fSB.out wS h;clear h;go_simp;try rfl
   dsimp only[Act.put]
   try simp only[aL]
   refine aB (k:=2) (v:= ?vB2) rfl (by decide) (by kernel_rfl) (fun _ _ _ h=>h) rfl a2 ?yB2 ?rB2
   case yB2=>intro wS h;obtain⟨q0,q1,q2,q3,q4,q5,q6,q7,q8,q9⟩:=fSB.out wS h;clear h;go_simp;try rfl
   dsimp only[Act.put]
   try simp only[aL]
   refine aB (k:=3) (v:= ?vB3) rfl (by decide) (by kernel_rfl) (fun _ _ _ h=>h) rfl a2 ?yB3 ?rB3
   case yB3=>intro wS h;obtain⟨q0,q1,q2,q3,q4,q5,q6,q7,q8,q9⟩:=fSB.out wS h;clear h;go_simp;try rfl
   dsimp only[Act.put]
   try simp only[aL]
   refine aB (k:=4) (v:= ?vB4) rfl (by decide) (by kernel_rfl) (fun _ _ _ h=>h) rfl a2 ?yB4 ?rB4
   case yB4=>intro wS h;obtain⟨q0,q1,q2,q3,q4,q5,q6,q7,q8,q9⟩:=fSB.out wS h;clear h;go_simp;try rfl
   dsimp only[Act.put]
   try simp only[aL]
   refine aB (k:=5) (v:= ?vB5) rfl (by decide) (by kernel_rfl) (fun _ _ _ h=>h) rfl a2 ?yB5 ?rB5
   case yB5=>intro wS h;obtain⟨q0,q1,q2,q3,q4,q5,q6,q7,q8,q9⟩:=fSB.out wS h;clear h;go_simp;try rfl
   dsimp only[Act.put]
   try simp only[aL]
   refine aB (k:=6) (v:= ?vB6) rfl (by decide) (by kernel_rfl) (fun _ _ _ h=>h) rfl a2 ?yB6 ?rB6
   case yB6=>intro wS h;obtain⟨q0,q1,q2,q3,q4,q5,q6,q7,q8,q9⟩:=fSB.out wS h;clear h;go_simp;try rfl
   dsimp only[Act.put]
   try simp only[aL]
   refine aB (k:=7) (v:= ?vB7) rfl (by decide) (by kernel_rfl) (fun _ _ _ h=>h) rfl a2 ?yB7 ?rB7
   case yB7=>intro wS h;obtain⟨q0,q1,q2,q3,q4,q5,q6,q7,q8,q9⟩:=fSB.out wS h;clear h;go_simp;try rfl
   dsimp only[Act.put]
   try simp only[aL]
   try clear fSB
   refine aE (k:=8) rfl (by decide) (by kernel_rfl) ?_;intro KS hKS;go_simp;refine f2.out.mono ?_;rintro en w4 ⟨f7,rfl⟩;have c6:=e9.trans f7;have b0:But (fun _=>False) w3 w4:=a2.trans f7;refine hKS.out _ _ (fun _=>b0) ?_;clear hKS KS;refine aE (k:=9) rfl (by decide) (by kernel_rfl) ?_;intro KS hKS;go_simp;refine hKS.out _ _ (fun _=>b0) ?_;clear hKS KS;refine ck rfl (by kernel_rfl) ?_
   cases hac:jq cs (b7 cs ms lo x.op x.cls x.num) PS with
   |false=>
    have b5:R=false:=by
     have h2:=HI.out.2
     have n8:stepX cs ms lo is p ty=none:=by
      simp only[stepX,HY.out,f6.out,cz,←f3.out,←f4.out,←f5.out,hac];simp
     rw[←h2];simp only[mN,n8,qM]
    subst b5;clear hac;go_wp2_with fail;go_ret;exact⟨c6,rfl⟩
   |true=>
    have b9:=hid hac;clear hac;have g1:But (fun _=>False) wr w4:=a8.trans b0;have i4:=(g1.block _ b1 (fun h=>h)).trans e6;have a7:=ae i4;have a5:g<w4.heap.size:=Nat.lt_of_lt_of_le b2 g1.size;obtain⟨j3,j4,j5,j7,k9⟩:=bp i4;have x0:=b0.kc y0 a0;have x1:=b0.kc y1 a0;have x2:=b0.kc y2 a0;have x3:=b0.kc y3 a0;have x4:=b0.kc y4 a0;clear y0 y1 y2 y3 y4 i6 i7 j0 j1 j2 f2;have f8:But (fun _=>False) w w4.drew:=c6.trans (But.drew _ _);have n0:BtB w4.drew 0 (.slice a3 PS.length c3) PS:=BtB.but h9 (f7.trans (But.drew _ _)) (fun _ _ h=>h);have e8:=hid (sD b cs ms c0 m0 r0 al (some ⟨g,0,none⟩) capl its.length capi lo x w4.drew a3 c3 PS hn hm (hT.but f8) (hM.but f8) (BtB.but hB f8 (fun _ _ h=>h)) n0)
    unfold hdV itV at e8;obtain⟨C,hC⟩: ∃C,du cs ms lo x.op x.cls x.num PS=C:=⟨_,rfl⟩;rw[hC]at e8;have HC:=hid hC;clear hC;go_wp2_with fail;have i0:But (fun _=>False) w4 w4.drew:=But.drew _ _;refine aD (But (fun _=>False) w4) 11 (by kernel_rfl) ?_
    iterate 10 (refine aJ (v:=?_) rfl (by kernel_rfl) (fun _ _ _ h=>h) rfl i0 ?_ ?_;rotate_left;(focus (intro wS h;have q0:=(h.kc j3 a7);have q1:=(h.kc j4 a7);have q2:=(h.kc j5 a7);have q3:=(h.kc j7 a7);have q4:=(h.kc k9 a7);have q5:=(h.kc x0 a5);have q6:=(h.kc x1 a5);have q7:=(h.kc x2 a5);have q8:=(h.kc x3 a5);have q9:=(h.kc x4 a5);clear h;go_simp;try rfl));dsimp only[Act.put];try simp only[aL])
    refine ah rfl (by kernel_rfl) ?_;intro KS hKS;go_simp;refine e8.out.mono ?_;rintro en w5 ⟨m5,rfl⟩;have i1:But (fun _=>False) w4 w5:=i0.trans m5;refine hKS.out _ _ (fun _=>i1) ?_;clear hKS KS;have a4:=g1.trans i1;have g4:=ag i2 a4 (fun _ _ h=>h);obtain⟨gq,e0,h1,h3,d6⟩:=aI g4 (by omega);have b3:w.heap.size+1=gq:=by injection e0 with h;injection h with h
    subst b3;have h0:p<ty.length:=by rw[HI.out.1];omega
    have ct:=d6 _ _ (cZ h0);have ft:=kZ g4 p;clear d6 e0;refine ah rfl (by kernel_rfl) ?_;intro KS hKS;go_simp;refine hKS.out _ _ nofun ?_;clear hKS KS;refine ah rfl (by kernel_rfl) ?_;intro KS hKS;go_simp;refine hKS.out _ _ nofun ?_;clear hKS KS;refine aH rfl (by kernel_rfl) ?_;have g5:=jC g4 p (.int .u8 C.toNat);rw[show(aM ty).set p (.int .u8 C.toNat)=aM (ty.set p C)from by simp[aM,List.map_set]]at g5;have h6:But (fun _=>False) w (w5.setCell ⟨w.heap.size+1,p,none⟩ (.int .u8 C.toNat)):=(b6.trans a4).next (But.setB _ _ _ _) (fun j hj h=>by omega);have n4:=((But.setB w5 (w.heap.size+1) p (.int .u8 C.toNat)).block w.heap.size (Nat.lt_of_lt_of_le b1 a4.size) (fun h=>by omega)).trans ((a4.block _ b1 (fun h=>h)).trans e6)
    have p1:=(But.setB w5 (w.heap.size+1) p (.int .u8 C.toNat)).size;have p0:=a4.size
    have l6:Hid (C.toNat≠45→stepX cs ms lo is p ty=some (ty.set p C)):=hid (fun h=>by
     simp only[stepX,HY.out,f6.out,cz,←f3.out,←f4.out,←f5.out,b9.out,HC.out];simp[h])
    have l5:Hid (C.toNat=45→stepX cs ms lo is p ty=none):=hid (fun h=>by
     simp only[stepX,HY.out,f6.out,cz,←f3.out,←f4.out,←f5.out,b9.out,HC.out];simp[h])
    obtain⟨gq,e0,h1,h3,d6⟩:=aI g5 (by omega);have b3:w.heap.size+1=gq:=by injection e0 with h;injection h with h
    subst b3;have m2:=d6 _ _ (cZ (l:=ty.set p C) (k:=p) (by simpa using h0));rw[show(ty.set p C).getD p 0=C from by simp[List.getD,h0]]at m2;clear d6 e0 x0 x1 x2 x3 x4 j3 j4 j5 j7 k9 e8 ct ft;generalize (w5.setCell ⟨w.heap.size+1,p,none⟩ (.int .u8 C.toNat))=w6 at*
    by_cases h45:C.toNat=45
    ·have m3:((C.toNat:Int)==45)=true:=by rw[beq_iff_eq];omega
     have b5:R=false:=by
      rw[←HI.out.2];simp only[mN,l5.out h45,qM]
     subst b5;clear h45;go_wp2_with fail;go_ret;exact⟨h6,rfl⟩
    ·have m3:=tf C.toNat 45 (by omega)
     have l3:Hid ((ty.set p C).length=its.length∧qM cs r0 (mN cs ms lo is p (ty.set p C))=R):=by
      refine hid ⟨by rw[List.length_set];exact HI.out.1,?_⟩;rw[←HI.out.2];simp only[mN,l6.out h45]
     clear h45;go_wp2_with fail
     go_roundg p
     case measure=>omega
     case rel=>exact⟨_,p,_,rfl,rfl,by omega,by omega,by omega,g5,h6,by omega,n4,l3⟩
end
end
section
open Go Go.RowKit Sp
section
variable {cs:List bA} {a b c p q:UInt8}
theorem kN (ts:List UInt8):jq cs [] ts=true:=by simp[jq]
theorem vz:jq cs [p] [a]=bW cs a p:=by simp[jq,bM,List.range_succ]
theorem Cu:jq cs [p] [a,b]=bW cs a p:=by simp[jq,bM,List.range_succ]
theorem Cv:jq cs [p] [a,b,c]=bW cs a p:=by simp[jq,bM,List.range_succ]
theorem lE:jq cs [p,q] [a,b]=(bW cs a p&&bW cs b q):=by simp[jq,bM,List.range_succ]
theorem ur {cs:List Cls}:dJ cs [a] [p]=bP cs a p:=by simp[dJ,List.range_succ]
theorem jO {cs:List Cls}:dJ cs [a,b] [p,q]=(bP cs a p&&bP cs b q):=by simp[dJ,List.range_succ]
end
theorem mC {cs:List Cls} (a:UInt8):bP cs a 105=decide (a.toNat=105):=by
 unfold bP
 by_cases h:a.toNat=105
 ·simp[h]
 ·have:isC 105=false:=by decide
  simp[h,this]
section
variable {im:Img}
theorem ut (hW:gH im) {a c:UInt8} (ha:okT im.classes.length a=true) (hc:okT im.classes.length c=true) (h38:c.toNat≠38):bW (im.classes.map toX) a c=bP im.classes a c:=by
 unfold bW;rw[if_neg h38];exact gr hW.cls hW.nc ha hc
theorem kO (hW:gH im) {a:UInt8} (ha:okT im.classes.length a=true):bW (im.classes.map toX) a 105=decide (a.toNat=105):=by
 rw[ut hW ha rS (by decide),mC]
theorem Bz (hW:gH im) {a:UInt8} (ha:okT im.classes.length a=true):bW (im.classes.map toX) a 38=isR a:=by
 unfold bW isR;rw[if_pos (by decide),List.length_map,eD hW.cls hW.nc ha]
theorem sG (hW:gH im) {x:Ins} (ha:x.a<im.classes.length) (hb:x.b<cF im.classes x.a):bM (bI (im.classes.map toX) (UInt8.ofNat (65+x.a))) x.b=cA im.classes x.a x.b:=by
 obtain⟨hl,hk⟩:=yC ha hW.nc;have hv:(UInt8.ofNat (65+x.a)).toNat-65=x.a:=by have:=hW.nc;simp;omega
 have a0:=iW (a:=0) hl;rw[hv]at a0;unfold bM;rw[if_pos (by rw[←a0];exact hb)];unfold cA bI;rw[List.length_map,if_pos hl,List.getElem?_map,hv]
 cases im.classes[x.a]?<;>rfl
end
theorem xe {n:Nat} {c:UInt8} (h:okT n c=true):c.toNat≠38:=by rw[dI]at h;omega
theorem qO {n:Nat} {c:UInt8} (h:cG n c=true):c.toNat≠45:=by
 simp[cG,aO]at h;omega
theorem lF {ts:List UInt8} (h:ts.length=0):ts=[]:=List.length_eq_zero_iff.1 h
theorem Ay {ts:List UInt8} (h:ts.length=1): ∃a,ts=[a]:=List.length_eq_one_iff.1 h
theorem oo {ts:List UInt8} (h:ts.length=2): ∃a b,ts=[a,b]:=by
 match ts,h with
 | [a,b],_=>exact⟨a,b,rfl⟩
theorem CN {ts:List UInt8} (h:ts.length=3): ∃a b c,ts=[a,b,c]:=by
 match ts,h with
 | [a,b,c],_=>exact⟨a,b,c,rfl⟩
theorem mV {lo:List UInt8} {n:Nat} (h:n<lo.length):bM lo n=lo.getD n 0:=by unfold bM;rw[if_pos h]
section
theorem yY {im:Img} (hW:gH im) {bd:Bod} (hbd:ki im.classes im.sigs bd) {y:Ins} (hy:WfN im.classes im.sigs.length bd.locals.length y) {ts:List UInt8} (hl:ts.length=az y.op) (hok: ∀c∈ts,okT im.classes.length c=true) (hne: ∀c∈ts,c.toNat≠45):cz (im.classes.map toX) im.sigs bd.locals y ts=br im.classes im.sigs bd.locals y ts:=by
 have a6:=List.elem_iff.1 hy.op;simp only[cV,List.mem_cons,List.not_mem_nil,or_false]at a6
 have a1: ∀n:Nat,y.op.toNat=n→ ¬(48≤n∧n≤57)→bG y=aK y:=fun n h1 h2=>by
  unfold bG;rw[if_neg (fun h=>h2 (by rw[←h1];exact jx h))]
 have hcl:=fun h=>nV (x:=y) h
 have a2: ∀h:y.op.toNat=110∨y.op.toNat=120∨y.op.toNat=103∨y.op.toNat=112∨y.op.toNat=99,okT im.classes.length (cL y.a)=true∧(cL y.a).toNat≠45:=fun h=>
  ⟨qq (hy.cls h) hW.nc,by have:=hy.cls h;have:=hW.nc;unfold cL;simp;omega⟩
 have eo:(aK y).op=y.op:=rfl;have en:(aK y).num=y.b:=rfl;rcases a6 with h|h|h|h|h|h|h|h|h|h|h|h|h|h|h|h|h|h|h|h|h|h|h|h|h|h|h|h|h|h
 ·have ha:az y.op=0:=by unfold az;simp[h]
  rw[ha]at hl;have a0:=lF hl;subst a0;have e1:bG y=⟨y.pos,107,45,y.b,none,0,0⟩:=by unfold bG;rw[if_pos (by simp[bJ,h])]
  rw[cz,e1];simp[b7,ay,du,aF,kN,br,cH,bE,arith,h]
 ·have ha:az y.op=0:=by unfold az;simp[h]
  rw[ha]at hl;have a0:=lF hl;subst a0;have e1:bG y=⟨y.pos,107,45,y.b,none,0,0⟩:=by unfold bG;rw[if_pos (by simp[bJ,h])]
  rw[cz,e1];simp[b7,ay,du,aF,kN,br,cH,bE,arith,h]
 ·have ha:az y.op=0:=by unfold az;simp[h]
  rw[ha]at hl;have a0:=lF hl;subst a0;have e1:bG y=⟨y.pos,107,45,y.b,none,0,0⟩:=by unfold bG;rw[if_pos (by simp[bJ,h])]
  rw[cz,e1];simp[b7,ay,du,aF,kN,br,cH,bE,arith,h]
 ·have ha:az y.op=0:=by unfold az;simp[h]
  rw[ha]at hl;have a0:=lF hl;subst a0;have e1:bG y=⟨y.pos,107,45,y.b,none,0,0⟩:=by unfold bG;rw[if_pos (by simp[bJ,h])]
  rw[cz,e1];simp[b7,ay,du,aF,kN,br,cH,bE,arith,h]
 ·have ha:az y.op=0:=by unfold az;simp[h]
  rw[ha]at hl;have a0:=lF hl;subst a0;have e1:bG y=⟨y.pos,107,45,y.b,none,0,0⟩:=by unfold bG;rw[if_pos (by simp[bJ,h])]
  rw[cz,e1];simp[b7,ay,du,aF,kN,br,cH,bE,arith,h]
 ·have ha:az y.op=0:=by unfold az;simp[h]
  rw[ha]at hl;have a0:=lF hl;subst a0;have e1:bG y=⟨y.pos,107,45,y.b,none,0,0⟩:=by unfold bG;rw[if_pos (by simp[bJ,h])]
  rw[cz,e1];simp[b7,ay,du,aF,kN,br,cH,bE,arith,h]
 ·have ha:az y.op=0:=by unfold az;simp[h]
  rw[ha]at hl;have a0:=lF hl;subst a0;have e1:bG y=⟨y.pos,107,45,y.b,none,0,0⟩:=by unfold bG;rw[if_pos (by simp[bJ,h])]
  rw[cz,e1];simp[b7,ay,du,aF,kN,br,cH,bE,arith,h]
 ·have ha:az y.op=0:=by unfold az;simp[h]
  rw[ha]at hl;have a0:=lF hl;subst a0;have e1:bG y=⟨y.pos,107,45,y.b,none,0,0⟩:=by unfold bG;rw[if_pos (by simp[bJ,h])]
  rw[cz,e1];simp[b7,ay,du,aF,kN,br,cH,bE,arith,h]
 ·have ha:az y.op=0:=by unfold az;simp[h]
  rw[ha]at hl;have a0:=lF hl;subst a0;have e1:bG y=⟨y.pos,107,45,y.b,none,0,0⟩:=by unfold bG;rw[if_pos (by simp[bJ,h])]
  rw[cz,e1];simp[b7,ay,du,aF,kN,br,cH,bE,arith,h]
 ·have ha:az y.op=0:=by unfold az;simp[h]
  rw[ha]at hl;have a0:=lF hl;subst a0;have e1:bG y=⟨y.pos,107,45,y.b,none,0,0⟩:=by unfold bG;rw[if_pos (by simp[bJ,h])]
  rw[cz,e1];simp[b7,ay,du,aF,kN,br,cH,bE,arith,h]
 ·have ha:az y.op=0:=by unfold az;simp[h]
  rw[ha]at hl;have a0:=lF hl;subst a0;rw[cz,a1 _ h (by omega),eo,en];simp[b7,ay,du,aF,kN,br,cH,bE,arith,h]
 ·have ha:az y.op=1:=by unfold az;simp[h]
  rw[ha]at hl;obtain⟨a,rfl⟩:=Ay hl;have oa:=hok a (by simp);have na:=hne a (by simp);rw[cz,a1 _ h (by omega),eo,en];simp[b7,ay,du,aF,vz,kO hW oa,br,cH,bE,arith,h,ur,mC]
 ·have ha:az y.op=0:=by unfold az;simp[h]
  rw[ha]at hl;have a0:=lF hl;subst a0;rw[cz,a1 _ h (by omega),eo,en];have hb:=hy.loc (by omega);have a8:=qO (hbd.loc.2 _ (List.getElem_mem hb));simp[b7,ay,du,aF,kN,br,cH,bE,arith,h,mV hb,List.getD,hb,a8]
 ·have ha:az y.op=1:=by unfold az;simp[h]
  rw[ha]at hl;obtain⟨a,rfl⟩:=Ay hl;have oa:=hok a (by simp);have na:=hne a (by simp);rw[cz,a1 _ h (by omega),eo,en];have hb:=hy.loc (by omega);have a7:okT im.classes.length (bd.locals.getD y.b 0)=true:=by rw[Ac _ _ hb];exact jD (hbd.loc.2 _ (List.getElem_mem hb))
  have e5:=ut hW oa a7 (xe a7);simp only[b7,du,h,mV hb,br,cH,bE,arith];generalize bd.locals.getD y.b 0=T at*;simp[vz,e5,ur]
  cases bP im.classes a T<;>simp
 ·have ha:az y.op=2:=by unfold az;simp[h]
  rw[ha]at hl;obtain⟨a,b,rfl⟩:=oo hl;have oa:=hok a (by simp);have na:=hne a (by simp);have ob:=hok b (by simp);have nb:=hne b (by simp);rw[cz,a1 _ h (by omega),eo,en];simp[b7,ay,du,aF,lE,kO hW oa,kO hW ob,br,cH,bE,arith,h,jO,mC]
  by_cases h1:a.toNat=105<;>by_cases h2:b.toNat=105<;>simp[h1,h2]
 ·have ha:az y.op=2:=by unfold az;simp[h]
  rw[ha]at hl;obtain⟨a,b,rfl⟩:=oo hl;have oa:=hok a (by simp);have na:=hne a (by simp);have ob:=hok b (by simp);have nb:=hne b (by simp);rw[cz,a1 _ h (by omega),eo,en];simp[b7,ay,du,aF,lE,kO hW oa,kO hW ob,br,cH,bE,arith,h,jO,mC]
  by_cases h1:a.toNat=105<;>by_cases h2:b.toNat=105<;>simp[h1,h2]
 ·have ha:az y.op=2:=by unfold az;simp[h]
  rw[ha]at hl;obtain⟨a,b,rfl⟩:=oo hl;have oa:=hok a (by simp);have na:=hne a (by simp);have ob:=hok b (by simp);have nb:=hne b (by simp);rw[cz,a1 _ h (by omega),eo,en];simp[b7,ay,du,aF,lE,kO hW oa,kO hW ob,br,cH,bE,arith,h,jO,mC]
  by_cases h1:a.toNat=105<;>by_cases h2:b.toNat=105<;>simp[h1,h2]
 ·have ha:az y.op=2:=by unfold az;simp[h]
  rw[ha]at hl;obtain⟨a,b,rfl⟩:=oo hl;have oa:=hok a (by simp);have na:=hne a (by simp);have ob:=hok b (by simp);have nb:=hne b (by simp);rw[cz,a1 _ h (by omega),eo,en];simp[b7,ay,du,aF,lE,kO hW oa,kO hW ob,br,cH,bE,arith,h,jO,mC]
  by_cases h1:a.toNat=105<;>by_cases h2:b.toNat=105<;>simp[h1,h2]
 ·have ha:az y.op=2:=by unfold az;simp[h]
  rw[ha]at hl;obtain⟨a,b,rfl⟩:=oo hl;have oa:=hok a (by simp);have na:=hne a (by simp);have ob:=hok b (by simp);have nb:=hne b (by simp);rw[cz,a1 _ h (by omega),eo,en];simp[b7,ay,du,aF,lE,kO hW oa,kO hW ob,br,cH,bE,arith,h,jO,mC]
  by_cases h1:a.toNat=105<;>by_cases h2:b.toNat=105<;>simp[h1,h2]
 ·have ha:az y.op=2:=by unfold az;simp[h]
  rw[ha]at hl;obtain⟨a,b,rfl⟩:=oo hl;have oa:=hok a (by simp);have na:=hne a (by simp);have ob:=hok b (by simp);have nb:=hne b (by simp);rw[cz,a1 _ h (by omega),eo,en];simp[b7,ay,du,aF,lE,kO hW oa,kO hW ob,br,cH,bE,arith,h,jO,mC]
  by_cases h1:a.toNat=105<;>by_cases h2:b.toNat=105<;>simp[h1,h2]
 ·have ha:az y.op=2:=by unfold az;simp[h]
  rw[ha]at hl;obtain⟨a,b,rfl⟩:=oo hl;have oa:=hok a (by simp);have na:=hne a (by simp);have ob:=hok b (by simp);have nb:=hne b (by simp);rw[cz,a1 _ h (by omega),eo,en];simp[b7,ay,du,aF,lE,Bz hW oa,Bz hW ob,br,cH,bE,arith,h]
 ·have ha:az y.op=0:=by unfold az;simp[h]
  rw[ha]at hl;have a0:=lF hl;subst a0;rw[cz,a1 _ h (by omega),eo,en];rw[hcl (by omega)];simp[b7,ay,du,aF,kN,br,cH,bE,arith,h,(a2 (by omega)).2]
 ·have ha:az y.op=0:=by unfold az;simp[h]
  rw[ha]at hl;have a0:=lF hl;subst a0;rw[cz,a1 _ h (by omega),eo,en];simp[b7,ay,du,aF,kN,br,cH,bE,arith,h]
 ·have ha:az y.op=1:=by unfold az;simp[h]
  rw[ha]at hl;obtain⟨a,rfl⟩:=Ay hl;have oa:=hok a (by simp);have na:=hne a (by simp);rw[cz,a1 _ h (by omega),eo,en];have hf:bM (bI (im.classes.map toX) (cL y.a)) y.b=cA im.classes y.a y.b:=sG hW (hy.cls (by omega)) (hy.fld (by omega));have hg:=rT hW hbd hy;rw[hcl (by omega)];have e5:=ut hW oa (a2 (by omega)).1 (xe (a2 (by omega)).1)
  have b0:(cA im.classes y.a y.b).toNat≠45:=by
   have hq:=hy.fld (by omega);have a3:=List.getElem?_eq_getElem (hy.cls (by omega));unfold cF at hq;unfold cA;rw[a3]at hq⊢;simp at hq⊢;rw[List.getElem?_eq_getElem hq];exact qO (n:=im.classes.length) (ez (by have:=hy.cls (by omega);omega) ((hW.cls _ _ a3).2.2.2 _ (List.getElem_mem hq)))
  simp[b7,ay,du,aF,h,br,cH,bE,arith,hf,vz,e5,ur,b0]
  cases bP im.classes a (cL y.a)<;>simp
 ·have ha:az y.op=2:=by unfold az;simp[h]
  rw[ha]at hl;obtain⟨a,b,rfl⟩:=oo hl;have oa:=hok a (by simp);have na:=hne a (by simp);have ob:=hok b (by simp);have nb:=hne b (by simp);rw[cz,a1 _ h (by omega),eo,en];have hf:bM (bI (im.classes.map toX) (cL y.a)) y.b=cA im.classes y.a y.b:=sG hW (hy.cls (by omega)) (hy.fld (by omega));rw[hcl (by omega)];have e5:=ut hW oa (a2 (by omega)).1 (xe (a2 (by omega)).1)
  have a5:okT im.classes.length (cA im.classes y.a y.b)=true:=by
   have hq:=hy.fld (by omega);have a3:=List.getElem?_eq_getElem (hy.cls (by omega));unfold cF at hq;unfold cA;rw[a3]at hq⊢;simp at hq⊢;rw[List.getElem?_eq_getElem hq];exact jD (ez (by have:=hy.cls (by omega);omega) ((hW.cls _ _ a3).2.2.2 _ (List.getElem_mem hq)))
  have e6:=ut hW ob a5 (xe a5);simp[b7,ay,du,aF,h,br,cH,bE,arith,hf,lE,e5,e6,jO]
  cases bP im.classes a (cL y.a)<;>cases bP im.classes b (cA im.classes y.a y.b)<;>simp
 ·have ha:az y.op=2:=by unfold az;simp[h]
  rw[ha]at hl;obtain⟨a,b,rfl⟩:=oo hl;have oa:=hok a (by simp);have na:=hne a (by simp);have ob:=hok b (by simp);have nb:=hne b (by simp);rw[cz,a1 _ h (by omega),eo,en];have e3:=lr (hy.sig h);rw[hcl (by omega)];have hs:=hW.sig _ (List.getElem_mem (hy.sig h));have a4:okT im.classes.length (ia im.sigs y.b)=true:=by unfold ia;rw[List.getElem?_eq_getElem (hy.sig h)];exact jD hs.1
  have b1:(fm im.sigs y.b).toNat≠45:=by unfold fm;rw[List.getElem?_eq_getElem (hy.sig h)];exact qO hs.2
  have e5:=ut hW oa (a2 (by omega)).1 (xe (a2 (by omega)).1);have e6:=ut hW ob a4 (xe a4);simp[b7,ay,du,aF,lE,e3.1,e3.2,e5,e6,br,cH,bE,arith,h,jO,b1]
  cases bP im.classes a (cL y.a)<;>cases bP im.classes b (ia im.sigs y.b)<;>simp
 ·have ha:az y.op=1:=by unfold az;simp[h]
  rw[ha]at hl;obtain⟨a,rfl⟩:=Ay hl;have oa:=hok a (by simp);have na:=hne a (by simp);rw[cz,a1 _ h (by omega),eo,en];rw[hcl (by omega)];simp[b7,ay,du,aF,vz,Bz hW oa,br,cH,bE,arith,h,(a2 (by omega)).2]
 ·have ha:az y.op=2:=by unfold az;simp[h]
  rw[ha]at hl;obtain⟨a,b,rfl⟩:=oo hl;have oa:=hok a (by simp);have na:=hne a (by simp);have ob:=hok b (by simp);have nb:=hne b (by simp);rw[cz,a1 _ h (by omega),eo,en];simp[b7,ay,du,aF,kN,br,cH,bE,arith,h,bM,nb]
 ·have ha:az y.op=3:=by unfold az;simp[h]
  rw[ha]at hl;obtain⟨a,b,c,rfl⟩:=CN hl;have oa:=hok a (by simp);have na:=hne a (by simp);have ob:=hok b (by simp);have nb:=hne b (by simp);have oc:=hok c (by simp);have nc:=hne c (by simp);rw[cz,a1 _ h (by omega),eo,en];have e5:=mp hW.cls hW.nc ob oc;simp[b7,ay,du,aF,Cv,kO hW oa,br,cH,bE,arith,h,bM,e5]
 ·have ha:az y.op=2:=by unfold az;simp[h]
  rw[ha]at hl;obtain⟨a,b,rfl⟩:=oo hl;have oa:=hok a (by simp);have na:=hne a (by simp);have ob:=hok b (by simp);have nb:=hne b (by simp);rw[cz,a1 _ h (by omega),eo,en];simp[b7,ay,du,aF,Cu,kO hW oa,br,cH,bE,arith,h,bM]
end
section
variable {im:Img} {bd:Bod}
structure BA (im:Img) (bd:Bod) (q:Nat) (ty:List UInt8):Prop where
 len:ty.length=bd.code.length
 at': ∀k,q≤k→k<bd.code.length→bY im.classes im.sigs bd.locals bd.code bd.code.length k=some (ty.getD k 0)∧(ty.getD k 0).toNat≠45
theorem yZ (hW:gH im) (hbd:ki im.classes im.sigs bd) {p:Nat} {ty:List UInt8} (h:BA im bd (p+1) ty) (hp:p<bd.code.length):
  (stepX (im.classes.map toX) im.sigs bd.locals bd.code p ty=none∧bY im.classes im.sigs bd.locals bd.code bd.code.length p=none)∨ ∃ty',stepX (im.classes.map toX) im.sigs bd.locals bd.code p ty=some ty'∧BA im bd p ty':=by
 have hy:=List.getElem?_eq_getElem hp;obtain⟨y,a6⟩: ∃y,bd.code[p]=y:=⟨_,rfl⟩;rw[a6]at hy;have a1: ∀k,k∈dt bd.code p→bM ty k=ty.getD k 0:=fun k hk=>mV (by rw[h.len];exact(gD hk).2)
 have a0:bQ bd.code (bY im.classes im.sigs bd.locals bd.code bd.code.length) (az y.op) (p+1)=some ((dt bd.code p).map (bM ty)):=by
  have e:dt bd.code p=cy bd.code (az y.op) (p+1):=by unfold dt;rw[hy]
  rw[e];refine uq ?_ ?_
  ·rw[←e];exact sF hbd.full hy
  ·intro q hq;rw[←e]at hq;have hm:=gD hq;rw[a1 q hq];exact(h.at' q (by omega) hm.2).1
 have a5:=hbd.code y (List.mem_of_getElem? hy)
 have a4:=yY hW hbd a5 (ts:=(dt bd.code p).map (bM ty)) (by rw[List.length_map];exact sF hbd.full hy) (fun c hc=>by
  obtain⟨q,hq,rfl⟩:=List.mem_map.1 hc;rw[a1 q hq];exact vq hW hbd (h.at' q (by have:=(gD hq).1;omega) (gD hq).2).1) (fun c hc=>by
  obtain⟨q,hq,rfl⟩:=List.mem_map.1 hc;rw[a1 q hq];exact(h.at' q (by have:=(gD hq).1;omega) (gD hq).2).2)
 have a3:bY im.classes im.sigs bd.locals bd.code bd.code.length p=cz (im.classes.map toX) im.sigs bd.locals y ((dt bd.code p).map (bM ty)):=by
  rw[pH hy,a0,a4]
 unfold stepX;rw[hy];simp only
 cases hx:cz (im.classes.map toX) im.sigs bd.locals y ((dt bd.code p).map (bM ty))with
 |none=>exact Or.inl ⟨rfl,by rw[a3,hx]⟩
 |some c=>
  right
  have a2:c.toNat≠45:=by
   unfold cz at hx
   split at hx
   ·rename_i hh
    cases hx
    exact hh.2
   ·cases hx
  refine⟨ty.set p c,rfl,by rw[List.length_set];exact h.len,fun k h1 h2=> ?_⟩
  by_cases hk:p=k
  ·subst hk;have e:(ty.set p c).getD p 0=c:=by simp[List.getD,h.len,hp]
   rw[e,a3,hx];exact⟨rfl,a2⟩
  ·have e:(ty.set p c).getD k 0=ty.getD k 0:=by simp[List.getD,List.getElem?_set_ne hk]
   rw[e];exact h.at' k (by omega) h2
theorem BB (hW:gH im) (hbd:ki im.classes im.sigs bd):okT im.classes.length (aN im.sigs bd).ans=true∧(aN im.sigs bd).ans=if bd.cls<0 then 105 else fm im.sigs bd.meth.toNat:=by
 rcases hbd.cls with⟨h1,_⟩ | ⟨h1,h2,h3,h4⟩
 ·simp[aN,h1,rS]
 ·have hn: ¬bd.cls<0:=by omega
  have hm:bd.meth.toNat<im.sigs.length:=by omega
  have e:=(lr hm).2;simp only[aN,hn,if_false,e,and_true];unfold fm;rw[List.getElem?_eq_getElem hm];exact jD (hW.sig _ (List.getElem_mem hm)).2
theorem Az (hW:gH im) (hbd:ki im.classes im.sigs bd): ∀{q:Nat} {ty:List UInt8},q≤bd.code.length→BA im bd q ty→qM (im.classes.map toX) (aN im.sigs bd).ans (mN (im.classes.map toX) im.sigs bd.locals bd.code q ty)=dR im bd:=by
 intro q
 induction q with
 |zero=>
  intro ty _ h;have h0:=rR (m:=0) hbd.full;obtain⟨e1,e2⟩:=h.at' 0 (Nat.le_refl _) h0;obtain⟨a1,a2⟩:=BB hW hbd;simp only[mN,qM,dR,e1];rw[mV (by rw[h.len];exact h0),gr hW.cls hW.nc (vq hW hbd e1) a1,a2]
 |succ p ih=>
  intro ty hq h;rcases yZ hW hbd h (by omega)with⟨h1,h2⟩ | ⟨ty',h1,h2⟩
  ·simp only[mN,h1,qM,dR]
   have hr:bY im.classes im.sigs bd.locals bd.code bd.code.length 0=none:=by
    cases hr:bY im.classes im.sigs bd.locals bd.code bd.code.length 0 with
    |none=>rfl
    |some c=>exact absurd h2 (yW hbd.full (by rw[hr];simp) p (by omega))
   rw[hr]
  ·simp only[mN,h1];exact ih (by omega) h2
theorem AA (hW:gH im) (hbd:ki im.classes im.sigs bd):yX (im.classes.map toX) im.sigs bd.locals bd.code (aN im.sigs bd).ans=dR im bd:=by
 unfold yX;exact Az hW hbd (Nat.le_refl _) ⟨by simp,fun k h1 h2=>by omega⟩
end
end
section
open Go Go.RowKit Sp
attribute [local go_sem ↓] Go.wp_at_zero Go.wp_at_succ
theorem dA.but {w w':World} {g:Nat} {im:Img} (h:dA w g im) (hb:But (fun _=>False) w w'):dA w' g im:=by
 obtain⟨bs,h1,h2⟩:=h.bod;exact⟨h.cls.but hb,h.met.but hb,bs,h1.but hb,h2.but hb (fun _ _ _ _ h=>h)⟩
theorem xf (g:Nat) (im:Img) (w:World) (hW:gH im) (hTX:dA w g im):
  Calls Tryz.prog 64 #[.pointer (some ⟨g,0,none⟩),.int .i64 (-1)] w fun en w'=>But (fun _=>False) w w'∧en= .returned (eX g im):=by
 have a5:But (fun _=>False) w (w.alloc (.cells #[.int .i64 0,.int .i64 0,.pointer none,.slice none 0 0] 60)):=But.alloc _ _ _;have a0:=heap_alloc_new w (.cells #[.int .i64 0,.int .i64 0,.pointer none,.slice none 0 0] 60)
 cases hfs:im.bodies.findSome? (fun b=>unl im.classes im.bodies b.code)with
 |some q=>
  have e1:((q:Int)== -1)=false:=by rw[beq_eq_false_iff_ne];omega
  have e2:((q:Int)!= -1)=true:=by simp[bne,e1]
  have b1: ¬(q:Int)= -1:=by omega
  have a4:=om g im (w.alloc (.cells #[.int .i64 0,.int .i64 0,.pointer none,.slice none 0 0] 60)) hW (hTX.but a5);rw[hfs]at a4;simp only[kJ]at a4;rw[show eX g im= .agg #[.int .i64 3,.int .i64 q,.pointer none,.slice none 0 0]from by unfold eX;rw[hfs]];have a1:=hid a4;clear a4 hfs
  go_in
  go_wp2_with fail;revert a5 a0 a1;generalize (w.alloc (.cells #[.int .i64 0,.int .i64 0,.pointer none,.slice none 0 0] 60))=W;intro a5 a0 a1;have b0:=ae a0;refine a1.out.mono ?_;rintro en w2 ⟨rfl,a7⟩;have a6:=a5.trans a7;have a3:=(a7.block w.heap.size b0 (fun h=>h)).trans a0;have a8:=hid a3;obtain⟨q0,q1,q2,q3⟩:=dS a3;obtain⟨f0,f1,f2,f3⟩:=gT a3;clear a3 a0 a1;go_wp2_with fail;have h9:=dV a8.out (.int .i64 3) (.int .i64 q) (.pointer none) (.slice none 0 0);have a2:=eP w2 w.heap.size (.int .i64 3) (.int .i64 q) (.pointer none) (.slice none 0 0);unfold nQ at h9 a2;revert h9 a2;generalize ((((w2.setCell ⟨w.heap.size,0,none⟩ (.int .i64 3)).setCell ⟨w.heap.size,1,none⟩ (.int .i64 q)).setCell ⟨w.heap.size,2,none⟩ (.pointer none)).setCell ⟨w.heap.size,3,none⟩ (.slice none 0 0))=w9
  intro h9 a2;obtain⟨r0,r1,r2,r3⟩:=dS h9;exact bodyPost_ret (v:= .agg #[.int .i64 3,.int .i64 q,.pointer none,.slice none 0 0]) (by simp[results,Tryz.results64,go_sem,r0,r1,r2,r3]) rfl ⟨a6.next a2 (fun k hk h=>by omega),rfl⟩
 |none=>
  have a4:=om g im (w.alloc (.cells #[.int .i64 0,.int .i64 0,.pointer none,.slice none 0 0] 60)) hW (hTX.but a5);rw[hfs]at a4;simp only[kJ]at a4;rw[show eX g im= .agg #[.int .i64 0,.int .i64 0,.pointer (some ⟨g,0,none⟩),.slice none 0 0]from by unfold eX;rw[hfs]];have a1:=hid a4;clear a4 hfs
  go_in
  go_wp2_with fail;revert a5 a0 a1;generalize (w.alloc (.cells #[.int .i64 0,.int .i64 0,.pointer none,.slice none 0 0] 60))=W;intro a5 a0 a1;have b0:=ae a0;refine a1.out.mono ?_;rintro en w2 ⟨rfl,a7⟩;have a6:=a5.trans a7;have a3:=(a7.block w.heap.size b0 (fun h=>h)).trans a0;have a8:=hid a3;obtain⟨q0,q1,q2,q3⟩:=dS a3;obtain⟨f0,f1,f2,f3⟩:=gT a3;clear a3 a0 a1;go_wp2_with fail;have h9:=dV a8.out (.int .i64 0) (.int .i64 0) (.pointer (some ⟨g,0,none⟩)) (.slice none 0 0);have a2:=eP w2 w.heap.size (.int .i64 0) (.int .i64 0) (.pointer (some ⟨g,0,none⟩)) (.slice none 0 0);unfold nQ at h9 a2;revert h9 a2
  generalize ((((w2.setCell ⟨w.heap.size,0,none⟩ (.int .i64 0)).setCell ⟨w.heap.size,1,none⟩ (.int .i64 0)).setCell ⟨w.heap.size,2,none⟩ (.pointer (some ⟨g,0,none⟩))).setCell ⟨w.heap.size,3,none⟩ (.slice none 0 0))=w9;intro h9 a2;obtain⟨r0,r1,r2,r3⟩:=dS h9;exact bodyPost_ret (v:= .agg #[.int .i64 0,.int .i64 0,.pointer (some ⟨g,0,none⟩),.slice none 0 0]) (by simp[results,Tryz.results64,go_sem,r0,r1,r2,r3]) rfl ⟨a6.next a2 (fun k hk h=>by omega),rfl⟩
theorem dA.off {F:Nat→Prop} {w w':World} {g:Nat} {im:Img} (h:dA w g im) (hb:But F w w') (hg: ¬F g) (hf: ∀k cur e,w.heap[k]?=some (.cells cur e)→(e=240∨e=243∨e=115∨e=219∨e=5∨e=3)→ ¬F k):dA w' g im:=by
 obtain⟨⟨v0,l,h0,hl,hO,hm,a2⟩,⟨v1,h1,_,a1⟩,bs,⟨v2,h2,_,hT⟩,a0⟩:=h;refine⟨⟨v0,l,(hb.cell (p:=⟨g,0,none⟩) hl hg).trans h0,Nat.lt_of_lt_of_le hl hb.size,aY hO hb (fun k cur hh _=>hf k cur _ hh (by simp)),hm,fun x hx=>aY (a2 x hx) hb (fun k cur hh _=>hf k cur _ hh (by simp))⟩,⟨v1,(hb.cell (p:=⟨g,1,none⟩) hl hg).trans h1,Nat.lt_of_lt_of_le hl hb.size,aY a1 hb (fun k cur hh _=>hf k cur _ hh (by simp))⟩,bs,⟨v2,(hb.cell (p:=⟨g,2,none⟩) hl hg).trans h2,Nat.lt_of_lt_of_le hl hb.size,hT.but hb (fun k e cur hh he _=>hf k cur e hh (by rcases he with h|h|h<;>simp[h]))⟩,a0.but hb (fun k cur hh _=>hf k cur _ hh (by simp))⟩
def kr (s:ByteArray) (w:World) (en:Ending) (w':World):Prop:=
 match dZ s with
 | .error (e,p)=>en= .returned (.agg #[.int .i64 e,.int .i64 p,.pointer none,.slice none 0 0])
 | .ok im=>
  match im.bodies.findIdx? (fun b=> !dR im b)with
  |some k=>en= .returned (.agg #[.int .i64 4,.int .i64 k,.pointer none,.slice none 0 0])
  |none=> ∃g,en= .returned (.agg #[.int .i64 0,.int .i64 0,.pointer (some ⟨g,0,none⟩),.slice none 0 0])∧gH im∧dA w' g im
theorem ik (s:ByteArray) (w:World) (hmax:s.size≤maxLen):
  Calls Tryz.prog 60 #[.string s] w fun en w'=>But (fun _=>False) w w'∧kr s w en w':=by
 have h0:But (fun _=>False) w (w.alloc (.cells #[.int .i64 0,.int .i64 0,.pointer none,.slice none 0 0] 60)):=But.alloc _ _ _;have f5:=heap_alloc_new w (.cells #[.int .i64 0,.int .i64 0,.pointer none,.slice none 0 0] 60)
 by_cases hbig:400<s.size
 ·have l6:400<(s.size:Int):=by omega
  have hL:dZ s= .error (1,0):=by unfold dZ;rw[if_pos hbig]
  have HL:=hid hL;clear hbig hL
  go_in
  go_wp2_with fail;have h9:=heap_alloc_new w (.cells #[.int .i64 1,.int .i64 0,.pointer none,.slice none 0 0] 60);have a0:But (fun _=>False) w (w.alloc (.cells #[.int .i64 1,.int .i64 0,.pointer none,.slice none 0 0] 60)):=But.alloc _ _ _;revert h9 a0;generalize (w.alloc (.cells #[.int .i64 1,.int .i64 0,.pointer none,.slice none 0 0] 60))=w9;intro h9 a0;obtain⟨r0,r1,r2,r3⟩:=dS h9;exact bodyPost_ret (v:= .agg #[.int .i64 1,.int .i64 0,.pointer none,.slice none 0 0]) (by simp[results,Tryz.results60,go_sem,r0,r1,r2,r3]) rfl ⟨a0,by unfold kr;rw[HL.out];rfl⟩
 ·have l6: ¬400<(s.size:Int):=by omega
  go_in
  go_wp2_with fail;revert h0 f5;generalize (w.alloc (.cells #[.int .i64 0,.int .i64 0,.pointer none,.slice none 0 0] 60))=W;intro h0 f5;have m5:=ae f5;have g7:=hid f5;clear f5;refine(un s W (by omega)).mono ?_;rintro en w1 ⟨i5,g,p,rfl,hg,m0⟩;have b3:=h0.trans i5;have b9:=hid ((i5.block w.heap.size m5 (fun h=>h)).trans g7.out);rcases m0 with⟨j,e0,rfl,j1⟩ | ⟨rfl,im,e0,h3⟩
  ·have HL:Hid (dZ s= .error (2,j)):=hid (by unfold dZ;rw[if_neg hbig,e0]);clear e0 hbig g7;have h5:=ae j1;go_wp2_with fail;refine(pC g j w1).mono ?_;rintro en w2 ⟨a7,rfl⟩;have a6:=b3.trans a7;have f7:=(a7.block g h5 (fun h=>h)).trans j1;obtain⟨t0,t1,t2⟩:=fw f7;have h6:=ae f7;have b1:=hid (a7.kp b9.out);go_wp2_with fail;have a3:But (fun _=>False) w2 (w2.alloc (.cells #[.int .i64 2,.int .i64 j,.pointer none,.slice none 0 0] 60)):=But.alloc _ _ _;have a5:=heap_alloc_new w2 (.cells #[.int .i64 2,.int .i64 j,.pointer none,.slice none 0 0] 60);revert a3 a5;generalize (w2.alloc (.cells #[.int .i64 2,.int .i64 j,.pointer none,.slice none 0 0] 60))=w3
   intro a3 a5;have b0:=a3.kp b1.out;have u2:=a3.kc t2 h6;clear t0 t1 t2;obtain⟨k0,k1,k2,k3⟩:=dS a5;obtain⟨q0,q1,q2,q3⟩:=dS b0;obtain⟨f0,f1,f2,f3⟩:=gT b0;have c6:=hid b0;clear b0 b1 b9 a5
   go_loopg [6] 0 (fun mm is wr=>is= .int .i64 0∧wr=w3)
   case atStart=>exact⟨rfl,rfl⟩
   case round=>
    obtain⟨rfl,i2⟩:=hrel;subst i2;go_wp2_with fail;have h9:=dV c6.out (.int .i64 2) (.int .i64 j) (.pointer none) (.slice none 0 0);have a0:=eP wr w.heap.size (.int .i64 2) (.int .i64 j) (.pointer none) (.slice none 0 0);unfold nQ at h9 a0;revert h9 a0;generalize ((((wr.setCell ⟨w.heap.size,0,none⟩ (.int .i64 2)).setCell ⟨w.heap.size,1,none⟩ (.int .i64 j)).setCell ⟨w.heap.size,2,none⟩ (.pointer none)).setCell ⟨w.heap.size,3,none⟩ (.slice none 0 0))=w9;intro h9 a0;obtain⟨r0,r1,r2,r3⟩:=dS h9;exact bodyPost_ret (v:= .agg #[.int .i64 2,.int .i64 j,.pointer none,.slice none 0 0]) (by simp[results,Tryz.results60,go_sem,r0,r1,r2,r3]) rfl ⟨(a6.trans a3).next a0 (fun k hk h=>by omega),by unfold kr;rw[HL.out];rfl⟩
  ·have hW:=rz (by omega) e0;have f9:=hid e0;clear e0 g7;have d6:=xf g im w1 hW h3;obtain⟨bs,⟨vb,i1,g3,lb,hO,hm,hf⟩,e5⟩:=h3.bod;obtain⟨a2,k9,rfl⟩:=aw hO;have j4:lb.length=im.bodies.length:=by rw[←e5.1,←hm];simp
   have n8:=hW.nb;have HM:=hid hm;clear hm
   cases hfs:im.bodies.findSome? (fun b=>unl im.classes im.bodies b.code)with
   |some q=>
    have HL:Hid (dZ s= .error (3,q)):=hid (by unfold dZ;rw[if_neg hbig,f9.out];simp only[hfs]);rw[show eX g im= .agg #[.int .i64 3,.int .i64 q,.pointer none,.slice none 0 0]from by unfold eX;rw[hfs]]at d6;have e2:=hid d6;clear d6 hfs hbig f9;go_wp2_with fail;refine e2.out.mono ?_;rintro en w2 ⟨a7,rfl⟩;have a6:=b3.trans a7;have b1:=hid (a7.kp b9.out);clear e2;go_wp2_with fail;have a3:But (fun _=>False) w2 (w2.alloc (.cells #[.int .i64 3,.int .i64 q,.pointer none,.slice none 0 0] 60)):=But.alloc _ _ _;have a5:=heap_alloc_new w2 (.cells #[.int .i64 3,.int .i64 q,.pointer none,.slice none 0 0] 60)
    revert a3 a5;generalize (w2.alloc (.cells #[.int .i64 3,.int .i64 q,.pointer none,.slice none 0 0] 60))=w3;intro a3 a5;have b0:=a3.kp b1.out;have u2:=((a7.trans a3).cell (p:=⟨g,2,none⟩) g3 (fun h=>h)).trans i1;have b4:0<(lb.length:Int)∨ ¬0<(lb.length:Int):=Decidable.em _;obtain⟨k0,k1,k2,k3⟩:=dS a5;obtain⟨q0,q1,q2,q3⟩:=dS b0;obtain⟨f0,f1,f2,f3⟩:=gT b0;have c6:=hid b0;clear b0 b1 b9 a5
    go_loopg [6] 0 (fun mm is wr=>is= .int .i64 0∧wr=w3)
    case atStart=>exact⟨rfl,rfl⟩
    case round=>
     obtain⟨rfl,i2⟩:=hrel;subst i2;rcases b4 with b4|b4
     ·go_wp2_with fail;have h9:=dV c6.out (.int .i64 3) (.int .i64 q) (.pointer none) (.slice none 0 0);have a0:=eP wr w.heap.size (.int .i64 3) (.int .i64 q) (.pointer none) (.slice none 0 0);unfold nQ at h9 a0;revert h9 a0;generalize ((((wr.setCell ⟨w.heap.size,0,none⟩ (.int .i64 3)).setCell ⟨w.heap.size,1,none⟩ (.int .i64 q)).setCell ⟨w.heap.size,2,none⟩ (.pointer none)).setCell ⟨w.heap.size,3,none⟩ (.slice none 0 0))=w9;intro h9 a0;obtain⟨r0,r1,r2,r3⟩:=dS h9;exact bodyPost_ret (v:= .agg #[.int .i64 3,.int .i64 q,.pointer none,.slice none 0 0]) (by simp[results,Tryz.results60,go_sem,r0,r1,r2,r3]) rfl ⟨(a6.trans a3).next a0 (fun k hk h=>by omega),by unfold kr;rw[HL.out];rfl⟩
     ·go_wp2_with fail;have h9:=dV c6.out (.int .i64 3) (.int .i64 q) (.pointer none) (.slice none 0 0);have a0:=eP wr w.heap.size (.int .i64 3) (.int .i64 q) (.pointer none) (.slice none 0 0);unfold nQ at h9 a0;revert h9 a0;generalize ((((wr.setCell ⟨w.heap.size,0,none⟩ (.int .i64 3)).setCell ⟨w.heap.size,1,none⟩ (.int .i64 q)).setCell ⟨w.heap.size,2,none⟩ (.pointer none)).setCell ⟨w.heap.size,3,none⟩ (.slice none 0 0))=w9;intro h9 a0;obtain⟨r0,r1,r2,r3⟩:=dS h9;exact bodyPost_ret (v:= .agg #[.int .i64 3,.int .i64 q,.pointer none,.slice none 0 0]) (by simp[results,Tryz.results60,go_sem,r0,r1,r2,r3]) rfl ⟨(a6.trans a3).next a0 (fun k hk h=>by omega),by unfold kr;rw[HL.out];rfl⟩
   |none=>
    have HL:Hid (dZ s= .ok im):=hid (by unfold dZ;rw[if_neg hbig,f9.out];simp only[hfs]);rw[show eX g im= .agg #[.int .i64 0,.int .i64 0,.pointer (some ⟨g,0,none⟩),.slice none 0 0]from by unfold eX;rw[hfs]]at d6;have e2:=hid d6;clear d6 hfs hbig f9;go_wp2_with fail;refine e2.out.mono ?_;rintro en w2 ⟨a7,rfl⟩;have a6:=b3.trans a7;have b1:=hid (a7.kp b9.out);clear e2;go_wp2_with fail;have a3:But (fun _=>False) w2 (w2.alloc (.cells #[.int .i64 0,.int .i64 0,.pointer (some ⟨g,0,none⟩),.slice none 0 0] 60)):=But.alloc _ _ _;have a5:=heap_alloc_new w2 (.cells #[.int .i64 0,.int .i64 0,.pointer (some ⟨g,0,none⟩),.slice none 0 0] 60)
    revert a3 a5;generalize (w2.alloc (.cells #[.int .i64 0,.int .i64 0,.pointer (some ⟨g,0,none⟩),.slice none 0 0] 60))=w3;intro a3 a5;have b0:=a3.kp b1.out;have a4:=a7.trans a3;have e7:=a6.trans a3;have f6:g<w3.heap.size:=Nat.lt_of_lt_of_le g3 a4.size;have n4:w.heap.size<w2.heap.size:=ae b1.out;have l0:=ae a5;have c6:=hid b0;have e9:=h3.but a4;have l4:=ag hO a4 (fun _ _ h=>h);have n3:=a4.kc i1 g3;have m3:g≠w2.heap.size:=by have:=Nat.lt_of_lt_of_le g3 a7.size;omega
    have HF:Hid (∀x∈lb,BtB w3 0 x.2.1 x.1.locals∧ItB w3 0 x.2.2 x.1.items):=hid (fun x hx=>⟨(hf x hx).1.but a4 (fun _ _ h=>h),ag (hf x hx).2 a4 (fun _ _ h=>h)⟩);have e6:=e5.but a4 (fun _ _ _ _ h=>h);clear b0 b1 b9 hf i1 hO
    go_loopg [6] lb.length (fun mm ks wr=> ∃(k:Nat),ks= .int .i64 k∧k≤lb.length∧k+mm≤lb.length∧lb.length≤k+mm∧But (fun _=>False) w3 wr∧Hid (∀j (hj:j<im.bodies.length),j<k→dR im im.bodies[j]=true))
    case atStart=>exact⟨0,rfl,by omega,by omega,by omega,But.refl _ _,fun j hj h=>absurd h (by omega)⟩
    case round=>
     obtain⟨k,rfl,n5,n6,n7,a8,HA⟩:=hrel;have j2:=a8.kp c6.out;have i7:=(a8.block w2.heap.size l0 (fun h=>h)).trans a5;have e3:=hid j2;have h7:=ae j2;have l3:=ae i7;have i0:=a8.kc n3 f6;have m4:g<wr.heap.size:=Nat.lt_of_lt_of_le f6 a8.size;have i4:=hid j4;clear j4;obtain⟨k0,k1,k2,k3⟩:=dS i7
     by_cases hlt:k<lb.length
     ·have n2:(k:Int)<(lb.length:Int):=by omega
      have hx:=List.getElem?_eq_getElem hlt;have l5:=ag l4 a8 (fun _ _ h=>h);obtain⟨gB,m1,m2,_,a1⟩:=aI l5 (by omega);obtain⟨X,hX⟩: ∃X,lb[k]=X:=⟨_,rfl⟩;have j3:k<im.bodies.length:=by rw[←i4.out];exact hlt
      have g2:=List.getElem?_eq_getElem j3;obtain⟨bd,g1⟩: ∃bd,im.bodies[k]=bd:=⟨_,rfl⟩;rw[g1]at g2;have j0:bs[k]?=some X.1:=by rw[←HM.out,List.getElem?_map,hx,hX];rfl
      have e4:=(e6.but a8 (fun _ _ _ _ h=>h)).2 k X.1 bd j0 g2;have j5:ki im.classes im.sigs bd:=hW.bod _ (List.mem_of_getElem? g2);obtain⟨b6,b5⟩:=HF.out _ (List.getElem_mem hlt);rw[hX]at b6 b5 hx;have g5:=BtB.but b6 a8 (fun _ _ h=>h);have g4:ItB wr 0 X.2.2 X.1.items:=ag b5 a8 (fun _ _ h=>h);clear b6 b5 hX;have p0:wr.cell? ⟨gB,k*5,none⟩=some (.int .u8 X.1.cls.toNat):=a1 _ _ (aW (k:=0) hx (by omega));have p1:wr.cell? ⟨gB,k*5+1,none⟩=some (.int .i64 X.1.meth):=a1 _ _ (aW (k:=1) hx (by omega));have p2:wr.cell? ⟨gB,k*5+2,none⟩=some (.int .u8 X.1.ans.toNat):=a1 _ _ (aW (k:=2) hx (by omega));have p3:wr.cell? ⟨gB,k*5+3,none⟩=some X.2.1:=a1 _ _ (aW (k:=3) hx (by omega))
      have p4:wr.cell? ⟨gB,k*5+4,none⟩=some X.2.2:=a1 _ _ (aW (k:=4) hx (by omega));obtain⟨⟨xc,xm,xa,xl,xi⟩,xv,xw⟩:=X;dsimp only at p0 p1 p2 p3 p4 g5 g4 e4;obtain⟨al,capl,rfl⟩:=aw g5;obtain⟨ai,capi,rfl⟩:=aw g4;have b2:=e9.but a8;have n1:xi.length≤24:=by have h1:xi.length=bd.code.length:=e4.its.len;have:=j5.len;omega
      have g0:=qN g (im.classes.map toX) im.sigs xc xm xa al ai capl capi xl xi bd.code wr (by rw[List.length_map];have:=hW.nc;omega) (by have:=hW.ns;omega) n1 b2.cls b2.met g5 g4 e4.its
      have e1:yX (im.classes.map toX) im.sigs xl bd.code xa=dR im bd:=by
       have h1:xl=bd.locals:=e4.loc;have h2:xa=(aN im.sigs bd).ans:=e4.ans;rw[h1,h2];exact AA hW j5
      rw[e1]at g0;unfold hdV at g0;have i3:=hid g0;subst m1
      have f8:Hid ((dR im bd=false→im.bodies.findIdx? (fun b=> !dR im b)=some k)∧(dR im bd=true→ ∀j (hj:j<im.bodies.length),j<k+1→dR im im.bodies[j]=true)):=by
       refine hid ⟨fun h=> ?_,fun h j hj hjk=> ?_⟩
       ·rw[List.findIdx?_eq_some_iff_getElem];exact⟨j3,by rw[g1,h];rfl,fun j hj=>by rw[HA.out j (by omega) hj];simp⟩
       ·rcases Nat.lt_or_ge j k with h'|h'
        ·exact HA.out j hj h'
        ·have:j=k:=by omega
         subst this;rw[g1];exact h
      clear g0 e1 a1 hx j0 g2 g1 g4 g5;go_wp2_with fail;refine i3.out.mono ?_;rintro en w4 ⟨i6,rfl⟩;have e8:=a8.trans i6;have f4:=(i6.block w.heap.size h7 (fun h=>h)).trans e3.out;have j7:=hid f4;have n0:=ae f4;obtain⟨q0,q1,q2,q3⟩:=dS f4;obtain⟨f0,f1,f2,f3⟩:=gT f4;clear i3 p0 p1 p2 p3 p4 i0 f4 k0 k1 k2 k3
      cases hbt:dR im bd with
      |false=>
       have g6:=hid (f8.out.1 hbt);clear hbt f8;go_wp2_with fail;have h9:=dV j7.out (.int .i64 4) (.int .i64 k) (.pointer none) (.slice none 0 0);have a0:=eP w4 w.heap.size (.int .i64 4) (.int .i64 k) (.pointer none) (.slice none 0 0);unfold nQ at h9 a0;revert h9 a0;generalize ((((w4.setCell ⟨w.heap.size,0,none⟩ (.int .i64 4)).setCell ⟨w.heap.size,1,none⟩ (.int .i64 k)).setCell ⟨w.heap.size,2,none⟩ (.pointer none)).setCell ⟨w.heap.size,3,none⟩ (.slice none 0 0))=w9;intro h9 a0;obtain⟨r0,r1,r2,r3⟩:=dS h9;exact bodyPost_ret (v:= .agg #[.int .i64 4,.int .i64 k,.pointer none,.slice none 0 0]) (by simp[results,Tryz.results60,go_sem,r0,r1,r2,r3]) rfl ⟨(e7.trans e8).next a0 (fun k' hk' h=>by omega),by unfold kr;rw[HL.out];simp only[g6.out]⟩
      |true=>
       have HY:=hid (f8.out.2 hbt);clear hbt f8;go_wp2_with fail
       go_roundg (lb.length-(k+1))
       case measure=>omega
       case rel=>exact⟨k+1,by simp,by omega,by omega,by omega,e8,HY⟩
     ·have n2: ¬(k:Int)<(lb.length:Int):=by omega
      have g6:Hid (im.bodies.findIdx? (fun b=> !dR im b)=none):=by
       refine hid ?_;rw[List.findIdx?_eq_none_iff];intro x hx;obtain⟨j,hj,rfl⟩:=List.getElem_of_mem hx;simp[HA.out j hj (by have:=i4.out;omega)]
      clear HA;obtain⟨q0,q1,q2,q3⟩:=dS e3.out;obtain⟨f0,f1,f2,f3⟩:=gT e3.out;have b2:=e9.but a8;go_wp2_with fail;have h9:=dV e3.out (.int .i64 0) (.int .i64 0) (.pointer (some ⟨g,0,none⟩)) (.slice none 0 0);have a0:=eP wr w.heap.size (.int .i64 0) (.int .i64 0) (.pointer (some ⟨g,0,none⟩)) (.slice none 0 0);unfold nQ at h9 a0;revert h9 a0;generalize ((((wr.setCell ⟨w.heap.size,0,none⟩ (.int .i64 0)).setCell ⟨w.heap.size,1,none⟩ (.int .i64 0)).setCell ⟨w.heap.size,2,none⟩ (.pointer (some ⟨g,0,none⟩))).setCell ⟨w.heap.size,3,none⟩ (.slice none 0 0))=w9;intro h9 a0;obtain⟨r0,r1,r2,r3⟩:=dS h9
      have h4:dA w9 g im:=b2.off a0 (by omega) (fun k' cur e hh he h8=>by
       rw[h8,e3.out]at hh;injection hh with hh;injection hh with _ h2;rw[←h2]at he;revert he
       decide)
      exact bodyPost_ret (v:= .agg #[.int .i64 0,.int .i64 0,.pointer (some ⟨g,0,none⟩),.slice none 0 0]) (by simp[results,Tryz.results60,go_sem,r0,r1,r2,r3]) rfl ⟨(e7.trans a8).next a0 (fun k' hk' h=>by omega),by unfold kr;rw[HL.out];simp only[g6.out];exact⟨g,rfl,hW,h4⟩⟩
theorem xg (s:ByteArray) (w:World) (hmax:s.size≤maxLen):
  Calls Tryz.prog 33 #[.string s] w fun en w'=>en= .returned (.tuple #[.int .i64 (dK s).1,.int .i64 (dK s).2])∧But (fun _=>False) w w':=by
 have key:Calls Tryz.prog 60 #[.string s] w fun en w'=>But (fun _=>False) w w'∧ ∃p ao cap n,en= .returned (.agg #[.int .i64 (dK s).1,.int .i64 (dK s).2,.pointer p,.slice ao n cap]):=by
  refine(ik s w hmax).mono ?_;rintro en w' ⟨hB,hE⟩;refine⟨hB,?_⟩;unfold kr at hE;unfold dK
  cases hl:dZ s with
  |error e=>
   rw[hl]at hE;obtain⟨e,p⟩:=e;exact⟨_,_,_,_,hE⟩
  |ok im=>
   rw[hl]at hE;simp only at hE⊢
   cases ht:im.bodies.findIdx? (fun b=> !dR im b)with
   |some k=>rw[ht]at hE;exact⟨_,_,_,_,hE⟩
   |none=>
    rw[ht]at hE;obtain⟨g,h1,_⟩:=hE;exact⟨_,_,_,_,h1⟩
 have HK:=hid key;clear key;obtain⟨E,hE⟩: ∃E,dK s=E:=⟨_,rfl⟩;rw[hE]at HK;rw[hE];clear hE;obtain⟨e,p⟩:=E;dsimp only at HK⊢
 go_in
 go_wp2_with fail;refine HK.out.mono ?_;rintro en w1 ⟨a4,p1,ao,cap,n,rfl⟩;go_wp2_with fail;have a2:But (fun _=>False) w1 (w1.alloc (.cells #[.int .i64 e,.int .i64 p,.pointer p1,.slice ao n cap] 60)):=But.alloc _ _ _;have a1:=heap_alloc_new w1 (.cells #[.int .i64 e,.int .i64 p,.pointer p1,.slice ao n cap] 60);revert a2 a1;generalize (w1.alloc (.cells #[.int .i64 e,.int .i64 p,.pointer p1,.slice ao n cap] 60))=W;intro a2 a1;obtain⟨k0,k1,k2,k3⟩:=dS a1;have a3:=ae a1;have a0:But (fun _=>False) W W.drew:=But.drew _ _;refine cB (But (fun _=>False) W) 5 (by kernel_rfl) ?_;have fSA:=hid (fun wS (h:(But (fun _=>False) W) wS)=>(And.intro (h.kc k0 a3) (h.kc k1 a3)))
 refine aB (k:=2) (v:= ?vA2) rfl (by decide) (by kernel_rfl) (fun _ _ _ h=>h) rfl a0 ?yA2 ?rA2
 case yA2=>intro wS h;obtain⟨q0,q1⟩:=fSA.out wS h;clear h;go_simp;try rfl
 dsimp only[Act.put]
 try simp only[aL]
 refine aB (k:=3) (v:= ?vA3) rfl (by decide) (by kernel_rfl) (fun _ _ _ h=>h) rfl a0 ?yA3 ?rA3
 case yA3=>intro wS h;obtain⟨q0,q1⟩:=fSA.out wS h;clear h;go_simp;try rfl
 dsimp only[Act.put]
 try simp only[aL]
 refine aB (k:=0) (v:= ?vA0) rfl (by decide) (by kernel_rfl) (fun _ _ _ h=>h) rfl a0 ?yA0 ?rA0
 case yA0=>intro wS h;obtain⟨q0,q1⟩:=fSA.out wS h;clear h;go_simp;try rfl
 dsimp only[Act.put]
 try simp only[aL]
 refine aB (k:=1) (v:= ?vA1) rfl (by decide) (by kernel_rfl) (fun _ _ _ h=>h) rfl a0 ?yA1 ?rA1
 case yA1=>intro wS h;obtain⟨q0,q1⟩:=fSA.out wS h;clear h;go_simp;try rfl
 dsimp only[Act.put]
 try simp only[aL]
 try clear fSA
 refine aE (k:=4) rfl (by decide) (by kernel_rfl) ?_;intro KS hKS;go_simp;refine hKS.out _ _ (fun _=>a0) ?_;clear hKS KS;refine aE (k:=5) rfl (by decide) (by kernel_rfl) ?_;intro KS hKS;go_simp;refine hKS.out _ _ nofun ?_;clear hKS KS;refine ck rfl (by kernel_rfl) ?_;go_wp2_with fail;exact bodyPost_ret (v:= .tuple #[.int .i64 e,.int .i64 p]) (by simp[results,Tryz.results33,go_sem]) rfl ⟨rfl,(a4.trans a2).trans a0⟩
end
end Go.Proofs.YtpfkkmacakjmbaaGreatDoor
