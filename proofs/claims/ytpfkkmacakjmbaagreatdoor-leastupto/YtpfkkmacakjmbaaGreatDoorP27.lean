import Derived.Test.YtpfkkmacakjmbaaGreatDoorP26
set_option maxRecDepth 100000
set_option maxHeartbeats 6400000
set_option linter.unusedSimpArgs false
set_option linter.unusedVariables false
namespace Go.Proofs.YtpfkkmacakjmbaaGreatDoor
section
open Go Go.RowKit Sp
theorem vz: ∀{its:List XIt} {is:List Ins} {p:XIt→Bool} {q:Ins→Bool},its.length=is.length→(∀(k:Nat) x y,its[k]?=some x→is[k]?=some y→p x=q y∧x.place=y.pos)→(its.find? p).map (·.place)=(is.find? q).map (·.pos):=by
 intro its
 induction its with
 |nil=>intro is p q hl _;cases is with|nil=>rfl|cons y is=>simp at hl
 |cons x its ih=>
  intro is p q hl h
  cases is with
  |nil=>simp at hl
  |cons y is=>
   obtain⟨h1,h2⟩:=h 0 x y rfl rfl;rw[List.find?_cons,List.find?_cons,h1]
   cases q y with
   |true=>simp[h2]
   |false=>exact ih (by simpa using hl) (fun k a b ha hb=>h (k+1) a b (by simpa using ha) (by simpa using hb))
theorem nQ {α β γ:Type}: ∀{bs:List α} {BS:List β} {f:α→Option γ} {g:β→Option γ},bs.length=BS.length→(∀(k:Nat) x y,bs[k]?=some x→BS[k]?=some y→f x=g y)→bs.findSome? f=BS.findSome? g:=by
 intro bs
 induction bs with
 |nil=>intro BS f g hl _;cases BS with|nil=>rfl|cons y BS=>simp at hl
 |cons x bs ih=>
  intro BS f g hl h
  cases BS with
  |nil=>simp at hl
  |cons y BS=>
   rw[List.findSome?_cons,List.findSome?_cons,h 0 x y rfl rfl,ih (by simpa using hl) (fun k a b ha hb=>h (k+1) a b (by simpa using ha) (by simpa using hb))]
theorem rJ {cs:List bz} {xs ys:List ba} (h:xs.map iL=ys.map iL) (m:Nat): ∀(f:Nat) (c:UInt8),fM cs xs m f c=fM cs ys m f c:=by
 intro f
 induction f with
 |zero=>intro c;rfl
 |succ f ih=>
  intro c;simp only[fM,kZ h,mM h,ih]
theorem zv {cs:List Cls} {gs:List Sig} {b:Bod} (h:jy cs gs b) (hn:cs.length≤4):(b.cls= -1)∨eD b:=by
 rcases h.cls with⟨h1,_⟩ | ⟨h1,h2,h3,h4⟩
 ·exact Or.inl h1
 ·exact Or.inr ⟨h1,by omega,h3⟩
theorem tr (y:Ins):(bp y).place=y.pos:=by unfold bp;split<;>rfl
theorem A6 {cs:List Cls} {gs:List Sig} {BS:List Bod} {bs:List ba} {y:Ins} {x:XIt} {nl n n':Nat} (hw:WfC cs) (hn:cs.length≤4) (hB: ∀b∈BS,(b.cls= -1)∨eD b) (hy:WfN cs gs.length nl y) (hh:bs.map iL=(BS.map (aW gs)).map iL)
  (h1:x.op=(bp y).op) (h2:x.cls=(bp y).cls) (h3:x.num=(bp y).num):eu (cs.map toX) bs n x=cw cs BS n' y:=by
 have a3:=hy.op;have a2: ∀v:Nat,cV.contains v=false→y.op.toNat≠v:=fun v hv h=>by rw[h,hv]at a3;cases a3
 have a1:=a2 106 (by decide);have a0:=a2 102 (by decide);unfold eu cw;rw[h1,h2,h3]
 by_cases hd:bu y.op=true
 ·have hr:=iR hd;have e1:bp y=⟨y.pos,107,45,y.b,none,0,0⟩:=by unfold bp;rw[if_pos hd]
  rw[e1];have a4: ¬y.op.toNat=99:=by omega
  simp[a1,a0,a4]
 ·have e1:bp y=bj y:=by unfold bp;rw[if_neg hd]
  rw[e1];have e2:(bj y).op=y.op:=rfl;have e3:(bj y).num=y.b:=rfl;rw[e2,e3,if_neg (by omega)]
  by_cases h9:y.op.toNat=99
  ·rw[if_pos h9];have ha:=hy.cls (by omega)
   have e4:(bj y).cls=UInt8.ofNat (65+y.a):=by
    unfold bj;rw[if_pos (by omega)]
   rw[e4,List.length_map,rJ hh,lA hw hn hB y.b cs.length 5 y.a ha ha (by omega)];simp[h9]
  ·rw[if_neg h9];simp[h9,a1,a0]
theorem mV (b:Nat) (im:Img) (w:World) (hW:gR im) (hT:eZ w b im):
  Calls Tryz.prog 104 #[.pointer (some ⟨b,0,none⟩)] w fun e w'=>e= .returned (.int .i64 (jT (im.bodies.findSome? (fun b=>unl im.classes im.bodies b.code))))∧But (fun _=>False) w w':=by
 obtain⟨bs,a3,a0⟩:=hT.bod
 have a1:(bs.findSome? fun x=>ky (im.classes.map toX) bs x.items)=im.bodies.findSome? (fun b=>unl im.classes im.bodies b.code):=by
  refine nQ a0.1 (fun k X B hX hB=> ?_);have h1:=a0.2 k X B hX hB;have a4:=hW.bod B (List.mem_of_getElem? hB);unfold ky unl;refine vz h1.its.len (fun q x y hx hy=> ?_);obtain⟨e1,e2,e3,e4,_⟩:=h1.its.at' q y x hy hx;exact⟨A6 hW.cls hW.nc (fun b hb=>zv (hW.bod b hb) hW.nc) (a4.code y (List.mem_of_getElem? hy)) a0.heads e2 e3 e4,by rw[e1,tr]⟩
 rw[←a1];refine iG b (im.classes.map toX) bs w (by rw[List.length_map];have:=hW.nc;omega) (by rw[a0.1];have:=hW.nb;omega) ?_ hT.cls a3;intro x hx;obtain⟨k,hk,rfl⟩:=List.getElem_of_mem hx;have a2:k<im.bodies.length:=by rw[←a0.1];exact hk
 have h1:=a0.2 k _ _ (List.getElem?_eq_getElem hk) (List.getElem?_eq_getElem a2);have:=(hW.bod _ (List.getElem_mem a2)).len;rw[h1.its.len];omega
theorem zw: ∀{t:List Ins} {m:Nat},full m t→ ∀i,i<t.length→ ∃m',full (m'+1) (t.drop i):=by
 intro t
 induction t with
 |nil=>intro m _ i h;simp at h
 |cons x t ih=>
  intro m h i hi
  cases m with
  |zero=>cases h
  |succ m=>
   cases i with
   |zero=>exact⟨m,h⟩
   |succ i=>exact ih (m:=m+aw x.op) h i (by simpa using hi)
theorem xW {t:List Ins}: ∀{j m k:Nat},full (m+j) (t.drop k)→(cd t j k).length=j:=by
 intro j
 induction j with
 |zero=>intro m k _;rfl
 |succ j ih=>
  intro m k h;have h0:=re (m:=m+j) (by rw[show m+j+1=m+(j+1)from by omega];exact h);rw[List.length_drop]at h0;have h1:=uS (u:=t.drop k) (m:=m+j) (by rw[show 1+(m+j)=m+(j+1)from by omega];exact h);rw[List.drop_drop]at h1;simp only[cd,show k<t.length from by omega,if_true,List.length_cons];rw[ih (m:=m) (k:=bg t k) h1]
theorem rK {t:List Ins} (hf:full 1 t) {i:Nat} {x:Ins} (hx:t[i]?=some x):(dg t i).length=aw x.op:=by
 obtain⟨hl,hg⟩:=List.getElem?_eq_some_iff.1 hx;obtain⟨m,hm⟩:=zw hf i hl;rw[List.drop_eq_getElem_cons hl,hg]at hm;have a0:full (m+aw x.op) (t.drop (i+1)):=hm;unfold dg;rw[hx];exact xW a0
theorem xX {t:List Ins}: ∀{j k:Nat},∀q∈cd t j k,k≤q∧q<t.length:=by
 intro j
 induction j with
 |zero=>intro k q h;simp[cd]at h
 |succ j ih=>
  intro k q h;unfold cd at h
  split at h
  ·rename_i hk
   rcases List.mem_cons.1 h with rfl|h
   ·exact⟨Nat.le_refl _,hk⟩
   ·have h1:=ih q h;have h2:=l7 hk;exact⟨by omega,h1.2⟩
  ·simp at h
theorem fS {t:List Ins} {i q:Nat} (h:q∈dg t i):i<q∧q<t.length:=by
 unfold dg at h
 split at h
 ·have:=xX q h;exact⟨by omega,this.2⟩
 ·simp at h
section
variable {cs:List Cls} {gs:List Sig} {lo:List UInt8} {t:List Ins}
theorem lD {f g:Nat→Option UInt8}: ∀{n k:Nat},(∀q,k≤q→q<t.length→f q=g q)→(∀q,t.length≤q→f q=none∧g q=none)→bF t f n k=bF t g n k:=by
 intro n
 induction n with
 |zero=>intro k _ _;rfl
 |succ n ih=>
  intro k h1 h2;unfold bF;rcases Nat.lt_or_ge k t.length with hk|hk
  ·rw[h1 k (Nat.le_refl _) hk,ih (fun q hq=>h1 q (by have:=l7 hk;omega)) h2]
  ·rw[(h2 k hk).1,(h2 k hk).2]
theorem dG {F q:Nat} (h:t.length≤q):bS cs gs lo t F q=none:=by
 cases F with
 |zero=>rfl
 |succ F=>simp[bS,List.getElem?_eq_none h]
theorem vA: ∀{F G k:Nat},t.length-k≤F→t.length-k≤G→bS cs gs lo t F k=bS cs gs lo t G k:=by
 intro F
 induction F with
 |zero=>intro G k h1 _;rw[dG (by omega),dG (by omega)]
 |succ F ih=>
  intro G k h1 h2
  cases G with
  |zero=>rw[dG (by omega),dG (by omega)]
  |succ G=>
   have hp: ∀n,bF t (bS cs gs lo t F) n (k+1)=bF t (bS cs gs lo t G) n (k+1):=fun n=>
    lD (fun q hq hl=>ih (by omega) (by omega)) (fun q hq=>⟨dG hq,dG hq⟩)
   simp only[bS,hp]
theorem oH {k:Nat} {x:Ins} (hx:t[k]?=some x):bS cs gs lo t t.length k=match bF t (bS cs gs lo t t.length) (aw x.op) (k+1)with
  |none=>none
  |some ts=>bk cs gs lo x ts:=by
 have hl:=(List.getElem?_eq_some_iff.1 hx).1;obtain⟨n,hn⟩: ∃n,t.length=n+1:=⟨t.length-1,by omega⟩;have h1:bS cs gs lo t t.length k=bS cs gs lo t (n+1) k:=by rw[hn]
 rw[h1]
 have hp:bF t (bS cs gs lo t n) (aw x.op) (k+1)=bF t (bS cs gs lo t t.length) (aw x.op) (k+1):=
  lD (fun q hq hl=>vA (by omega) (by omega)) (fun q hq=>⟨dG hq,dG hq⟩)
 simp only[bS,hx,hp]
 cases bF t (bS cs gs lo t t.length) (aw x.op) (k+1)<;>rfl
theorem tu {ty:Nat→UInt8}: ∀{n k:Nat},(cd t n k).length=n→(∀q∈cd t n k,bS cs gs lo t t.length q=some (ty q))→bF t (bS cs gs lo t t.length) n k=some ((cd t n k).map ty):=by
 intro n
 induction n with
 |zero=>intro k _ _;rfl
 |succ n ih=>
  intro k hl h;unfold cd at hl h⊢
  split at hl
  ·rename_i hk
   rw[if_pos hk]at h⊢;unfold bF;rw[h k (by simp),ih (by simpa using hl) (fun q hq=>h q (by simp[hq]))]
   rfl
  ·simp at hl
theorem zx: ∀{F k:Nat},t.length-k≤F→bS cs gs lo t t.length k≠none→ ∀j,k≤j→j<bg t k→bS cs gs lo t t.length j≠none:=by
 intro F
 induction F with
 |zero=>intro k hF h j _ _;exact absurd (dG (by omega)) h
 |succ F ih=>
  intro k hF h j h1 h2;rcases Nat.eq_or_lt_of_le h1 with rfl|h1
  ·exact h
  ·have hl:k<t.length:=by
    rcases Nat.lt_or_ge k t.length with hl|hl
    ·exact hl
    ·exact absurd (dG hl) h
   have hx:=List.getElem?_eq_getElem hl;rw[oH hx]at h;rw[jw hx]at h2
   have hp: ∀n p,k<p→bF t (bS cs gs lo t t.length) n p≠none→ ∀j,p≤j→j<p+sk n (t.drop p)→bS cs gs lo t t.length j≠none:=by
    intro n
    induction n with
    |zero=>intro p _ _ j a1 a2;rw[lX]at a2;omega
    |succ n ihn=>
     intro p a3 a0 j a1 a2;rw[kF]at a2;have hT:bS cs gs lo t t.length p≠none:=fun h0=>a0 (by simp[bF,h0])
     rcases Nat.lt_or_ge j (bg t p)with hj|hj
     ·exact ih (k:=p) (by omega) hT j a1 hj
     ·refine ihn (bg t p) ?_ ?_ j hj a2
      ·have:p<t.length:=by
        rcases Nat.lt_or_ge p t.length with hl|hl
        ·exact hl
        ·exact absurd (dG hl) hT
       have:=l7 this;omega
      ·intro h0
       apply a0
       unfold bF
       cases bS cs gs lo t t.length p<;>simp[h0]
   refine hp (aw t[k].op) (k+1) (by omega) ?_ j (by omega) h2;intro h0;rw[h0]at h;exact h rfl
theorem xY (hf:full 1 t) (h:bS cs gs lo t t.length 0≠none): ∀j,j<t.length→bS cs gs lo t t.length j≠none:=by
 intro j hj;refine zx (F:=t.length) (by omega) h j (Nat.zero_le _) ?_;unfold bg;rw[List.drop_zero];have:=t7 (v:=[]) hf;rw[List.append_nil]at this;omega
end
end
section
open Go Go.RowKit Sp
attribute [local go_sem ↓] Go.wp_at_zero Go.wp_at_succ
def cg (cs:List bz) (ms:List Sig) (lo:List UInt8) (y:Ins) (ps:List UInt8):Option UInt8:=
 if iM cs (bQ cs ms lo (bp y).op (bp y).cls (bp y).num) ps=true∧(dh cs ms lo (bp y).op (bp y).cls (bp y).num ps).toNat≠45 then some (dh cs ms lo (bp y).op (bp y).cls (bp y).num ps)else none
def iD (cs:List bz) (ms:List Sig) (lo:List UInt8) (is:List Ins) (i:Nat) (ty:List UInt8):Option (List UInt8):=match is[i]? with
 |none=>none
 |some y=>(cg cs ms lo y ((dg is i).map (bH ty))).map fun c=>ty.set i c
def lU (cs:List bz) (ms:List Sig) (lo:List UInt8) (is:List Ins):Nat→List UInt8→Option (List UInt8)
 |0,ty=>some ty
 |q+1,ty=>match iD cs ms lo is q ty with
  |none=>none
  |some ty'=>lU cs ms lo is q ty'
def pY (cs:List bz) (r:UInt8):Option (List UInt8)→Bool
 |none=>false
 |some ty=>dT cs (bH ty 0) r
def xZ (cs:List bz) (ms:List Sig) (lo:List UInt8) (is:List Ins) (r:UInt8):Bool:=pY cs r (lU cs ms lo is is.length (List.replicate is.length 0))
theorem zy (t:List Ins): ∀n k,(cd t n k).length≤n:=by
 intro n
 induction n with
 |zero=>intro k;simp[cd]
 |succ n ih=>
  intro k;unfold cd
  split
  ·have:=ih (bg t k);simp;omega
  ·simp
theorem zz (t:List Ins) (k:Nat):(dg t k).length≤3:=by
 unfold dg
 split
 ·rename_i x _
  have h:=zy t (aw x.op) (k+1);have:aw x.op≤3:=by unfold aw;split;omega;split;omega;split<;>omega
  omega
 ·simp
theorem vB (cs:List bz) (ms:List Sig) (lo:List UInt8) (c k:UInt8) (n:Nat):(bQ cs ms lo c k n).length≤2:=by
 unfold bQ az
 repeat' split
 all_goals simp
theorem zA (n:Nat):madeCells #[.int .u8 0] n=(aJ (List.replicate n 0)).toArray:=by
 apply Array.ext
 ·rw[size_madeCells];simp[aJ]
 ·intro k h1 h2;have e:k % 1=0:=by omega
  simp[madeCells,e,aJ]
theorem zB (n:Nat) (hn:n≤1000) (w:World):(Instr.makeSlice 112 (.int .i64 (n:Int)) (.int .i64 (n:Int))).run Tryz.prog w= .ok (.slice (some ⟨w.heap.size,0,none⟩) n n) (w.alloc (.cells (aJ (List.replicate n 0)).toArray 5)):=by
 have a0:=io
 cases hi:Tryz.prog.info? 5 with
 |none=>rw[hi]at a0;cases a0
 |some i=>
  rw[hi]at a0;simp only[Option.map_some,Option.some.injEq,Prod.mk.injEq]at a0;obtain⟨hz,hs,hb⟩:=a0;have:=run_make (P:=Tryz.prog) w 112 5 i _ (by kernel_rfl) hi hz .i64 .i64 n n (by omega) (by omega) (by rw[hb];omega) (by omega);rw[this,hs];simp only[Int.toNat_natCast,Value.cells,Nat.mul_one];rw[zA]
section
variable (b:Nat) (cs:List bz) (ms:List Sig) (c0:UInt8) (m0:Nat) (r0:UInt8) (al ai:Option Addr) (capl capi:Nat) (lo:List UInt8) (its:List XIt) (is:List Ins) (w:World)
theorem pZ (hn:cs.length≤100) (hm:ms.length≤100) (hlen:its.length≤24) (hT:TxC w b cs) (hM:TxM w b ms) (hB:BtB w 0 (.slice al lo.length capl) lo) (hI:ItB w 0 (.slice ai its.length capi) its) (hN:jz w 0 its is):
  Calls Tryz.prog 91 #[.pointer (some ⟨b,0,none⟩),hdV c0 m0 r0 (.slice al lo.length capl) (.slice ai its.length capi)] w fun en w'=>But (fun _=>False) w w'∧en= .returned (.bool (xZ cs ms lo is r0)):=by
 obtain⟨R,g2⟩: ∃R,xZ cs ms lo is r0=R:=⟨_,rfl⟩;rw[g2];have h1:=hN.len;have n5:=zB its.length (by omega);have l4:Hid (pY cs r0 (lU cs ms lo is its.length (List.replicate its.length 0))=R):=by rw[h1];exact hid g2
 have h6:=hid h1;clear g2 h1;unfold hdV;have h9:But (fun _=>False) w (w.alloc (.cells #[.int .u8 c0.toNat,.int .i64 m0,.int .u8 r0.toNat,.slice al lo.length capl,.slice ai its.length capi] 115)):=But.alloc _ _ _;have h0:(w.alloc (.cells #[.int .u8 c0.toNat,.int .i64 m0,.int .u8 r0.toNat,.slice al lo.length capl,.slice ai its.length capi] 115)).heap[w.heap.size]?=some (.cells #[.int .u8 c0.toNat,.int .i64 m0,.int .u8 r0.toNat,.slice al lo.length capl,.slice ai its.length capi] 115):=heap_alloc_new _ _
 go_in
 go_wp2_with fail;have o2:(w.alloc (.cells #[.int .u8 c0.toNat,.int .i64 m0,.int .u8 r0.toNat,.slice al lo.length capl,.slice ai its.length capi] 115)).heap.size=w.heap.size+1:=by simp
 generalize (w.alloc (.cells #[.int .u8 c0.toNat,.int .i64 m0,.int .u8 r0.toNat,.slice al lo.length capl,.slice ai its.length capi] 115))=w1 at*
 have n1:(w1.alloc (.cells (aJ (List.replicate its.length 0)).toArray 5)).ownsRow (w.heap.size+1) 5 1 (.slice (some ⟨w.heap.size+1,0,none⟩) its.length its.length) its.length (aJ (List.replicate its.length 0)):=by
  have h:=BtB.lit w1 (w.heap.size+1) (by omega) (List.replicate its.length 0) (by simp;omega);rw[o2]at h;unfold BtB at h;simp only[List.length_replicate]at h;exact h
 have m4:But (fun _=>False) w (w1.alloc (.cells (aJ (List.replicate its.length 0)).toArray 5)):=h9.trans (But.alloc _ _ _);have n2:=((But.alloc (fun _=>False) w1 (.cells (aJ (List.replicate its.length 0)).toArray 5)).block _ (ae h0) (fun h=>h)).trans h0;have p1:(w1.alloc (.cells (aJ (List.replicate its.length 0)).toArray 5)).heap.size=w.heap.size+2:=by simp;omega
 generalize (w1.alloc (.cells (aJ (List.replicate its.length 0)).toArray 5))=w2 at*;clear n5 h9 h0
 go_loopg [6] its.length (fun mm js wr=> ∃(v:Int) (q:Nat) (ty:List UInt8),js= .int .i64 v∧v=(q:Int)-1∧q≤its.length∧q≤mm∧mm≤q∧wr.ownsRow (w.heap.size+1) 5 1 (.slice (some ⟨w.heap.size+1,0,none⟩) its.length its.length) its.length (aJ ty)∧But (fun _=>False) w wr∧w.heap.size+1<wr.heap.size∧wr.heap[w.heap.size]?=some (.cells #[.int .u8 c0.toNat,.int .i64 m0,.int .u8 r0.toNat,.slice al lo.length capl,.slice ai its.length capi] 115)∧Hid (ty.length=its.length∧pY cs r0 (lU cs ms lo is q ty)=R))
 case atStart=>exact⟨_,its.length,_,rfl,rfl,by omega,by omega,by omega,n1,m4,by omega,n2,hid ⟨by simp,l4.out⟩⟩
 case round=>
  obtain⟨v,q,ty,rfl,hv,o5,o6,p0,i4,b6,p4,e7,HI⟩:=hrel;obtain⟨k0,k1,k2,k3,k4⟩:=bc e7;have b1:=ae e7
  have g5:BtB wr 0 (.slice (some ⟨w.heap.size+1,0,none⟩) ty.length its.length) ty:=by
   unfold BtB;rw[HI.out.1];exact World.ownsRow.mono i4 (Nat.zero_le _)
  cases q with
  |zero=>
   have n6: ¬(0:Int)≤v:=by omega
   have g4:=cX _ _ ty 0 wr.drew (BtB.but g5 (But.drew (fun _=>False) _) (fun _ _ h=>h));rw[HI.out.1]at g4;have m1:=hid g4;have l2:=hid (jt b cs (bH ty 0) r0 wr.drew hn (hT.but (b6.trans (But.drew _ _))));have HE:Hid (dT cs (bH ty 0) r0=R):=hid HI.out.2;clear g4 g5;go_wp2_with fail;have a2:But (fun _=>False) wr wr.drew:=But.drew _ _;refine ck (But (fun _=>False) wr) 6 (by kernel_rfl) ?_;refine ay (k:=0) (v:= ?vA0) rfl (by decide) (by kernel_rfl) (fun _ _ _ h=>h) rfl a2 ?yA0 ?rA0
   case yA0=>intro wS h;have q0:=(h.kc k2 b1);clear h;go_simp;try rfl
   dsimp only[Act.put]
   try simp only[aK]
   refine ay (k:=1) (v:= ?vA1) rfl (by decide) (by kernel_rfl) (fun _ _ _ h=>h) rfl a2 ?yA1 ?rA1
   case yA1=>intro wS h;have q0:=(h.kc k2 b1);clear h;go_simp;try rfl
   dsimp only[Act.put]
   try simp only[aK]
   refine ay (k:=3) (v:= ?vA3) rfl (by decide) (by kernel_rfl) (fun _ _ _ h=>h) rfl a2 ?yA3 ?rA3
   case yA3=>intro wS h;have q0:=(h.kc k2 b1);clear h;go_simp;try rfl
   dsimp only[Act.put]
   try simp only[aK]
   refine ay (k:=4) (v:= ?vA4) rfl (by decide) (by kernel_rfl) (fun _ _ _ h=>h) rfl a2 ?yA4 ?rA4
   case yA4=>intro wS h;have q0:=(h.kc k2 b1);clear h;go_simp;try rfl
   dsimp only[Act.put]
   try simp only[aK]
   refine aA (k:=2) rfl (by decide) (by kernel_rfl) ?_;intro KS hKS;go_simp;refine m1.out.mono ?_;rintro en wx ⟨rfl,e8⟩;rw[e8];clear e8 wx;refine hKS.out _ _ (fun _=>a2) ?_;clear hKS KS;refine aA (k:=5) rfl (by decide) (by kernel_rfl) ?_;intro KS hKS;go_simp;refine l2.out.mono ?_;rintro en wx ⟨rfl,e8⟩;rw[e8,HE.out];clear e8 wx;refine hKS.out _ _ (fun _=>a2) ?_;clear hKS KS;refine aA (k:=6) rfl (by decide) (by kernel_rfl) ?_;intro KS hKS;go_simp;refine hKS.out _ _ nofun ?_;clear hKS KS;refine b7 rfl (by kernel_rfl) ?_;go_wp2_with fail;go_ret;exact⟨b6.trans a2,rfl⟩
  |succ p=>
   have o1:v=(p:Int):=by omega
   subst o1;clear hv;have n7:p<is.length:=by rw[←h6.out];omega
   obtain⟨x,hx⟩: ∃x,its[p]?=some x:=⟨_,List.getElem?_eq_getElem (by omega)⟩;have hy:=List.getElem?_eq_getElem n7;obtain⟨y,i7⟩: ∃y,is[p]=y:=⟨_,rfl⟩;rw[i7]at hy;obtain⟨e1,e2,e3,e4,e5⟩:=hN.at' p y x hy hx;have f4:=hid e2;have f5:=hid e3;have f6:=hid e4;have HY:=hid hy;clear e1 e2 e3 e4 i7 hy;obtain⟨g,rfl,b2,n3,a1⟩:=aD (ah hI b6 (fun _ _ h=>h)) (by omega);have z0:wr.cell? ⟨g,p*5,none⟩=some (.int .i64 x.place):=a1 _ _ (aL (k:=0) hx (by omega));have z1:wr.cell? ⟨g,p*5+1,none⟩=some (.int .u8 x.op.toNat):=a1 _ _ (aL (k:=1) hx (by omega));have z2:wr.cell? ⟨g,p*5+2,none⟩=some (.int .u8 x.cls.toNat):=a1 _ _ (aL (k:=2) hx (by omega))
   have z3:wr.cell? ⟨g,p*5+3,none⟩=some (.int .i64 x.num):=a1 _ _ (aL (k:=3) hx (by omega));have z4:wr.cell? ⟨g,p*5+4,none⟩=some (.slice x.pa x.pn x.pc):=a1 _ _ (aL (k:=4) hx (by omega));have o4:(p:Int)<(its.length:Int):=by omega
   have o3:(0:Int)≤(p:Int):=by omega
   have f2:=pW x (dg is p) ty _ _ wr (zz is p) (fun k hk=>by have:=(fS hk).2;have:=h6.out;omega) (ah e5 b6 (fun _ _ h=>h)) g5;rw[HI.out.1]at f2;unfold itV at f2;have h7:=hid f2;clear f2 a1;go_wp2_with fail;refine h7.out.mono ?_;rintro en w3 ⟨a8,a3,c3,rfl,i0⟩;clear h7;obtain⟨PS,f1⟩: ∃PS,(dg is p).map (bH ty)=PS:=⟨_,rfl⟩;have b4:(dg is p).length=PS.length:=by rw[←f1];simp
   rw[f1,b4]at i0;rw[b4];have f7:=hid f1;clear f1 b4;have g1:=b6.trans a8;have i5:=(a8.block _ b1 (fun h=>h)).trans e7;have a6:=ae i5;have a0:g<w3.heap.size:=Nat.lt_of_lt_of_le b2 a8.size;obtain⟨j0,j1,j2,j3,j4⟩:=bc i5;have y0:=a8.kc z0 b2;have y1:=a8.kc z1 b2;have y2:=a8.kc z2 b2;have y3:=a8.kc z3 b2;have y4:=a8.kc z4 b2;clear z0 z1 z2 z3 z4 k0 k1 k2 k3 k4;have f0:But (fun _=>False) w w3.drew:=g1.trans (But.drew _ _);have i1:BtB w3.drew 0 (.slice a3 PS.length c3) PS:=World.ownsRow.mono (BtB.but i0 (But.drew (fun _=>False) _) (fun _ _ h=>h)) (Nat.zero_le _);have f3:=hid (pX b cs ms c0 m0 r0 al (some ⟨g,0,none⟩) capl its.length capi lo x w3.drew a3 c3 PS hn hm (hT.but f0) (hM.but f0) (BtB.but hB f0 (fun _ _ h=>h)) i1 (by have:=vB cs ms lo x.op x.cls x.num;omega))
   unfold hdV itV at f3;go_wp2_with fail;have a2:But (fun _=>False) w3 w3.drew:=But.drew _ _;refine ck (But (fun _=>False) w3) 10 (by kernel_rfl) ?_;have fSB:=hid (fun wS (h:(But (fun _=>False) w3) wS)=>(And.intro (h.kc j0 a6) (And.intro (h.kc j1 a6) (And.intro (h.kc j2 a6) (And.intro (h.kc j3 a6) (And.intro (h.kc j4 a6) (And.intro (h.kc y0 a0) (And.intro (h.kc y1 a0) (And.intro (h.kc y2 a0) (And.intro (h.kc y3 a0) (h.kc y4 a0)))))))))));refine ay (k:=0) (v:= ?vB0) rfl (by decide) (by kernel_rfl) (fun _ _ _ h=>h) rfl a2 ?yB0 ?rB0
   case yB0=>intro wS h;obtain⟨q0,q1,q2,q3,q4,q5,q6,q7,q8,q9⟩:=fSB.out wS h;clear h;go_simp;try rfl
   dsimp only[Act.put]
   try simp only[aK]
   refine ay (k:=1) (v:= ?vB1) rfl (by decide) (by kernel_rfl) (fun _ _ _ h=>h) rfl a2 ?yB1 ?rB1
   case yB1=>intro wS h;obtain⟨q0,q1,q2,q3,q4,q5,q6,q7,q8,q9⟩:=fSB.out wS h;clear h;go_simp;try rfl
   dsimp only[Act.put]
   try simp only[aK]
   refine ay (k:=2) (v:= ?vB2) rfl (by decide) (by kernel_rfl) (fun _ _ _ h=>h) rfl a2 ?yB2 ?rB2
   case yB2=>intro wS h;obtain⟨q0,q1,q2,q3,q4,q5,q6,q7,q8,q9⟩:=fSB.out wS h;clear h;go_simp;try rfl
   dsimp only[Act.put]
   try simp only[aK]
   refine ay (k:=3) (v:= ?vB3) rfl (by decide) (by kernel_rfl) (fun _ _ _ h=>h) rfl a2 ?yB3 ?rB3
   case yB3=>intro wS h;obtain⟨q0,q1,q2,q3,q4,q5,q6,q7,q8,q9⟩:=fSB.out wS h;clear h;go_simp;try rfl
   dsimp only[Act.put]
   try simp only[aK]
   refine ay (k:=4) (v:= ?vB4) rfl (by decide) (by kernel_rfl) (fun _ _ _ h=>h) rfl a2 ?yB4 ?rB4
   case yB4=>intro wS h;obtain⟨q0,q1,q2,q3,q4,q5,q6,q7,q8,q9⟩:=fSB.out wS h;clear h;go_simp;try rfl
   dsimp only[Act.put]
   try simp only[aK]
   refine ay (k:=5) (v:= ?vB5) rfl (by decide) (by kernel_rfl) (fun _ _ _ h=>h) rfl a2 ?yB5 ?rB5
   case yB5=>intro wS h;obtain⟨q0,q1,q2,q3,q4,q5,q6,q7,q8,q9⟩:=fSB.out wS h;clear h;go_simp;try rfl
   dsimp only[Act.put]
   try simp only[aK]
   refine ay (k:=6) (v:= ?vB6) rfl (by decide) (by kernel_rfl) (fun _ _ _ h=>h) rfl a2 ?yB6 ?rB6
   case yB6=>intro wS h;obtain⟨q0,q1,q2,q3,q4,q5,q6,q7,q8,q9⟩:=fSB.out wS h;clear h;go_simp;try rfl
   dsimp only[Act.put]
   try simp only[aK]
   refine ay (k:=7) (v:= ?vB7) rfl (by decide) (by kernel_rfl) (fun _ _ _ h=>h) rfl a2 ?yB7 ?rB7
   case yB7=>intro wS h;obtain⟨q0,q1,q2,q3,q4,q5,q6,q7,q8,q9⟩:=fSB.out wS h;clear h;go_simp;try rfl
   dsimp only[Act.put]
   try simp only[aK]
   try clear fSB
   refine aA (k:=8) rfl (by decide) (by kernel_rfl) ?_;intro KS hKS;go_simp;refine f3.out.mono ?_;rintro en w4 ⟨f8,rfl⟩;have d6:=f0.trans f8;have b0:But (fun _=>False) w3 w4:=a2.trans f8;refine hKS.out _ _ (fun _=>b0) ?_;clear hKS KS;refine aA (k:=9) rfl (by decide) (by kernel_rfl) ?_;intro KS hKS;go_simp;refine hKS.out _ _ (fun _=>b0) ?_;clear hKS KS;refine b7 rfl (by kernel_rfl) ?_
   cases hac:iM cs (bQ cs ms lo x.op x.cls x.num) PS with
   |false=>
    have b5:R=false:=by
     have h2:=HI.out.2
     have o0:iD cs ms lo is p ty=none:=by
      simp only[iD,HY.out,f7.out,cg,←f4.out,←f5.out,←f6.out,hac];simp
     rw[←h2];simp only[lU,o0,pY]
    subst b5;clear hac;go_wp2_with fail;go_ret;exact⟨d6,rfl⟩
   |true=>
    have c7:=hid hac;clear hac;have g3:But (fun _=>False) wr w4:=a8.trans b0;have i6:=(g3.block _ b1 (fun h=>h)).trans e7;have a7:=ae i6;have a5:g<w4.heap.size:=Nat.lt_of_lt_of_le b2 g3.size;obtain⟨j5,j7,k9,l0,l1⟩:=bc i6;have x0:=b0.kc y0 a0;have x1:=b0.kc y1 a0;have x2:=b0.kc y2 a0;have x3:=b0.kc y3 a0;have x4:=b0.kc y4 a0;clear y0 y1 y2 y3 y4 j0 j1 j2 j3 j4 f3;have g0:But (fun _=>False) w w4.drew:=d6.trans (But.drew _ _);have n0:BtB w4.drew 0 (.slice a3 PS.length c3) PS:=BtB.but i1 (f8.trans (But.drew _ _)) (fun _ _ h=>h);have e9:=hid (rH b cs ms c0 m0 r0 al (some ⟨g,0,none⟩) capl its.length capi lo x w4.drew a3 c3 PS hn hm (hT.but g0) (hM.but g0) (BtB.but hB g0 (fun _ _ h=>h)) n0)
    unfold hdV itV at e9;obtain⟨C,hC⟩: ∃C,dh cs ms lo x.op x.cls x.num PS=C:=⟨_,rfl⟩;rw[hC]at e9;have HC:=hid hC;clear hC;go_wp2_with fail;have i2:But (fun _=>False) w4 w4.drew:=But.drew _ _;refine aB (But (fun _=>False) w4) 11 (by kernel_rfl) ?_
    iterate 10 (refine aG (v:=?_) rfl (by kernel_rfl) (fun _ _ _ h=>h) rfl i2 ?_ ?_;rotate_left;(focus (intro wS h;have q0:=(h.kc j5 a7);have q1:=(h.kc j7 a7);have q2:=(h.kc k9 a7);have q3:=(h.kc l0 a7);have q4:=(h.kc l1 a7);have q5:=(h.kc x0 a5);have q6:=(h.kc x1 a5);have q7:=(h.kc x2 a5);have q8:=(h.kc x3 a5);have q9:=(h.kc x4 a5);clear h;go_simp;try rfl));dsimp only[Act.put];try simp only[aK])
    refine ag rfl (by kernel_rfl) ?_;intro KS hKS;go_simp;refine e9.out.mono ?_;rintro en w5 ⟨m5,rfl⟩;have i3:But (fun _=>False) w4 w5:=i2.trans m5;refine hKS.out _ _ (fun _=>i3) ?_;clear hKS KS;have a4:=g3.trans i3;have g6:=ah i4 a4 (fun _ _ h=>h);obtain⟨gq,e6,h4,h5,e0⟩:=aD g6 (by omega);have b3:w.heap.size+1=gq:=by injection e6 with h;injection h with h
    subst b3;have h3:p<ty.length:=by rw[HI.out.1];omega
    have ct:=e0 _ _ (cN h3);have ft:=kr g6 p;clear e0 e6;refine ag rfl (by kernel_rfl) ?_;intro KS hKS;go_simp;refine hKS.out _ _ nofun ?_;clear hKS KS;refine ag rfl (by kernel_rfl) ?_;intro KS hKS;go_simp;refine hKS.out _ _ nofun ?_;clear hKS KS;refine aF rfl (by kernel_rfl) ?_;have g7:=iY g6 p (.int .u8 C.toNat);rw[show(aJ ty).set p (.int .u8 C.toNat)=aJ (ty.set p C)from by simp[aJ,List.map_set]]at g7;have h8:But (fun _=>False) w (w5.setCell ⟨w.heap.size+1,p,none⟩ (.int .u8 C.toNat)):=(b6.trans a4).next (But.setB _ _ _ _) (fun j hj h=>by omega);have n4:=((But.setB w5 (w.heap.size+1) p (.int .u8 C.toNat)).block w.heap.size (Nat.lt_of_lt_of_le b1 a4.size) (fun h=>by omega)).trans ((a4.block _ b1 (fun h=>h)).trans e7)
    have p3:=(But.setB w5 (w.heap.size+1) p (.int .u8 C.toNat)).size;have p2:=a4.size
    have l6:Hid (C.toNat≠45→iD cs ms lo is p ty=some (ty.set p C)):=hid (fun h=>by
     simp only[iD,HY.out,f7.out,cg,←f4.out,←f5.out,←f6.out,c7.out,HC.out];simp[h])
    have l5:Hid (C.toNat=45→iD cs ms lo is p ty=none):=hid (fun h=>by
     simp only[iD,HY.out,f7.out,cg,←f4.out,←f5.out,←f6.out,c7.out,HC.out];simp[h])
    obtain⟨gq,e6,h4,h5,e0⟩:=aD g7 (by omega);have b3:w.heap.size+1=gq:=by injection e6 with h;injection h with h
    subst b3;have m2:=e0 _ _ (cN (l:=ty.set p C) (k:=p) (by simpa using h3));rw[show(ty.set p C).getD p 0=C from by simp[List.getD,h3]]at m2;clear e0 e6 x0 x1 x2 x3 x4 j5 j7 k9 l0 l1 e9 ct ft;generalize (w5.setCell ⟨w.heap.size+1,p,none⟩ (.int .u8 C.toNat))=w6 at*
    by_cases h45:C.toNat=45
    ·have m3:((C.toNat:Int)==45)=true:=by rw[beq_iff_eq];omega
     have b5:R=false:=by
      rw[←HI.out.2];simp only[lU,l5.out h45,pY]
     subst b5;clear h45;go_wp2_with fail;go_ret;exact⟨h8,rfl⟩
    ·have m3:=tf C.toNat 45 (by omega)
     have l3:Hid ((ty.set p C).length=its.length∧pY cs r0 (lU cs ms lo is p (ty.set p C))=R):=by
      refine hid ⟨by rw[List.length_set];exact HI.out.1,?_⟩;rw[←HI.out.2];simp only[lU,l6.out h45]
     clear h45;go_wp2_with fail
     go_roundg p
     case measure=>omega
     case rel=>exact⟨_,p,_,rfl,rfl,by omega,by omega,by omega,g7,h8,by omega,n4,l3⟩
end
end
section
open Go Go.RowKit Sp
section
variable {cs:List bz} {a b c p q:UInt8}
theorem jW (ts:List UInt8):iM cs [] ts=true:=by simp[iM]
theorem ug:iM cs [p] [a]=bL cs a p:=by simp[iM,bH,List.range_succ]
theorem A7:iM cs [p] [a,b]=bL cs a p:=by simp[iM,bH,List.range_succ]
theorem A8:iM cs [p] [a,b,c]=bL cs a p:=by simp[iM,bH,List.range_succ]
theorem kH:iM cs [p,q] [a,b]=(bL cs a p&&bL cs b q):=by simp[iM,bH,List.range_succ]
theorem tw {cs:List Cls}:cr cs [a] [p]=bv cs a p:=by simp[cr,List.range_succ]
theorem jf {cs:List Cls}:cr cs [a,b] [p,q]=(bv cs a p&&bv cs b q):=by simp[cr,List.range_succ]
end
theorem lF {cs:List Cls} (a:UInt8):bv cs a 105=decide (a.toNat=105):=by
 unfold bv
 by_cases h:a.toNat=105
 ·simp[h]
 ·have:isC 105=false:=by decide
  simp[h,this]
section
variable {im:Img}
theorem tz (hW:gR im) {a c:UInt8} (ha:okT im.classes.length a=true) (hc:okT im.classes.length c=true) (h38:c.toNat≠38):bL (im.classes.map toX) a c=bv im.classes a c:=by
 unfold bL;rw[if_neg h38];exact fL hW.cls hW.nc ha hc
theorem jX (hW:gR im) {a:UInt8} (ha:okT im.classes.length a=true):bL (im.classes.map toX) a 105=decide (a.toNat=105):=by
 rw[tz hW ha rf (by decide),lF]
theorem Az (hW:gR im) {a:UInt8} (ha:okT im.classes.length a=true):bL (im.classes.map toX) a 38=isR a:=by
 unfold bL isR;rw[if_pos (by decide),List.length_map,ei hW.cls hW.nc ha]
theorem rL (hW:gR im) {x:Ins} (ha:x.a<im.classes.length) (hb:x.b<bU im.classes x.a):bH (bX (im.classes.map toX) (UInt8.ofNat (65+x.a))) x.b=bT im.classes x.a x.b:=by
 obtain⟨hl,hk⟩:=xH ha hW.nc;have hv:(UInt8.ofNat (65+x.a)).toNat-65=x.a:=by have:=hW.nc;simp;omega
 have a0:=iv (a:=0) hl;rw[hv]at a0;unfold bH;rw[if_pos (by rw[←a0];exact hb)];unfold bT bX;rw[List.length_map,if_pos hl,List.getElem?_map,hv]
 cases im.classes[x.a]?<;>rfl
end
theorem vC {n:Nat} {c:UInt8} (h:okT n c=true):c.toNat≠38:=by rw[cR]at h;omega
theorem p7 {n:Nat} {c:UInt8} (h:ce n c=true):c.toNat≠45:=by
 simp[ce,aI]at h;omega
theorem kI {ts:List UInt8} (h:ts.length=0):ts=[]:=List.length_eq_zero_iff.1 h
theorem zC {ts:List UInt8} (h:ts.length=1): ∃a,ts=[a]:=List.length_eq_one_iff.1 h
theorem mW {ts:List UInt8} (h:ts.length=2): ∃a b,ts=[a,b]:=by
 match ts,h with
 | [a,b],_=>exact⟨a,b,rfl⟩
theorem Bq {ts:List UInt8} (h:ts.length=3): ∃a b c,ts=[a,b,c]:=by
 match ts,h with
 | [a,b,c],_=>exact⟨a,b,c,rfl⟩
theorem l9 {lo:List UInt8} {n:Nat} (h:n<lo.length):bH lo n=lo.getD n 0:=by unfold bH;rw[if_pos h]
section
theorem ya {im:Img} (hW:gR im) {bd:Bod} (hbd:jy im.classes im.sigs bd) {y:Ins} (hy:WfN im.classes im.sigs.length bd.locals.length y) {ts:List UInt8} (hl:ts.length=aw y.op) (hok: ∀c∈ts,okT im.classes.length c=true) (hne: ∀c∈ts,c.toNat≠45):cg (im.classes.map toX) im.sigs bd.locals y ts=bk im.classes im.sigs bd.locals y ts:=by
 have a7:=List.elem_iff.1 hy.op;simp only[cV,List.mem_cons,List.not_mem_nil,or_false]at a7
 have a1: ∀n:Nat,y.op.toNat=n→ ¬(48≤n∧n≤57)→bp y=bj y:=fun n h1 h2=>by
  unfold bp;rw[if_neg (fun h=>h2 (by rw[←h1];exact iR h))]
 have a3:=fun h=>mR (x:=y) h
 have a2: ∀h:y.op.toNat=110∨y.op.toNat=120∨y.op.toNat=103∨y.op.toNat=112∨y.op.toNat=99,okT im.classes.length (b8 y.a)=true∧(b8 y.a).toNat≠45:=fun h=>
  ⟨py (hy.cls h) hW.nc,by have:=hy.cls h;have:=hW.nc;unfold b8;simp;omega⟩
 have eo:(bj y).op=y.op:=rfl;have en:(bj y).num=y.b:=rfl;rcases a7 with h|h|h|h|h|h|h|h|h|h|h|h|h|h|h|h|h|h|h|h|h|h|h|h|h|h|h|h|h|h
 ·have ha:aw y.op=0:=by unfold aw;simp[h]
  rw[ha]at hl;have a0:=kI hl;subst a0;have e1:bp y=⟨y.pos,107,45,y.b,none,0,0⟩:=by unfold bp;rw[if_pos (by simp[bu,h])]
  rw[cg,e1];simp[bQ,az,dh,aH,jW,bk,cJ,bD,arith,h]
 ·have ha:aw y.op=0:=by unfold aw;simp[h]
  rw[ha]at hl;have a0:=kI hl;subst a0;have e1:bp y=⟨y.pos,107,45,y.b,none,0,0⟩:=by unfold bp;rw[if_pos (by simp[bu,h])]
  rw[cg,e1];simp[bQ,az,dh,aH,jW,bk,cJ,bD,arith,h]
 ·have ha:aw y.op=0:=by unfold aw;simp[h]
  rw[ha]at hl;have a0:=kI hl;subst a0;have e1:bp y=⟨y.pos,107,45,y.b,none,0,0⟩:=by unfold bp;rw[if_pos (by simp[bu,h])]
  rw[cg,e1];simp[bQ,az,dh,aH,jW,bk,cJ,bD,arith,h]
 ·have ha:aw y.op=0:=by unfold aw;simp[h]
  rw[ha]at hl;have a0:=kI hl;subst a0;have e1:bp y=⟨y.pos,107,45,y.b,none,0,0⟩:=by unfold bp;rw[if_pos (by simp[bu,h])]
  rw[cg,e1];simp[bQ,az,dh,aH,jW,bk,cJ,bD,arith,h]
 ·have ha:aw y.op=0:=by unfold aw;simp[h]
  rw[ha]at hl;have a0:=kI hl;subst a0;have e1:bp y=⟨y.pos,107,45,y.b,none,0,0⟩:=by unfold bp;rw[if_pos (by simp[bu,h])]
  rw[cg,e1];simp[bQ,az,dh,aH,jW,bk,cJ,bD,arith,h]
 ·have ha:aw y.op=0:=by unfold aw;simp[h]
  rw[ha]at hl;have a0:=kI hl;subst a0;have e1:bp y=⟨y.pos,107,45,y.b,none,0,0⟩:=by unfold bp;rw[if_pos (by simp[bu,h])]
  rw[cg,e1];simp[bQ,az,dh,aH,jW,bk,cJ,bD,arith,h]
 ·have ha:aw y.op=0:=by unfold aw;simp[h]
  rw[ha]at hl;have a0:=kI hl;subst a0;have e1:bp y=⟨y.pos,107,45,y.b,none,0,0⟩:=by unfold bp;rw[if_pos (by simp[bu,h])]
  rw[cg,e1];simp[bQ,az,dh,aH,jW,bk,cJ,bD,arith,h]
 ·have ha:aw y.op=0:=by unfold aw;simp[h]
  rw[ha]at hl;have a0:=kI hl;subst a0;have e1:bp y=⟨y.pos,107,45,y.b,none,0,0⟩:=by unfold bp;rw[if_pos (by simp[bu,h])]
  rw[cg,e1];simp[bQ,az,dh,aH,jW,bk,cJ,bD,arith,h]
 ·have ha:aw y.op=0:=by unfold aw;simp[h]
  rw[ha]at hl;have a0:=kI hl;subst a0;have e1:bp y=⟨y.pos,107,45,y.b,none,0,0⟩:=by unfold bp;rw[if_pos (by simp[bu,h])]
  rw[cg,e1];simp[bQ,az,dh,aH,jW,bk,cJ,bD,arith,h]
 ·have ha:aw y.op=0:=by unfold aw;simp[h]
  rw[ha]at hl;have a0:=kI hl;subst a0;have e1:bp y=⟨y.pos,107,45,y.b,none,0,0⟩:=by unfold bp;rw[if_pos (by simp[bu,h])]
  rw[cg,e1];simp[bQ,az,dh,aH,jW,bk,cJ,bD,arith,h]
 ·have ha:aw y.op=0:=by unfold aw;simp[h]
  rw[ha]at hl;have a0:=kI hl;subst a0;rw[cg,a1 _ h (by omega),eo,en];simp[bQ,az,dh,aH,jW,bk,cJ,bD,arith,h]
 ·have ha:aw y.op=1:=by unfold aw;simp[h]
  rw[ha]at hl;obtain⟨a,rfl⟩:=zC hl;have oa:=hok a (by simp);have na:=hne a (by simp);rw[cg,a1 _ h (by omega),eo,en];simp[bQ,az,dh,aH,ug,jX hW oa,bk,cJ,bD,arith,h,tw,lF]
 ·have ha:aw y.op=0:=by unfold aw;simp[h]
  rw[ha]at hl;have a0:=kI hl;subst a0;rw[cg,a1 _ h (by omega),eo,en];have hb:=hy.loc (by omega);have b0:=p7 (hbd.loc.2 _ (List.getElem_mem hb));simp[bQ,az,dh,aH,jW,bk,cJ,bD,arith,h,l9 hb,List.getD,hb,b0]
 ·have ha:aw y.op=1:=by unfold aw;simp[h]
  rw[ha]at hl;obtain⟨a,rfl⟩:=zC hl;have oa:=hok a (by simp);have na:=hne a (by simp);rw[cg,a1 _ h (by omega),eo,en];have hb:=hy.loc (by omega);have a8:okT im.classes.length (bd.locals.getD y.b 0)=true:=by rw[dI _ _ hb];exact iZ (hbd.loc.2 _ (List.getElem_mem hb))
  have e5:=tz hW oa a8 (vC a8);simp only[bQ,dh,h,l9 hb,bk,cJ,bD,arith];generalize bd.locals.getD y.b 0=T at*;simp[ug,e5,tw]
  cases bv im.classes a T<;>simp
 ·have ha:aw y.op=2:=by unfold aw;simp[h]
  rw[ha]at hl;obtain⟨a,b,rfl⟩:=mW hl;have oa:=hok a (by simp);have na:=hne a (by simp);have ob:=hok b (by simp);have nb:=hne b (by simp);rw[cg,a1 _ h (by omega),eo,en];simp[bQ,az,dh,aH,kH,jX hW oa,jX hW ob,bk,cJ,bD,arith,h,jf,lF]
  by_cases h1:a.toNat=105<;>by_cases h2:b.toNat=105<;>simp[h1,h2]
 ·have ha:aw y.op=2:=by unfold aw;simp[h]
  rw[ha]at hl;obtain⟨a,b,rfl⟩:=mW hl;have oa:=hok a (by simp);have na:=hne a (by simp);have ob:=hok b (by simp);have nb:=hne b (by simp);rw[cg,a1 _ h (by omega),eo,en];simp[bQ,az,dh,aH,kH,jX hW oa,jX hW ob,bk,cJ,bD,arith,h,jf,lF]
  by_cases h1:a.toNat=105<;>by_cases h2:b.toNat=105<;>simp[h1,h2]
 ·have ha:aw y.op=2:=by unfold aw;simp[h]
  rw[ha]at hl;obtain⟨a,b,rfl⟩:=mW hl;have oa:=hok a (by simp);have na:=hne a (by simp);have ob:=hok b (by simp);have nb:=hne b (by simp);rw[cg,a1 _ h (by omega),eo,en];simp[bQ,az,dh,aH,kH,jX hW oa,jX hW ob,bk,cJ,bD,arith,h,jf,lF]
  by_cases h1:a.toNat=105<;>by_cases h2:b.toNat=105<;>simp[h1,h2]
 ·have ha:aw y.op=2:=by unfold aw;simp[h]
  rw[ha]at hl;obtain⟨a,b,rfl⟩:=mW hl;have oa:=hok a (by simp);have na:=hne a (by simp);have ob:=hok b (by simp);have nb:=hne b (by simp);rw[cg,a1 _ h (by omega),eo,en];simp[bQ,az,dh,aH,kH,jX hW oa,jX hW ob,bk,cJ,bD,arith,h,jf,lF]
  by_cases h1:a.toNat=105<;>by_cases h2:b.toNat=105<;>simp[h1,h2]
 ·have ha:aw y.op=2:=by unfold aw;simp[h]
  rw[ha]at hl;obtain⟨a,b,rfl⟩:=mW hl;have oa:=hok a (by simp);have na:=hne a (by simp);have ob:=hok b (by simp);have nb:=hne b (by simp);rw[cg,a1 _ h (by omega),eo,en];simp[bQ,az,dh,aH,kH,jX hW oa,jX hW ob,bk,cJ,bD,arith,h,jf,lF]
  by_cases h1:a.toNat=105<;>by_cases h2:b.toNat=105<;>simp[h1,h2]
 ·have ha:aw y.op=2:=by unfold aw;simp[h]
  rw[ha]at hl;obtain⟨a,b,rfl⟩:=mW hl;have oa:=hok a (by simp);have na:=hne a (by simp);have ob:=hok b (by simp);have nb:=hne b (by simp);rw[cg,a1 _ h (by omega),eo,en];simp[bQ,az,dh,aH,kH,jX hW oa,jX hW ob,bk,cJ,bD,arith,h,jf,lF]
  by_cases h1:a.toNat=105<;>by_cases h2:b.toNat=105<;>simp[h1,h2]
 ·have ha:aw y.op=2:=by unfold aw;simp[h]
  rw[ha]at hl;obtain⟨a,b,rfl⟩:=mW hl;have oa:=hok a (by simp);have na:=hne a (by simp);have ob:=hok b (by simp);have nb:=hne b (by simp);rw[cg,a1 _ h (by omega),eo,en];simp[bQ,az,dh,aH,kH,Az hW oa,Az hW ob,bk,cJ,bD,arith,h]
 ·have ha:aw y.op=0:=by unfold aw;simp[h]
  rw[ha]at hl;have a0:=kI hl;subst a0;rw[cg,a1 _ h (by omega),eo,en];rw[a3 (by omega)];simp[bQ,az,dh,aH,jW,bk,cJ,bD,arith,h,(a2 (by omega)).2]
 ·have ha:aw y.op=0:=by unfold aw;simp[h]
  rw[ha]at hl;have a0:=kI hl;subst a0;rw[cg,a1 _ h (by omega),eo,en];simp[bQ,az,dh,aH,jW,bk,cJ,bD,arith,h]
 ·have ha:aw y.op=1:=by unfold aw;simp[h]
  rw[ha]at hl;obtain⟨a,rfl⟩:=zC hl;have oa:=hok a (by simp);have na:=hne a (by simp);rw[cg,a1 _ h (by omega),eo,en];have hf:bH (bX (im.classes.map toX) (b8 y.a)) y.b=bT im.classes y.a y.b:=rL hW (hy.cls (by omega)) (hy.fld (by omega));have hg:=rg hW hbd hy;rw[a3 (by omega)];have e5:=tz hW oa (a2 (by omega)).1 (vC (a2 (by omega)).1)
  have b1:(bT im.classes y.a y.b).toNat≠45:=by
   have hq:=hy.fld (by omega);have a4:=List.getElem?_eq_getElem (hy.cls (by omega));unfold bU at hq;unfold bT;rw[a4]at hq⊢;simp at hq⊢;rw[List.getElem?_eq_getElem hq];exact p7 (n:=im.classes.length) (eH (by have:=hy.cls (by omega);omega) ((hW.cls _ _ a4).2.2.2 _ (List.getElem_mem hq)))
  simp[bQ,az,dh,aH,h,bk,cJ,bD,arith,hf,ug,e5,tw,b1]
  cases bv im.classes a (b8 y.a)<;>simp
 ·have ha:aw y.op=2:=by unfold aw;simp[h]
  rw[ha]at hl;obtain⟨a,b,rfl⟩:=mW hl;have oa:=hok a (by simp);have na:=hne a (by simp);have ob:=hok b (by simp);have nb:=hne b (by simp);rw[cg,a1 _ h (by omega),eo,en];have hf:bH (bX (im.classes.map toX) (b8 y.a)) y.b=bT im.classes y.a y.b:=rL hW (hy.cls (by omega)) (hy.fld (by omega));rw[a3 (by omega)];have e5:=tz hW oa (a2 (by omega)).1 (vC (a2 (by omega)).1)
  have a6:okT im.classes.length (bT im.classes y.a y.b)=true:=by
   have hq:=hy.fld (by omega);have a4:=List.getElem?_eq_getElem (hy.cls (by omega));unfold bU at hq;unfold bT;rw[a4]at hq⊢;simp at hq⊢;rw[List.getElem?_eq_getElem hq];exact iZ (eH (by have:=hy.cls (by omega);omega) ((hW.cls _ _ a4).2.2.2 _ (List.getElem_mem hq)))
  have e6:=tz hW ob a6 (vC a6);simp[bQ,az,dh,aH,h,bk,cJ,bD,arith,hf,kH,e5,e6,jf]
  cases bv im.classes a (b8 y.a)<;>cases bv im.classes b (bT im.classes y.a y.b)<;>simp
 ·have ha:aw y.op=2:=by unfold aw;simp[h]
  rw[ha]at hl;obtain⟨a,b,rfl⟩:=mW hl;have oa:=hok a (by simp);have na:=hne a (by simp);have ob:=hok b (by simp);have nb:=hne b (by simp);rw[cg,a1 _ h (by omega),eo,en];have e3:=kB (hy.sig h);rw[a3 (by omega)];have hs:=hW.sig _ (List.getElem_mem (hy.sig h));have a5:okT im.classes.length (fW im.sigs y.b)=true:=by unfold fW;rw[List.getElem?_eq_getElem (hy.sig h)];exact iZ hs.1
  have b2:(dR im.sigs y.b).toNat≠45:=by unfold dR;rw[List.getElem?_eq_getElem (hy.sig h)];exact p7 hs.2
  have e5:=tz hW oa (a2 (by omega)).1 (vC (a2 (by omega)).1);have e6:=tz hW ob a5 (vC a5);simp[bQ,az,dh,aH,kH,e3.1,e3.2,e5,e6,bk,cJ,bD,arith,h,jf,b2]
  cases bv im.classes a (b8 y.a)<;>cases bv im.classes b (fW im.sigs y.b)<;>simp
 ·have ha:aw y.op=1:=by unfold aw;simp[h]
  rw[ha]at hl;obtain⟨a,rfl⟩:=zC hl;have oa:=hok a (by simp);have na:=hne a (by simp);rw[cg,a1 _ h (by omega),eo,en];rw[a3 (by omega)];simp[bQ,az,dh,aH,ug,Az hW oa,bk,cJ,bD,arith,h,(a2 (by omega)).2]
 ·have ha:aw y.op=2:=by unfold aw;simp[h]
  rw[ha]at hl;obtain⟨a,b,rfl⟩:=mW hl;have oa:=hok a (by simp);have na:=hne a (by simp);have ob:=hok b (by simp);have nb:=hne b (by simp);rw[cg,a1 _ h (by omega),eo,en];simp[bQ,az,dh,aH,jW,bk,cJ,bD,arith,h,bH,nb]
 ·have ha:aw y.op=3:=by unfold aw;simp[h]
  rw[ha]at hl;obtain⟨a,b,c,rfl⟩:=Bq hl;have oa:=hok a (by simp);have na:=hne a (by simp);have ob:=hok b (by simp);have nb:=hne b (by simp);have oc:=hok c (by simp);have nc:=hne c (by simp);rw[cg,a1 _ h (by omega),eo,en];have e5:=lw hW.cls hW.nc ob oc;simp[bQ,az,dh,aH,A8,jX hW oa,bk,cJ,bD,arith,h,bH,e5]
 ·have ha:aw y.op=2:=by unfold aw;simp[h]
  rw[ha]at hl;obtain⟨a,b,rfl⟩:=mW hl;have oa:=hok a (by simp);have na:=hne a (by simp);have ob:=hok b (by simp);have nb:=hne b (by simp);rw[cg,a1 _ h (by omega),eo,en];simp[bQ,az,dh,aH,A7,jX hW oa,bk,cJ,bD,arith,h,bH]
end
end
end Go.Proofs.YtpfkkmacakjmbaaGreatDoor
