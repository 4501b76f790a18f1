import Derived.Test.YtpfkkmacakjmbaaGreatDoorP09
set_option maxRecDepth 100000
set_option maxHeartbeats 6400000
set_option linter.unusedSimpArgs false
set_option linter.unusedVariables false
namespace Go.Proofs.YtpfkkmacakjmbaaGreatDoor
section
open Go Go.RowKit Sp
theorem kW (c:UInt8) (w:World):Calls Tryz.prog 119 #[.int .u8 c.toNat] w fun en w'=>en= .returned (.bool (isR c))∧w'=w:=by
 obtain⟨r,hr⟩: ∃r,isC c=r:=⟨_,rfl⟩
 by_cases h:c.toNat=122
 ·have hb:((c.toNat:Int)==122)=true:=by rw[beq_iff_eq];omega
  have a0:isR c=true:=by simp[isR,h]
  rw[a0];clear h a0 hr
  go_in
  go_wp2_with fail;go_ret;exact⟨rfl,rfl⟩
 ·have hb:=tf c.toNat 122 (by omega);have a0:isR c=r:=by simp[isR,h,hr]
  rw[a0];have HR:Hid (isC c=r):=hr;clear h a0 hr
  go_in
  go_wp2_with fail;refine(dr c _).mono ?_;rw[HR.out];rintro en wx ⟨rfl,a1⟩;rw[a1];clear a1 wx;go_wp2_with fail;go_ret;exact⟨rfl,rfl⟩
theorem zd (bi:Nat) (cs:List Cls) (a b:UInt8) (w:World) (hI:gj w bi cs) (hw:WfC cs) (hn:cs.length≤4) (ha:okT cs.length a=true):
  Calls Tryz.prog 73 #[.pointer (some ⟨bi,0,none⟩),.int .u8 a.toNat,.int .u8 b.toNat] w fun en w'=>en= .returned (.bool (bv cs a b))∧w'=w:=by
 obtain⟨R,a1⟩: ∃R,bv cs a b=R:=⟨_,rfl⟩;rw[a1];unfold bv at a1;have a2:=cR.1 ha
 by_cases h1:a.toNat=b.toNat
 ·rw[if_pos (Or.inl h1)]at a1;subst a1;have hb:((a.toNat:Int)==(b.toNat:Int))=true:=by rw[beq_iff_eq];omega
  clear h1 a2
  go_in
  go_wp2_with fail;go_ret;exact⟨rfl,rfl⟩
 have b0:((a.toNat:Int)==(b.toNat:Int))=false:=by rw[beq_eq_false_iff_ne];omega
 by_cases h2:b.toNat=45
 ·rw[if_pos (Or.inr h2)]at a1;subst a1;have hb:((b.toNat:Int)==45)=true:=by rw[beq_iff_eq];omega
  clear h1 h2 a2
  go_in
  go_wp2_with fail;go_ret;exact⟨rfl,rfl⟩
 have b1:=tf b.toNat 45 (by omega);rw[if_neg (by omega)]at a1;clear h1 h2
 cases hcb:isC b with
 |false=>
  rw[if_pos hcb]at a1;subst a1
  go_in
  go_wp2_with (go_at_call 82;refine(dr b _).mono ?_;rw[hcb];rintro en wx ⟨rfl,a0⟩;rw[a0];clear a0 wx);go_ret;exact⟨rfl,rfl⟩
 |true=>
  rw[if_neg (by rw[hcb];decide)]at a1
  by_cases h3:a.toNat=122
  ·rw[if_pos h3]at a1;subst a1;have a6:((a.toNat:Int)==122)=true:=by rw[beq_iff_eq];omega
   clear h3 a2
   go_in
   go_wp2_with (go_at_call 82;refine(dr b _).mono ?_;rw[hcb];rintro en wx ⟨rfl,a0⟩;rw[a0];clear a0 wx);go_ret;exact⟨rfl,rfl⟩
  ·rw[if_neg h3]at a1;have a6:=tf a.toNat 122 (by omega);clear h3
   cases hca:isC a with
   |false=>
    rw[if_pos hca]at a1;subst a1;clear a2
    go_in
    go_wp2_with fail;refine(dr b _).mono ?_;rw[hcb];rintro en wx ⟨rfl,a0⟩;rw[a0];clear a0 wx;go_wp2_with fail;refine(dr a _).mono ?_;rw[hca];rintro en wx ⟨rfl,a0⟩;rw[a0];clear a0 wx;go_wp2_with fail;go_ret;exact⟨rfl,rfl⟩
   |true=>
    rw[if_neg (by rw[hca];decide)]at a1;have hA:=bB.1 hca;have hB:=bB.1 hcb;have a7:(65:Int)≤(a.toNat:Int):=by omega
    have a8:(a.toNat:Int)≤68:=by omega
    have b2:(65:Int)≤(b.toNat:Int):=by omega
    have b3:(b.toNat:Int)≤68:=by omega
    have a5:(a.toNat:Int)-65<cs.length:=by omega
    have HR:Hid (bq cs 5 ((a.toNat:Int)-65) ((b.toNat:Int)-65)=R):=a1;have a3:Hid (isC a=true):=hca;have a4:Hid (isC b=true):=hcb;clear a2 hA hB a1 hca hcb
    go_in
    go_wp2_with fail;refine(dr b _).mono ?_;rw[a4.out];rintro en wx ⟨rfl,a0⟩;rw[a0];clear a0 wx;go_wp2_with fail;refine(dr a _).mono ?_;rw[a3.out];rintro en wx ⟨rfl,a0⟩;rw[a0];clear a0 wx;go_wp2_with fail;refine(uI bi cs _ _ _ hI hw (by omega) a5).mono ?_;rw[HR.out];rintro en wx ⟨rfl,a0⟩;rw[a0];clear a0 wx;go_wp2_with fail;go_ret;exact⟨rfl,rfl⟩
def qY (o:Option Nat):Int:=match o with
 |some p=>p
 |none=> -1
theorem Ak {cs:List Cls} {bs:List Bod} {c:List Ins} {k:Nat} (hk:k<c.length) (h:cw cs bs c.length c[k]=true) (hno: ∀j (hj:j<c.length),j<k→cw cs bs c.length c[j]=false):unl cs bs c=some c[k].pos:=by
 unfold unl
 have:c.find? (cw cs bs c.length)=some c[k]:=by
  rw[List.find?_eq_some_iff_getElem];exact⟨h,k,hk,rfl,fun j hj=>by rw[hno j (by omega) hj];rfl⟩
 rw[this]
 rfl
theorem xj {cs:List Cls} {bs:List Bod} {c:List Ins} (hno: ∀j (hj:j<c.length),cw cs bs c.length c[j]=false):unl cs bs c=none:=by
 unfold unl
 have:c.find? (cw cs bs c.length)=none:=by
  rw[List.find?_eq_none];intro x hx;obtain⟨j,hj,rfl⟩:=List.getElem_of_mem hx;rw[hno j hj];decide
 rw[this]
 rfl
theorem pu (bi:Nat) (im:Img) (bd:Bod) (vk:Value) (w:World) (hI:dk w bi im) (hW:WfI im) (hbd:WfB im.classes im.sigs bd) (hO:w.ownsRow 0 144 4 vk bd.code.length (cz bd.code)):
  Calls Tryz.prog 53 #[.pointer (some ⟨bi,0,none⟩),.agg #[.int .i64 bd.cls,.int .i64 bd.meth,.string ⟨bd.locals.toArray⟩,vk,.slice none 0 0]] w fun en w'=>en= .returned (.int .i64 (qY (unl im.classes im.bodies bd.code)))∧But (fun _=>False) w w':=by
 obtain⟨R,a8⟩: ∃R,unl im.classes im.bodies bd.code=R:=⟨_,rfl⟩;rw[a8];have b5:Hid (unl im.classes im.bodies bd.code=R):=a8;clear a8;obtain⟨ak,capk,rfl⟩:=aq hO;obtain⟨n,hn⟩: ∃n,bd.code.length=n:=⟨_,rfl⟩;rw[hn]at hO⊢;have HN:Hid (bd.code.length=n):=hn;have b2:=hbd.len;rw[hn]at b2;clear hn
 go_in
 go_wp2_with fail;have c7:But (fun _=>False) w (w.alloc (.cells #[.int .i64 bd.cls,.int .i64 bd.meth,.string ⟨bd.locals.toArray⟩,.slice ak n capk,.slice none 0 0] 52)):=But.alloc _ _ _;have e0:(w.alloc (.cells #[.int .i64 bd.cls,.int .i64 bd.meth,.string ⟨bd.locals.toArray⟩,.slice ak n capk,.slice none 0 0] 52)).heap[w.heap.size]?=some (.cells #[.int .i64 bd.cls,.int .i64 bd.meth,.string ⟨bd.locals.toArray⟩,.slice ak n capk,.slice none 0 0] 52):=heap_alloc_new _ _;generalize (w.alloc (.cells #[.int .i64 bd.cls,.int .i64 bd.meth,.string ⟨bd.locals.toArray⟩,.slice ak n capk,.slice none 0 0] 52))=w0 at*
 go_loopg [5] n (fun mm ks wr=> ∃(k:Nat),ks= .int .i64 k∧k≤n∧k+mm≤n∧n≤k+mm∧But (fun _=>False) w0 wr∧Hid (∀j (hj:j<bd.code.length),j<k→cw im.classes im.bodies bd.code.length bd.code[j]=false))
 case atStart=>exact⟨0,rfl,by omega,by omega,by omega,But.refl _ _,fun j hj h=>absurd h (by omega)⟩
 case round=>
  obtain⟨k,rfl,e5,e6,e7,hB,HA⟩:=hrel;have b1:wr.heap[w.heap.size]?=some (.cells #[.int .i64 bd.cls,.int .i64 bd.meth,.string ⟨bd.locals.toArray⟩,.slice ak n capk,.slice none 0 0] 52):=hB.kp e0;have g3:=ce3 b1;have g4:=ce4 b1;have a4:But (fun _=>False) w wr:=c7.trans hB;have e4:=ae b1
  by_cases hlt:k<n
  ·have a3:k<bd.code.length:=by rw[HN.out];exact hlt
   have hx:=List.getElem?_eq_getElem a3;have d6:=ah hO a4 (fun _ _ h=>h);obtain⟨g,rfl,e2,e3,a0⟩:=aD d6 (by omega);have q0:=a0 _ _ (oV hx);have q1:=a0 _ _ (oW hx);have q2:=a0 _ _ (oX hx);have q3:=a0 _ _ (oY hx);have b6:WfX im.classes im.sigs.length bd.locals.length bd.code[k]:=hbd.code _ (List.getElem_mem a3);obtain⟨X,hX⟩: ∃X,bd.code[k]=X:=⟨_,rfl⟩
   have HB:Hid (cw im.classes im.bodies bd.code.length X=true→R=some X.pos):=fun h=>by
    subst hX;rw[←b5.out];exact Ak a3 h HA.out
   have a7:Hid (cw im.classes im.bodies bd.code.length X=false→ ∀j (hj:j<bd.code.length),j<k+1→cw im.classes im.bodies bd.code.length bd.code[j]=false):=fun h j hj hjk=>by
    subst hX;rcases Nat.lt_or_ge j k with h'|h'
    ·exact HA.out j hj h'
    ·have:j=k:=by omega
     subst this;exact h
   rw[hX]at q0 q1 q2 q3 b6;clear a0 hx hX;have e8:(k:Int)<(n:Int):=by omega
   by_cases h99:X.op.toNat=99
   ·have t1:((X.op.toNat:Int)==99)=true:=by rw[beq_iff_eq];omega
    have t2:=tf X.op.toNat 106 (by omega);have t3:=tf X.op.toNat 102 (by omega);have e9:X.a<im.classes.length:=b6.cls (by omega);have b3:Hid (X.op.toNat=99):=h99;clear h99;go_wp2_with fail;refine(xh bi im _ _ _ ((hI.but a4).but (But.alloc _ _ _)).hds hW.cls hW.nc hW.nb (by omega) (by omega)).mono ?_;rintro en wx ⟨rfl,a6⟩;rw[a6];clear a6 wx;obtain⟨fr,b0⟩: ∃fr,cq im.classes im.bodies (X.b:Int) 5 (X.a:Int)=fr:=⟨_,rfl⟩;rw[b0];have b4:Hid (cq im.classes im.bodies (X.b:Int) 5 (X.a:Int)=fr):=b0;clear b0
    by_cases hf0:fr<0
    ·have a1:R=some X.pos:=HB.out (by simp[cw,b3.out,b4.out,hf0]);subst a1;go_wp2_with fail;go_ret;exact⟨rfl,a4.trans (But.alloc _ _ _)⟩
    ·have a5:Hid (cw im.classes im.bodies bd.code.length X=false):=by show _=_;simp[cw,b3.out,b4.out];omega
     go_wp2_with fail
     go_roundg (n-(k+1))
     case measure=>omega
     case rel=>exact⟨k+1,by simp,by omega,by omega,by omega,hB.trans (But.alloc _ _ _),a7.out a5.out⟩
   ·have t1:=tf X.op.toNat 99 (by omega)
    by_cases hj:X.op.toNat=106∨X.op.toNat=102
    ·by_cases hb:(n:Int)≤(X.b:Int)
     ·have a1:R=some X.pos:=HB.out (by
       have:bd.code.length≤X.b:=by rw[HN.out];omega
       simp[cw,hj,this])
      subst a1;rcases hj with hj|hj
      ·have t2:((X.op.toNat:Int)==106)=true:=by rw[beq_iff_eq];omega
       clear hj h99;go_wp2_with fail;go_ret;exact⟨rfl,a4.trans (But.alloc _ _ _)⟩
      ·have t2:=tf X.op.toNat 106 (by omega);have t3:((X.op.toNat:Int)==102)=true:=by rw[beq_iff_eq];omega
       clear hj h99;go_wp2_with fail;go_ret;exact⟨rfl,a4.trans (But.alloc _ _ _)⟩
     ·have a5:Hid (cw im.classes im.bodies bd.code.length X=false):=by
       show _=_
       have h1: ¬bd.code.length≤X.b:=by rw[HN.out];omega
       simp[cw,h99,h1]
      have a2:=a7.out a5.out;rcases hj with hj|hj
      ·have t2:((X.op.toNat:Int)==106)=true:=by rw[beq_iff_eq];omega
       have HH:Hid (∀j (hj:j<bd.code.length),j<k+1→cw im.classes im.bodies bd.code.length bd.code[j]=false):=a2;clear hj h99 a2;go_wp2_with fail
       go_roundg (n-(k+1))
       case measure=>omega
       case rel=>exact⟨k+1,by simp,by omega,by omega,by omega,hB.trans (But.alloc _ _ _),HH⟩
      ·have t2:=tf X.op.toNat 106 (by omega);have t3:((X.op.toNat:Int)==102)=true:=by rw[beq_iff_eq];omega
       have HH:Hid (∀j (hj:j<bd.code.length),j<k+1→cw im.classes im.bodies bd.code.length bd.code[j]=false):=a2;clear hj h99 a2;go_wp2_with fail
       go_roundg (n-(k+1))
       case measure=>omega
       case rel=>exact⟨k+1,by simp,by omega,by omega,by omega,hB.trans (But.alloc _ _ _),HH⟩
    ·have t2:=tf X.op.toNat 106 (by omega);have t3:=tf X.op.toNat 102 (by omega)
     have a5:Hid (cw im.classes im.bodies bd.code.length X=false):=by
      show _=_
      simp[cw,h99];omega
     have HH:Hid (∀j (hj:j<bd.code.length),j<k+1→cw im.classes im.bodies bd.code.length bd.code[j]=false):=a7.out a5.out;clear hj h99;go_wp2_with fail
     go_roundg (n-(k+1))
     case measure=>omega
     case rel=>exact⟨k+1,by simp,by omega,by omega,by omega,hB.trans (But.alloc _ _ _),HH⟩
  ·have a1:R=none:=by
    rw[←b5.out];exact xj (fun j hj=>HA.out j hj (by rw[HN.out]at hj;omega))
   subst a1;go_wp2_with fail
   go_loopg [8] 0 (fun mm ks wr'=>ks= .int .i64 0∧wr'=wr)
   case atStart=>exact⟨rfl,rfl⟩
   case round=>
    obtain⟨rfl,e1⟩:=hrel;rw[e1];go_wp2_with fail;go_ret;exact⟨rfl,a4⟩
def zZ (R:Except (Nat×Nat) Img) (bi:Nat):Value:=match R with
 | .error (e,p)=> .tuple #[.pointer none,.int .i64 e,.int .i64 p]
 | .ok _=> .tuple #[.pointer (some ⟨bi,0,none⟩),.int .i64 0,.int .i64 0]
def qZ (R:Except (Nat×Nat) Img) (bi:Nat) (w':World):Prop:=match R with
 | .error _=>True
 | .ok im=>dk w' bi im∧WfI im
theorem ra {α:Type} {f:α→Option Nat}: ∀{l:List α} {k:Nat} {p:Nat} (hk:k<l.length),f l[k]=some p→(∀j (hj:j<l.length),j<k→f l[j]=none)→l.findSome? f=some p:=by
 intro l
 induction l with
 |nil=>intro k p hk;simp at hk
 |cons x l ih=>
  intro k p hk h a0
  cases k with
  |zero=>simp at h;simp[List.findSome?_cons,h]
  |succ k=>
   have h0:=a0 0 (by simp) (by omega);simp at h0 h;rw[List.findSome?_cons,h0]
   exact ih (by simpa using hk) h (fun j hj hjk=>by
    have:=a0 (j+1) (by simpa using hj) (by omega)
    rwa [List.getElem_cons_succ]at this)
theorem sO (s:ByteArray) (w:World) (hmax:s.size≤maxLen):
  Calls Tryz.prog 28 #[.string s,.bool false] w fun en w'=>en= .returned (zZ (da s) w.heap.size)∧But (fun _=>False) w w'∧qZ (da s) w.heap.size w':=by
 obtain⟨R,a5⟩: ∃R,da s=R:=⟨_,rfl⟩;rw[a5];unfold maxLen at hmax
 by_cases hbig:2000<s.size
 ·have a1:R= .error (1,0):=by rw[←a5,da,if_pos hbig]
  subst a1;have hb:(2000:Int)<(s.size:Int):=by omega
  clear a5
  go_in
  go_wp2_with fail
  go_ret3
  exact⟨rfl,But.refl _ _,trivial⟩
 have hs:s.size≤2000:=by omega
 have hb: ¬(2000:Int)<(s.size:Int):=by omega
 have a6:Hid (da s=R):=a5;clear a5 hbig
 go_in
 go_wp2_with fail;refine(xg s w hs).mono ?_;rintro en w1 ⟨rfl,b1,hp⟩
 cases hread:dp s with
 |error j=>
  have a1:R= .error (2,j):=by rw[←a6.out,da,if_neg (by omega),hread]
  subst a1;simp only[xe];have e3:(0:Int)≤(j:Int):=by omega
  clear hp a6 hread;go_wp2_with fail
  go_ret3
  exact⟨rfl,b1,trivial⟩
 |ok im=>
  rw[hread]at hp;have hW:=mi hs hread;simp only[xe];have hI:dk w1 w.heap.size im:=hp;have b4:Hid (dp s= .ok im):=hread;clear hread hp;obtain⟨v0,v1,v2,l,b6,hC,hS,hB,hl,c7⟩:=hI;have hI:dk w1 w.heap.size im:=⟨v0,v1,v2,l,b6,hC,hS,hB,hl,c7⟩;obtain⟨a2,e0,rfl⟩:=aq hB;have e8:l.length≤7:=by have:=hW.nb;rw[←hl]at this;simpa using this
  have HL:Hid (l.map (·.1)=im.bodies):=hl;clear hl;go_wp2_with fail
  go_loopg [9] l.length (fun mm ks wr=> ∃(k:Nat),ks= .int .i64 k∧k≤l.length∧k+mm≤l.length∧l.length≤k+mm∧But (fun _=>False) w1 wr∧Hid (∀j (hj:j<l.length),j<k→unl im.classes im.bodies l[j].1.code=none))
  case atStart=>exact⟨0,rfl,by omega,by omega,by omega,But.refl _ _,fun j hj h=>absurd h (by omega)⟩
  case round=>
   obtain⟨k,rfl,e4,e5,e6,a3,HA⟩:=hrel;have d2:=(b6.but a3 (fun h=>h)).c2
   by_cases hlt:k<l.length
   ·have hx:=List.getElem?_eq_getElem hlt;obtain⟨g,rfl,e1,e2,a0⟩:=aD (ah hB a3 (fun _ _ h=>h)) (by omega);have q0:=a0 _ _ (kb hx);have q1:=a0 _ _ (ke hx);have q2:=a0 _ _ (oQ hx);have q3:=a0 _ _ (oS hx);have q4:=a0 _ _ (oT hx);have a4:l[k]∈l:=List.getElem_mem hlt;obtain⟨a7,b2⟩:=c7 _ a4;have b3:WfB im.classes im.sigs l[k].1:=hW.bod _ (by rw[←HL.out];exact List.mem_map_of_mem a4)
    have a8:Hid (∀p,unl im.classes im.bodies l[k].1.code=some p→R= .error (3,p)):=fun p hp=>by
     rw[←a6.out,da,if_neg (by omega),b4.out];simp only;rw[show im.bodies.findSome? (fun b=>unl im.classes im.bodies b.code)=some p from ?_];rw[←HL.out,List.findSome?_map];rw[HL.out];exact ra hlt hp HA.out
    have b0:Hid (unl im.classes im.bodies l[k].1.code=none→ ∀j (hj:j<l.length),j<k+1→unl im.classes im.bodies l[j].1.code=none):=fun h j hj hjk=>by
     rcases Nat.lt_or_ge j k with h'|h'
     ·exact HA.out j hj h'
     ·have:j=k:=by omega
      subst this;exact h
    obtain⟨X,hX⟩: ∃X,l[k]=X:=⟨_,rfl⟩;rw[hX]at q0 q1 q2 q3 q4 a7 b2 b3 a8 b0;rw[b2]at q4;obtain⟨Xb,Xk,Xt⟩:=X;simp only at q0 q1 q2 q3 q4 a7 b3 a8 b0;obtain⟨ak,capk,rfl⟩:=aq a7;clear a0 hx hX a4 b2;have e7:(k:Int)<(l.length:Int):=by omega
    go_wp2_with fail;refine(pu w.heap.size im Xb _ _ (hI.but a3) hW b3 (ah a7 a3 (fun _ _ h=>h))).mono ?_;rintro en w2 ⟨rfl,b5⟩
    cases hu:unl im.classes im.bodies Xb.code with
    |some p=>
     have a1:R= .error (3,p):=a8.out p hu;subst a1;simp only[qY];have e9:(0:Int)≤(p:Int):=by omega
     clear hu q0 q1 q2 q3 q4 d2;go_wp2_with fail
     go_ret3
     exact⟨rfl,(b1.trans a3).trans b5,trivial⟩
    |none=>
     simp only[qY];have HH:=b0.out hu;have d6:Hid (∀j (hj:j<l.length),j<k+1→unl im.classes im.bodies l[j].1.code=none):=HH;clear hu HH q0 q1 q2 q3 q4 d2;go_wp2_with fail
     go_roundg (l.length-(k+1))
     case measure=>omega
     case rel=>exact⟨k+1,by simp,by omega,by omega,by omega,a3.trans b5,d6⟩
   ·have a1:R= .ok im:=by
     rw[←a6.out,da,if_neg (by omega),b4.out];simp only;rw[show im.bodies.findSome? (fun b=>unl im.classes im.bodies b.code)=none from ?_];rw[List.findSome?_eq_none_iff];intro b hb;rw[←HL.out]at hb;obtain⟨x,hx,rfl⟩:=List.mem_map.1 hb;obtain⟨j,hj,rfl⟩:=List.getElem_of_mem hx;exact HA.out j hj (by omega)
    subst a1;go_wp2_with fail
    go_ret3
    exact⟨rfl,b1.trans a3,hI.but a3,hW⟩
end
section
open Go Go.RowKit Sp
attribute [local go_sem ↓] Go.wp_at_zero Go.wp_at_succ
theorem mC (l:List UInt8) (k:Nat) (h:k<l.length) (h':k<(⟨l.toArray⟩:ByteArray).size):(⟨l.toArray⟩:ByteArray)[k]=l[k]:=rfl
theorem dI (l:List UInt8) (k:Nat) (h:k<l.length):l.getD k 0=l[k]:=by simp[List.getD,h]
theorem mD (bi:Nat) (cs:List Cls) (st wa:List UInt8) (w:World) (hI:gj w bi cs) (hw:WfC cs) (hn:cs.length≤4) (hst: ∀c∈st,okT cs.length c=true) (hl1:st.length≤300000000) (hl2:wa.length≤300000000):
  Calls Tryz.prog 83 #[.pointer (some ⟨bi,0,none⟩),.string ⟨st.toArray⟩,.string ⟨wa.toArray⟩] w fun en w'=>en= .returned (.bool (cr cs st wa))∧But (fun _=>False) w w':=by
 obtain⟨R,a5⟩: ∃R,cr cs st wa=R:=⟨_,rfl⟩;rw[a5];have a4:Hid (cr cs st wa=R):=a5;clear a5
 by_cases hlen:(st.length:Int)-(wa.length:Int)<0
 ·have a0:R=false:=by rw[←a4.out];exact qs (by omega)
  subst a0
  go_in
  go_wp2_with fail;go_ret;exact⟨rfl,But.refl _ _⟩
 go_in
 go_wp2_with fail
 go_loopg [8] wa.length (fun mm ks wr=> ∃(k:Nat),ks= .int .i64 k∧k≤wa.length∧k+mm≤wa.length∧wa.length≤k+mm∧But (fun _=>False) w wr∧Hid (∀j,j<k→bv cs (st.getD (st.length-wa.length+j) 0) (wa.getD j 0)=true))
 case atStart=>exact⟨0,rfl,by omega,by omega,by omega,But.refl _ _,fun j h=>absurd h (by omega)⟩
 case round=>
  obtain⟨k,rfl,b4,b5,b6,a2,HA⟩:=hrel
  by_cases hlt:k<wa.length
  ·have c7:(k:Int)<(wa.length:Int):=by omega
   have b2:(0:Int)≤(st.length:Int)-(wa.length:Int)+(k:Int):=by omega
   have b3:(st.length:Int)-(wa.length:Int)+(k:Int)<(st.length:Int):=by omega
   have a3:st.length-wa.length+k<st.length:=by omega
   have a7:=dj ((st.length:Int)-(wa.length:Int)+(k:Int)) (by omega) (by omega);go_wp2_with fail;refine aB (But (fun _=>False) wr) 10 (by kernel_rfl) ?_;have a1:But (fun _=>False) wr wr.drew:=But.drew _ _
   iterate 9 (refine aG (v:=?_) rfl (by kernel_rfl) (fun _ _ _ h=>h) rfl a1 ?_ ?_;rotate_left;(focus (intro wS h;clear h;go_simp;try rfl));dsimp only[Act.put];try simp only[aK])
   clear a7;refine ag rfl (by kernel_rfl) ?_;intro KS hKS;go_simp
   have ha: ∀h,(⟨st.toArray⟩:ByteArray)[((st.length:Int)-(wa.length:Int)+(k:Int)).toNat]'h=st.getD (st.length-wa.length+k) 0:=fun h=>by
    have a6:((st.length:Int)-(wa.length:Int)+(k:Int)).toNat=st.length-wa.length+k:=by omega
    rw[dI st _ a3];simp only[a6];exact mC st _ a3 _
   have hb: ∀h,(⟨wa.toArray⟩:ByteArray)[k]'h=wa.getD k 0:=fun h=>by
    rw[dI wa _ hlt];exact mC wa _ hlt _
   simp only[ha,hb];have b1:okT cs.length (st.getD (st.length-wa.length+k) 0)=true:=by rw[dI st _ a3];exact hst _ (List.getElem_mem _)
   have b0:Hid (∀q,bv cs (st.getD (st.length-wa.length+k) 0) (wa.getD k 0)=q→(q=false→R=false)∧(q=true→ ∀j,j<k+1→bv cs (st.getD (st.length-wa.length+j) 0) (wa.getD j 0)=true)):=fun q hq=>by
    refine⟨fun h=>by subst h;rw[←a4.out];exact wI hlt hq,fun h j hj=> ?_⟩;rcases Nat.lt_or_ge j k with h'|h'
    ·exact HA.out j h'
    ·have:j=k:=by omega
     subst this;rw[hq,h]
   clear ha hb a3;generalize st.getD (st.length-wa.length+k) 0=A at*;generalize wa.getD k 0=B at*;refine(zd bi cs A B _ ((hI.but a2).but a1) hw hn b1).mono ?_;rintro en wx ⟨rfl,a8⟩;rw[a8];clear a8 wx;refine hKS.out _ _ (fun _=>a1) ?_;clear hKS KS;refine ag rfl (by kernel_rfl) ?_;intro KS hKS;go_simp;refine hKS.out _ _ nofun ?_;clear hKS KS;refine aF rfl (by kernel_rfl) ?_;have HX:=b0.out _ rfl
   cases hq:bv cs A B with
   |false=>
    have a0:R=false:=HX.1 hq;subst a0;clear HX hq;go_wp2_with fail;go_ret;exact⟨rfl,a2.trans a1⟩
   |true=>
    have HY:Hid (∀j,j<k+1→bv cs (st.getD (st.length-wa.length+j) 0) (wa.getD j 0)=true):=HX.2 hq;clear HX hq;go_wp2_with fail
    go_roundg (wa.length-(k+1))
    case measure=>omega
    case rel=>exact⟨k+1,by simp,by omega,by omega,by omega,a2.trans a1,HY⟩
  ·have a0:R=true:=by rw[←a4.out];exact oe (by omega) (fun j hj=>HA.out j (by omega))
   subst a0;go_wp2_with fail;go_ret;exact⟨rfl,a2⟩
theorem ow (x:Ins) (st:List UInt8) (w:World) (hl1:st.length≤300000000):
  Calls Tryz.prog 135 #[.agg #[.int .u8 x.op.toNat,.int .i64 x.a,.int .i64 x.b,.int .i64 x.pos],.string ⟨st.toArray⟩] w fun en w'=>en= .returned (.int .i64 (qY (cP x.op.toNat st)))∧But (fun _=>False) w w':=by
 obtain⟨R,a0⟩: ∃R,cP x.op.toNat st=R:=⟨_,rfl⟩;rw[a0];unfold cP at a0
 by_cases h101:x.op.toNat=101
 ·rw[if_pos h101]at a0;have t1:((x.op.toNat:Int)==101)=true:=by rw[beq_iff_eq];omega
  clear h101
  by_cases h2:(st.length:Int)<2
  ·rw[if_pos (Or.inl (by omega))]at a0;subst a0
   go_in
   go_wp2_with fail;go_ret;exact⟨rfl,But.alloc _ _ _⟩
  ·have a2:st.length-1<st.length:=by omega
   have a3:st.length-2<st.length:=by omega
   have g1: ∀h,(⟨st.toArray⟩:ByteArray)[st.length-1]'h=st.getD (st.length-1) 0:=fun h=>by rw[dI st _ a2];exact mC st _ a2 _
   have g2: ∀h,(⟨st.toArray⟩:ByteArray)[st.length-2]'h=st.getD (st.length-2) 0:=fun h=>by rw[dI st _ a3];exact mC st _ a3 _
   rw[dI st _ a2,dI st _ a3]at a0;obtain⟨P,hP⟩: ∃P,st[st.length-1]'a2=P:=⟨_,rfl⟩;obtain⟨Q,hQ⟩: ∃Q,st[st.length-2]'a3=Q:=⟨_,rfl⟩;rw[hP,hQ]at a0;have HP:Hid (st[st.length-1]'a2=P):=hP;have HQ:Hid (st[st.length-2]'a3=Q):=hQ;have a5: ¬st.length<2:=by omega
   clear hP hQ;have k1: ∀h,(⟨st.toArray⟩:ByteArray)[st.length-1]'h=P:=fun h=>(mC st _ a2 _).trans HP.out
   have k2: ∀h,(⟨st.toArray⟩:ByteArray)[st.length-2]'h=Q:=fun h=>(mC st _ a3 _).trans HQ.out
   clear g1 g2
   go_in
   go_wp2_with fail;refine(kW P _).mono ?_
   cases hp:isR P with
   |false=>
    rw[if_pos (Or.inr (Or.inl hp))]at a0;subst a0;rintro en wx ⟨rfl,a1⟩;rw[a1];clear a1 wx hp;go_wp2_with fail;go_ret;exact⟨rfl,But.alloc _ _ _⟩
   |true=>
    rintro en wx ⟨rfl,a1⟩;rw[a1];clear a1 wx;go_wp2_with fail;refine(kW Q _).mono ?_
    cases hq:isR Q with
    |false=>
     rw[if_pos (Or.inr (Or.inr hq))]at a0;subst a0;rintro en wx ⟨rfl,a1⟩;rw[a1];clear a1 wx hp hq;go_wp2_with fail;go_ret;exact⟨rfl,But.alloc _ _ _⟩
    |true=>
     rw[if_neg (by rw[hp,hq];simp;omega)]at a0;subst a0;rintro en wx ⟨rfl,a1⟩;rw[a1];clear a1 wx hp hq;go_wp2_with fail;go_ret;exact⟨rfl,But.alloc _ _ _⟩
 ·rw[if_neg h101]at a0;have t1:=tf x.op.toNat 101 (by omega);clear h101
  by_cases h1:(st.length:Int)<1
  ·rw[if_pos (Or.inl (by omega))]at a0;subst a0
   go_in
   go_wp2_with fail;go_ret;exact⟨rfl,But.alloc _ _ _⟩
  ·have a2:st.length-1<st.length:=by omega
   by_cases h120:x.op.toNat=120
   ·have t2:((x.op.toNat:Int)==120)=true:=by rw[beq_iff_eq];omega
    rw[dI st _ a2]at a0;obtain⟨P,hP⟩: ∃P,st[st.length-1]'a2=P:=⟨_,rfl⟩;rw[hP]at a0;have HP:Hid (st[st.length-1]'a2=P):=hP;clear hP;have k1: ∀h,(⟨st.toArray⟩:ByteArray)[st.length-1]'h=P:=fun h=>(mC st _ a2 _).trans HP.out
    have a4:Hid (x.op.toNat=120):=h120;clear h120
    go_in
    go_wp2_with fail;refine(kW P _).mono ?_
    cases hp:isR P with
    |false=>
     rw[if_pos (Or.inr ⟨a4.out,hp⟩)]at a0;subst a0;rintro en wx ⟨rfl,a1⟩;rw[a1];clear a1 wx hp;go_wp2_with fail;go_ret;exact⟨rfl,But.alloc _ _ _⟩
    |true=>
     rw[if_neg (fun h=>by
      rcases h with h| ⟨_,h⟩
      ·omega
      ·rw[hp]at h;cases h)]at a0
     subst a0;rintro en wx ⟨rfl,a1⟩;rw[a1];clear a1 wx hp;go_wp2_with fail;go_ret;exact⟨rfl,But.alloc _ _ _⟩
   ·have t2:=tf x.op.toNat 120 (by omega);rw[if_neg (by omega)]at a0;subst a0;clear h120
    go_in
    go_wp2_with fail;go_ret;exact⟨rfl,But.alloc _ _ _⟩
theorem sP (a:Int) (c:UInt8) (ha:a=c.toNat) (w:World):(convert 112 9 (.slice (some ⟨w.heap.size,0,none⟩) 1 1)).run Tryz.prog (w.alloc (.cells #[.int .u8 a] 5))= .ok (.string ⟨#[c]⟩) (w.alloc (.cells #[.int .u8 a] 5)):=by
 subst ha;exact qp c w
theorem xk (a:Int) (c:UInt8) (ha:a=c.toNat) (w:World):(convert 112 9 (.slice (some ⟨w.heap.size,0,none⟩) 1 1)).run Tryz.prog (w.alloc (.cells #[.int .u8 a] 5)).drew= .ok (.string ⟨#[c]⟩) (w.alloc (.cells #[.int .u8 a] 5)).drew:=sP a c ha w.drew
theorem xn (a d:Int) (c e:UInt8) (ha:a=c.toNat) (hd:d=e.toNat) (w:World):(convert 112 9 (.slice (some ⟨w.heap.size,0,none⟩) 2 2)).run Tryz.prog (w.alloc (.cells #[.int .u8 a,.int .u8 d] 5)).drew= .ok (.string ⟨#[c,e]⟩) (w.alloc (.cells #[.int .u8 a,.int .u8 d] 5)).drew:=xd a d c e ha hd w.drew
theorem rc {a:Nat} (h:a<4):(65+(a:Int))=((b8 a).toNat:Int):=by
 unfold b8;rw[UInt8.toNat_ofNat'];omega
def xo (w:World) (bi:Nat) (gs:List Sig):Prop:=
 ∃v0 v1 v2,ImB w bi v0 v1 v2∧w.ownsRow 0 129 2 v1 gs.length (cy gs)
theorem dk.sig {w:World} {bi:Nat} {im:Img} (h:dk w bi im):xo w bi im.sigs:=by
 obtain⟨v0,v1,v2,l,hI,_,h1,_⟩:=h;exact⟨v0,v1,v2,hI,h1⟩
theorem xo.at {w:World} {bi:Nat} {gs:List Sig} (h:xo w bi gs) {k:Nat} (hk:k<gs.length):
  ∃(g n cap:Nat),w.cell? ⟨bi,1,none⟩=some (.slice (some ⟨g,0,none⟩) n cap)∧(k:Int)<(n:Int)∧w.cell? ⟨g,k*2,none⟩=some (.int .u8 (fW gs k).toNat)∧w.cell? ⟨g,k*2+1,none⟩=some (.int .u8 (dR gs k).toNat)∧bi<w.heap.size∧g<w.heap.size:=by
 obtain⟨v0,v1,v2,hI,hO⟩:=h;obtain⟨a0,cap0,rfl⟩:=aq hO;have a2:=List.getElem?_eq_getElem hk;obtain⟨g,rfl,a3,a4,a1⟩:=aD hO (by omega);refine⟨g,gs.length,cap0,hI.c1,by omega,?_,?_,hI.lt,a3⟩
 ·rw[show fW gs k=gs[k].arg from by simp[fW,a2]];exact a1 _ _ (kg a2)
 ·rw[show dR gs k=gs[k].ret from by simp[dR,a2]];exact a1 _ _ (oU a2)
theorem gj.flds {w:World} {bi:Nat} {cs:List Cls} (h:gj w bi cs) {k j:Nat} (hk:k<cs.length) (hj:j<bU cs k):
  ∃(g n cap:Nat) (fl:List UInt8),w.cell? ⟨bi,0,none⟩=some (.slice (some ⟨g,0,none⟩) n cap)∧(k:Int)<(n:Int)∧w.cell? ⟨g,k*2+1,none⟩=some (.string ⟨fl.toArray⟩)∧j<fl.length∧fl.getD j 0=bT cs k j∧bi<w.heap.size∧g<w.heap.size:=by
 obtain⟨v0,v1,v2,hI,hO⟩:=h;obtain⟨a0,cap0,rfl⟩:=aq hO;have a2:=List.getElem?_eq_getElem hk;obtain⟨g,rfl,a3,a4,a1⟩:=aD hO (by omega);refine⟨g,cs.length,cap0,cs[k].fields,hI.c0,by omega,a1 _ _ (fk a2),?_,?_,hI.lt,a3⟩
 ·simpa[bU,a2]using hj
 ·simp[bT,a2]
theorem xp (bi:Nat) (im:Img) (bd:Bod) (ak:Option Addr) (n capk:Nat) (x:Ins) (w:World) (hI:dk w bi im) (hW:WfI im) (hbd:WfB im.classes im.sigs bd) (hx:WfX im.classes im.sigs.length bd.locals.length x) (hdummy:True):
  Calls Tryz.prog 137 #[.pointer (some ⟨bi,0,none⟩),.agg #[.int .i64 bd.cls,.int .i64 bd.meth,.string ⟨bd.locals.toArray⟩,.slice ak n capk,.slice none 0 0],.agg #[.int .u8 x.op.toNat,.int .i64 x.a,.int .i64 x.b,.int .i64 x.pos]] w fun en w'=>en= .returned (.string ⟨(bA im.classes im.sigs bd x).toArray⟩)∧But (fun _=>False) w w':=by
 have a2:=hx.op;simp[bZ]at a2;have e5:=hW.nc;obtain⟨W,a5⟩: ∃W,(w.alloc (.cells #[.int .i64 bd.cls,.int .i64 bd.meth,.string ⟨bd.locals.toArray⟩,.slice ak n capk,.slice none 0 0] 52)).alloc (.cells #[.int .u8 x.op.toNat,.int .i64 x.a,.int .i64 x.b,.int .i64 x.pos] 144)=W:=⟨_,rfl⟩;have a4:But (fun _=>False) w W:=by rw[←a5];exact(But.alloc _ _ _).trans (But.alloc _ _ _)
 have b3:W.heap[w.heap.size+1]?=some (.cells #[.int .u8 x.op.toNat,.int .i64 x.a,.int .i64 x.b,.int .i64 x.pos] 144):=by rw[←a5];exact CB (by simp) _
 have b4:W.heap[w.heap.size]?=some (.cells #[.int .i64 bd.cls,.int .i64 bd.meth,.string ⟨bd.locals.toArray⟩,.slice ak n capk,.slice none 0 0] 52):=by rw[←a5];exact((But.alloc (fun _=>False) _ _).block w.heap.size (by simp) (fun h=>h)).trans (heap_alloc_new w _)
 have a6:W.heap.size=w.heap.size+2:=by rw[←a5];simp
 have i1:=cell_of_row W _ 1 _ _ (0,0) b3;have i2:=cell_of_row W _ 2 _ _ (0,0) b3;have b1:=cell_of_row W _ 1 _ _ (0,0) b4;simp at i1 i2 b1;have lI:=ae b3;have lB:=ae b4;have a7:=hI.but a4;have a1:=hid a5;have a8:But (fun _=>False) W W.drew:=But.drew _ _;clear a5 b3 b4;have a3: ∀a:Nat,a<4→(65+(a:Int))=((b8 a).toNat:Int):=fun a h=>rc h
 by_cases h112:x.op.toNat=112
 ·have c7:=hx.cls (by omega);obtain⟨g,m,cap,fl,d0,hm,hc,e1,e0,lbi,lg⟩:=a7.cls.flds c7 (hx.fld (by omega));rw[show bA im.classes im.sigs bd x=[b8 x.a,bT im.classes x.a x.b]from by simp[bA,h112,arith],h112,←e0];rw[h112,show((112:Nat):Int)=112 from rfl]at a1;have e4:(x.b:Int)<(fl.length:Int):=by omega
  have e3:=dj (65+(x.a:Int)) (by omega) (by omega);have b6:=IntWalk.u8_in (65+(x.a:Int)) (by omega);have b2:=xn (65+(x.a:Int)) ((fl.getD x.b 0).toNat:Int) (b8 x.a) (fl.getD x.b 0) (a3 _ (by omega)) rfl;have e2: ∀h,(⟨fl.toArray⟩:ByteArray)[x.b]'h=fl.getD x.b 0:=fun h=>by rw[dI fl _ e1];exact mC fl _ e1 _
  generalize fl.getD x.b 0=E at*;generalize b8 x.a=C at*;clear a3 a2 h112 e0 a6
  go_in
  go_wp2_with fail;rw[a1.out];refine aB (But (fun _=>False) W) 18 (by kernel_rfl) ?_
  iterate 16 (refine aG (v:=?_) rfl (by kernel_rfl) (fun _ _ _ h=>h) rfl a8 ?_ ?_;rotate_left;(focus (intro wS h;have q0:=(h.kc i1 lI);have q1:=(h.kc i2 lI);have q2:=(h.kc d0 lbi);have q3:=(h.kc hc lg);clear h;go_simp;try rfl));dsimp only[Act.put];try simp only[aK])
  refine ag rfl (by kernel_rfl) ?_;intro KS hKS;simp only[e2];go_simp;refine hKS.out _ _ (fun _=>(But.alloc _ _ _).trans (But.drew _ _)) ?_;clear hKS KS;refine ag rfl (by kernel_rfl) ?_;intro KS hKS;go_simp;refine hKS.out _ _ (fun _=>(But.alloc _ _ _).trans (But.drew _ _)) ?_;clear hKS KS;refine ag rfl (by kernel_rfl) ?_;intro KS hKS;go_simp;refine hKS.out _ _ nofun ?_;clear hKS KS;refine aF rfl (by kernel_rfl) ?_;go_wp2_with fail;go_ret;exact⟨rfl,a4.trans ((But.alloc _ _ _).trans (But.drew _ _))⟩
 by_cases h99:x.op.toNat=99
 ·have c7:=hx.cls (by omega);obtain⟨g,m,cap,d1,hm,hc,d6,lbi,lg⟩:=a7.sig.at (hx.sig h99);rw[show bA im.classes im.sigs bd x=[b8 x.a,fW im.sigs x.b]from by simp[bA,h99,arith],h99];rw[h99,show((99:Nat):Int)=99 from rfl]at a1;have e3:=dj (65+(x.a:Int)) (by omega) (by omega);have b6:=IntWalk.u8_in (65+(x.a:Int)) (by omega);have b2:=xn (65+(x.a:Int)) ((fW im.sigs x.b).toNat:Int) (b8 x.a) (fW im.sigs x.b) (a3 _ (by omega)) rfl;generalize fW im.sigs x.b=E at*;generalize b8 x.a=C at*;clear a3 a2 h112 h99 a6
  go_in
  go_wp2_with fail;rw[a1.out];refine aB (But (fun _=>False) W) 15 (by kernel_rfl) ?_
  iterate 13 (refine aG (v:=?_) rfl (by kernel_rfl) (fun _ _ _ h=>h) rfl a8 ?_ ?_;rotate_left;(focus (intro wS h;have q0:=(h.kc i1 lI);have q1:=(h.kc i2 lI);have q2:=(h.kc d1 lbi);have q3:=(h.kc hc lg);clear h;go_simp;try rfl));dsimp only[Act.put];try simp only[aK])
  refine ag rfl (by kernel_rfl) ?_;intro KS hKS;go_simp;refine hKS.out _ _ (fun _=>(But.alloc _ _ _).trans (But.drew _ _)) ?_;clear hKS KS;refine ag rfl (by kernel_rfl) ?_;intro KS hKS;go_simp;refine hKS.out _ _ (fun _=>(But.alloc _ _ _).trans (But.drew _ _)) ?_;clear hKS KS;refine ag rfl (by kernel_rfl) ?_;intro KS hKS;go_simp;refine hKS.out _ _ nofun ?_;clear hKS KS;refine aF rfl (by kernel_rfl) ?_;go_wp2_with fail;go_ret;exact⟨rfl,a4.trans ((But.alloc _ _ _).trans (But.drew _ _))⟩
 by_cases a0:x.op.toNat=116∧ ¬bd.cls<0
 ·obtain⟨a0,b0⟩:=a0;obtain⟨mn,b5⟩: ∃mn:Nat,bd.meth=mn:=⟨bd.meth.toNat,by rcases hbd.cls with h|h<;>omega⟩;obtain⟨g,m,cap,d1,hm,hc,d6,lbi,lg⟩:=a7.sig.at (k:=mn) (by rcases hbd.cls with h|h<;>omega);rw[show bA im.classes im.sigs bd x=[dR im.sigs mn]from by simp[bA,a0,arith,b0,b5],a0];rw[a0,show((116:Nat):Int)=116 from rfl]at a1;rw[b5]at b1;have b2:=xk ((dR im.sigs mn).toNat:Int) (dR im.sigs mn) rfl;generalize dR im.sigs mn=E at*;clear a3 a2 h112 h99 a0 b5 a6
  go_in
  go_wp2_with fail;rw[a1.out];refine aB (But (fun _=>False) W) 11 (by kernel_rfl) ?_
  iterate 9 (refine aG (v:=?_) rfl (by kernel_rfl) (fun _ _ _ h=>h) rfl a8 ?_ ?_;rotate_left;(focus (intro wS h;have q0:=(h.kc b1 lB);have q1:=(h.kc d1 lbi);have q2:=(h.kc d6 lg);clear h;go_simp;try rfl));dsimp only[Act.put];try simp only[aK])
  refine ag rfl (by kernel_rfl) ?_;intro KS hKS;go_simp;refine hKS.out _ _ (fun _=>(But.alloc _ _ _).trans (But.drew _ _)) ?_;clear hKS KS;refine ag rfl (by kernel_rfl) ?_;intro KS hKS;go_simp;refine hKS.out _ _ (fun _=>(But.alloc _ _ _).trans (But.drew _ _)) ?_;clear hKS KS;refine ag rfl (by kernel_rfl) ?_;intro KS hKS;go_simp;refine hKS.out _ _ nofun ?_;clear hKS KS;refine aF rfl (by kernel_rfl) ?_;go_wp2_with fail;go_ret;exact⟨rfl,a4.trans ((But.alloc _ _ _).trans (But.drew _ _))⟩
 by_cases h103:x.op.toNat=103
 ·have c7:=hx.cls (by omega);rw[show bA im.classes im.sigs bd x=[b8 x.a]from by simp[bA,h103,arith],h103];rw[h103,show((103:Nat):Int)=103 from rfl]at a1;have b2:=sP (65+(x.a:Int)) (b8 x.a) (a3 _ (by omega)) W;rw[a6,←a1.out]at b2;have e6:(x.a:Int)<4:=by omega
  generalize b8 x.a=C at*;clear a3 a2 h112 h99 a0 h103 a6 a1 a7 hI hx a4 i1 i2 b1 lI lB a8
  go_in
  go_wp2_with fail;go_ret;exact⟨rfl,((But.alloc _ _ _).trans (But.alloc _ _ _)).trans (But.alloc _ _ _)⟩
 simp only[h112,h99,h103,or_false,false_or]at a2;clear a6 a1 a7 hI a4 i1 i2 b1 lI lB a8 a3
 by_cases b0:bd.cls<0
 all_goals
  simp only[b0,not_false_eq_true,not_true_eq_false,and_true,and_false]at a0
 ·rcases a2 with h'|h'|h'|h'|h'|h'|h'|h'|h'|h'|h'|h'|h'|h'|h'|h'|h'|h'|h'
  all_goals
   rw[show bA im.classes im.sigs bd x=_ from by simp only[bA,arith,h',b0];rfl,h'];clear h112 h99 h103 h' hx
   go_in
   go_wp2_with fail;go_ret;exact⟨rfl,(But.alloc _ _ _).trans (But.alloc _ _ _)⟩
 ·simp only[a0,or_false]at a2;rcases a2 with h'|h'|h'|h'|h'|h'|h'|h'|h'|h'|h'|h'|h'|h'|h'|h'|h'|h'
  all_goals
   rw[show bA im.classes im.sigs bd x=_ from by simp only[bA,arith,h'];rfl,h'];clear h112 h99 h103 a0 h' hx
   go_in
   go_wp2_with fail;go_ret;exact⟨rfl,(But.alloc _ _ _).trans (But.alloc _ _ _)⟩
theorem mE (l:List UInt8) (k:Nat) (h:k<l.length):(⟨l.toArray⟩:ByteArray).extract k (k+1)=⟨#[l[k]]⟩:=by
 apply ByteArray.ext
 simp[ByteArray.data_extract];rw[List.take_one,List.head?_drop];simp[h]
theorem mF (bi:Nat) (im:Img) (nl:Nat) (x:Ins) (w:World) (hI:dk w bi im) (hW:WfI im) (hx:WfX im.classes im.sigs.length nl x) (hdummy:True):
  Calls Tryz.prog 136 #[.pointer (some ⟨bi,0,none⟩),.agg #[.int .u8 x.op.toNat,.int .i64 x.a,.int .i64 x.b,.int .i64 x.pos]] w fun en w'=>en= .returned (.string ⟨(bC im.classes im.sigs x).toArray⟩)∧But (fun _=>False) w w':=by
 have a1:=hx.op;simp[bZ]at a1;have e2:=hW.nc;obtain⟨W,a3⟩: ∃W,w.alloc (.cells #[.int .u8 x.op.toNat,.int .i64 x.a,.int .i64 x.b,.int .i64 x.pos] 144)=W:=⟨_,rfl⟩;have a2:But (fun _=>False) w W:=by rw[←a3];exact But.alloc _ _ _
 have b0:W.heap[w.heap.size]?=some (.cells #[.int .u8 x.op.toNat,.int .i64 x.a,.int .i64 x.b,.int .i64 x.pos] 144):=by rw[←a3];exact heap_alloc_new _ _
 have a4:W.heap.size=w.heap.size+1:=by rw[←a3];simp
 have i1:=cell_of_row W _ 1 _ _ (0,0) b0;have i2:=cell_of_row W _ 2 _ _ (0,0) b0;simp at i1 i2;have lI:=ae b0;have a6:=hI.but a2;have a0:=hid a3;have a7:But (fun _=>False) W W.drew:=But.drew _ _;clear a3 b0
 by_cases h103:x.op.toNat=103
 ·obtain⟨g,m,cap,fl,d0,hm,hc,b3,b2,lbi,lg⟩:=a6.cls.flds (hx.cls (by omega)) (hx.fld (by omega));rw[show bC im.classes im.sigs x=[bT im.classes x.a x.b]from by simp[bC,h103,arith],h103];rw[h103,show((103:Nat):Int)=103 from rfl]at a0;have b6:(x.b:Int)<(fl.length:Int):=by omega
  have c7:(x.b:Int)+1≤(fl.length:Int):=by omega
  have e0:=hx.num;have e1:=dj ((x.b:Int)+1) (by omega) (by omega);have d6:(x.b:Int)≤(x.b:Int)+1:=by omega
  have b1:(0:Int)≤(x.b:Int)+1:=by omega
  have b4:Hid ((⟨fl.toArray⟩:ByteArray).extract x.b (x.b+1)=⟨#[bT im.classes x.a x.b]⟩):=by show _=_;rw[mE fl x.b b3,←dI fl _ b3,b2]
  generalize bT im.classes x.a x.b=E at*;clear a1 h103 b2 a4
  go_in
  go_wp2_with fail;rw[a0.out];refine aB (But (fun _=>False) W) 15 (by kernel_rfl) ?_
  iterate 15 (refine aG (v:=?_) rfl (by kernel_rfl) (fun _ _ _ h=>h) rfl a7 ?_ ?_;rotate_left;(focus (intro wS h;have q0:=(h.kc i1 lI);have q1:=(h.kc i2 lI);have q2:=(h.kc d0 lbi);have q3:=(h.kc hc lg);clear h;go_simp;try rfl));dsimp only[Act.put];try simp only[aK])
  clear e1 d6 b1;refine ag rfl (by kernel_rfl) ?_;intro KS hKS;go_simp;refine hKS.out _ _ nofun ?_;clear hKS KS;refine aF rfl (by kernel_rfl) ?_;rw[b4.out];go_wp2_with fail;go_ret;exact⟨rfl,a2.trans (But.drew _ _)⟩
 by_cases h99:x.op.toNat=99
 ·obtain⟨g,m,cap,d1,hm,hc,b5,lbi,lg⟩:=a6.sig.at (hx.sig h99);rw[show bC im.classes im.sigs x=[dR im.sigs x.b]from by simp[bC,h99,arith],h99];rw[h99,show((99:Nat):Int)=99 from rfl]at a0;have a8:=xk ((dR im.sigs x.b).toNat:Int) (dR im.sigs x.b) rfl;generalize dR im.sigs x.b=E at*;clear a1 h103 h99 a4
  go_in
  go_wp2_with fail;rw[a0.out];refine aB (But (fun _=>False) W) 11 (by kernel_rfl) ?_
  iterate 9 (refine aG (v:=?_) rfl (by kernel_rfl) (fun _ _ _ h=>h) rfl a7 ?_ ?_;rotate_left;(focus (intro wS h;have q0:=(h.kc i2 lI);have q1:=(h.kc d1 lbi);have q2:=(h.kc b5 lg);clear h;go_simp;try rfl));dsimp only[Act.put];try simp only[aK])
  refine ag rfl (by kernel_rfl) ?_;intro KS hKS;go_simp;refine hKS.out _ _ (fun _=>(But.alloc _ _ _).trans (But.drew _ _)) ?_;clear hKS KS;refine ag rfl (by kernel_rfl) ?_;intro KS hKS;go_simp;refine hKS.out _ _ (fun _=>(But.alloc _ _ _).trans (But.drew _ _)) ?_;clear hKS KS;refine fx rfl (by kernel_rfl) ?_;go_wp2_with fail;go_ret;exact⟨rfl,a2.trans ((But.alloc _ _ _).trans (But.drew _ _))⟩
 by_cases hnx:x.op.toNat=110∨x.op.toNat=120
 ·have e3:=hx.cls (by omega);have a8:=sP (65+(x.a:Int)) (b8 x.a) (rc (by omega)) W;rw[a4,←a0.out]at a8;have e4:(x.a:Int)<4:=by omega
  have a5:bC im.classes im.sigs x=[b8 x.a]:=by rcases hnx with hv|hv<;>simp[bC,hv,arith]
  rw[a5];generalize b8 x.a=C at*;clear a1 a5 a4 a0 a6 hI hx a2 i1 i2 lI a7;rcases hnx with h|h
  all_goals
   first|rw[h,show((110:Nat):Int)=110 from rfl]at a8|rw[h,show((120:Nat):Int)=120 from rfl]at a8
   rw[h];clear h103 h99 h
   go_in
   go_wp2_with fail;go_ret;exact⟨rfl,(But.alloc _ _ _).trans (But.alloc _ _ _)⟩
 simp only[not_or]at hnx;simp only[h103,h99,hnx.1,hnx.2,or_false,false_or]at a1;clear a4 a0 a6 hI a2 i1 i2 lI a7;rcases a1 with h'|h'|h'|h'|h'|h'|h'|h'|h'|h'|h'|h'|h'|h'|h'|h'|h'|h'
 all_goals
  rw[show bC im.classes im.sigs x=_ from by simp only[bC,arith,h'];rfl,h'];clear h103 h99 hnx h' hx
  go_in
  go_wp2_with fail;go_ret;exact⟨rfl,But.alloc _ _ _⟩
end
end Go.Proofs.YtpfkkmacakjmbaaGreatDoor
