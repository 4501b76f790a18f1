import Derived.Test.YtpfkkmacakjmbaaGreatDoorP00
set_option maxRecDepth 100000
set_option maxHeartbeats 6400000
namespace Go.Proofs.YtpfkkmacakjmbaaGreatDoor
section
open Go
section
variable {P:Program} {ops:Array Oper} {Q:Exit→Act→World→Prop} {S:World→Prop} {p:Nat}
def oZ (P:Program) (ops:Array Oper) (Q:Exit→Act→World→Prop) (S:World→Prop) (p q k:Nat) (a:Act) (w:World):Prop:=
 lP P ops Q S p (ops.size-(k+1)) ((ez ops.size k).setIfInBounds q true) a w
theorem nZ {k q:Nat} {o oq:Oper} {rest restq:List Oper} {a:Act} {w:World} (hod:ops.toList.drop k=o::rest) (hodq:ops.toList.drop q=oq::restq)
  (hr:Region.ready .any ops (ez ops.size k)=[k,q])
  (h: ∀K':Act→World→Prop,Go.Shut (∀a w,(k<p→S w)→gN P ops Q S p (k+1) a w→K' a w)→if Region.wanted o (yielded ops a.tmps)=true then Oper.wp P o a w K' Q else K' (a.put o.dst undef) w)
  (h2: ∀K':Act→World→Prop,Go.Shut (∀a w,(q<p→S w)→oZ P ops Q S p q k a w→K' a w)→if Region.wanted oq (yielded ops a.tmps)=true then Oper.wp P oq a w K' Q else K' (a.put oq.dst undef) w):
  gN P ops Q S p k a w:=by
 have ho:=dA hod;have a0:=dA hodq;have hk:k<ops.size:=(Array.getElem?_eq_some_iff.1 ho).1;unfold gN;rw[show ops.size-k=(ops.size-(k+1))+1 from by omega];refine⟨fun h=>(by rw[hr]at h;cases h),fun i hi=> ?_⟩;rw[hr]at hi;simp only[List.mem_cons,List.not_mem_nil,or_false]at hi;rcases hi with rfl|rfl
 ·exact wpOp_step ho (fun K' hK=>h K' (fun a w hS hW=>hK a w ⟨hS,by rw[eT];exact hW⟩))
 ·exact wpOp_step a0 (fun K' hK=>h2 K' (fun a w hS hW=>hK a w ⟨hS,hW⟩))
theorem kh (n k q:Nat) (h:k≠q):((ez n k).setIfInBounds q true).setIfInBounds k true=(ez n (k+1)).setIfInBounds q true:=by
 rw[Array.setIfInBounds_comm _ _ (Ne.symm h),eT]
theorem n8 {k q:Nat} {o:Oper} {rest:List Oper} {a:Act} {w:World} (hod:ops.toList.drop k=o::rest) (hkq:(decide (k<q)&&decide (k+1<ops.size))=true) (hr:Region.ready .any ops ((ez ops.size k).setIfInBounds q true)=[k])
  (h: ∀K':Act→World→Prop,Go.Shut (∀a w,(k<p→S w)→oZ P ops Q S p q (k+1) a w→K' a w)→if Region.wanted o (yielded ops a.tmps)=true then Oper.wp P o a w K' Q else K' (a.put o.dst undef) w):oZ P ops Q S p q k a w:=by
 have ho:=dA hod;simp only[Bool.and_eq_true,decide_eq_true_eq]at hkq;unfold oZ;rw[show ops.size-(k+1)=(ops.size-(k+1+1))+1 from by omega];refine⟨fun h=>(by rw[hr]at h;cases h),fun i hi=> ?_⟩;rw[hr]at hi;simp at hi;subst hi;exact wpOp_step ho (fun K' hK=>h K' (fun a w hS hW=>hK a w ⟨hS,by rw[kh _ _ _ (by omega)];exact hW⟩))
def tU (ops:Array Oper) (p q k:Nat):Bool:=
 decide (k<q)&&decide (k+1<ops.size)&&decide (k<p)&&Region.noSelect ops&&Region.free .any ops ((ez ops.size k).setIfInBounds q true) k&&(Region.ready .any ops ((ez ops.size k).setIfInBounds q true)).contains k&&
 (List.range ops.size).all fun j=>decide (j<p)||match ops[j]? with
  |some oj=>oj.after.any fun e=>Region.binds .any e&&e.on==k
  |none=>true
theorem n9 {k q:Nat} {o:Oper} {rest:List Oper} {v:Value} {a:Act} {w:World} (hod:ops.toList.drop k=o::rest) (hc:tU ops p q k=true)
  (hQ: ∀c a w,Q (.panic c) (a.put o.dst v) w→Q (.panic c) a w)
  (hw:Region.wanted o (yielded ops a.tmps)=true) (hS:S w) (hy: ∀w,S w→(execOp a.eval o).run P w= .ok (.value v) w) (h:oZ P ops Q S p q (k+1) (a.put o.dst v) w):oZ P ops Q S p q k a w:=by
 have ho:=dA hod;unfold tU at hc;simp only[Bool.and_eq_true,decide_eq_true_eq,List.all_eq_true,List.mem_range]at hc;obtain⟨⟨⟨⟨⟨⟨a6,a7⟩,a2⟩,a3⟩,a0⟩,a4⟩,a5⟩:=hc;unfold oZ at*;rw[show ops.size-(k+1)=(ops.size-(k+1+1))+1 from by omega];refine jM ho a2 (Region.noSelect_spec a3) ?_ hQ _ _ a w (Region.free_spec ho a0) (by simpa using a4) (Or.inl ⟨hw,hy⟩) hS (by rw[kh _ _ _ (by omega)];exact h);intro j oj hj a8;have a1:j<ops.size:=(Array.getElem?_eq_some_iff.1 hj).1;have:=a5 j a1;rw[hj]at this;simp only[Bool.or_eq_true,decide_eq_true_eq,Array.any_eq_true,Bool.and_eq_true,beq_iff_eq]at this;rcases this with h1| ⟨i,hi,h1,h2⟩
 ·omega
 ·exact⟨oj.after[i],Array.getElem_mem hi,h1,h2⟩
theorem od {q:Nat} {a:Act} {w:World} (h:gN P ops Q S p (q+1) a w):oZ P ops Q S p q q a w:=by
 unfold oZ;rw[eT];exact h
def has (n:Nat) (L:List Nat):Array Bool:=((List.range n).map fun i=>L.contains i).toArray
theorem ia (n k:Nat) (L:List Nat):(has n L).setIfInBounds k true=has n (k::L):=by
 unfold has
 apply Array.ext
 ·simp
 ·intro i h1 h2
  by_cases h:k=i
  ·subst h;simp
  ·rw[Array.getElem_setIfInBounds_ne (by simpa using h1) h];have h': ¬i=k:=fun e=>h e.symm
   simp[h']
theorem yP (n:Nat):Array.replicate n false=has n []:=by
 unfold has
 apply Array.ext
 ·simp
 ·intro i h1 h2;simp
def tV (ops:Array Oper) (p:Nat) (L:List Nat) (k:Nat):Bool:=
 decide (k<p)&&Region.noSelect ops&&Region.free .any ops (has ops.size L) k&&(Region.ready .any ops (has ops.size L)).contains k&&
 (List.range ops.size).all fun j=>decide (j<p)||match ops[j]? with
  |some oj=>oj.after.any fun e=>Region.binds .any e&&e.on==k
  |none=>true
def wpP (P:Program) (ops:Array Oper) (Q:Exit→Act→World→Prop) (S:World→Prop) (p:Nat) (L:List Nat) (a:Act) (w:World):Prop:=
 lP P ops Q S p (ops.size-L.length) (has ops.size L) a w
theorem ck {id:Nat} {a:Act} {w:World} (S:World→Prop) (p:Nat) (hm:P.follows .mixedOrders=true) (h:wpP P ops Q S p [] a w.drew):(Code.region id ops true).wp P Q a w:=by
 refine wp_region_any hm (iO (S:=S) (p:=p) _ _ _ _ ?_);rw[yP];exact h
theorem ay {k:Nat} {L:List Nat} {o:Oper} {v:Value} {a:Act} {w:World} (ho:ops[k]?=some o) (hl:L.length<ops.size) (hc:tV ops p L k=true)
  (hQ: ∀c a w,Q (.panic c) (a.put o.dst v) w→Q (.panic c) a w)
  (hw:Region.wanted o (yielded ops a.tmps)=true) (hS:S w) (hy: ∀w,S w→(execOp a.eval o).run P w= .ok (.value v) w) (h:wpP P ops Q S p (k::L) (a.put o.dst v) w):wpP P ops Q S p L a w:=by
 unfold tV at hc;simp only[Bool.and_eq_true,decide_eq_true_eq,List.all_eq_true,List.mem_range]at hc;obtain⟨⟨⟨⟨a2,a3⟩,a0⟩,a4⟩,a5⟩:=hc;unfold wpP at*;rw[show ops.size-L.length=(ops.size-(k::L).length)+1 from by simp;omega];refine jM ho a2 (Region.noSelect_spec a3) ?_ hQ _ _ a w (Region.free_spec ho a0) (by simpa using a4) (Or.inl ⟨hw,hy⟩) hS (by rw[ia];exact h);intro j oj hj a6;have a1:j<ops.size:=(Array.getElem?_eq_some_iff.1 hj).1;have:=a5 j a1;rw[hj]at this;simp only[Bool.or_eq_true,decide_eq_true_eq,Array.any_eq_true,Bool.and_eq_true,beq_iff_eq]at this;rcases this with h1| ⟨i,hi,h1,h2⟩
 ·omega
 ·exact⟨oj.after[i],Array.getElem_mem hi,h1,h2⟩
theorem aA {k:Nat} {L:List Nat} {o:Oper} {a:Act} {w:World} (ho:ops[k]?=some o) (hl:L.length<ops.size) (hr:Region.ready .any ops (has ops.size L)=[k])
  (h: ∀K':Act→World→Prop,Go.Shut (∀a w,(k<p→S w)→wpP P ops Q S p (k::L) a w→K' a w)→if Region.wanted o (yielded ops a.tmps)=true then Oper.wp P o a w K' Q else K' (a.put o.dst undef) w):wpP P ops Q S p L a w:=by
 unfold wpP;rw[show ops.size-L.length=(ops.size-(k::L).length)+1 from by simp;omega];refine⟨fun h=>(by rw[hr]at h;cases h),fun i hi=> ?_⟩;rw[hr]at hi;simp at hi;subst hi;exact wpOp_step ho (fun K' hK=>h K' (fun a w hS hW=>hK a w ⟨hS,by rw[ia];exact hW⟩))
theorem ie {k1 k2:Nat} {L:List Nat} {o1 o2:Oper} {a:Act} {w:World} (ho1:ops[k1]?=some o1) (ho2:ops[k2]?=some o2) (hl:L.length<ops.size) (hr:Region.ready .any ops (has ops.size L)=[k1,k2])
  (h1: ∀K':Act→World→Prop,Go.Shut (∀a w,(k1<p→S w)→wpP P ops Q S p (k1::L) a w→K' a w)→if Region.wanted o1 (yielded ops a.tmps)=true then Oper.wp P o1 a w K' Q else K' (a.put o1.dst undef) w)
  (h2: ∀K':Act→World→Prop,Go.Shut (∀a w,(k2<p→S w)→wpP P ops Q S p (k2::L) a w→K' a w)→if Region.wanted o2 (yielded ops a.tmps)=true then Oper.wp P o2 a w K' Q else K' (a.put o2.dst undef) w):wpP P ops Q S p L a w:=by
 unfold wpP;rw[show ops.size-L.length=(ops.size-(L.length+1))+1 from by omega];refine⟨fun h=>(by rw[hr]at h;cases h),fun i hi=> ?_⟩;rw[hr]at hi;simp only[List.mem_cons,List.not_mem_nil,or_false]at hi;rcases hi with rfl|rfl
 ·exact wpOp_step ho1 (fun K' hK=>h1 K' (fun a w hS hW=>hK a w ⟨hS,by rw[ia];exact hW⟩))
 ·exact wpOp_step ho2 (fun K' hK=>h2 K' (fun a w hS hW=>hK a w ⟨hS,by rw[ia];exact hW⟩))
theorem ut {k1 k2 k3:Nat} {L:List Nat} {o1 o2 o3:Oper} {a:Act} {w:World} (ho1:ops[k1]?=some o1) (ho2:ops[k2]?=some o2) (ho3:ops[k3]?=some o3) (hl:L.length<ops.size) (hr:Region.ready .any ops (has ops.size L)=[k1,k2,k3])
  (h1: ∀K':Act→World→Prop,Go.Shut (∀a w,(k1<p→S w)→wpP P ops Q S p (k1::L) a w→K' a w)→if Region.wanted o1 (yielded ops a.tmps)=true then Oper.wp P o1 a w K' Q else K' (a.put o1.dst undef) w)
  (h2: ∀K':Act→World→Prop,Go.Shut (∀a w,(k2<p→S w)→wpP P ops Q S p (k2::L) a w→K' a w)→if Region.wanted o2 (yielded ops a.tmps)=true then Oper.wp P o2 a w K' Q else K' (a.put o2.dst undef) w)
  (h3: ∀K':Act→World→Prop,Go.Shut (∀a w,(k3<p→S w)→wpP P ops Q S p (k3::L) a w→K' a w)→if Region.wanted o3 (yielded ops a.tmps)=true then Oper.wp P o3 a w K' Q else K' (a.put o3.dst undef) w):wpP P ops Q S p L a w:=by
 unfold wpP;rw[show ops.size-L.length=(ops.size-(L.length+1))+1 from by omega];refine⟨fun h=>(by rw[hr]at h;cases h),fun i hi=> ?_⟩;rw[hr]at hi;simp only[List.mem_cons,List.not_mem_nil,or_false]at hi;rcases hi with rfl|rfl|rfl
 ·exact wpOp_step ho1 (fun K' hK=>h1 K' (fun a w hS hW=>hK a w ⟨hS,by rw[ia];exact hW⟩))
 ·exact wpOp_step ho2 (fun K' hK=>h2 K' (fun a w hS hW=>hK a w ⟨hS,by rw[ia];exact hW⟩))
 ·exact wpOp_step ho3 (fun K' hK=>h3 K' (fun a w hS hW=>hK a w ⟨hS,by rw[ia];exact hW⟩))
theorem b7 {L:List Nat} {a:Act} {w:World} (hl:L.length=ops.size) (hr:Region.ready .any ops (has ops.size L)=[]) (h:Q .normal a w):wpP P ops Q S p L a w:=by
 unfold wpP;rw[hl,Nat.sub_self];exact⟨hr,h⟩
theorem qq {i:Nat} {oi:Oper} {v:Value} (T:Nat→Prop) (hi:ops[i]?=some oi) (hip:i<p) (hsel: ∀(j:Nat) (o:Oper) cs b,ops[j]?=some o→o.op≠ .select cs b)
  (hT1: ∀j oj,ops[j]?=some oj→p≤j→T j) (hT2: ∀j oj,ops[j]?=some oj→T j→ ∃e∈oj.after,Region.binds .any e=true∧(e.on=i∨T e.on))
  (hQ: ∀c a w,Q (.panic c) (a.put oi.dst v) w→Q (.panic c) a w):
  ∀(fuel:Nat) (listed:Array Bool) (a:Act) (w:World),(∀j,T j→listed.getD j false=false)→
   (∀j oj,ops[j]?=some oj→j≠i→listed.getD j true=false→(∀e∈oj.after,Region.binds .any e=true→e.on≠i)→oi.apart ops oj=true)→
   i∈Region.ready .any ops listed→YieldsIf P ops S oi v a→S w→
   lP P ops Q S p fuel (listed.setIfInBounds i true) (a.put oi.dst v) w→lP P ops Q S p (fuel+1) listed a w:=by
 intro fuel
 induction fuel with
 |zero=>
  intro listed a w _ _ hr hy hS H;refine⟨fun h=>(by rw[h]at hr;cases hr),fun j hj=> ?_⟩
  by_cases hji:j=i
  ·subst hji;exact hy.wpOp hi hS ⟨fun _=>hS,H⟩
  ·have:=ready_mono hj hji;rw[H.1]at this
   cases this
 |succ fuel ih=>
  intro listed a w a8 a0 hr hy hS H;refine⟨fun h=>(by rw[h]at hr;cases hr),fun j hj=> ?_⟩
  by_cases hji:j=i
  ·subst hji;exact hy.wpOp hi hS ⟨fun _=>hS,H⟩
  ·have h1:=H.2 j (ready_mono hj hji);obtain⟨a3,oj,a5,a2⟩:=mem_ready.1 hj
   have a4: ∀e∈oj.after,Region.binds .any e=true→e.on≠i:=fun e he hb heq=>by
    have h1:=a2 e he hb;have h0:=(mem_ready.1 hr).1;rw[heq]at h1;rcases Nat.lt_or_ge i listed.size with h'|h'
    ·simp[h']at h0 h1;rw[h0]at h1;cases h1
    ·simp[Array.getElem?_eq_none h']at h1
   have b0: ¬T j:=fun hT=>by
    obtain⟨e,he,hb,ho⟩:=hT2 j oj a5 hT;rcases ho with ho|ho
    ·exact a4 e he hb ho
    ·have h1:=a2 e he hb;have h2:=a8 e.on ho;rw[h2]at h1
     cases h1
   have b1:j<p:=by
    rcases Nat.lt_or_ge j p with h|h
    ·exact h
    ·exact absurd (hT1 j oj a5 h) b0
   have h2:=wpOp_putIf a5 (a0 j oj a5 hji a3 a4) (fun cs b=>hsel i oi cs b hi) (fun cs b=>hsel j oj cs b a5) hQ hy h1
   have a1: ∀k ok,ops[k]?=some ok→k≠i→(listed.setIfInBounds j true).getD k true=false→
     (∀e∈ok.after,Region.binds .any e=true→e.on≠i)→oi.apart ops ok=true:=fun k ok hk hki hun hno=>by
    refine a0 k ok hk hki ?_ hno
    by_cases a6:j=k
    ·subst a6;exact a3
    ·rw[getD_set_ne true a6]at hun;exact hun
   have a7: ∀k,T k→(listed.setIfInBounds j true).getD k false=false:=fun k hk=>by
    have a6:j≠k:=fun e=>b0 (e▸hk)
    have:=a8 k hk;simpa[Array.getElem?_setIfInBounds_ne a6]using this
   refine wpOp_mono (fun a' w' h3=>⟨h3.2.1,ih (listed.setIfInBounds j true) a' w' a7 a1 (ready_mono hr (Ne.symm hji)) h3.1 (h3.2.1 b1) ?_⟩) h2;rw[Array.setIfInBounds_comm _ _ hji];exact h3.2.2
def tW (ops:Array Oper) (k:Nat):List Nat:=(List.range ops.size).foldl (fun L j=>match ops[j]? with
 |some oj=>if oj.after.any (fun e=>Region.binds .any e&&(e.on==k||L.contains e.on))then j::L else L
 |none=>L) []
def tX (ops:Array Oper) (p k:Nat):Bool:=
 decide (k<p)&&Region.noSelect ops&&Region.free .any ops (ez ops.size k) k&&(Region.ready .any ops (ez ops.size k)).contains k&&
 ((List.range ops.size).all fun j=>decide (j<p)||(tW ops k).contains j)&&
 (tW ops k).all fun j=>decide (k≤j)&&match ops[j]? with
  |some oj=>oj.after.any fun e=>Region.binds .any e&&(e.on==k||(tW ops k).contains e.on)
  |none=>false
theorem dt {k:Nat} {o:Oper} {rest:List Oper} {v:Value} {a:Act} {w:World} (hod:ops.toList.drop k=o::rest) (hc:tX ops p k=true)
  (hQ: ∀c a w,Q (.panic c) (a.put o.dst v) w→Q (.panic c) a w)
  (hw:Region.wanted o (yielded ops a.tmps)=true) (hS:S w) (hy: ∀w,S w→(execOp a.eval o).run P w= .ok (.value v) w) (h:gN P ops Q S p (k+1) (a.put o.dst v) w):gN P ops Q S p k a w:=by
 have ho:=dA hod;unfold tX at hc;generalize tW ops k=L at hc;simp only[Bool.and_eq_true,decide_eq_true_eq,List.all_eq_true,List.mem_range]at hc;obtain⟨⟨⟨⟨⟨a2,a3⟩,a0⟩,a4⟩,a5⟩,hL⟩:=hc;have hk:k<ops.size:=(Array.getElem?_eq_some_iff.1 ho).1;unfold gN at*;rw[show ops.size-k=(ops.size-(k+1))+1 from by omega];refine qq (fun j=>j∈L) ho a2 (Region.noSelect_spec a3) ?_ ?_ hQ _ _ a w ?_ (Region.free_spec ho a0) (by simpa using a4) (Or.inl ⟨hw,hy⟩) hS (by rw[eT];exact h)
 ·intro j oj hj a6;have a1:j<ops.size:=(Array.getElem?_eq_some_iff.1 hj).1;have:=a5 j a1;simp only[Bool.or_eq_true,decide_eq_true_eq]at this;rcases this with h1|h1
  ·omega
  ·simpa using h1
 ·intro j oj hj hT;have:=(hL j hT).2;rw[hj]at this;simp only[Array.any_eq_true,Bool.and_eq_true,Bool.or_eq_true,beq_iff_eq]at this;obtain⟨i,hi,h1,h2⟩:=this;exact⟨oj.after[i],Array.getElem_mem hi,h1,h2.imp_right (fun h=>by simpa using h)⟩
 ·intro j hT;have:=(hL j hT).1;rcases Nat.lt_or_ge j ops.size with hj|hj
  ·simp[ez,hj];omega
  ·simp[ez,hj]
theorem qr {i:Nat} {oi:Oper} {v:Value} (hi:ops[i]?=some oi) (hpi:p≤i) (hsel: ∀(j:Nat) (o:Oper) cs b,ops[j]?=some o→o.op≠ .select cs b)
  (hQ: ∀c a w,Q (.panic c) (a.put oi.dst v) w→Q (.panic c) a w):
  ∀(fuel:Nat) (listed:Array Bool) (a:Act) (w:World),
   (∀j oj,ops[j]?=some oj→j≠i→listed.getD j true=false→(∀e∈oj.after,Region.binds .any e=true→e.on≠i)→oi.apart ops oj=true)→
   i∈Region.ready .any ops listed→YieldsIf P ops (fun _=>True) oi v a→
   lP P ops Q S p fuel (listed.setIfInBounds i true) (a.put oi.dst v) w→lP P ops Q S p (fuel+1) listed a w:=by
 intro fuel
 induction fuel with
 |zero=>
  intro listed a w _ hr hy H;refine⟨fun h=>(by rw[h]at hr;cases hr),fun j hj=> ?_⟩
  by_cases hji:j=i
  ·subst hji;exact hy.wpOp hi trivial ⟨fun h=>by omega,H⟩
  ·have:=ready_mono hj hji;rw[H.1]at this
   cases this
 |succ fuel ih=>
  intro listed a w a0 hr hy H;refine⟨fun h=>(by rw[h]at hr;cases hr),fun j hj=> ?_⟩
  by_cases hji:j=i
  ·subst hji;exact hy.wpOp hi trivial ⟨fun h=>by omega,H⟩
  ·have h1:=H.2 j (ready_mono hj hji);obtain⟨a2,oj,a5,a3⟩:=mem_ready.1 hj
   have a4: ∀e∈oj.after,Region.binds .any e=true→e.on≠i:=fun e he hb heq=>by
    have h1:=a3 e he hb;have h0:=(mem_ready.1 hr).1;rw[heq]at h1;rcases Nat.lt_or_ge i listed.size with h'|h'
    ·simp[h']at h0 h1;rw[h0]at h1;cases h1
    ·simp[Array.getElem?_eq_none h']at h1
   have h2:=wpOp_putIf a5 (a0 j oj a5 hji a2 a4) (fun cs b=>hsel i oi cs b hi) (fun cs b=>hsel j oj cs b a5) hQ hy h1
   have a1: ∀k ok,ops[k]?=some ok→k≠i→(listed.setIfInBounds j true).getD k true=false→
     (∀e∈ok.after,Region.binds .any e=true→e.on≠i)→oi.apart ops ok=true:=fun k ok hk hki hun hno=>by
    refine a0 k ok hk hki ?_ hno
    by_cases hjk:j=k
    ·subst hjk;exact a2
    ·rw[getD_set_ne true hjk]at hun;exact hun
   refine wpOp_mono (fun a' w' h3=>⟨h3.2.1,ih (listed.setIfInBounds j true) a' w' a1 (ready_mono hr (Ne.symm hji)) h3.1 ?_⟩) h2;rw[Array.setIfInBounds_comm _ _ hji];exact h3.2.2
def tY (ops:Array Oper) (p k:Nat):Bool:=
 decide (p≤k)&&decide (k<ops.size)&&Region.noSelect ops&&Region.free .any ops (ez ops.size k) k&&(Region.ready .any ops (ez ops.size k)).contains k
theorem mj {k:Nat} {o:Oper} {rest:List Oper} {v:Value} {a:Act} {w:World} (hod:ops.toList.drop k=o::rest) (hc:tY ops p k=true)
  (hQ: ∀c a w,Q (.panic c) (a.put o.dst v) w→Q (.panic c) a w)
  (hw:Region.wanted o (yielded ops a.tmps)=true) (hy: ∀w,(execOp a.eval o).run P w= .ok (.value v) w) (h:gN P ops Q S p (k+1) (a.put o.dst v) w):gN P ops Q S p k a w:=by
 have ho:=dA hod;unfold tY at hc;simp only[Bool.and_eq_true,decide_eq_true_eq]at hc;obtain⟨⟨⟨⟨a1,hk⟩,a2⟩,a0⟩,a3⟩:=hc;unfold gN at*;rw[show ops.size-k=(ops.size-(k+1))+1 from by omega];exact qr ho a1 (Region.noSelect_spec a2) hQ _ _ a w (Region.free_spec ho a0) (by simpa using a3) (Or.inl ⟨hw,fun w _=>hy w⟩) (by rw[eT];exact h)
end
end
end Go.Proofs.YtpfkkmacakjmbaaGreatDoor
