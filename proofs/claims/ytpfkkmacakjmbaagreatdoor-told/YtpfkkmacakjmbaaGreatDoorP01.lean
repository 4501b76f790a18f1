import Derived.Test.YtpfkkmacakjmbaaGreatDoorP00
set_option maxRecDepth 100000
set_option maxHeartbeats 6400000
namespace Go.Proofs.YtpfkkmacakjmbaaGreatDoor
section
open Go
section
variable {P:Program} {ops:Array Oper} {Q:Exit→Act→World→Prop} {S:World→Prop} {p:Nat}
def pO (P:Program) (ops:Array Oper) (Q:Exit→Act→World→Prop) (S:World→Prop) (p q k:Nat) (a:Act) (w:World):Prop:=
 mA P ops Q S p (ops.size-(k+1)) ((eO ops.size k).setIfInBounds q true) a w
theorem u6 {k q:Nat} {o oq:Oper} {rest restq:List Oper} {a:Act} {w:World} (hod:ops.toList.drop k=o::rest) (hodq:ops.toList.drop q=oq::restq)
  (hr:Region.ready .any ops (eO ops.size k)=[k,q])
  (h: ∀K':Act→World→Prop,Go.Shut (∀a w,(k<p→S w)→hU P ops Q S p (k+1) a w→K' a w)→if Region.wanted o (yielded ops a.tmps)=true then Oper.wp P o a w K' Q else K' (a.put o.dst undef) w)
  (h2: ∀K':Act→World→Prop,Go.Shut (∀a w,(q<p→S w)→pO P ops Q S p q k a w→K' a w)→if Region.wanted oq (yielded ops a.tmps)=true then Oper.wp P oq a w K' Q else K' (a.put oq.dst undef) w):
  hU P ops Q S p k a w:=by
 have ho:=dO hod;have a0:=dO hodq;have hk:k<ops.size:=(Array.getElem?_eq_some_iff.1 ho).1;unfold hU;rw[show ops.size-k=(ops.size-(k+1))+1 from by omega];refine⟨fun h=>(by rw[hr]at h;cases h),fun i hi=> ?_⟩;rw[hr]at hi;simp only[List.mem_cons,List.not_mem_nil,or_false]at hi;rcases hi with rfl|rfl
 ·exact wpOp_step ho (fun K' hK=>h K' (fun a w hS hW=>hK a w ⟨hS,by rw[ff];exact hW⟩))
 ·exact wpOp_step a0 (fun K' hK=>h2 K' (fun a w hS hW=>hK a w ⟨hS,hW⟩))
theorem kJ (n k q:Nat) (h:k≠q):((eO n k).setIfInBounds q true).setIfInBounds k true=(eO n (k+1)).setIfInBounds q true:=by
 rw[Array.setIfInBounds_comm _ _ (Ne.symm h),ff]
theorem u7 {k q:Nat} {o:Oper} {rest:List Oper} {a:Act} {w:World} (hod:ops.toList.drop k=o::rest) (hkq:(decide (k<q)&&decide (k+1<ops.size))=true) (hr:Region.ready .any ops ((eO ops.size k).setIfInBounds q true)=[k])
  (h: ∀K':Act→World→Prop,Go.Shut (∀a w,(k<p→S w)→pO P ops Q S p q (k+1) a w→K' a w)→if Region.wanted o (yielded ops a.tmps)=true then Oper.wp P o a w K' Q else K' (a.put o.dst undef) w):pO P ops Q S p q k a w:=by
 have ho:=dO hod;simp only[Bool.and_eq_true,decide_eq_true_eq]at hkq;unfold pO;rw[show ops.size-(k+1)=(ops.size-(k+1+1))+1 from by omega];refine⟨fun h=>(by rw[hr]at h;cases h),fun i hi=> ?_⟩;rw[hr]at hi;simp at hi;subst hi;exact wpOp_step ho (fun K' hK=>h K' (fun a w hS hW=>hK a w ⟨hS,by rw[kJ _ _ _ (by omega)];exact hW⟩))
def uF (ops:Array Oper) (p q k:Nat):Bool:=
 decide (k<q)&&decide (k+1<ops.size)&&decide (k<p)&&Region.noSelect ops&&Region.free .any ops ((eO ops.size k).setIfInBounds q true) k&&(Region.ready .any ops ((eO ops.size k).setIfInBounds q true)).contains k&&
 (List.range ops.size).all fun j=>decide (j<p)||match ops[j]? with
  |some oj=>oj.after.any fun e=>Region.binds .any e&&e.on==k
  |none=>true
theorem u9 {k q:Nat} {o:Oper} {rest:List Oper} {v:Value} {a:Act} {w:World} (hod:ops.toList.drop k=o::rest) (hc:uF ops p q k=true)
  (hQ: ∀c a w,Q (.panic c) (a.put o.dst v) w→Q (.panic c) a w)
  (hw:Region.wanted o (yielded ops a.tmps)=true) (hS:S w) (hy: ∀w,S w→(execOp a.eval o).run P w= .ok (.value v) w) (h:pO P ops Q S p q (k+1) (a.put o.dst v) w):pO P ops Q S p q k a w:=by
 have ho:=dO hod;unfold uF at hc;simp only[Bool.and_eq_true,decide_eq_true_eq,List.all_eq_true,List.mem_range]at hc;obtain⟨⟨⟨⟨⟨⟨a6,a7⟩,a2⟩,a3⟩,a0⟩,a4⟩,a5⟩:=hc;unfold pO at*;rw[show ops.size-(k+1)=(ops.size-(k+1+1))+1 from by omega];refine ko ho a2 (Region.noSelect_spec a3) ?_ hQ _ _ a w (Region.free_spec ho a0) (by simpa using a4) (Or.inl ⟨hw,hy⟩) hS (by rw[kJ _ _ _ (by omega)];exact h);intro j oj hj a8;have a1:j<ops.size:=(Array.getElem?_eq_some_iff.1 hj).1;have:=a5 j a1;rw[hj]at this;simp only[Bool.or_eq_true,decide_eq_true_eq,Array.any_eq_true,Bool.and_eq_true,beq_iff_eq]at this;rcases this with h1| ⟨i,hi,h1,h2⟩
 ·omega
 ·exact⟨oj.after[i],Array.getElem_mem hi,h1,h2⟩
theorem va {q:Nat} {a:Act} {w:World} (h:hU P ops Q S p (q+1) a w):pO P ops Q S p q q a w:=by
 unfold pO;rw[ff];exact h
def has (n:Nat) (L:List Nat):Array Bool:=((List.range n).map fun i=>L.contains i).toArray
theorem iy (n k:Nat) (L:List Nat):(has n L).setIfInBounds k true=has n (k::L):=by
 unfold has
 apply Array.ext
 ·simp
 ·intro i h1 h2
  by_cases h:k=i
  ·subst h;simp
  ·rw[Array.getElem_setIfInBounds_ne (by simpa using h1) h];have h': ¬i=k:=fun e=>h e.symm
   simp[h']
theorem zo (n:Nat):Array.replicate n false=has n []:=by
 unfold has
 apply Array.ext
 ·simp
 ·intro i h1 h2;simp
def uG (ops:Array Oper) (p:Nat) (L:List Nat) (k:Nat):Bool:=
 decide (k<p)&&Region.noSelect ops&&Region.free .any ops (has ops.size L) k&&(Region.ready .any ops (has ops.size L)).contains k&&
 (List.range ops.size).all fun j=>decide (j<p)||match ops[j]? with
  |some oj=>oj.after.any fun e=>Region.binds .any e&&e.on==k
  |none=>true
def wpP (P:Program) (ops:Array Oper) (Q:Exit→Act→World→Prop) (S:World→Prop) (p:Nat) (L:List Nat) (a:Act) (w:World):Prop:=
 mA P ops Q S p (ops.size-L.length) (has ops.size L) a w
theorem cA {id:Nat} {a:Act} {w:World} (S:World→Prop) (p:Nat) (hm:P.follows .mixedOrders=true) (h:wpP P ops Q S p [] a w.drew):(Code.region id ops true).wp P Q a w:=by
 refine wp_region_any hm (jg (S:=S) (p:=p) _ _ _ _ ?_);rw[zo];exact h
theorem aB {k:Nat} {L:List Nat} {o:Oper} {v:Value} {a:Act} {w:World} (ho:ops[k]?=some o) (hl:L.length<ops.size) (hc:uG ops p L k=true)
  (hQ: ∀c a w,Q (.panic c) (a.put o.dst v) w→Q (.panic c) a w)
  (hw:Region.wanted o (yielded ops a.tmps)=true) (hS:S w) (hy: ∀w,S w→(execOp a.eval o).run P w= .ok (.value v) w) (h:wpP P ops Q S p (k::L) (a.put o.dst v) w):wpP P ops Q S p L a w:=by
 unfold uG at hc;simp only[Bool.and_eq_true,decide_eq_true_eq,List.all_eq_true,List.mem_range]at hc;obtain⟨⟨⟨⟨a2,a3⟩,a0⟩,a4⟩,a5⟩:=hc;unfold wpP at*;rw[show ops.size-L.length=(ops.size-(k::L).length)+1 from by simp;omega];refine ko ho a2 (Region.noSelect_spec a3) ?_ hQ _ _ a w (Region.free_spec ho a0) (by simpa using a4) (Or.inl ⟨hw,hy⟩) hS (by rw[iy];exact h);intro j oj hj a6;have a1:j<ops.size:=(Array.getElem?_eq_some_iff.1 hj).1;have:=a5 j a1;rw[hj]at this;simp only[Bool.or_eq_true,decide_eq_true_eq,Array.any_eq_true,Bool.and_eq_true,beq_iff_eq]at this;rcases this with h1| ⟨i,hi,h1,h2⟩
 ·omega
 ·exact⟨oj.after[i],Array.getElem_mem hi,h1,h2⟩
theorem aE {k:Nat} {L:List Nat} {o:Oper} {a:Act} {w:World} (ho:ops[k]?=some o) (hl:L.length<ops.size) (hr:Region.ready .any ops (has ops.size L)=[k])
  (h: ∀K':Act→World→Prop,Go.Shut (∀a w,(k<p→S w)→wpP P ops Q S p (k::L) a w→K' a w)→if Region.wanted o (yielded ops a.tmps)=true then Oper.wp P o a w K' Q else K' (a.put o.dst undef) w):wpP P ops Q S p L a w:=by
 unfold wpP;rw[show ops.size-L.length=(ops.size-(k::L).length)+1 from by simp;omega];refine⟨fun h=>(by rw[hr]at h;cases h),fun i hi=> ?_⟩;rw[hr]at hi;simp at hi;subst hi;exact wpOp_step ho (fun K' hK=>h K' (fun a w hS hW=>hK a w ⟨hS,by rw[iy];exact hW⟩))
theorem iz {k1 k2:Nat} {L:List Nat} {o1 o2:Oper} {a:Act} {w:World} (ho1:ops[k1]?=some o1) (ho2:ops[k2]?=some o2) (hl:L.length<ops.size) (hr:Region.ready .any ops (has ops.size L)=[k1,k2])
  (h1: ∀K':Act→World→Prop,Go.Shut (∀a w,(k1<p→S w)→wpP P ops Q S p (k1::L) a w→K' a w)→if Region.wanted o1 (yielded ops a.tmps)=true then Oper.wp P o1 a w K' Q else K' (a.put o1.dst undef) w)
  (h2: ∀K':Act→World→Prop,Go.Shut (∀a w,(k2<p→S w)→wpP P ops Q S p (k2::L) a w→K' a w)→if Region.wanted o2 (yielded ops a.tmps)=true then Oper.wp P o2 a w K' Q else K' (a.put o2.dst undef) w):wpP P ops Q S p L a w:=by
 unfold wpP;rw[show ops.size-L.length=(ops.size-(L.length+1))+1 from by omega];refine⟨fun h=>(by rw[hr]at h;cases h),fun i hi=> ?_⟩;rw[hr]at hi;simp only[List.mem_cons,List.not_mem_nil,or_false]at hi;rcases hi with rfl|rfl
 ·exact wpOp_step ho1 (fun K' hK=>h1 K' (fun a w hS hW=>hK a w ⟨hS,by rw[iy];exact hW⟩))
 ·exact wpOp_step ho2 (fun K' hK=>h2 K' (fun a w hS hW=>hK a w ⟨hS,by rw[iy];exact hW⟩))
theorem vd {k1 k2 k3:Nat} {L:List Nat} {o1 o2 o3:Oper} {a:Act} {w:World} (ho1:ops[k1]?=some o1) (ho2:ops[k2]?=some o2) (ho3:ops[k3]?=some o3) (hl:L.length<ops.size) (hr:Region.ready .any ops (has ops.size L)=[k1,k2,k3])
  (h1: ∀K':Act→World→Prop,Go.Shut (∀a w,(k1<p→S w)→wpP P ops Q S p (k1::L) a w→K' a w)→if Region.wanted o1 (yielded ops a.tmps)=true then Oper.wp P o1 a w K' Q else K' (a.put o1.dst undef) w)
  (h2: ∀K':Act→World→Prop,Go.Shut (∀a w,(k2<p→S w)→wpP P ops Q S p (k2::L) a w→K' a w)→if Region.wanted o2 (yielded ops a.tmps)=true then Oper.wp P o2 a w K' Q else K' (a.put o2.dst undef) w)
  (h3: ∀K':Act→World→Prop,Go.Shut (∀a w,(k3<p→S w)→wpP P ops Q S p (k3::L) a w→K' a w)→if Region.wanted o3 (yielded ops a.tmps)=true then Oper.wp P o3 a w K' Q else K' (a.put o3.dst undef) w):wpP P ops Q S p L a w:=by
 unfold wpP;rw[show ops.size-L.length=(ops.size-(L.length+1))+1 from by omega];refine⟨fun h=>(by rw[hr]at h;cases h),fun i hi=> ?_⟩;rw[hr]at hi;simp only[List.mem_cons,List.not_mem_nil,or_false]at hi;rcases hi with rfl|rfl|rfl
 ·exact wpOp_step ho1 (fun K' hK=>h1 K' (fun a w hS hW=>hK a w ⟨hS,by rw[iy];exact hW⟩))
 ·exact wpOp_step ho2 (fun K' hK=>h2 K' (fun a w hS hW=>hK a w ⟨hS,by rw[iy];exact hW⟩))
 ·exact wpOp_step ho3 (fun K' hK=>h3 K' (fun a w hS hW=>hK a w ⟨hS,by rw[iy];exact hW⟩))
theorem ck {L:List Nat} {a:Act} {w:World} (hl:L.length=ops.size) (hr:Region.ready .any ops (has ops.size L)=[]) (h:Q .normal a w):wpP P ops Q S p L a w:=by
 unfold wpP;rw[hl,Nat.sub_self];exact⟨hr,h⟩
end
end
end Go.Proofs.YtpfkkmacakjmbaaGreatDoor
