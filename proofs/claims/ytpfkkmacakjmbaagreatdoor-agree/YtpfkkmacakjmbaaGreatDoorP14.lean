import Derived.Test.YtpfkkmacakjmbaaGreatDoorP13
set_option maxRecDepth 100000
set_option maxHeartbeats 6400000
set_option linter.all false
namespace Go.Proofs.YtpfkkmacakjmbaaGreatDoor
section
open Sp
def mZ:SR->L_
 | .go m=>m.ev.out
 | .bad _ o=>o
 | .fin _ o=>o
theorem EC {p:Prop} [Decidable p] {a b:SR} {o:L_} (ha:o<+:mZ a) (hb:o<+:mZ b):o<+:mZ (if p then a else b):=by split<;>assumption
section
variable {im:Img} {inp:ByteArray} {T:cG}
theorem zZ (cells:Nat) (x:Ins) (f:Fm) (rest:List Fm) (s:Ev):s.out<+:mZ (Sp.stepX im inp T cells x f rest s):=by
 have ha:s.out<+:mZ (match dO x.op.toNat (kK f.zv).N (dv f.zv).N [] s with
  | .bad e o=> .bad e o
  | .ok v _ s=> .go ⟨f.on (iA f.zv++ [v])::rest,s⟩):=by
  unfold dO
  split<;>rename_i h
  .split at h
   .split at h
    .cases h;exact fy _
    .cases h
   .cases h
  .split at h
   .split at h
    .cases h
    .cases h;exact fy _
   .cases h;exact fy _
 unfold Sp.stepX
 repeat' (first|exact ha|apply EC|split)
 all_goals first|exact ha|exact fy _| (show s.out<+:s.out++_++ [32];rw[mP];exact List.prefix_append _ _)
theorem sd (cells:Nat) (m:Mv):m.ev.out<+:mZ (fc im inp T cells m):=by
 unfold fc
 split
 .exact fy _
 .split
  .exact fy _
  .exact zZ _ _ _ _ _
end
def ED:R->L_
 | .bad _ o=>o
 | .ok _ _ s=>s.out
def bnd (r:R) (F:V->List V->Ev->R):R:=match r with
 | .bad e o=> .bad e o
 | .ok v l s=>F v l s
def Gd (s:Ev) (n:Nat) (r:R):Prop:=s.out<+:ED r/\ ∀v l s',r= .ok v l s'->s'.left<=n
theorem Gd.bnd {s:Ev} {n m:Nat} {r:R} {F:V->List V->Ev->R} (h:Gd s n r) (hF: ∀v l s',r= .ok v l s'->Gd s' m (F v l s')):Gd s m (bnd r F):=by
 cases r with
 |bad e o=>exact⟨h.1,λv l s' e=>by cases e⟩
 |ok v l s'=>exact⟨h.1.trans (hF v l s' rfl).1,(hF v l s' rfl).2⟩
section
variable {im:Img} {inp:ByteArray}
theorem BI (x:Ins) (l:List V) (s:Ev):Gd s s.left (dX im inp x l s):=by
 unfold dX
 repeat' split
 all_goals exact⟨fy _,λv l s' e=>by cases e;exact bG _⟩
theorem Df (x:Ins) (v:V) (l:List V) (s:Ev):Gd s s.left (eV im x v l s):=by
 have a:Gd s s.left (.ok (.i 0) l (s.say v.N)):=⟨by show s.out<+:s.out++_++ [32];rw[mP];exact List.prefix_append _ _,λv l s' e=>by cases e;exact bG _⟩;unfold eV
 repeat' split
 all_goals first|exact a|exact⟨fy _,λv l s' e=>by first| (cases e;exact bG _) |cases e⟩
theorem z6 (op:Nat) (a b:Int) (l:List V) (s:Ev):Gd s s.left (dO op a b l s):=by
 unfold dO
 repeat' split
 all_goals exact⟨fy _,λv l s' e=>by first| (cases e;exact bG _) |cases e⟩
theorem BJ (call:Bod->List V->R) (d:Nat) (x:Ins) (u v:V) (l:List V) (s:Ev):eP im call d x u v l s=
  if x.op.toNat=99 then
   match u with
   | .o k=>if 12<=d then .bad 10 s.out else bnd (call (aZ im x k s) (aO (aZ im x k s) [u,v])) (λr _ s=> .ok r l s)
   |_=> .bad 6 s.out
  else eP im (λ_ _=> .bad 0 []) d x u v l s:=by
 unfold eP
 by_cases h99:x.op.toNat=99
 .simp only[h99,if_true]
  cases u with
  |o k=>
   simp only[show¬(99:Nat)=44 from by decide,show¬(99:Nat)=101 from by decide,if_false]
   split
   .rfl
   .unfold bnd
    cases call (aZ im x k s) (aO (aZ im x k s) [.o k,v])<;>rfl
  |_=>rfl
 .simp only[h99,if_false]
theorem Dg (x:Ins) (h:x.op.toNat≠99) (d:Nat) (u v:V) (l:List V) (s:Ev):Gd s s.left (eP im (λ_ _=> .bad 0 []) d x u v l s):=by
 have a: ∀u l,Gd s s.left (.ok u l s):=λu l=>⟨fy _,λv l s' e=>by cases e;exact bG _⟩
 unfold eP;simp only[h,if_false]
 split
 .exact a _ _
 split
 .exact a _ _
 split
 .cases u
  .exact⟨fy _,λv l s' e=>by cases e⟩
  .exact⟨fy _,λv l s' e=>by cases e⟩
  .exact⟨fy _,λv l s' e=>by cases e;exact bG _⟩
 .exact z6 _ _ _ _ _
end
theorem Gd.mono {s:Ev} {n m:Nat} {r:R} (h:Gd s n r) (hn:n<=m):Gd s m r:=⟨h.1,λv l s' e=>Nat.le_trans (h.2 v l s' e) hn⟩
theorem Gd.bad (s:Ev) (n e:Nat):Gd s n (.bad e s.out):=⟨fy _,λv l s' e=>by cases e⟩
theorem si (c d:List V->Ev->R) (g:Nat) (l:List V) (s:Ev):fP c d (g+1) l s=bnd (c l s) (λv l s=>if v.N=0 then .ok (.i 0) l s else bnd (d l s) (λ_ l s=>fP c d g l s)):=by
 rw[fP]
 cases c l s with
 |bad e o=>rfl
 |ok v l s=>
  dsimp only[bnd]
  split
  .rfl
  .cases d l s<;>rfl
theorem vn {c d:List V->Ev->R} (hc: ∀l s,Gd s s.left (c l s)) (hd: ∀l s,Gd s s.left (d l s)): ∀(g:Nat) (l:List V) (s:Ev),Gd s s.left (fP c d g l s)
 |0,l,s=>Gd.bad s _ 5
 |g+1,l,s=>by
  rw[si];refine(hc l s).bnd (λv l1 s1 h1=> ?_);have b1:=(hc l s).2 v l1 s1 h1
  split
  .exact⟨fy _,λv l s' e=>by cases e;exact b1⟩
  .refine((hd l1 s1).bnd (λv2 l2 s2 h2=> ?_)).mono b1;have b2:=(hd l1 s1).2 v2 l2 s2 h2;exact(vn hc hd g l2 s2).mono b2
section
variable {im:Img} {inp:ByteArray}
theorem Dh {call:Bod->List V->R} {s:Ev} {n:Nat} (hc: ∀b l,Gd s n (call b l)) (hn:s.left<=n) (d:Nat) (x:Ins) (u v:V) (l:List V):Gd s n (eP im call d x u v l s):=by
 rw[BJ]
 split
 .cases u with
  |o k=>
   dsimp only
   split
   .exact Gd.bad s _ 10
   .exact(hc _ _).bnd (λr l1 s1 h1=>⟨fy _,λv l s' e=>by cases e;exact(hc _ _).2 _ _ _ h1⟩)
  |_=>exact Gd.bad s _ 6
 .rename_i h
  exact(Dg x h d u v l s).mono hn
theorem og (f:Nat) (b:Bod) (d i:Nat) (l:List V) (s:Ev):bC im inp (f+1) b d i l s=if s.left=0 then .bad 5 s.out else
  match b.code[i]? with
  |none=> .bad 0 s.out
  |some x=>
   if ay x.op=0 then dX im inp x l {s with left:=s.left-1}else
   if x.op.toNat=111 then fP (bC im inp f b d (i+1)) (bC im inp f b d (bk b.code (i+1))) f l {s with left:=s.left-1}else
   bnd (bC im inp f b d (i+1) l {s with left:=s.left-1}) λu l s=>
    if x.op.toNat=105 then bC im inp f b d (if u.N=0 then bk b.code (bk b.code (i+1))else bk b.code (i+1)) l s
    else if ay x.op=1 then eV im x u l s
    else bnd (bC im inp f b d (bk b.code (i+1)) l s) λv l s=>eP im (λb' l'=>bC im inp f b' (d+1) 0 l' s) d x u v l s:=by
 rw[bC]
 split
 .rfl
 cases b.code[i]? with
 |none=>rfl
 |some x=>
  dsimp only
  split
  .rfl
  split
  .rfl
  cases bC im inp f b d (i+1) l {s with left:=s.left-1}with
  |bad e o=>rfl
  |ok u l s=>
   dsimp only[bnd]
   split
   .rfl
   split
   .rfl
   cases bC im inp f b d (bk b.code (i+1)) l s<;>rfl
theorem sj {f:Nat} {b:Bod} {d i:Nat} {l:List V} {s:Ev} (h:s.left=0):bC im inp f b d i l s= .bad 5 s.out:=by
 cases f with
 |zero=>rfl
 |succ f=>rw[og,if_pos h]
theorem tE: ∀(f:Nat) (b:Bod) (d i:Nat) (l:List V) (s:Ev),Gd s (s.left-1) (bC im inp f b d i l s)
 |0,b,d,i,l,s=>Gd.bad s _ 5
 |f+1,b,d,i,l,s=>by
  have IH:=λb d i l s=>tE f b d i l s
  have IL:=λb d i l s=>(tE f b d i l s).mono (Nat.sub_le s.left 1)
  rw[og]
  split
  .exact Gd.bad s _ 5
  cases b.code[i]? with
  |none=>exact Gd.bad s _ 0
  |some x=>
   dsimp only
   split
   .exact BI x l {s with left:=s.left-1}
   split
   .exact vn (IL b d (i+1)) (IL b d _) f l {s with left:=s.left-1}
   .refine(IH b d (i+1) l {s with left:=s.left-1}).bnd (λu l1 s1 h1=> ?_);have b1:s1.left<=s.left-1-1:=(IH b d (i+1) l {s with left:=s.left-1}).2 u l1 s1 h1
    split
    .exact(IL _ _ _ _ _).mono (by omega)
    split
    .exact(Df x u l1 s1).mono (by omega)
    .refine(IH b d _ l1 s1).bnd (λv l2 s2 h2=> ?_);have b2:=(IH b d _ l1 s1).2 v l2 s2 h2;exact Dh (λb' l'=>(IL b' (d+1) 0 l' s2).mono (by omega)) (by omega) d x u v l2
end
section
variable (im:Img) (inp:ByteArray) (T:cG) (cells:Nat)
noncomputable def fS:Nat->SR->SR
 |0,r=>r
 |n+1,.go m=>fS n (fc im inp T cells m)
 |_+1,.bad e o=> .bad e o
 |_+1,.fin v o=> .fin v o
def mA (R0:SR) (n:Nat) (r:SR) (o:L_):Prop:=fS im inp T cells n R0=r\/ ∃o',fS im inp T cells n R0= .bad 9 o'/\o'<+:o
end
def qC:SR->L_×Int×Nat
 | .go m=>(m.ev.out,0,5)
 | .bad e o=>(o,0,e)
 | .fin v o=>(o,v.N,0)
section
variable {im:Img} {inp:ByteArray} {T:cG} {cells:Nat}
theorem iE (n e:Nat) (o:L_):fS im inp T cells n (.bad e o)= .bad e o:=by cases n<;>rfl
theorem kx (n:Nat) (v:V) (o:L_):fS im inp T cells n (.fin v o)= .fin v o:=by cases n<;>rfl
theorem lU (k:Nat): ∀(n:Nat) (r:SR),fS im inp T cells (n+k) r=fS im inp T cells k (fS im inp T cells n r)
 |0,r=>by rw[Nat.zero_add];rfl
 |n+1,r=>by
  rw[show n+1+k=(n+k)+1 from by omega]
  cases r with
  |go m=>exact lU k n _
  |bad e o=>rw[iE,iE,iE]
  |fin v o=>rw[kx,kx,kx]
theorem qD: ∀(n:Nat) (r:SR),mZ r<+:mZ (fS im inp T cells n r)
 |0,r=>fy _
 |n+1,r=>by
  cases r with
  |go m=>exact(sd cells m).trans (qD n _)
  |bad e o=>exact fy _
  |fin v o=>exact fy _
theorem vp: ∀(n:Nat) (m:Mv),kZ im inp T cells n m=qC (fS im inp T cells n (.go m))
 |0,m=>rfl
 |n+1,m=>by
  rw[kZ,fS]
  cases fc im inp T cells m with
  |go m'=>exact vp n m'
  |bad e o=>rw[iE];rfl
  |fin v o=>rw[kx];rfl
theorem z7 {f n:Nat} (h:f<=n) (R0:SR):fS im inp T cells f R0=fS im inp T cells n R0\/ ∃m,fS im inp T cells f R0= .go m/\m.ev.out<+:mZ (fS im inp T cells n R0):=by
 obtain⟨k,rfl⟩:=Nat.exists_eq_add_of_le h;rw[lU]
 cases hr:fS im inp T cells f R0 with
 |go m=>exact Or.inr ⟨m,rfl,qD k (.go m)⟩
 |bad e o=>exact Or.inl (iE _ _ _).symm
 |fin v o=>exact Or.inl (kx _ _ _).symm
theorem mA.trans {R0 r r2:SR} {n k:Nat} {o1 o2:L_} (h:mA im inp T cells R0 n r o1) (ho:o1<+:o2) (h2:mA im inp T cells r k r2 o2):mA im inp T cells R0 (n+k) r2 o2:=by
 unfold mA at*;rw[lU];obtain h| ⟨o',h,hp⟩:=h
 .rw[h];exact h2
 .rw[h,iE];exact Or.inr ⟨o',rfl,hp.trans ho⟩
end
def mz (s:Ev):Ev:=⟨s.heap,s.read,0,s.out⟩
def AtS (q pc:Nat) (zv:List V) (rest:List Fm) (u:V) (l:List V) (s:Ev):SR:= .go ⟨⟨q,pc,zv++ [u],l⟩::rest,mz s⟩
section
variable (im:Img) (inp:ByteArray) (T:cG) (cells:Nat)
def Gs (R0:SR) (L z:Nat) (lo up ub:Int) (k:V->List V->Ev->SR) (r:R):Prop:=mZ R0<+:ED r/\match r with
 | .ok v l s'=>s'.left<=L/\ ∃n:Nat,(L:Int)-s'.left+lo<=n/\(n:Int)<=4*(L-s'.left)+up/\mA im inp T cells R0 n (k v l s') s'.out
 | .bad e o=>e=0\/ ∃n:Nat,(n:Int)<=4*L+ub/\if e=5 then L<=25*n+z/\ ∃m:Mv,m.ev.out=o/\mA im inp T cells R0 n (.go m) o else mA im inp T cells R0 n (.bad e o) o
end
section
variable {im:Img} {inp:ByteArray} {T:cG} {cells:Nat}
theorem Gs.bnd {R0:SR} {L zA z q pc:Nat} {lo up ub lo' up' ub':Int} {zv:List V} {rest:List Fm} {k:V->List V->Ev->SR} {rA:R} {F:V->List V->Ev->R} (b:Gs im inp T cells R0 L zA 0 (-2) 0 (AtS q pc zv rest) rA)
  (a: ∀u l s1,rA= .ok u l s1->s1.left<=L->Gs im inp T cells (AtS q pc zv rest u l s1) s1.left z lo up ub k (F u l s1)) (hz:zA<=z) (h1:lo'<=lo) (h2:up<=up'+2) (h3:ub<=ub'+2) (h4:0<=ub'):
  Gs im inp T cells R0 L z lo' up' ub' k (bnd rA F):=by
 obtain⟨d,b⟩:=b
 cases rA with
 |bad e o=>
  refine⟨d,?_⟩;obtain b| ⟨n,hn,b⟩:=b
  .exact Or.inl b
  .refine Or.inr ⟨n,by omega,?_⟩
   split
   .rename_i he
    rw[if_pos he]at b;exact⟨by omega,b.2⟩
   .rename_i he
    rw[if_neg he]at b;exact b
 |ok u l s1=>
  obtain⟨hl,n,g1,g2,c⟩:=b;obtain⟨po,a⟩:=a u l s1 rfl hl;have po':s1.out<+:ED (F u l s1):=po;refine⟨List.IsPrefix.trans d po',?_⟩
  show match F u l s1 with
   | .ok v l s'=>s'.left<=L/\ ∃n:Nat,(L:Int)-s'.left+lo'<=n/\(n:Int)<=4*(L-s'.left)+up'/\mA im inp T cells R0 n (k v l s') s'.out
   | .bad e o=>e=0\/ ∃n:Nat,(n:Int)<=4*L+ub'/\if e=5 then L<=25*n+z/\ ∃m:Mv,m.ev.out=o/\mA im inp T cells R0 n (.go m) o else mA im inp T cells R0 n (.bad e o) o
  cases hr:F u l s1 with
  |ok v l2 s2=>
   rw[hr]at a po';obtain⟨f,m,k1,k2,k3⟩:=a;exact⟨by omega,n+m,by omega,by omega,c.trans po' k3⟩
  |bad e o=>
   rw[hr]at a po';obtain a| ⟨m,hm,a⟩:=a
   .exact Or.inl a
   .refine Or.inr ⟨n+m,by omega,?_⟩
    split
    .rename_i he
     rw[if_pos he]at a;obtain⟨k1,M,k2,k3⟩:=a;exact⟨by omega,M,k2,c.trans po' k3⟩
    .rename_i he
     rw[if_neg he]at a;exact c.trans po' a
theorem Gs.stepz {m:Mv} {R1:SR} {L z z':Nat} {lo up ub lo' up' ub':Int} {k:V->List V->Ev->SR} {r:R} (hs:fc im inp T cells m=R1) (h:Gs im inp T cells R1 L z lo up ub k r) (hz:z<=z'+25) (h1:lo'<=lo+1) (h2:up+1<=up') (h3:ub+1<=ub'):
  Gs im inp T cells (.go m) L z' lo' up' ub' k r:=by
 obtain⟨po,h⟩:=h
 have d: ∀{n r o},mA im inp T cells R1 n r o->mA im inp T cells (.go m) (n+1) r o:=λ{n r o} h=>by
  unfold mA fS;rw[hs];exact h
 refine⟨(show m.ev.out<+:mZ R1 from hs▸sd cells m).trans po,?_⟩
 cases r with
 |ok v l s'=>
  obtain⟨f,n,a,b,c⟩:=h;exact⟨f,n+1,by omega,by omega,d c⟩
 |bad e o=>
  obtain h| ⟨n,a,h⟩:=h
  .exact Or.inl h
  .refine Or.inr ⟨n+1,by omega,?_⟩
   split
   .rename_i he
    rw[if_pos he]at h;obtain⟨k1,M,k2,k3⟩:=h;exact⟨by omega,M,k2,d k3⟩
   .rename_i he
    rw[if_neg he]at h;exact d h
theorem Gs.step {m:Mv} {R1:SR} {L z:Nat} {lo up ub lo' up' ub':Int} {k:V->List V->Ev->SR} {r:R} (hs:fc im inp T cells m=R1) (h:Gs im inp T cells R1 L z lo up ub k r) (h1:lo'<=lo+1) (h2:up+1<=up') (h3:ub+1<=ub'):
  Gs im inp T cells (.go m) L z lo' up' ub' k r:=Gs.stepz hs h (by omega) h1 h2 h3
theorem Gs.done {L z:Nat} {lo up ub:Int} {k:V->List V->Ev->SR} {v:V} {l:List V} {s:Ev} (ho:mZ (k v l s)=s.out) (hL:s.left=L) (h1:lo<=0) (h2:0<=up):Gs im inp T cells (k v l s) L z lo up ub k (.ok v l s):=
 ⟨by rw[ho];exact fy _,by omega,0,by omega,by omega,Or.inl rfl⟩
theorem Gs.fail {L z e:Nat} {lo up ub:Int} {k:V->List V->Ev->SR} {o:L_} (he:e≠5) (h:0<=ub):Gs im inp T cells (.bad e o) L z lo up ub k (.bad e o):=
 ⟨fy _,Or.inr ⟨0,by omega,by rw[if_neg he];exact Or.inl rfl⟩⟩
theorem Gs.spent {m:Mv} {L z:Nat} {lo up ub:Int} {k:V->List V->Ev->SR} {o:L_} (ho:m.ev.out=o) (hL:L<=z) (h:0<=ub):Gs im inp T cells (.go m) L z lo up ub k (.bad 5 o):=
 ⟨by rw[<-ho];exact fy _,Or.inr ⟨0,by omega,by rw[if_pos rfl];exact⟨by omega,m,ho,Or.inl rfl⟩⟩⟩
theorem Gs.zero {m:Mv} {L z:Nat} {lo up ub:Int} {k:V->List V->Ev->SR} {o:L_} (ho:m.ev.out<+:o):Gs im inp T cells (.go m) L z lo up ub k (.bad 0 o):=⟨ho,Or.inl rfl⟩
theorem Gs.enter {R0:SR} {L L' z z':Nat} {lo up ub lo' up' ub':Int} {k:V->List V->Ev->SR} {r:R} (h:Gs im inp T cells R0 L z lo up ub k r) (hL:L'=L+1) (hz:z+1<=z') (h1:lo'+1<=lo) (h2:up<=up'+4) (h3:ub<=ub'+4):Gs im inp T cells R0 L' z' lo' up' ub' k r:=by
 subst hL;obtain⟨po,h⟩:=h;refine⟨po,?_⟩
 cases r with
 |ok v l s'=>
  obtain⟨d,n,a,b,c⟩:=h;exact⟨by omega,n,by omega,by omega,c⟩
 |bad e o=>
  obtain h| ⟨n,a,h⟩:=h
  .exact Or.inl h
  .refine Or.inr ⟨n,by omega,?_⟩
   split
   .rename_i he
    rw[if_pos he]at h;exact⟨by omega,h.2⟩
   .rename_i he
    rw[if_neg he]at h;exact h
theorem Gs.weak {R0:SR} {L z z':Nat} {lo up ub lo' up' ub':Int} {k:V->List V->Ev->SR} {r:R} (h:Gs im inp T cells R0 L z lo up ub k r) (hz:z<=z') (h1:lo'<=lo) (h2:up<=up') (h3:ub<=ub'):Gs im inp T cells R0 L z' lo' up' ub' k r:=by
 obtain⟨po,h⟩:=h;refine⟨po,?_⟩
 cases r with
 |ok v l s'=>
  obtain⟨d,n,a,b,c⟩:=h;exact⟨by omega,n,by omega,by omega,c⟩
 |bad e o=>
  obtain h| ⟨n,a,h⟩:=h
  .exact Or.inl h
  .refine Or.inr ⟨n,by omega,?_⟩
   split
   .rename_i he
    rw[if_pos he]at h;exact⟨by omega,h.2⟩
   .rename_i he
    rw[if_neg he]at h;exact h
end
def lfX (x:Ins):Ins:=if aY x.op=true then⟨107,0,x.b,0⟩else⟨x.op,x.a,x.b,0⟩
def k0X:Ins:=⟨107,0,0,0⟩
def dy (x:Ins):List Ins:=⟨x.op,x.a,x.b,0⟩::if x.op.toNat=115\/x.op.toNat=112\/x.op.toNat=119 then [k0X]else []
inductive Cmp (t:List Ins):Nat->Nat->List Ins->Nat->Prop where
 |leaf {i p:Nat} {x:Ins} (hx:t[i]?=some x) (h0:ay x.op=0) (hl:aY x.op=true\/x.op.toNat=114\/x.op.toNat=122\/x.op.toNat=108\/x.op.toNat=110):Cmp t i p [lfX x] 1
 |one {i p:Nat} {x:Ins} {A:List Ins} {z:Nat} (hx:t[i]?=some x) (h1:ay x.op=1) (hA:Cmp t (i+1) p A z):Cmp t i p (A++dy x) (z+1)
 |two {i p:Nat} {x:Ins} {A B:List Ins} {z y:Nat} (hx:t[i]?=some x) (h2:ay x.op=2) (hc:x.op.toNat≠44) (ho:x.op.toNat≠111) (hA:Cmp t (i+1) p A z) (hB:Cmp t (bk t (i+1)) (p+A.length) B y):Cmp t i p (A++(B++dy x)) (z+y+1)
 |seq {i p:Nat} {x:Ins} {A B:List Ins} {z y:Nat} (hx:t[i]?=some x) (hc:x.op.toNat=44) (hA:Cmp t (i+1) p A z) (hB:Cmp t (bk t (i+1)) (p+A.length+1) B y):Cmp t i p (A++(⟨100,0,0,0⟩::B)) (z+y+1)
 |cho {i p:Nat} {x:Ins} {A B C:List Ins} {z y v:Nat} (hx:t[i]?=some x) (hc:x.op.toNat=105) (hA:Cmp t (i+1) p A z) (hB:Cmp t (bk t (i+1)) (p+A.length+1) B y) (hC:Cmp t (bk t (bk t (i+1))) (p+A.length+1+B.length+1) C v):
   Cmp t i p (A++(⟨102,0,p+A.length+1+B.length+1,0⟩::(B++(⟨106,0,p+A.length+1+B.length+1+C.length,0⟩::C)))) (z+y+v+1)
 |loo {i p:Nat} {x:Ins} {A B:List Ins} {z y:Nat} (hx:t[i]?=some x) (hc:x.op.toNat=111) (hA:Cmp t (i+1) p A z) (hB:Cmp t (bk t (i+1)) (p+A.length+1) B y):
   Cmp t i p (A++(⟨102,0,p+A.length+1+B.length+2,0⟩::(B++ [⟨100,0,0,0⟩,⟨106,0,p,0⟩,k0X]))) (z+y+1)
def Has (code:List Ins) (p:Nat) (c:List Ins):Prop:= ∀k x,c[k]?=some x-> ∃y,code[p+k]?=some y/\y.op=x.op/\y.a=x.a/\y.b=x.b
theorem Has.left {code:List Ins} {p:Nat} {c d:List Ins} (h:Has code p (c++d)):Has code p c:=λk x hx=>h k x (by
 rw[eQ (bn hx).1];exact hx)
theorem Has.right {code:List Ins} {p:Nat} {c d:List Ins} (h:Has code p (c++d)):Has code (p+c.length) d:=λk x hx=>by
 have:=h (c.length+k) x (by rw[gG (by omega),Nat.add_sub_cancel_left];exact hx)
 rwa [<-Nat.add_assoc]at this
theorem Has.head {code:List Ins} {p:Nat} {x:Ins} {d:List Ins} (h:Has code p (x::d)): ∃y,code[p]?=some y/\y.op=x.op/\y.a=x.a/\y.b=x.b:=h 0 x rfl
theorem Has.tail {code:List Ins} {p:Nat} {x:Ins} {d:List Ins} (h:Has code p (x::d)):Has code (p+1) d:=λk y hy=>by
 have:=h (k+1) y hy
 rwa [show p+(k+1)=p+1+k from by omega]at this
structure oh (im im':Img):Prop where
 cls:im'.zq=im.zq
 find: ∀(m:Int) (f:Nat) (c:Int),cO im'.zq im'.zj m f c=cO im.zq im.zj m f c
 bod: ∀(q:Nat) (b:Bod),im.zj[q]?=some b-> ∃b' c z,im'.zj[q]?=some b'/\b'.zy=b.zy/\Cmp b.code 0 0 c z/\z<=24/\Has b'.code 0 (c++ [⟨116,0,0,0⟩])
theorem iK (s:List V) (u:V):dv (s++ [u])=u:=by simp[dv,List.getD]
theorem ol (s:List V) (u:V):dp (s++ [u])=s:=by simp[dp]
theorem tF (s:List V) (u v:V):dv (s++ [u]++ [v])=v:=iK _ _
theorem kR (s:List V) (u v:V):kK (s++ [u]++ [v])=u:=by simp[kK,List.getD]
theorem pM (s:List V) (u v:V):iA (s++ [u]++ [v])=s:=by simp[iA]
section
variable {im im':Img} {inp:ByteArray} {T:cG} {cells:Nat} {code:List Ins} {q p:Nat} {rest:List Fm}
theorem fT {x:Ins} {c:List Ins} {b':Bod} (hb:im'.zj[q]?=some b') (hh:Has b'.code p (x::c)) (zv l:List V) (s:Ev): ∃y:Ins,y.op=x.op/\y.a=x.a/\y.b=x.b/\fc im' inp T cells ⟨⟨q,p,zv,l⟩::rest,s⟩=Sp.stepX im' inp T cells y ⟨q,p,zv,l⟩ rest s:=by
 obtain⟨y,d,e,f,g⟩:=hh.head;exact⟨y,e,f,g,by simp[fc,Bf,hb,d]⟩
theorem z9 {x:Ins} {c:List Ins} {b':Bod} (hI:oh im im') (hb:im'.zj[q]?=some b') (hl:aY x.op=true\/x.op.toNat=114\/x.op.toNat=122\/x.op.toNat=108\/x.op.toNat=110) (hh:Has b'.code p (lfX x::c)) (zv l:List V) (s:Ev) (L z:Nat) (hL:s.left=L):
  Gs im' inp T cells (.go ⟨⟨q,p,zv,l⟩::rest,mz s⟩) L z 1 1 1 (AtS q (p+1) zv rest) (dX im inp x l s):=by
 obtain⟨y,g,h,j,e⟩:=fT (inp:=inp) (T:=T) (cells:=cells) (rest:=rest) hb hh zv l (mz s)
 have ht: ∀(a b:Nat),x.op.toNat=a->aY x.op=true->a=b->48<=b/\b<=57:=λa b g h j=>by
  simp only[aY,dl,dk]at h;omega
 by_cases hd:aY x.op=true
 .have d:y.op.toNat=107:=by rw[g];simp[lfX,hd]
  have f:y.b=x.b:=by rw[j];simp[lfX,hd]
  simp only[aY,dl,dk]at hd;have er:dX im inp x l s= .ok (.i x.b) l s:=by unfold dX;rw[if_neg (by omega),if_neg (by omega),if_neg (by omega),if_neg (by omega)]
  rw[er];refine Gs.step (R1:=AtS q (p+1) zv rest (.i x.b) l s) ?_ (Gs.done rfl hL (eH 0) (eH 0)) (by omega) (by omega) (show(0:Int)+1<=1 by omega);rw[e];simp[Sp.stepX,d,f,Fm.on,AtS]
 .have d:y.op=x.op:=by rw[g];simp[lfX,hd]
  have k:y.a=x.a:=by rw[h];simp[lfX,hd]
  have f:y.b=x.b:=by rw[j];simp[lfX,hd]
  obtain hl|hl|hl|hl|hl:=hl
  .exact absurd hl hd
  .have er:dX im inp x l s= .ok (.i (jA inp s.read)) l {s with read:=s.read+1}:=by simp[dX,hl]
   rw[er];refine Gs.step (R1:=AtS q (p+1) zv rest (.i (jA inp s.read)) l {s with read:=s.read+1}) ?_ (Gs.done rfl hL (eH 0) (eH 0)) (by omega) (by omega) (show(0:Int)+1<=1 by omega);rw[e];simp[Sp.stepX,d,hl,Fm.on,AtS,mz]
  .have er:dX im inp x l s= .ok .z l s:=by simp[dX,hl]
   rw[er];refine Gs.step (R1:=AtS q (p+1) zv rest .z l s) ?_ (Gs.done rfl hL (eH 0) (eH 0)) (by omega) (by omega) (show(0:Int)+1<=1 by omega);rw[e];simp[Sp.stepX,d,hl,Fm.on,AtS,mz]
  .have er:dX im inp x l s= .ok (l.getD x.b .z) l s:=by simp[dX,hl]
   rw[er];refine Gs.step (R1:=AtS q (p+1) zv rest (l.getD x.b .z) l s) ?_ (Gs.done rfl hL (eH 0) (eH 0)) (by omega) (by omega) (show(0:Int)+1<=1 by omega);rw[e];simp[Sp.stepX,d,f,hl,Fm.on,AtS,mz]
  .have er:dX im inp x l s= .ok (.o s.heap.length) l {s with heap:=s.heap++ [⟨x.a,de im.zq x.a⟩]}:=by simp[dX,hl]
   rw[er]
   by_cases hc:fk s.heap (jV T (⟨q,p,zv,l⟩::rest))+1+(de im.zq x.a).length>cells
   .refine⟨fy _,by show s.left<=L;omega,1,by show(L:Int)-s.left+1<=1;omega,by show(1:Int)<=4*(L-s.left)+1;omega,Or.inr ⟨s.out,?_,fy _⟩⟩;unfold fS;rw[e];simp[Sp.stepX,d,k,hl,mz,hI.cls,hc,fS]
   .refine Gs.step (R1:=AtS q (p+1) zv rest (.o s.heap.length) l {s with heap:=s.heap++ [⟨x.a,de im.zq x.a⟩]}) ?_ (Gs.done rfl hL (eH 0) (eH 0)) (by omega) (by omega) (show(0:Int)+1<=1 by omega);rw[e];simp[Sp.stepX,d,k,hl,Fm.on,AtS,mz,hI.cls,hc]
end
theorem qE {c:UInt8} (h:ay c=1):c.toNat=115\/c.toNat=103\/c.toNat=120\/c.toNat=119:=by
 unfold ay at h
 split at h
 .cases h
 split at h
 .cases h
 split at h
 .rename_i hh;simpa using hh
 .cases h
theorem tG {c:UInt8} (h:ay c=2):arith c.toNat=true\/c.toNat=101\/c.toNat=112\/c.toNat=99\/c.toNat=44\/c.toNat=111:=by
 unfold ay at h
 split at h
 .cases h
 split at h
 .rename_i hh
  simp only[List.contains_iff_mem,List.mem_cons,List.not_mem_nil,or_false]at hh;simp only[arith,List.contains_iff_mem,List.mem_cons,List.not_mem_nil,or_false];omega
 split at h<;>cases h
section
variable {im im':Img} {inp:ByteArray} {T:cG} {cells:Nat} {q p:Nat} {rest:List Fm}
theorem pN {c:List Ins} {b':Bod} (hb:im'.zj[q]?=some b') (hh:Has b'.code p (k0X::c)) (zv l:List V) (s:Ev):fc im' inp T cells ⟨⟨q,p,zv,l⟩::rest,mz s⟩=AtS q (p+1) zv rest (.i 0) l s:=by
 obtain⟨y,a,e,b,d⟩:=fT (inp:=inp) (T:=T) (cells:=cells) (rest:=rest) hb hh zv l (mz s);rw[d];simp[Sp.stepX,a,b,k0X,Fm.on,AtS]
theorem vq {x:Ins} {c:List Ins} {b':Bod} (hh:Has b'.code p (dy x++c)): ∃d,Has b'.code p (⟨x.op,x.a,x.b,0⟩::d)/\(dy x=[⟨x.op,x.a,x.b,0⟩]/\ ¬(x.op.toNat=115\/x.op.toNat=112\/x.op.toNat=119)\/dy x=[⟨x.op,x.a,x.b,0⟩,k0X]/\Has b'.code (p+1) [k0X]):=by
 unfold dy at*
 split at hh
 .rename_i h
  exact⟨_,hh,by rw[if_pos h];exact Or.inr ⟨rfl,(show Has b'.code (p+1) ([k0X]++c)from hh.tail).left⟩⟩
 .rename_i h
  exact⟨_,hh,by rw[if_neg h];exact Or.inl ⟨rfl,h⟩⟩
theorem BK {x:Ins} {c:List Ins} {b':Bod} (hI:oh im im') (hb:im'.zj[q]?=some b') (h1:ay x.op=1) (t:Has b'.code p (dy x++c)) (zv:List V) (u:V) (l:List V) (s:Ev) (L z:Nat) (hL:s.left=L):
  Gs im' inp T cells (AtS q p zv rest u l s) L z 1 2 1 (AtS q (p+(dy x).length) zv rest) (eV im x u l s):=by
 obtain⟨d,t,f⟩:=vq t;obtain⟨y,g,j,m,h⟩:=fT (inp:=inp) (T:=T) (cells:=cells) (rest:=rest) hb t (zv++ [u]) l (mz s);dsimp only at g j m;obtain ho|ho|ho|ho:=qE h1
 .obtain⟨_,hn⟩ | ⟨f,r⟩:=f
  .exact absurd (Or.inl ho) hn
  have er:eV im x u l s= .ok (.i 0) (l.set x.b u) s:=by simp[eV,ho]
  rw[er,f];refine Gs.step (lo:=0) (up:=1) (ub:=0) (R1:= .go ⟨⟨q,p+1,zv,l.set x.b u⟩::rest,mz s⟩) (by rw[h];simp[Sp.stepX,g,m,ho,Fm.on,iK,ol]) ?_ (by omega) (by omega) (by omega);exact Gs.step (pN hb r _ _ _) (Gs.done (ub:= -1) rfl hL (eH 0) (eH 0)) (by omega) (by omega) (by omega)
 .obtain⟨f,_⟩ | ⟨f,_⟩:=f
  .rw[f]
   cases u with
   |o k=>
    have er:eV im x (.o k) l s= .ok ((s.fs k).getD x.b .z) l s:=by simp[eV,ho]
    rw[er];exact Gs.step (by rw[h];simp[Sp.stepX,g,m,ho,Fm.on,iK,ol];rfl) (Gs.done (k:=AtS q (p+1) zv rest) (v:=(s.fs k).getD x.b .z) (l:=l) (s:=s) (ub:=0) rfl hL (eH 0) (eH 0)) (by omega) (by omega) (by omega)
   |i n=>
    have er:eV im x (.i n) l s= .bad 6 s.out:=by simp[eV,ho]
    rw[er];exact Gs.step (by rw[h];simp[Sp.stepX,g,ho,iK];rfl) (Gs.fail (lo:=0) (up:=0) (by decide) (eH 0)) (by omega) (by omega) (by omega)
   |z=>
    have er:eV im x .z l s= .bad 6 s.out:=by simp[eV,ho]
    rw[er];exact Gs.step (by rw[h];simp[Sp.stepX,g,ho,iK];rfl) (Gs.fail (lo:=0) (up:=0) (by decide) (eH 0)) (by omega) (by omega) (by omega)
  .simp[dy,ho]at f
 .obtain⟨f,_⟩ | ⟨f,_⟩:=f
  .rw[f]
   have A: ∀v,u=v->(∀k,v≠ .o k)->Gs im' inp T cells (AtS q p zv rest v l s) L z 1 2 1 (AtS q (p+1) zv rest) (.ok v l s):=λv hv f=>by
    subst hv;exact Gs.step (by rw[h];cases u<;>simp[Sp.stepX,g,ho,Fm.on,iK]at f⊢ <;>rfl) (Gs.done (k:=AtS q (p+1) zv rest) (v:=u) (l:=l) (s:=s) (ub:=0) rfl hL (eH 0) (eH 0)) (by omega) (by omega) (by omega)
   cases u with
   |o k=>
    by_cases hu:cB im.zq 5 (s.cls k) x.a=true
    .have er:eV im x (.o k) l s= .ok (.o k) l s:=by simp[eV,ho,hu]
     rw[er];refine Gs.step (by rw[h];simp[Sp.stepX,g,j,ho,Fm.on,iK,hI.cls,show(mz s).cls k=s.cls k from rfl,hu];rfl) (Gs.done (k:=AtS q (p+1) zv rest) (v:= .o k) (l:=l) (s:=s) (ub:=0) rfl hL (eH 0) (eH 0)) (by omega) (by omega) (by omega)
    .have er:eV im x (.o k) l s= .bad 8 s.out:=by simp[eV,ho,hu]
     rw[er];exact Gs.step (by rw[h];simp[Sp.stepX,g,j,ho,iK,hI.cls,show(mz s).cls k=s.cls k from rfl,hu];rfl) (Gs.fail (lo:=0) (up:=0) (by decide) (eH 0)) (by omega) (by omega) (by omega)
   |i n=>
    have er:eV im x (.i n) l s= .ok (.i n) l s:=by simp[eV,ho]
    rw[er];exact A _ rfl (λk e=>by cases e)
   |z=>
    have er:eV im x .z l s= .ok .z l s:=by simp[eV,ho]
    rw[er];exact A _ rfl (λk e=>by cases e)
  .simp[dy,ho]at f
 .obtain⟨_,hn⟩ | ⟨f,r⟩:=f
  .exact absurd (Or.inr (Or.inr ho)) hn
  have er:eV im x u l s= .ok (.i 0) l (s.say u.N):=by simp[eV,ho]
  rw[er,f];refine Gs.step (lo:=0) (up:=1) (ub:=0) (R1:= .go ⟨⟨q,p+1,zv,l⟩::rest,mz (s.say u.N)⟩) (by rw[h];simp[Sp.stepX,g,ho,Fm.on,iK,ol];rfl) ?_ (by omega) (by omega) (by omega);exact Gs.step (pN hb r _ _ _) (Gs.done (ub:= -1) rfl hL (eH 0) (eH 0)) (by omega) (by omega) (by omega)
theorem BL {x:Ins} {c:List Ins} {b':Bod} (hI:oh im im') (hb:im'.zj[q]?=some b') (m:ay x.op=2) (h44:x.op.toNat≠44) (h111:x.op.toNat≠111) (h99:x.op.toNat≠99) (B:Has b'.code p (dy x++c)) (zv:List V) (u v:V) (l:List V) (s:Ev) (L z:Nat) (hL:s.left=L) (call:Bod->List V->R) (d:Nat):
  Gs im' inp T cells (AtS q p (zv++ [u]) rest v l s) L z 1 2 1 (AtS q (p+(dy x).length) zv rest) (eP im call d x u v l s):=by
 obtain⟨dd,B,g⟩:=vq B;obtain⟨y,f,D,C,j⟩:=fT (inp:=inp) (T:=T) (cells:=cells) (rest:=rest) hb B (zv++ [u]++ [v]) l (mz s);dsimp only at f D C
 have t: ∀e,e≠5->fc im' inp T cells ⟨⟨q,p,zv++ [u]++ [v],l⟩::rest,mz s⟩= .bad e s.out->Gs im' inp T cells (AtS q p (zv++ [u]) rest v l s) L z 1 2 1 (AtS q (p+(dy x).length) zv rest) (.bad e s.out):=λe he h=>
  Gs.step h (Gs.fail (lo:=0) (up:=0) he (eH 0)) (by omega) (by omega) (by omega)
 have A: ∀r,dy x=[⟨x.op,x.a,x.b,0⟩]->fc im' inp T cells ⟨⟨q,p,zv++ [u]++ [v],l⟩::rest,mz s⟩=AtS q (p+1) zv rest r l s->Gs im' inp T cells (AtS q p (zv++ [u]) rest v l s) L z 1 2 1 (AtS q (p+(dy x).length) zv rest) (.ok r l s):=λr g h=>by
  rw[g];exact Gs.step h (Gs.done (ub:=0) rfl hL (eH 0) (eH 0)) (by omega) (by omega) (by omega)
 obtain ho|ho|ho|ho|ho|ho:=tG m
 .have hn:dy x=[⟨x.op,x.a,x.b,0⟩]:=by
   simp only[arith,List.contains_iff_mem,List.mem_cons,List.not_mem_nil,or_false]at ho;unfold dy;rw[if_neg (by omega)]
  simp only[arith,List.contains_iff_mem,List.mem_cons,List.not_mem_nil,or_false]at ho
  have er:eP im call d x u v l s=dO x.op.toNat u.N v.N l s:=by
   unfold eP;rw[if_neg (by omega),if_neg (by omega),if_neg (by omega),if_neg (by omega)]
  have es:fc im' inp T cells ⟨⟨q,p,zv++ [u]++ [v],l⟩::rest,mz s⟩=match dO x.op.toNat u.N v.N [] (mz s)with
    | .bad e o=> .bad e o
    | .ok v _ s=> .go ⟨⟨q,p+1,zv++ [v],l⟩::rest,s⟩:=by
   rw[j];unfold Sp.stepX;rw[f]
   iterate 16 rw[if_neg (by omega)]
   rw[tF,kR,pM]
   rfl
  rw[er];unfold dO at es⊢
  by_cases h47:x.op.toNat=47
  .rw[if_pos h47]at es⊢
   by_cases h0:v.N=0
   .rw[if_pos h0]at es⊢;exact t 7 (by decide) es
   .rw[if_neg h0]at es⊢;exact A _ hn es
  .rw[if_neg h47]at es⊢;exact A _ hn es
 .have hn:dy x=[⟨x.op,x.a,x.b,0⟩]:=by unfold dy;rw[if_neg (by omega)]
  have er:eP im call d x u v l s= .ok (if u=v then .i 1 else .i 0) l s:=by simp[eP,ho]
  rw[er];exact A _ hn (by rw[j];simp only[Sp.stepX,f,ho,tF,kR,pM];simp[Fm.on,AtS])
 .obtain⟨_,hn⟩ | ⟨g,m⟩:=g
  .exact absurd (Or.inr (Or.inl ho)) hn
  have E: ∀k,u= .o k->Gs im' inp T cells (AtS q p (zv++ [u]) rest v l s) L z 1 2 1 (AtS q (p+(dy x).length) zv rest) (.ok (.i 0) l (s.put k x.b v)):=λk hu=>by
   subst hu;rw[g];refine Gs.step (lo:=0) (up:=1) (ub:=0) (R1:= .go ⟨⟨q,p+1,zv,l⟩::rest,mz (s.put k x.b v)⟩) ?_ (Gs.step (pN hb m _ _ _) (Gs.done (ub:= -1) rfl hL (eH 0) (eH 0)) (by omega) (by omega) (by omega)) (by omega) (by omega) (by omega);rw[j];simp only[Sp.stepX,f,C,ho,tF,kR,pM];simp[Fm.on,Ev.put,mz,Ev.cls,Ev.fs]
  cases u with
  |o k=>
   have er:eP im call d x (.o k) v l s= .ok (.i 0) l (s.put k x.b v):=by simp[eP,ho]
   rw[er];exact E k rfl
  |i n=>
   have er:eP im call d x (.i n) v l s= .bad 6 s.out:=by simp[eP,ho]
   rw[er];exact t 6 (by decide) (by rw[j];simp only[Sp.stepX,f,ho,kR];simp[mz])
  |z=>
   have er:eP im call d x .z v l s= .bad 6 s.out:=by simp[eP,ho]
   rw[er];exact t 6 (by decide) (by rw[j];simp only[Sp.stepX,f,ho,kR];simp[mz])
 .exact absurd ho h99
 .exact absurd ho h44
 .exact absurd ho h111
end
section
variable {im im':Img} {inp:ByteArray} {T:cG} {cells:Nat}
def FJ (im im':Img) (inp:ByteArray) (T:cG) (cells f:Nat):Prop:= ∀(b b':Bod) (q i p z:Nat) (c:List Ins),im'.zj[q]?=some b'->Cmp b.code i p c z->Has b'.code p c-> ∀(rest:List Fm) (zv l:List V) (s:Ev),s.left<=f->
  Gs im' inp T cells (.go ⟨⟨q,p,zv,l⟩::rest,mz s⟩) s.left z 0 (-2) 0 (AtS q (p+c.length) zv rest) (bC im inp f b (rest.length+1) i l s)
theorem gD {q p:Nat} {rest:List Fm} {x:Ins} {c:List Ins} {b':Bod} (hb:im'.zj[q]?=some b') (hh:Has b'.code p (x::c)) (zv l:List V) (v:V) (s:Ev):
  (x.op.toNat=100->fc im' inp T cells ⟨⟨q,p,zv++ [v],l⟩::rest,mz s⟩= .go ⟨⟨q,p+1,zv,l⟩::rest,mz s⟩)/\
  (x.op.toNat=106->fc im' inp T cells ⟨⟨q,p,zv,l⟩::rest,mz s⟩= .go ⟨⟨q,x.b,zv,l⟩::rest,mz s⟩)/\
  (x.op.toNat=102->fc im' inp T cells ⟨⟨q,p,zv++ [v],l⟩::rest,mz s⟩= .go ⟨⟨q,if v.N=0 then x.b else p+1,zv,l⟩::rest,mz s⟩):=by
 refine⟨λh=> ?_,λh=> ?_,λh=> ?_⟩
 .obtain⟨y,a,f,e,d⟩:=fT (inp:=inp) (T:=T) (cells:=cells) (rest:=rest) hb hh (zv++ [v]) l (mz s);rw[d];simp[Sp.stepX,a,h,Fm.on,ol]
 .obtain⟨y,a,f,e,d⟩:=fT (inp:=inp) (T:=T) (cells:=cells) (rest:=rest) hb hh zv l (mz s);rw[d];simp[Sp.stepX,a,e,h]
 .obtain⟨y,a,f,e,d⟩:=fT (inp:=inp) (T:=T) (cells:=cells) (rest:=rest) hb hh (zv++ [v]) l (mz s);rw[d];simp[Sp.stepX,a,e,h,ol,iK]
theorem Aa {f q p:Nat} {rest:List Fm} {x:Ins} {c:List Ins} {b':Bod} (hI:oh im im') (IH:FJ im im' inp T cells f) (hb:im'.zj[q]?=some b') (h99:x.op.toNat=99) (hh:Has b'.code p (dy x++c)) (zv:List V) (u v:V) (l:List V) (s:Ev) (z:Nat) (hL:s.left<=f):
  Gs im' inp T cells (AtS q p (zv++ [u]) rest v l s) s.left z 1 2 1 (AtS q (p+(dy x).length) zv rest) (eP im (λb l=>bC im inp f b (rest.length+1+1) 0 l s) (rest.length+1) x u v l s):=by
 have G:dy x=[⟨x.op,x.a,x.b,0⟩]:=by unfold dy;rw[if_neg (by omega)]
 rw[G]at hh⊢;obtain⟨y,g,A,j,d⟩:=fT (inp:=inp) (T:=T) (cells:=cells) (rest:=rest) hb hh (zv++ [u]++ [v]) l (mz s);dsimp only at g A j
 have m: ∀e,e≠5->fc im' inp T cells ⟨⟨q,p,zv++ [u]++ [v],l⟩::rest,mz s⟩= .bad e s.out->Gs im' inp T cells (AtS q p (zv++ [u]) rest v l s) s.left z 1 2 1 (AtS q (p+1) zv rest) (.bad e s.out):=λe he h=>
  Gs.step h (Gs.fail (lo:=0) (up:=0) he (eH 0)) (by omega) (by omega) (by omega)
 have er:eP im (λb l=>bC im inp f b (rest.length+1+1) 0 l s) (rest.length+1) x u v l s=match u with
   | .o k=>if 12<=rest.length+1 then .bad 10 s.out else bnd (bC im inp f (aZ im x k s) (rest.length+1+1) 0 (aO (aZ im x k s) [u,v]) s) (λr _ s=> .ok r l s)
   |_=> .bad 6 s.out:=by
  unfold eP;rw[if_neg (by omega),if_neg (by omega),if_pos h99]
  cases u with
  |o k=>
   dsimp only
   split
   .rfl
   .cases bC im inp f (aZ im x k s) (rest.length+1+1) 0 (aO (aZ im x k s) [.o k,v]) s<;>rfl
  |_=>rfl
 rw[er]
 cases u with
 |i n=>exact m 6 (by decide) (by rw[d];simp only[Sp.stepX,g,h99,kR];simp[mz])
 |z=>exact m 6 (by decide) (by rw[d];simp only[Sp.stepX,g,h99,kR];simp[mz])
 |o k=>
  dsimp only
  by_cases h12:12<=rest.length+1
  .rw[if_pos h12];exact m 10 (by decide) (by rw[d];simp only[Sp.stepX,g,h99,kR];simp[mz,h12])
  rw[if_neg h12]
  cases hB:im.zj[(cO im.zq im.zj x.b 5 (s.cls k)).toNat]? with
  |none=>
   have ec:aZ im x k s=⟨-1,-1,[],[]⟩:=by unfold aZ;rw[bM,hB];rfl
   rw[ec]
   by_cases h0:s.left=0
   .rw[sj h0];exact Gs.spent rfl (by omega) (by omega)
   .cases f with
    |zero=>omega
    |succ f=>
     rw[og,if_neg h0];exact Gs.zero (fy _)
  |some B=>
   obtain⟨B',cc,zz,g1,g2,C,D,t⟩:=hI.bod _ _ hB;have ec:aZ im x k s=B:=by unfold aZ;rw[bM,hB];rfl
   rw[ec]
   have ec':aZ im' y k (mz s)=B':=by
    unfold aZ;rw[j,hI.find,bM];exact(congrArg (λo=>Option.getD o _) g1)
   have el:aO B' [.o k,v]=aO B [.o k,v]:=by unfold aO;rw[g2]
   refine Gs.stepz (R1:= .go ⟨⟨(cO im.zq im.zj x.b 5 (s.cls k)).toNat,0,[],aO B [.o k,v]⟩::⟨q,p,zv,l⟩::rest,mz s⟩) (z:=24) (lo:=1) (up:=0) (ub:=0) ?_ ?_ (by omega) (by omega) (by omega) (by omega)
   .rw[d];simp only[Sp.stepX,g,h99,kR,tF,pM];rw[if_neg (by decide),if_neg (by decide),if_neg (by decide),if_neg (by decide),if_neg (by decide),if_neg (by decide),if_neg (by decide),if_neg (by decide),if_neg (by decide),if_neg (by decide),if_neg (by decide),if_neg (by decide),if_neg (by decide),if_neg (by decide),if_pos True.intro,if_neg h12,ec',el,j,hI.find]
    rfl
   .refine Gs.bnd (lo:=1) (up:=1) (ub:=1) (IH B B' _ 0 0 zz cc g1 C t.left (⟨q,p,zv,l⟩::rest) [] (aO B [.o k,v]) s hL) (λr l' s1 _ _=> ?_) D (by omega) (by omega) (by omega) (by omega);refine Gs.step (R1:=AtS q (p+1) zv rest r l s1) ?_ (Gs.done (ub:=0) rfl rfl (eH 0) (eH 0)) (by omega) (by omega) (by omega);have F:=t.right;obtain⟨y,E,H,I,d⟩:=fT (inp:=inp) (T:=T) (cells:=cells) (rest:=⟨q,p,zv,l⟩::rest) g1 F ([]++ [r]) l' (mz s1);rw[d];simp only[Sp.stepX,E,iK];simp[Fm.on,AtS]
theorem yH (hI:oh im im'): ∀f:Nat,FJ im im' inp T cells f
 |0=>λb b' q i p z c hb hC hh rest zv l s hL=>Gs.spent rfl (by omega) (by omega)
 |f+1=>λb b' q i p z c hb hC hh rest zv l s hL=>by
  have IH:=yH hI f;rw[og]
  by_cases h0:s.left=0
  .rw[if_pos h0];exact Gs.spent rfl (by omega) (by omega)
  rw[if_neg h0];have en:s.left=(s.left-1)+1:=by omega
  have D:mz s=mz {s with left:=s.left-1}:=rfl
  cases hC with
  |leaf hx ha hl=>
   rw[hx];dsimp only;rw[if_pos ha];exact(z9 hI hb hl hh zv l {s with left:=s.left-1} (s.left-1) 0 rfl).enter en (by omega) (by omega) (by omega) (by omega)
  | @one _ _ x A zA hx h1 hA=>
   rw[hx];dsimp only;have r:=qE h1;rw[if_neg (by omega),if_neg (by omega)];refine Gs.enter (z:=zA) (lo:=1) (up:=0) (ub:=0) ?_ en (by omega) (by omega) (by omega) (by omega);refine Gs.bnd (lo:=1) (up:=2) (ub:=1) (IH b b' q (i+1) p zA A hb hA hh.left rest zv l {s with left:=s.left-1} (by show s.left-1<=f;omega)) (λu l1 s1 hr hle=> ?_) (bG _) (by omega) (by omega) (by omega) (by omega);rw[if_neg (by omega),if_pos h1,aV,<-Nat.add_assoc];exact BK (c:=[]) hI hb h1 (by rw[List.append_nil];exact hh.right) zv u l1 s1 s1.left zA rfl
  | @two _ _ x A B zA zB hx h2 h44 h111 hA hB=>
   rw[hx];dsimp only;have r:=tG h2;have m:x.op.toNat≠105:=λh=>by rw[h]at r;simp[arith]at r
   rw[if_neg (by omega),if_neg h111];refine Gs.enter (z:=zA+zB) (lo:=1) (up:= -2) (ub:=0) ?_ en (by omega) (by omega) (by omega) (by omega);refine Gs.bnd (lo:=1) (up:=0) (ub:=0) (IH b b' q (i+1) p zA A hb hA hh.left rest zv l {s with left:=s.left-1} (by show s.left-1<=f;omega)) (λu l1 s1 hr hle=> ?_) (by omega) (by omega) (by omega) (by omega) (by omega);have k:s1.left<=s.left-1:=hle;rw[if_neg m,if_neg (by omega)];refine Gs.bnd (lo:=1) (up:=2) (ub:=1) (IH b b' q _ (p+A.length) zB B hb hB hh.right.left rest (zv++ [u]) l1 s1 (by omega)) (λv l2 s2 hr2 hle2=> ?_) (by omega) (by omega) (by omega) (by omega) (by omega)
   rw[show p+(A++(B++dy x)).length=p+A.length+B.length+(dy x).length from by simp;omega]
   by_cases h99:x.op.toNat=99
   .exact Aa (c:=[]) hI IH hb h99 (by rw[List.append_nil];exact hh.right.right) zv u v l2 s2 _ (by omega)
   .exact BL (c:=[]) hI hb h2 h44 h111 h99 (by rw[List.append_nil];exact hh.right.right) zv u v l2 s2 _ _ rfl _ _
  | @seq _ _ x A B zA zB hx hc hA hB=>
   rw[hx];dsimp only;have ha:ay x.op=2:=by simp[ay,hc]
   rw[if_neg (by omega),if_neg (by omega)];refine Gs.enter (z:=zA+zB) (lo:=1) (up:= -2) (ub:=0) ?_ en (by omega) (by omega) (by omega) (by omega);refine Gs.bnd (lo:=1) (up:= -1) (ub:=1) (IH b b' q (i+1) p zA A hb hA hh.left rest zv l {s with left:=s.left-1} (by show s.left-1<=f;omega)) (λu l1 s1 hr hle=> ?_) (by omega) (by omega) (by omega) (by omega) (by omega);have k:s1.left<=s.left-1:=hle;rw[if_neg (by omega),if_neg (by omega)];refine Gs.step (lo:=0) (up:= -2) (ub:=0) ((gD hb hh.right zv l1 u s1).1 rfl) ?_ (by omega) (by omega) (by omega);refine Gs.bnd (lo:=0) (up:=0) (ub:=0) (IH b b' q _ (p+A.length+1) zB B hb hB hh.right.tail rest zv l1 s1 (by omega)) (λv l2 s2 hr2 hle2=> ?_) (by omega) (by omega) (by omega) (by omega) (by omega)
   rw[show p+(A++(⟨100,0,0,0⟩::B:List Ins)).length=p+A.length+1+B.length from by simp;omega,show eP im (λb' l'=>bC im inp f b' (rest.length+1+1) 0 l' s2) (rest.length+1) x u v l2 s2= .ok v l2 s2 from by simp[eP,hc]];exact Gs.done rfl rfl (eH 0) (eH 0)
  | @cho _ _ x A B C zA zB zC hx hc hA hB hC=>
   rw[hx];dsimp only;have ha:ay x.op=3:=by simp[ay,hc]
   rw[if_neg (by omega),if_neg (by omega)];refine Gs.enter (z:=zA+zB+zC) (lo:=1) (up:= -2) (ub:=0) ?_ en (by omega) (by omega) (by omega) (by omega);refine Gs.bnd (lo:=1) (up:=0) (ub:=1) (IH b b' q (i+1) p zA A hb hA hh.left rest zv l {s with left:=s.left-1} (by show s.left-1<=f;omega)) (λu l1 s1 hr hle=> ?_) (by omega) (by omega) (by omega) (by omega) (by omega);have k:s1.left<=s.left-1:=hle;rw[if_pos hc];have d:=hh.right;have e:=d.tail.right;have j:=e.tail;have eC:p+(A++(⟨102,0,p+A.length+1+B.length+1,0⟩::(B++(⟨106,0,p+A.length+1+B.length+1+C.length,0⟩::C)):List Ins)).length=p+A.length+1+B.length+1+C.length:=by simp;omega
   rw[eC];have a:=(gD (inp:=inp) (T:=T) (cells:=cells) (rest:=rest) hb d zv l1 u s1).2.2 rfl
   by_cases hu:u.N=0
   .rw[if_pos hu];rw[if_pos hu]at a;exact Gs.step (lo:=0) (up:= -2) (ub:=0) a ((IH b b' q _ _ zC C hb hC j rest zv l1 s1 (by omega)).weak (by omega) (by omega) (by omega) (by omega)) (by omega) (by omega) (by omega)
   .rw[if_neg hu];rw[if_neg hu]at a
    have eb:bC im inp f b (rest.length+1) (bk b.code (i+1)) l1 s1=bnd (bC im inp f b (rest.length+1) (bk b.code (i+1)) l1 s1) (λv l s=> .ok v l s):=by
     cases bC im inp f b (rest.length+1) (bk b.code (i+1)) l1 s1<;>rfl
    rw[eb];refine Gs.step (lo:=0) (up:= -1) (ub:=0) a (Gs.bnd (lo:=1) (up:=1) (ub:=1) (IH b b' q _ (p+A.length+1) zB B hb hB d.tail.left rest zv l1 s1 (by omega)) (λv l2 s2 hr2 hle2=> ?_) (by omega) (by omega) (by omega) (by omega) (by omega)) (by omega) (by omega) (by omega);exact Gs.step (R1:=AtS q (p+A.length+1+B.length+1+C.length) zv rest v l2 s2) ((gD hb e (zv++ [v]) l2 v s2).2.1 rfl) (Gs.done (ub:=0) rfl rfl (eH 0) (eH 0)) (by omega) (by omega) (by omega)
  | @loo _ _ x A B zA zB hx hc hA hB=>
   rw[hx];dsimp only;have ha:ay x.op=2:=by simp[ay,hc]
   rw[if_neg (by omega),if_pos hc];refine Gs.enter (z:=zA+zB) (lo:=1) (up:=0) (ub:=0) ?_ en (by omega) (by omega) (by omega) (by omega);have d:=hh.right;have e:=d.tail.right;have j:=e.tail;have n:=j.tail;have eC:p+(A++(⟨102,0,p+A.length+1+B.length+2,0⟩::(B++ [⟨100,0,0,0⟩,⟨106,0,p,0⟩,k0X]):List Ins)).length=p+A.length+1+B.length+1+1+1:=by simp;omega
   rw[eC]
   have LP: ∀(g:Nat) (l:List V) (s:Ev),s.left<=g->s.left<=f->Gs im' inp T cells (.go ⟨⟨q,p,zv,l⟩::rest,mz s⟩) s.left (zA+zB) 1 0 0 (AtS q (p+A.length+1+B.length+1+1+1) zv rest) (fP (bC im inp f b (rest.length+1) (i+1)) (bC im inp f b (rest.length+1) (bk b.code (i+1))) g l s):=by
    intro g
    induction g with
    |zero=>intro l s y t;exact Gs.spent rfl (by omega) (by omega)
    |succ g ih=>
     intro l s y t;rw[si];refine Gs.bnd (lo:=1) (up:=2) (ub:=2) (IH b b' q (i+1) p zA A hb hA hh.left rest zv l s t) (λu l1 s1 hr hle=> ?_) (by omega) (by omega) (by omega) (by omega) (by omega);have b1:=(tE (im:=im) (inp:=inp) f b (rest.length+1) (i+1) l s).2 u l1 s1 hr;have b0:s.left≠0:=λh=>by rw[sj h]at hr;cases hr
     have a:=(gD (inp:=inp) (T:=T) (cells:=cells) (rest:=rest) hb d zv l1 u s1).2.2 rfl
     by_cases hu:u.N=0
     .rw[if_pos hu];rw[if_pos hu]at a;refine Gs.step (lo:=1) (up:=1) (ub:=0) a ?_ (by omega) (by omega) (by omega);exact Gs.step (pN hb n zv l1 s1) (Gs.done (ub:= -1) rfl rfl (eH 0) (eH 0)) (by omega) (by omega) (by omega)
     .rw[if_neg hu];rw[if_neg hu]at a;refine Gs.step (lo:=3) (up:=0) (ub:=0) a ?_ (by omega) (by omega) (by omega);refine Gs.bnd (lo:=3) (up:=2) (ub:=2) (IH b b' q _ (p+A.length+1) zB B hb hB d.tail.left rest zv l1 s1 (by omega)) (λv l2 s2 hr2 hle2=> ?_) (by omega) (by omega) (by omega) (by omega) (by omega);refine Gs.step (lo:=2) (up:=1) (ub:=1) ((gD hb e zv l2 v s2).1 rfl) ?_ (by omega) (by omega) (by omega);refine Gs.step (lo:=1) (up:=0) (ub:=0) ((gD hb j zv l2 v s2).2.1 rfl) ?_ (by omega) (by omega) (by omega);exact ih l2 s2 (by omega) (by omega)
   exact LP f l {s with left:=s.left-1} (by show s.left-1<=f;omega) (by show s.left-1<=f;omega)
end
end
end Go.Proofs.YtpfkkmacakjmbaaGreatDoor
