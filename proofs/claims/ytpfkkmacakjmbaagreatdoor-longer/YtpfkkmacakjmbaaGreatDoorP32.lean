import Derived.Test.YtpfkkmacakjmbaaGreatDoorP29
import Derived.Test.YtpfkkmacakjmbaaGreatDoorP31
import Derived.Test.YtpfkkmacakjmbaaGreatDoorRows
import Derived.Lib.LaidTab
import Derived.Stop.LaidErr
set_option maxRecDepth 100000
set_option maxHeartbeats 6400000
set_option linter.unusedSimpArgs false
set_option linter.unusedVariables false
namespace Go.Proofs.YtpfkkmacakjmbaaGreatDoor
section
open Sp
def fD (why:Nat) (a b:List UInt8×Int×Nat):Prop:=(a.2.2=why∧a.1<+:b.1)∨(a.2.2≠why∧a=b)
theorem fD.same (why:Nat) (a:List UInt8×Int×Nat):fD why a a:=by
 by_cases h:a.2.2=why
 ·exact Or.inl ⟨h,List.prefix_refl _⟩
 ·exact Or.inr ⟨h,rfl⟩
def xZ:SR→List UInt8
 | .go m=>m.ev.out
 | .bad _ o=>o
 | .fin _ o=>o
theorem Cf {p:Prop} [Decidable p] {a b:SR} {o:List UInt8} (ha:o<+:xZ a) (hb:o<+:xZ b):o<+:xZ (if p then a else b):=by split<;>assumption
section
variable {im:Img} {inp:ByteArray} {T:cw}
theorem ya (cells:Nat) (x:Ins) (f:Fm) (rest:List Fm) (s:Ev):s.out<+:xZ (Sp.stepX im inp T cells x f rest s):=by
 have ha:s.out<+:xZ (match cX x.op.toNat (jw f.stk).N (cM f.stk).N [] s with
  | .bad e o=> .bad e o
  | .ok v _ s=> .go ⟨f.on (fY f.stk++ [v])::rest,s⟩):=by
  unfold cX
  split<;>rename_i h
  ·split at h
   ·split at h
    ·cases h;exact List.prefix_refl _
    ·cases h
   ·cases h
  ·split at h
   ·split at h
    ·cases h
    ·cases h;exact List.prefix_refl _
   ·cases h;exact List.prefix_refl _
 unfold Sp.stepX
 repeat' (first|exact ha|apply Cf|split)
 all_goals first|exact ha|exact List.prefix_refl _| (show s.out<+:s.out++_++ [32];rw[List.append_assoc];exact List.prefix_append _ _)
theorem yb (cells:Nat) (m:Mv):m.ev.out<+:xZ (fZ im inp T cells m):=by
 unfold fZ
 split
 ·exact List.prefix_refl _
 ·split
  ·exact List.prefix_refl _
  ·exact ya _ _ _ _ _
theorem uW {c c':Nat} (h:c≤c') (x:Ins) (f:Fm) (rest:List Fm) (s:Ev):Sp.stepX im inp T c x f rest s= .bad 9 s.out∨Sp.stepX im inp T c x f rest s=Sp.stepX im inp T c' x f rest s:=by
 by_cases h110:x.op.toNat=110
 ·unfold Sp.stepX;simp only[h110]
  by_cases h1:dH s.heap (fX T (f::rest))+1+(cq im.classes x.a).length>c
  ·exact Or.inl (by simp[h1])
  ·exact Or.inr (by simp[h1,show¬dH s.heap (fX T (f::rest))+1+(cq im.classes x.a).length>c' from by omega])
 ·refine Or.inr ?_;unfold Sp.stepX;simp only[h110,if_false]
theorem uX {c c':Nat} (h:c≤c') (m:Mv):fZ im inp T c m= .bad 9 m.ev.out∨fZ im inp T c m=fZ im inp T c' m:=by
 unfold fZ
 split
 ·exact Or.inr rfl
 ·split
  ·exact Or.inr rfl
  ·exact uW h _ _ _ _
theorem me (c:Nat): ∀(n:Nat) (m:Mv),m.ev.out<+:(d8 im inp T c n m).1
 |0,m=>List.prefix_refl _
 |n+1,m=>by
  have h:=yb (im:=im) (inp:=inp) (T:=T) c m;unfold d8
  split<;>rename_i hs<;>rw[hs]at h
  ·exact h.trans (me c n _)
  ·exact h
  ·exact h
theorem oJ (c k:Nat): ∀(n:Nat) (m:Mv),fD 5 (d8 im inp T c n m) (d8 im inp T c (n+k) m)
 |0,m=>Or.inl ⟨rfl,me c _ m⟩
 |n+1,m=>by
  rw[show n+1+k=(n+k)+1 from by omega];unfold d8
  split
  ·exact oJ c k n _
  ·exact fD.same _ _
  ·exact fD.same _ _
theorem oK {c c':Nat} (h:c≤c'): ∀(n:Nat) (m:Mv),fD 9 (d8 im inp T c n m) (d8 im inp T c' n m)
 |0,m=>fD.same _ _
 |n+1,m=>by
  have ho:=me (im:=im) (inp:=inp) (T:=T) c' (n+1) m;rcases uX (im:=im) (inp:=inp) (T:=T) h m with hs|hs
  ·have e:d8 im inp T c (n+1) m=(m.ev.out,0,9):=by rw[d8,hs]
   rw[e];exact Or.inl ⟨rfl,ho⟩
  ·have e: ∀d,d8 im inp T d (n+1) m=match fZ im inp T d m with
    | .go m=>d8 im inp T d n m
    | .bad e o=>(o,0,e)
    | .fin v o=>(o,v.N,0):=fun d=>by rw[d8];cases fZ im inp T d m<;>rfl
   rw[e,e,hs]
   cases fZ im inp T c' m with
   |go m2=>exact oK h n _
   |bad e o=>exact fD.same _ _
   |fin v o=>exact fD.same _ _
end
theorem yc (s inp:ByteArray) (c lo hi:Int) (h0:0≤lo) (h1:lo≤hi) (h2:hi≤4000):fD 5 (ii s inp c lo) (ii s inp c hi):=by
 unfold ii
 by_cases hg:40<inp.size∨c<0∨100<c
 ·rw[if_pos (by omega),if_pos (by omega)];exact fD.same _ _
 ·rw[if_neg (by omega),if_neg (by omega)]
  split
  ·exact fD.same _ _
  ·split
   ·exact fD.same _ _
   ·rw[show hi.toNat=lo.toNat+(hi-lo).toNat from by omega];exact oJ _ _ _ _
theorem yd (s inp:ByteArray) (fuel lo hi:Int) (h0:0≤lo) (h1:lo≤hi) (h2:hi≤100):fD 9 (ii s inp lo fuel) (ii s inp hi fuel):=by
 unfold ii
 by_cases hg:40<inp.size∨fuel<0∨4000<fuel
 ·rw[if_pos (by omega),if_pos (by omega)];exact fD.same _ _
 ·rw[if_neg (by omega),if_neg (by omega)]
  split
  ·exact fD.same _ _
  ·split
   ·exact fD.same _ _
   ·exact oK (by omega) _ _
def Cg:R→List UInt8
 | .bad _ o=>o
 | .ok _ _ s=>s.out
def bnd (r:R) (F:V→List V→Ev→R):R:=match r with
 | .bad e o=> .bad e o
 | .ok v l s=>F v l s
def iq (s:Ev) (k:Nat):Ev:={s with left:=s.left+k}
def oL (k:Nat):R→R
 | .bad e o=> .bad e o
 | .ok v l s=> .ok v l (iq s k)
def Gd (s:Ev) (n:Nat) (r:R):Prop:=s.out<+:Cg r∧ ∀v l s',r= .ok v l s'→s'.left≤n
def Rel (k:Nat) (r r':R):Prop:=(∃o,r= .bad 5 o∧o<+:Cg r')∨r'=oL k r
theorem Gd.bnd {s:Ev} {n m:Nat} {r:R} {F:V→List V→Ev→R} (h:Gd s n r) (hF: ∀v l s',r= .ok v l s'→Gd s' m (F v l s')):Gd s m (bnd r F):=by
 cases r with
 |bad e o=>exact⟨h.1,fun v l s' e=>by cases e⟩
 |ok v l s'=>exact⟨h.1.trans (hF v l s' rfl).1,(hF v l s' rfl).2⟩
theorem Rel.bnd {k:Nat} {r r':R} {F F':V→List V→Ev→R} (h:Rel k r r') (hF: ∀v l s,r= .ok v l s→Rel k (F v l s) (F' v l (iq s k))) (ho: ∀v l s,s.out<+:Cg (F' v l s)):Rel k (bnd r F) (bnd r' F'):=by
 rcases h with⟨o,rfl,h1⟩ |rfl
 ·refine Or.inl ⟨o,rfl,h1.trans ?_⟩
  cases r' with
  |bad e o=>exact List.prefix_refl _
  |ok v l s=>exact ho v l s
 ·cases r with
  |bad e o=>exact Or.inr rfl
  |ok v l s=>exact hF v l s rfl
section
variable {im:Img} {inp:ByteArray}
theorem ye (x:Ins) (l:List V) (s:Ev) (k:Nat):ef im inp x l (iq s k)=oL k (ef im inp x l s):=by
 unfold ef
 repeat' split
 all_goals rfl
theorem zO (x:Ins) (l:List V) (s:Ev):Gd s s.left (ef im inp x l s):=by
 unfold ef
 repeat' split
 all_goals exact⟨List.prefix_refl _,fun v l s' e=>by cases e;exact Nat.le_refl _⟩
theorem zP (x:Ins) (v:V) (l:List V) (s:Ev) (k:Nat):fV im x v l (iq s k)=oL k (fV im x v l s):=by
 unfold fV
 repeat' split
 all_goals first|rfl| (rename_i h1 h2;exact absurd h1 h2) | (rename_i h1 h2;exact absurd h2 h1)
theorem vK (x:Ins) (v:V) (l:List V) (s:Ev):Gd s s.left (fV im x v l s):=by
 have h0:Gd s s.left (.ok (.i 0) l (s.say v.N)):=⟨by show s.out<+:s.out++_++ [32];rw[List.append_assoc];exact List.prefix_append _ _,fun v l s' e=>by cases e;exact Nat.le_refl _⟩;unfold fV
 repeat' split
 all_goals first|exact h0|exact⟨List.prefix_refl _,fun v l s' e=>by first| (cases e;exact Nat.le_refl _) |cases e⟩
theorem yf (op:Nat) (a b:Int) (l:List V) (s:Ev):Gd s s.left (cX op a b l s):=by
 unfold cX
 repeat' split
 all_goals exact⟨List.prefix_refl _,fun v l s' e=>by first| (cases e;exact Nat.le_refl _) |cases e⟩
theorem uY (op:Nat) (a b:Int) (l:List V) (s:Ev) (k:Nat):cX op a b l (iq s k)=oL k (cX op a b l s):=by
 unfold cX
 repeat' split
 all_goals rfl
theorem oM (call:Bod→List V→R) (d:Nat) (x:Ins) (u v:V) (l:List V) (s:Ev):eH im call d x u v l s=
  if x.op.toNat=99 then
   match u with
   | .o k=>if 12≤d then .bad 10 s.out else bnd (call (ba im x k s) (aR (ba im x k s) [u,v])) (fun r _ s=> .ok r l s)
   |_=> .bad 6 s.out
  else eH im (fun _ _=> .bad 0 []) d x u v l s:=by
 unfold eH
 by_cases h99:x.op.toNat=99
 ·simp only[h99,if_true]
  cases u with
  |o k=>
   simp only[show¬(99:Nat)=44 from by decide,show¬(99:Nat)=101 from by decide,if_false]
   split
   ·rfl
   ·unfold bnd
    cases call (ba im x k s) (aR (ba im x k s) [.o k,v])<;>rfl
  |_=>rfl
 ·simp only[h99,if_false]
theorem zQ (x:Ins) (h:x.op.toNat≠99) (d:Nat) (u v:V) (l:List V) (s:Ev) (k:Nat):eH im (fun _ _=> .bad 0 []) d x u v l (iq s k)=oL k (eH im (fun _ _=> .bad 0 []) d x u v l s):=by
 unfold eH;simp only[h,if_false]
 split
 ·rfl
 split
 ·rfl
 split
 ·cases u<;>rfl
 ·exact uY _ _ _ _ _ _
theorem AV (x:Ins) (h:x.op.toNat≠99) (d:Nat) (u v:V) (l:List V) (s:Ev):Gd s s.left (eH im (fun _ _=> .bad 0 []) d x u v l s):=by
 have h0: ∀u l,Gd s s.left (.ok u l s):=fun u l=>⟨List.prefix_refl _,fun v l s' e=>by cases e;exact Nat.le_refl _⟩
 unfold eH;simp only[h,if_false]
 split
 ·exact h0 _ _
 split
 ·exact h0 _ _
 split
 ·cases u
  ·exact⟨List.prefix_refl _,fun v l s' e=>by cases e⟩
  ·exact⟨List.prefix_refl _,fun v l s' e=>by cases e⟩
  ·exact⟨List.prefix_refl _,fun v l s' e=>by cases e;exact Nat.le_refl _⟩
 ·exact yf _ _ _ _ _
end
theorem Gd.mono {s:Ev} {n m:Nat} {r:R} (h:Gd s n r) (hn:n≤m):Gd s m r:=⟨h.1,fun v l s' e=>Nat.le_trans (h.2 v l s' e) hn⟩
theorem Gd.bad (s:Ev) (n e:Nat):Gd s n (.bad e s.out):=⟨List.prefix_refl _,fun v l s' e=>by cases e⟩
theorem kf (c d:List V→Ev→R) (g:Nat) (l:List V) (s:Ev):d7 c d (g+1) l s=bnd (c l s) (fun v l s=>if v.N=0 then .ok (.i 0) l s else bnd (d l s) (fun _ l s=>d7 c d g l s)):=by
 rw[d7]
 cases c l s with
 |bad e o=>rfl
 |ok v l s=>
  dsimp only[bnd]
  split
  ·rfl
  ·cases d l s<;>rfl
theorem iJ {c d:List V→Ev→R} (hc: ∀l s,Gd s s.left (c l s)) (hd: ∀l s,Gd s s.left (d l s)): ∀(g:Nat) (l:List V) (s:Ev),Gd s s.left (d7 c d g l s)
 |0,l,s=>Gd.bad s _ 5
 |g+1,l,s=>by
  rw[kf];refine(hc l s).bnd (fun v l1 s1 h1=> ?_);have b1:=(hc l s).2 v l1 s1 h1
  split
  ·exact⟨List.prefix_refl _,fun v l s' e=>by cases e;exact b1⟩
  ·refine((hd l1 s1).bnd (fun v2 l2 s2 h2=> ?_)).mono b1;have b2:=(hd l1 s1).2 v2 l2 s2 h2;exact(iJ hc hd g l2 s2).mono b2
theorem pZ {c d c' d':List V→Ev→R} {f k:Nat} (h0: ∀l s,s.left=0→c l s= .bad 5 s.out) (hc: ∀l s,s.left≤f→Rel k (c l s) (c' l (iq s k))) (hd: ∀l s,s.left≤f→Rel k (d l s) (d' l (iq s k)))
  (gc: ∀l s,Gd s (s.left-1) (c l s)) (gd: ∀l s,Gd s (s.left-1) (d l s)) (gc': ∀l s,Gd s s.left (c' l s)) (gd': ∀l s,Gd s s.left (d' l s)): ∀(g g':Nat) (l:List V) (s:Ev),s.left≤f→s.left≤g→s.left+k≤g'→Rel k (d7 c d g l s) (d7 c' d' g' l (iq s k))
 |0,g',l,s,_,_,_=>Or.inl ⟨s.out,rfl,(iJ gc' gd' g' l (iq s k)).1⟩
 |g+1,g',l,s,hf,hg,hg'=>by
  by_cases hz:s.left=0
  ·refine Or.inl ⟨s.out,?_,(iJ gc' gd' g' l (iq s k)).1⟩;rw[kf,h0 l s hz]
   rfl
  obtain⟨q,rfl⟩: ∃q,g'=q+1:=⟨g'-1,by omega⟩;rw[kf,kf];refine(hc l s hf).bnd (fun v l1 s1 h1=> ?_) (fun v l1 s1=> ?_)
  ·have b1:=(gc l s).2 v l1 s1 h1
   by_cases hv:v.N=0
   ·rw[if_pos hv,if_pos hv];exact Or.inr rfl
   ·rw[if_neg hv,if_neg hv];refine(hd l1 s1 (by omega)).bnd (fun v2 l2 s2 h2=> ?_) (fun _ l2 s2=>(iJ gc' gd' q l2 s2).1);have b2:=(gd l1 s1).2 v2 l2 s2 h2;exact pZ h0 hc hd gc gd gc' gd' g q l2 s2 (by omega) (by omega) (by omega)
  ·split
   ·exact List.prefix_refl _
   ·exact((gd' l1 s1).bnd (fun v2 l2 s2 h2=>(iJ gc' gd' q l2 s2).mono ((gd' l1 s1).2 v2 l2 s2 h2))).1
section
variable {im:Img} {inp:ByteArray}
theorem rc {call:Bod→List V→R} {s:Ev} {n:Nat} (hc: ∀b l,Gd s n (call b l)) (hn:s.left≤n) (d:Nat) (x:Ins) (u v:V) (l:List V):Gd s n (eH im call d x u v l s):=by
 rw[oM]
 split
 ·cases u with
  |o k=>
   dsimp only
   split
   ·exact Gd.bad s _ 10
   ·exact(hc _ _).bnd (fun r l1 s1 h1=>⟨List.prefix_refl _,fun v l s' e=>by cases e;exact(hc _ _).2 _ _ _ h1⟩)
  |_=>exact Gd.bad s _ 6
 ·rename_i h
  exact(AV x h d u v l s).mono hn
theorem zR {call call':Bod→List V→R} {s:Ev} {k:Nat} (hc: ∀b l,Rel k (call b l) (call' b l)) (d:Nat) (x:Ins) (u v:V) (l:List V):Rel k (eH im call d x u v l s) (eH im call' d x u v l (iq s k)):=by
 rw[oM,oM (call:=call')]
 by_cases h:x.op.toNat=99
 ·rw[if_pos h,if_pos h]
  cases u with
  |o q=>
   dsimp only
   by_cases h12:12≤d
   ·rw[if_pos h12,if_pos h12];exact Or.inr rfl
   ·rw[if_neg h12,if_neg h12];exact(hc _ _).bnd (fun r l1 s1 _=>Or.inr rfl) (fun r l1 s1=>List.prefix_refl _)
  |_=>exact Or.inr rfl
 ·rw[if_neg h,if_neg h];exact Or.inr (zQ x h d u v l s k)
theorem lJ (f:Nat) (b:Bod) (d i:Nat) (l:List V) (s:Ev):bn im inp (f+1) b d i l s=if s.left=0 then .bad 5 s.out else
  match b.code[i]? with
  |none=> .bad 0 s.out
  |some x=>
   if az x.op=0 then ef im inp x l {s with left:=s.left-1}else
   if x.op.toNat=111 then d7 (bn im inp f b d (i+1)) (bn im inp f b d (bu b.code (i+1))) f l {s with left:=s.left-1}else
   bnd (bn im inp f b d (i+1) l {s with left:=s.left-1}) fun u l s=>
    if x.op.toNat=105 then bn im inp f b d (if u.N=0 then bu b.code (bu b.code (i+1))else bu b.code (i+1)) l s
    else if az x.op=1 then fV im x u l s
    else bnd (bn im inp f b d (bu b.code (i+1)) l s) fun v l s=>eH im (fun b' l'=>bn im inp f b' (d+1) 0 l' s) d x u v l s:=by
 rw[bn]
 split
 ·rfl
 cases b.code[i]? with
 |none=>rfl
 |some x=>
  dsimp only
  split
  ·rfl
  split
  ·rfl
  cases bn im inp f b d (i+1) l {s with left:=s.left-1}with
  |bad e o=>rfl
  |ok u l s=>
   dsimp only[bnd]
   split
   ·rfl
   split
   ·rfl
   cases bn im inp f b d (bu b.code (i+1)) l s<;>rfl
theorem p7 {f:Nat} {b:Bod} {d i:Nat} {l:List V} {s:Ev} (h:s.left=0):bn im inp f b d i l s= .bad 5 s.out:=by
 cases f with
 |zero=>rfl
 |succ f=>rw[lJ,if_pos h]
theorem fL: ∀(f:Nat) (b:Bod) (d i:Nat) (l:List V) (s:Ev),Gd s (s.left-1) (bn im inp f b d i l s)
 |0,b,d,i,l,s=>Gd.bad s _ 5
 |f+1,b,d,i,l,s=>by
  have IH:=fun b d i l s=>fL f b d i l s
  have IL:=fun b d i l s=>(fL f b d i l s).mono (Nat.sub_le s.left 1)
  rw[lJ]
  split
  ·exact Gd.bad s _ 5
  cases b.code[i]? with
  |none=>exact Gd.bad s _ 0
  |some x=>
   dsimp only
   split
   ·exact zO x l {s with left:=s.left-1}
   split
   ·exact iJ (IL b d (i+1)) (IL b d _) f l {s with left:=s.left-1}
   ·refine(IH b d (i+1) l {s with left:=s.left-1}).bnd (fun u l1 s1 h1=> ?_);have b1:s1.left≤s.left-1-1:=(IH b d (i+1) l {s with left:=s.left-1}).2 u l1 s1 h1
    split
    ·exact(IL _ _ _ _ _).mono (by omega)
    split
    ·exact(vK x u l1 s1).mono (by omega)
    ·refine(IH b d _ l1 s1).bnd (fun v l2 s2 h2=> ?_);have b2:=(IH b d _ l1 s1).2 v l2 s2 h2;exact rc (fun b' l'=>(IL b' (d+1) 0 l' s2).mono (by omega)) (by omega) d x u v l2
theorem tD: ∀(f f' k:Nat) (b:Bod) (d i:Nat) (l:List V) (s:Ev),s.left≤f→s.left+k≤f'→Rel k (bn im inp f b d i l s) (bn im inp f' b d i l (iq s k))
 |0,f',k,b,d,i,l,s,_,_=>Or.inl ⟨s.out,rfl,(fL f' b d i l (iq s k)).1⟩
 |f+1,f',k,b,d,i,l,s,hf,hf'=>by
  by_cases hz:s.left=0
  ·exact Or.inl ⟨s.out,p7 hz,(fL f' b d i l (iq s k)).1⟩
  obtain⟨g,rfl⟩: ∃g,f'=g+1:=⟨f'-1,by omega⟩;have IH:=fun b d i l s hf hf'=>tD f g k b d i l s hf hf'
  have GL:=fun b d i l s=>(fL (im:=im) (inp:=inp) g b d i l s).mono (Nat.sub_le s.left 1)
  rw[lJ,lJ,if_neg hz,if_neg (show¬(iq s k).left=0 from by show¬s.left+k=0;omega)]
  cases b.code[i]? with
  |none=>exact Or.inr rfl
  |some x=>
   dsimp only
   have e:({iq s k with left:=(iq s k).left-1}:Ev)=iq {s with left:=s.left-1} k:=by
    simp only[iq,Ev.mk.injEq,true_and,and_true];omega
   rw[e];obtain⟨s0,a0⟩: ∃s0,({s with left:=s.left-1}:Ev)=s0:=⟨_,rfl⟩;have b0:s0.left+1=s.left:=by rw[←a0];show s.left-1+1=s.left;omega
   rw[a0]
   by_cases ha:az x.op=0
   ·rw[if_pos ha,if_pos ha];exact Or.inr (ye x l s0 k)
   rw[if_neg ha,if_neg ha]
   by_cases h111:x.op.toNat=111
   ·rw[if_pos h111,if_pos h111];exact pZ (f:=s0.left) (fun l s h=>p7 h) (fun l s hl=>IH b d (i+1) l s (by omega) (by omega)) (fun l s hl=>IH b d _ l s (by omega) (by omega)) (fun l s=>fL f b d _ l s) (fun l s=>fL f b d _ l s) (fun l s=>GL b d _ l s) (fun l s=>GL b d _ l s) f g l s0 (Nat.le_refl _) (by omega) (by omega)
   rw[if_neg h111,if_neg h111];refine(IH b d (i+1) l s0 (by omega) (by omega)).bnd (fun u l1 s1 h1=> ?_) (fun u l1 s1=> ?_)
   ·have b1:=(fL (im:=im) (inp:=inp) f b d (i+1) l s0).2 u l1 s1 h1
    by_cases h105:x.op.toNat=105
    ·rw[if_pos h105,if_pos h105];exact IH b d _ l1 s1 (by omega) (by omega)
    rw[if_neg h105,if_neg h105]
    by_cases h1:az x.op=1
    ·rw[if_pos h1,if_pos h1];exact Or.inr (zP x u l1 s1 k)
    rw[if_neg h1,if_neg h1];refine(IH b d _ l1 s1 (by omega) (by omega)).bnd (fun v l2 s2 h2=> ?_) (fun v l2 s2=> ?_)
    ·have b2:=(fL (im:=im) (inp:=inp) f b d (bu b.code (i+1)) l1 s1).2 v l2 s2 h2;exact zR (fun b' l'=>IH b' (d+1) 0 l' s2 (by omega) (by omega)) d x u v l2
    ·exact(rc (fun b' l'=>GL b' (d+1) 0 l' s2) (Nat.le_refl _) d x u v l2).1
   ·split
    ·exact(GL _ _ _ _ _).1
    split
    ·exact(vK x u l1 s1).1
    ·exact((GL b d _ l1 s1).bnd (fun v l2 s2 h2=>rc (fun b' l'=>(GL b' (d+1) 0 l' s2).mono ((GL b d _ l1 s1).2 v l2 s2 h2)) ((GL b d _ l1 s1).2 v l2 s2 h2) d x u v l2)).1
theorem uZ (lo k:Nat):fD 5 (jd im inp lo) (jd im inp (lo+k)):=by
 have h:=tD (im:=im) (inp:=inp) lo (lo+k) k (im.bodies.getD (im.bodies.length-1) ⟨-1,-1,[],[]⟩) 1 0 (aR (im.bodies.getD (im.bodies.length-1) ⟨-1,-1,[],[]⟩) []) ⟨[],0,lo,[]⟩ (Nat.le_refl _) (Nat.le_refl _);unfold jd;dsimp only[iq]at h⊢;rcases h with⟨o,h1,h2⟩ |h
 ·rw[h1];refine Or.inl ⟨rfl,?_⟩
  cases h3:bn im inp (lo+k) (im.bodies.getD (im.bodies.length-1) ⟨-1,-1,[],[]⟩) 1 0 (aR (im.bodies.getD (im.bodies.length-1) ⟨-1,-1,[],[]⟩) []) ⟨[],0,lo+k,[]⟩with
  |bad e o'=>rw[h3]at h2;exact h2
  |ok v l s=>rw[h3]at h2;exact h2
 ·rw[h]
  cases bn im inp lo (im.bodies.getD (im.bodies.length-1) ⟨-1,-1,[],[]⟩) 1 0 (aR (im.bodies.getD (im.bodies.length-1) ⟨-1,-1,[],[]⟩) []) ⟨[],0,lo,[]⟩with
  |bad e o'=>exact fD.same _ _
  |ok v l s=>exact fD.same _ _
end
theorem u3 (s inp:ByteArray) (lo hi:Int) (h0:0≤lo) (h1:lo≤hi) (h2:hi≤4000):fD 5 (eI s inp lo) (eI s inp hi):=by
 unfold eI
 by_cases hg:40<inp.size
 ·rw[if_pos (by omega),if_pos (by omega)];exact fD.same _ _
 ·rw[if_neg (by omega),if_neg (by omega)]
  split
  ·exact fD.same _ _
  ·split
   ·rw[show hi.toNat=lo.toNat+(hi-lo).toNat from by omega];exact uZ _ _
   ·exact fD.same _ _
theorem u4 (s inp:ByteArray) (h:inp.size≤40):(eI s inp 0).2.2≠0:=by
 unfold eI;rw[if_neg (by omega)]
 cases hl:dZ s with
 |error e=>
  obtain⟨e,p⟩:=e;have:=iQ hl;dsimp only;omega
 |ok im=>
  dsimp only
  by_cases h0:(dK s).1=0
  ·rw[if_pos h0];exact(by decide:(5:Nat)≠0)
  ·rw[if_neg h0];exact h0
end
section
open Go Go.RowKit Sp
attribute [local go_sem ↓] Go.wp_at_zero Go.wp_at_succ
theorem u5 (x y:List UInt8) (h:x<+:y) (w:World):
  Calls Tryz.prog 68 #[.string ⟨x.toArray⟩,.string ⟨y.toArray⟩] w fun en w'=>en= .returned (.bool true)∧w'=w:=by
 have hl:=h.length_le
 have hE:(⟨y.toArray⟩:ByteArray).extract 0 x.length=⟨x.toArray⟩:=by
  obtain⟨t,rfl⟩:=h
  apply ByteArray.ext
  simp
 have s1:(⟨x.toArray⟩:ByteArray).size=x.length:=by show x.toArray.size=_;simp
 have s2:(⟨y.toArray⟩:ByteArray).size=y.length:=by show y.toArray.size=_;simp
 have a0:(x.length:Int)≤(y.length:Int):=by omega
 generalize (⟨x.toArray⟩:ByteArray)=X at*;generalize (⟨y.toArray⟩:ByteArray)=Y at*;clear h
 go_in
 go_wp2_with fail
 all_goals go_ret
 all_goals exact⟨rfl,rfl⟩
theorem oN (why:Nat) (a b:List UInt8×Int×Nat) (h:fD why a b) (w:World):
  Calls Tryz.prog 40 #[.agg #[.string ⟨a.1.toArray⟩,.int .i64 a.2.1,.int .i64 a.2.2],.agg #[.string ⟨b.1.toArray⟩,.int .i64 b.2.1,.int .i64 b.2.2],.int .i64 why] w fun en w'=>en= .returned (.bool true)∧But (fun _=>False) w w':=by
 obtain⟨o1,v1,e1⟩:=a;obtain⟨o2,v2,e2⟩:=b;have hB:But (fun _=>False) w ((w.alloc (.cells #[.string ⟨o1.toArray⟩,.int .i64 v1,.int .i64 e1] 74)).alloc (.cells #[.string ⟨o2.toArray⟩,.int .i64 v2,.int .i64 e2] 74)):=(But.alloc _ _ _).trans (But.alloc _ _ _);have HB:=hid hB;clear hB;rcases h with⟨h1,h2⟩ | ⟨h1,h2⟩
 ·dsimp only at h1 h2;have a0:=hid (u5 o1 o2 h2);have he:((e1:Int)==(why:Int))=true:=by rw[h1];simp
  clear h1 h2
  go_in
  go_wp2_with fail;refine(a0.out _).mono ?_;rintro en w1 ⟨rfl,rfl⟩;go_wp2_with fail
  all_goals go_ret
  all_goals exact⟨rfl,HB.out⟩
 ·cases h2
  dsimp only at h1;have he:((e1:Int)==(why:Int))=false:=by rw[beq_eq_false_iff_ne];omega
  clear h1
  go_in
  go_wp2_with fail
  all_goals go_ret
  all_goals exact⟨rfl,HB.out⟩
theorem Bg {fn:Func} {Rr:Ending→World→Prop} {a:Act} {w:World} {c r:Nat} {s:ByteArray} {v e:Int} (hf:fn.results=#[.cell c 74]) (hd:a.defers=[]) (hc:a.tmps.getD c undef= .pointer (some ⟨r,0,none⟩))
  (h0:w.heap[r]?=some (.cells #[.string s,.int .i64 v,.int .i64 e] 74)) (hR:Rr (.returned (.agg #[.string s,.int .i64 v,.int .i64 e])) w):bodyPost Tryz.prog fn Rr .ret a w:=by
 have r0:=ce0 h0;have r1:=ce1 h0;have r2:=ce2 h0;refine bodyPost_ret (v:= .agg #[.string s,.int .i64 v,.int .i64 e]) ?_ hd hR;have a0:a.tmps[c]?.getD undef= .pointer (some ⟨r,0,none⟩):=by simpa using hc
 simp[results,hf,a0,go_sem,r0,r1,r2]
theorem lK (s inp:ByteArray) (ce fuel:Int) (w:World) (hmax:s.size≤maxLen) (htab:dw w):
  Calls Tryz.prog 39 #[.string s,.string inp,.int .i64 ce,.int .i64 fuel] w fun en w'=>en= .returned (.agg #[.string ⟨(ii s inp ce fuel).1.toArray⟩,.int .i64 (ii s inp ce fuel).2.1,.int .i64 (ii s inp ce fuel).2.2])∧But (fun _=>False) w w':=by
 have HE:=hid (fun(X:World) (hX:But (fun _=>False) w X)=>tA s inp ce fuel X hmax (htab.but hX));obtain⟨RR,a4⟩: ∃RR,ii s inp ce fuel=RR:=⟨_,rfl⟩;rw[a4]at HE⊢;clear a4 htab;obtain⟨o,v,e⟩:=RR;dsimp only at HE⊢
 go_in
 go_wp2_with fail;have a5:=heap_alloc_new w (.cells #[.string ⟨#[]⟩,.int .i64 0,.int .i64 0] 74);have a2:But (fun _=>False) w (w.alloc (.cells #[.string ⟨#[]⟩,.int .i64 0,.int .i64 0] 74)):=But.alloc _ _ _;refine(HE.out _ a2).mono ?_;rintro en w1 ⟨rfl,a1⟩;have a0:=a1.kp a5;have a3:=a2.trans a1;clear HE a5 a2 a1;have r0:=ce0 a0;have r1:=ce1 a0;have r2:=ce2 a0;have z0:=frozen_of_row w1 w.heap.size 0 _ _ a0;have z1:=frozen_of_row w1 w.heap.size 1 _ _ a0;have z2:=frozen_of_row w1 w.heap.size 2 _ _ a0;have hl:=ae a0;go_wp2_with fail;refine(gK _ _).mono ?_;rintro en w2 ⟨rfl,rfl⟩;go_wp2_with fail;exact Bg Tryz.results39 rfl rfl (heap_setCell_same _ w.heap.size 2 _ _ _ (heap_setCell_same _ w.heap.size 1 _ _ _ (heap_setCell_same _ w.heap.size 0 _ _ _ a0))) ⟨rfl,((a3.next (But.setB _ _ _ _) (fun k hk e=>by have e:k=w.heap.size:=e;omega)).next (But.setB _ _ _ _) (fun k hk e=>by have e:k=w.heap.size:=e;omega)).next (But.setB _ _ _ _) (fun k hk e=>by have e:k=w.heap.size:=e;omega)⟩
theorem mf (s inp:ByteArray) (fuel:Int) (w:World) (hmax:s.size≤maxLen) (htab:dw w):
  Calls Tryz.prog 41 #[.string s,.string inp,.int .i64 fuel] w fun en w'=>en= .returned (.agg #[.string ⟨(eI s inp fuel).1.toArray⟩,.int .i64 (eI s inp fuel).2.1,.int .i64 (eI s inp fuel).2.2])∧But (fun _=>False) w w':=by
 have HE:=hid (fun(X:World) (hX:But (fun _=>False) w X)=>pT s inp fuel X hmax (htab.but hX));obtain⟨RR,a4⟩: ∃RR,eI s inp fuel=RR:=⟨_,rfl⟩;rw[a4]at HE⊢;clear a4 htab;obtain⟨o,v,e⟩:=RR;dsimp only at HE⊢
 go_in
 go_wp2_with fail;have a5:=heap_alloc_new w (.cells #[.string ⟨#[]⟩,.int .i64 0,.int .i64 0] 74);have a2:But (fun _=>False) w (w.alloc (.cells #[.string ⟨#[]⟩,.int .i64 0,.int .i64 0] 74)):=But.alloc _ _ _;refine(HE.out _ a2).mono ?_;rintro en w1 ⟨rfl,a1⟩;have a0:=a1.kp a5;have a3:=a2.trans a1;clear HE a5 a2 a1;have r0:=ce0 a0;have r1:=ce1 a0;have r2:=ce2 a0;have z0:=frozen_of_row w1 w.heap.size 0 _ _ a0;have z1:=frozen_of_row w1 w.heap.size 1 _ _ a0;have z2:=frozen_of_row w1 w.heap.size 2 _ _ a0;have hl:=ae a0;go_wp2_with fail;refine(gK _ _).mono ?_;rintro en w2 ⟨rfl,rfl⟩;go_wp2_with fail;exact Bg Tryz.results41 rfl rfl (heap_setCell_same _ w.heap.size 2 _ _ _ (heap_setCell_same _ w.heap.size 1 _ _ _ (heap_setCell_same _ w.heap.size 0 _ _ _ a0))) ⟨rfl,((a3.next (But.setB _ _ _ _) (fun k hk e=>by have e:k=w.heap.size:=e;omega)).next (But.setB _ _ _ _) (fun k hk e=>by have e:k=w.heap.size:=e;omega)).next (But.setB _ _ _ _) (fun k hk e=>by have e:k=w.heap.size:=e;omega)⟩
abbrev opO (kd a b c:Int) (s t u:ByteArray):Obj:= .cells #[.int .i64 kd,.int .i64 a,.int .i64 b,.int .i64 c,.string s,.string t,.string u] 27
abbrev a9 (o:List UInt8) (v e:Int):Obj:= .cells #[.string ⟨o.toArray⟩,.int .i64 v,.int .i64 e] 74
theorem i9 {w:World} {g:Nat} {v0 v1 v2 v3 v4 v5 v6:Value} {t:TypeId} (h:w.heap[g]?=some (.cells #[v0,v1,v2,v3,v4,v5,v6] t)):w.cell? ⟨g,1,none⟩=some v1∧w.cell? ⟨g,2,none⟩=some v2∧w.cell? ⟨g,3,none⟩=some v3∧w.cell? ⟨g,4,none⟩=some v4∧w.cell? ⟨g,5,none⟩=some v5∧g<w.heap.size:=⟨ce1 h,ce2 h,ce3 h,ce4 h,ce5 h,ae h⟩
theorem gtI {a b:Int} (h:a≤b): ¬b<a:=by omega
theorem yg (kd a b c:Int) (s t u:ByteArray) (w:World) (ht:dw w) (hm:s.size≤maxLen):
  Calls Tryz.prog 24 #[.agg #[.int .i64 kd,.int .i64 a,.int .i64 b,.int .i64 c,.string s,.string t,.string u]] w fun en w'=>en= .returned (.bool true)∧But (fun _=>False) w w':=by
 have HT:=hid ht;have HG:=hid (heap_alloc_new w (opO kd a b c s t u));have HB:Hid (But (fun _=>False) w (w.alloc (opO kd a b c s t u))):=hid (But.alloc _ _ _);clear ht
 go_in
 go_upto_if 13 with fail
 go_cut [3,4]from 7 (fun s3 s4 wc=> ∃lo hi:Int,s3= .int .i64 lo∧s4= .int .i64 hi∧lo≤hi∧wc=w.alloc (opO kd a b c s t u))
 case first=>
  by_cases hcb:c<a
  ·go_wp2_with fail
   go_meet
   case rel=>exact⟨c,a,rfl,rfl,by omega,rfl⟩
  ·go_wp2_with fail
   go_meet
   case rel=>exact⟨a,c,rfl,rfl,by omega,rfl⟩
 case rest=>
  obtain⟨lo,hi,rfl,rfl,b1,rfl⟩:=hcut;revert HG HB;generalize (w.alloc (opO kd a b c s t u))=W;intro HG HB;obtain⟨k1,k2,k3,k4,k5,a5⟩:=i9 HG.out;rcases Int.lt_or_le lo 0 with g1|g1
  ·go_wp2_with fail
   all_goals go_ret
   all_goals exact⟨rfl,HB.out⟩
  have b2:=gtI g1;rcases Int.lt_or_le 100 hi with g2|g2
  ·go_wp2_with fail
   all_goals go_ret
   all_goals exact⟨rfl,HB.out⟩
  have b3:=gtI g2;have HM:=hid (oN 9 _ _ (yd s t b lo hi g1 b1 g2));obtain⟨R1,h1⟩: ∃R1,ii s t lo b=R1:=⟨_,rfl⟩;obtain⟨R2,h2⟩: ∃R2,ii s t hi b=R2:=⟨_,rfl⟩;have H1:=hid (fun w1 h=>lK s t lo b w1 hm (HT.out.but h));have H2:=hid (fun w1 h=>lK s t hi b w1 hm (HT.out.but h));rw[h1]at H1 HM;rw[h2]at H2 HM;clear h1 h2;obtain⟨o1,v1,e1⟩:=R1;obtain⟨o2,v2,e2⟩:=R2;dsimp only at H1 H2 HM;go_wp2_with fail;refine(H1.out _ HB.out).mono ?_;rintro en w1 ⟨rfl,a3⟩;replace HG:=hid (a3.kp HG.out);have a2:=hid (HB.out.trans a3);clear HB a3 H1 k1 k2 k3 k4 k5 a5;obtain⟨k1,k2,k3,k4,k5,a5⟩:=i9 HG.out;have a6:=hid (heap_alloc_new w1 (a9 o1 v1 e1))
  have a1:Hid (But (fun _=>False) w1 (w1.alloc (a9 o1 v1 e1))):=hid (But.alloc _ _ _);go_wp2_with fail;refine(H2.out _ (a2.out.trans a1.out)).mono ?_;rintro en w2 ⟨rfl,a4⟩;have a0:=a4.kp a6.out;have a8:=(a2.out.trans a1.out).trans a4;clear a6 a1 H2 a4 a2 k1 k2 k3 k4 k5 a5;have r0:=ce0 a0;have r1:=ce1 a0;have r2:=ce2 a0;have b4:=ae a0;go_wp2_with fail;refine(HM.out _).mono ?_;rintro en w3 ⟨rfl,a7⟩;have b0:=(a8.trans (But.alloc _ _ _)).trans a7;clear a7 a8 r0 r1 r2 a0;go_wp2_with fail
  all_goals go_ret
  all_goals exact⟨rfl,b0⟩
theorem u6 (kd a b c:Int) (s t u:ByteArray) (w:World) (ht:dw w) (hm:s.size≤maxLen):
  Calls Tryz.prog 23 #[.agg #[.int .i64 kd,.int .i64 a,.int .i64 b,.int .i64 c,.string s,.string t,.string u]] w fun en w'=>en= .returned (.bool true)∧But (fun _=>False) w w':=by
 have HT:=hid ht;have HG:=hid (heap_alloc_new w (opO kd a b c s t u));have HB:Hid (But (fun _=>False) w (w.alloc (opO kd a b c s t u))):=hid (But.alloc _ _ _);clear ht
 go_in
 go_upto_if 17 with fail
 go_cut [3,4]from 11 (fun s3 s4 wc=> ∃lo hi:Int,s3= .int .i64 lo∧s4= .int .i64 hi∧lo≤hi∧wc=w.alloc (opO kd a b c s t u))
 case first=>
  by_cases hcb:c<b
  ·go_wp2_with fail
   go_meet
   case rel=>exact⟨c,b,rfl,rfl,by omega,rfl⟩
  ·go_wp2_with fail
   go_meet
   case rel=>exact⟨b,c,rfl,rfl,by omega,rfl⟩
 case rest=>
  obtain⟨lo,hi,rfl,rfl,f7,rfl⟩:=hcut;revert HG HB;generalize (w.alloc (opO kd a b c s t u))=W;intro HG HB;obtain⟨k1,k2,k3,k4,k5,a0⟩:=i9 HG.out;rcases Int.lt_or_le lo 0 with g1|g1
  ·go_wp2_with fail
   all_goals go_ret
   all_goals exact⟨rfl,HB.out⟩
  have g5:=gtI g1;rcases Int.lt_or_le 4000 hi with g2|g2
  ·go_wp2_with fail
   all_goals go_ret
   all_goals exact⟨rfl,HB.out⟩
  have g6:=gtI g2;rcases Int.lt_or_le 40 (t.size:Int)with g3|g3
  ·go_wp2_with fail
   all_goals go_ret
   all_goals exact⟨rfl,HB.out⟩
  have g7:=gtI g3;obtain⟨B,f6⟩: ∃B:Bool,decide (0≤a∧a≤100)=B:=⟨_,rfl⟩;have e0:=hid f6;clear f6
  go_upto_region 8 with fail
  go_cut [41]from 42 (fun s41 wc=>s41= .bool B∧wc=W)
  case first=>
   rcases Int.lt_or_le a 0 with g0|g0
   ·have f4: ¬0≤a:=by omega
    go_wp2_with fail
    go_meet
    case rel=>exact⟨congrArg Value.bool ((decide_eq_false (by omega)).symm.trans e0.out),rfl⟩
   ·rcases Int.lt_or_le 100 a with f4|f4
    ·have h0: ¬a≤100:=by omega
     go_wp2_with fail
     go_meet
     case rel=>exact⟨congrArg Value.bool ((decide_eq_false (by omega)).symm.trans e0.out),rfl⟩
    ·go_wp2_with fail
     go_meet
     case rel=>exact⟨congrArg Value.bool ((decide_eq_true (by omega)).symm.trans e0.out),rfl⟩
  case rest=>
  obtain⟨rfl,rfl⟩:=hcut
  go_upto_if 41 with fail
  go_cut [5,6,7,41]from 42 (fun _ _ _ _ wc'=>But (fun _=>False) wc wc')
  case first=>
   cases B with
   |true=>
    have a3:=hid (oN 5 _ _ (yc s t a lo hi g1 f7 g2));obtain⟨R1,h1⟩: ∃R1,ii s t a lo=R1:=⟨_,rfl⟩;obtain⟨R2,h2⟩: ∃R2,ii s t a hi=R2:=⟨_,rfl⟩;have H1:=hid (fun w1 h=>lK s t a lo w1 hm (HT.out.but h));have H2:=hid (fun w1 h=>lK s t a hi w1 hm (HT.out.but h));rw[h1]at H1 a3;rw[h2]at H2 a3;clear h1 h2;obtain⟨o1,v1,e1⟩:=R1;obtain⟨o2,v2,e2⟩:=R2;dsimp only at H1 H2 a3;go_wp2_with fail;refine(H1.out _ HB.out).mono ?_;rintro en w1 ⟨rfl,e6⟩;replace HG:=hid (e6.kp HG.out);have b9:=hid e6;clear e6 H1 k1 k2 k3 k4 k5 a0;obtain⟨k1,k2,k3,k4,k5,a0⟩:=i9 HG.out;have f3:=hid (heap_alloc_new w1 (a9 o1 v1 e1));have b6:Hid (But (fun _=>False) w1 (w1.alloc (a9 o1 v1 e1))):=hid (But.alloc _ _ _)
    go_wp2_with fail;refine(H2.out _ (HB.out.trans (b9.out.trans b6.out))).mono ?_;rintro en w2 ⟨rfl,e7⟩;have a4:=e7.kp f3.out;have f1:=hid ((b9.out.trans b6.out).trans e7);clear f3 b6 H2 e7 b9 k1 k2 k3 k4 k5 a0;have r0:=ce0 a4;have r1:=ce1 a4;have r2:=ce2 a4;have b5:=ae a4;go_wp2_with fail;refine(a3.out _).mono ?_;rintro en w3 ⟨rfl,f5⟩;have f8:=hid ((f1.out.trans (But.alloc _ _ _)).trans f5);clear f5 f1 r0 r1 r2 a4 b5 a3;go_wp2_with fail
    go_meet
    case rel=>exact f8.out
   |false=>
    go_wp2_with fail
    go_meet
    case rel=>exact But.refl _ _
  case rest=>
   have b1:=hid (oN 5 _ _ (u3 s t lo hi g1 f7 g2));have hz:=u4 s t (by omega);obtain⟨R3,h3⟩: ∃R3,eI s t lo=R3:=⟨_,rfl⟩;obtain⟨R4,h4⟩: ∃R4,eI s t hi=R4:=⟨_,rfl⟩;obtain⟨R5,h5⟩: ∃R5,eI s t 0=R5:=⟨_,rfl⟩;have a7:=hid (fun w1 h=>mf s t lo w1 hm (HT.out.but h));have a8:=hid (fun w1 h=>mf s t hi w1 hm (HT.out.but h));have b0:=hid (fun w1 h=>mf s t 0 w1 hm (HT.out.but h));rw[h3]at a7 b1;rw[h4]at a8 b1;rw[h5]at b0 hz;clear h3 h4 h5;obtain⟨o3,v3,e3⟩:=R3;obtain⟨o4,v4,e4⟩:=R4;obtain⟨o5,v5,e5⟩:=R5;dsimp only at a7 a8 b0 b1 hz;have h6:((e5:Int)!=0)=true:=by rw[bne_iff_ne];omega
   replace HG:=hid (hcut.kp HG.out);replace HB:=hid (HB.out.trans hcut);clear hz k1 k2 k3 k4 k5 a0 hcut;obtain⟨k1,k2,k3,k4,k5,a0⟩:=i9 HG.out;go_wp2_with fail;refine(a7.out _ HB.out).mono ?_;rintro en w4 ⟨rfl,e8⟩;replace HG:=hid (e8.kp HG.out);have c6:=hid (HB.out.trans e8);clear e8 HB a7 k1 k2 k3 k4 k5 a0;obtain⟨k1,k2,k3,k4,k5,a0⟩:=i9 HG.out;have a1:=hid (heap_alloc_new w4 (a9 o3 v3 e3));have a5:Hid (But (fun _=>False) w4 (w4.alloc (a9 o3 v3 e3))):=hid (But.alloc _ _ _);go_wp2_with fail;refine(a8.out _ (c6.out.trans a5.out)).mono ?_;rintro en w5 ⟨rfl,b3⟩;replace HG:=hid (b3.kp (a5.out.kp HG.out))
   replace a1:=hid (b3.kp a1.out);have d6:=hid ((c6.out.trans a5.out).trans b3);clear b3 c6 a5 a8 k1 k2 k3 k4 k5 a0;obtain⟨k1,k2,k3,k4,k5,a0⟩:=i9 HG.out;have a2:=hid (heap_alloc_new w5 (a9 o4 v4 e4));have a6:Hid (But (fun _=>False) w5 (w5.alloc (a9 o4 v4 e4))):=hid (But.alloc _ _ _);go_wp2_with fail;refine(b0.out _ (d6.out.trans a6.out)).mono ?_;rintro en w6 ⟨rfl,b4⟩;replace a1:=hid (b4.kp (a6.out.kp a1.out));replace a2:=hid (b4.kp a2.out);have f2:=hid ((d6.out.trans a6.out).trans b4);clear b4 d6 a6 b0 k1 k2 k3 k4 k5 a0 HG;have r0:=ce0 a1.out;have r1:=ce1 a1.out;have r2:=ce2 a1.out;have b5:=ae a1.out
   have q0:=ce0 a2.out;have q1:=ce1 a2.out;have q2:=ce2 a2.out;have g4:=ae a2.out;have b2:=hid (heap_alloc_new w6 (a9 o5 v5 e5));have f0:Hid (But (fun _=>False) w6 (w6.alloc (a9 o5 v5 e5))):=hid (But.alloc _ _ _);go_wp2_with fail;refine(b1.out _).mono ?_;rintro en w7 ⟨rfl,e9⟩;replace b2:=hid (e9.kp b2.out);have f9:=hid ((f2.out.trans f0.out).trans e9);clear e9 f2 f0 r0 r1 r2 q0 q1 q2 b5 g4 a1 a2;have r2:=ce2 b2.out;have b5:=ae b2.out;go_wp2_with fail
   all_goals go_ret
   all_goals exact⟨rfl,f9.out⟩
def tE (f:Nat) (args:Array Value) (r:Value):Prop:= ∀w,dw w→Calls Tryz.prog f args w fun en w'=>en= .returned r∧But (fun _=>False) w w'
theorem zS {p q:Int}
  (h1:tE 18 #[.string ⟨#[59,59,59,58,107,49,107,50,43,116,46]⟩] (.tuple #[.int .i64 0,.int .i64 p]))
  (h2:tE 19 #[.string ⟨#[59,59,59,58,107,49,107,50,43,116,46]⟩] (.tuple #[.string ⟨#[124,44,105,124,44,105,105,124,44,105,124,44,59]⟩,.int .i64 0]))
  (h3:tE 32 #[.string ⟨#[59,59,59,58,107,49,119,107,50,119,107,51,116,46]⟩,.string ⟨#[]⟩,.int .i64 0,.int .i64 9] (.tuple #[.string ⟨#[49,32,50,32]⟩,.int .i64 3,.int .i64 0]))
  (h4:tE 33 #[.string ⟨#[45,46,65,46,65,46,59,59,59,65,58,115,48,105,49,110,66,110,67,46]⟩] (.tuple #[.int .i64 0,.int .i64 q]))
  (h5:tE 34 #[.string ⟨#[59,59,59,105,58,44,111,60,108,48,53,44,119,108,48,115,48,43,108,48,49,108,48,46]⟩,.string ⟨#[]⟩,.int .i64 200] (.tuple #[.string ⟨#[48,32,49,32,50,32,51,32,52,32]⟩,.int .i64 5,.int .i64 0]))
  (h6: ∀w,dw w→Calls Tryz.prog 35 #[.string ⟨#[59,59,59,58,43,51,52,46]⟩] w fun en w'=>(∃s:ByteArray,en= .returned (.tuple #[.string s,.int .i64 0])∧0<s.size)∧But (fun _=>False) w w')
  (w:World) (ht:dw w):Calls Tryz.prog 17 #[] w fun en w'=>en= .returned (.bool true)∧But (fun _=>False) w w':=by
 have H2:=hid (fun w1 h=>h2 w1 (ht.but h));have H3:=hid (fun w1 h=>h3 w1 (ht.but h));have H4:=hid (fun w1 h=>h4 w1 (ht.but h));have H5:=hid (fun w1 h=>h5 w1 (ht.but h));have H6:=hid (fun w1 h=>h6 w1 (ht.but h));have H1:=hid (h1 w ht);clear h1 h2 h3 h4 h5 h6 ht
 go_in
 go_wp2_with fail;refine H1.out.mono ?_;rintro en w1 ⟨rfl,a4⟩;go_wp2_with fail;refine(H2.out _ a4).mono ?_;rintro en w2 ⟨rfl,a0⟩;replace a0:=a4.trans a0;go_wp2_with fail;refine(H3.out _ a0).mono ?_;rintro en w3 ⟨rfl,a1⟩;replace a1:=a0.trans a1;go_wp2_with fail;refine(H4.out _ a1).mono ?_;rintro en w4 ⟨rfl,a2⟩;replace a2:=a1.trans a2;go_wp2_with fail;refine(H5.out _ a2).mono ?_;rintro en w5 ⟨rfl,a3⟩;replace a3:=a2.trans a3;go_wp2_with fail;refine(H6.out _ a3).mono ?_;rintro en w6 ⟨⟨s,rfl,hs⟩,a5⟩;replace a5:=a3.trans a5
 have a6:s.toList.isEmpty=false:=by
  obtain⟨d⟩:=s;rw[ByteArray.toList_eq]
  show d.toList.isEmpty=false
  have:0<d.size:=hs
  cases h:d.toList with
  |nil=>rw[←Array.length_toList,h]at this;cases this
  |cons=>rfl
 clear H1 H2 H3 H4 H5 H6 a4 a0 a1 a2 a3 hs;go_wp2_with fail;refine(gK _ _).mono ?_;rintro en w7 ⟨rfl,rfl⟩;go_wp2_with fail;refine(gK _ _).mono ?_;rintro en w7 ⟨rfl,rfl⟩;go_wp2_with fail;refine(gK _ _).mono ?_;rintro en w7 ⟨rfl,rfl⟩;go_wp2_with fail;refine(gK _ _).mono ?_;rintro en w7 ⟨rfl,rfl⟩;go_wp2_with fail;refine(gK _ _).mono ?_;rintro en w7 ⟨rfl,rfl⟩;go_wp2_with fail;refine(gK _ _).mono ?_;rintro en w7 ⟨rfl,rfl⟩;go_wp2_with fail
 all_goals go_ret
 all_goals exact⟨rfl,a5⟩
end
section
open Go Sp
theorem zT:kH ⟨#[59,59,59,58,107,49,107,50,43,116,46]⟩=(0,0):=by decide+kernel
theorem zU:qo ⟨#[59,59,59,58,107,49,107,50,43,116,46]⟩=([124,44,105,124,44,105,105,124,44,105,124,44,59],0):=by decide+kernel
theorem Ch:ii ⟨#[59,59,59,58,107,49,119,107,50,119,107,51,116,46]⟩ ⟨#[]⟩ 0 9=([49,32,50,32],3,0):=by kernel_rfl
theorem AW:dK ⟨#[45,46,65,46,65,46,59,59,59,65,58,115,48,105,49,110,66,110,67,46]⟩=(0,0):=by decide+kernel
theorem AX:eI ⟨#[59,59,59,105,58,44,111,60,108,48,53,44,119,108,48,115,48,43,108,48,49,108,48,46]⟩ ⟨#[]⟩ 200=([48,32,49,32,50,32,51,32,52,32],5,0):=by decide+kernel
theorem AY:dK ⟨#[59,59,59,58,43,51,52,46]⟩=(0,0):=by decide+kernel
end
section
open Go Go.RowKit Sp
theorem yh (w:World) (ht:dw w):Calls Tryz.prog 17 #[] w fun en w'=>en= .returned (.bool true)∧But (fun _=>False) w w':=by
 have m: ∀n:Nat,n≤100→n≤maxLen:=fun n h=>by unfold maxLen;omega
 have h1:=fun w (_:dw w)=>uA ⟨#[59,59,59,58,107,49,107,50,43,116,46]⟩ w (m _ (by decide))
 have h2:=fun w (_:dw w)=>uB ⟨#[59,59,59,58,107,49,107,50,43,116,46]⟩ w (m _ (by decide))
 have h3:=fun w (h:dw w)=>tA ⟨#[59,59,59,58,107,49,119,107,50,119,107,51,116,46]⟩ ⟨#[]⟩ 0 9 w (m _ (by decide)) h
 have h4:=fun w (_:dw w)=>xg ⟨#[45,46,65,46,65,46,59,59,59,65,58,115,48,105,49,110,66,110,67,46]⟩ w (m _ (by decide))
 have h5:=fun w (h:dw w)=>pT ⟨#[59,59,59,105,58,44,111,60,108,48,53,44,119,108,48,115,48,43,108,48,49,108,48,46]⟩ ⟨#[]⟩ 200 w (m _ (by decide)) h
 have h6:=fun w (h:dw w)=>ra ⟨#[59,59,59,58,43,51,52,46]⟩ w (m _ (by decide)) h
 rw[zT]at h1;rw[zU]at h2;rw[Ch]at h3;rw[AW]at h4;rw[AX]at h5;rw[AY]at h6;refine zS h1 h2 h3 h4 h5 (fun w h=>(h6 w h).mono ?_) w ht;rintro en w' ⟨⟨r,e,hr⟩,hB⟩;exact⟨⟨r,e,hr rfl⟩,hB⟩
end
section
open Go Go.RowKit Sp
attribute [local go_sem ↓] Go.wp_at_zero Go.wp_at_succ
theorem u7 (ao:Option Addr) (n cap:Nat) (w:World) (hw:dw w) (hO:A3 w ao n):
  Calls Tryz.prog 9 #[.slice ao n cap] w fun en w'=>en= .returned (.bool true)∧But (fun _=>False) w w':=by
 have HP:=hid (fun kd x y z s t u w1 (hB:But (fun _=>False) w w1)=>u6 kd x y z s t u w1 (hw.but hB));have HQ:=hid (fun kd x y z s t u w1 (hB:But (fun _=>False) w w1)=>yg kd x y z s t u w1 (hw.but hB));have HA:=hid (fun w1 (hB:But (fun _=>False) w w1)=>yh w1 (hw.but hB));clear hw
 go_in
 go_wp2_with fail;have hn:n≤9223372036854775807:=hO.1
 go_loopg [3] n (fun mm is wr=> ∃(k:Nat),is= .int .i64 k∧k≤n∧k+mm≤n∧n≤k+mm∧But (fun _=>False) w wr)
 case atStart=>exact⟨0,rfl,by omega,by omega,by omega,But.refl _ _⟩
 case round=>
  obtain⟨k,rfl,a7,a6,a8,a1⟩:=hrel;clear a6
  by_cases a3:k<n∧(k:Int)<1152921504606846976
  ·obtain⟨a3,b1⟩:=a3;have b0:(k:Int)<(n:Int):=by omega
   obtain⟨b,o,rfl,hb,hA⟩:=hO.2 (by omega);obtain⟨kd,s,⟨x,y,z,t,u,q0,q1,q2,q3,q4,q5,q6⟩,hs⟩:=hA k a3;have a4:b<wr.heap.size:=Nat.lt_of_lt_of_le hb a1.size;rw[←a1.cell (p:=⟨b,_,none⟩) hb (fun h=>h)]at q0 q1 q2 q3 q4 q5 q6;clear hA;have b2:IntKind.i64.wrap ((k:Int)+1)=(k:Int)+1:=(IntWalk.i64_left _).trans (IntWalk.wrap64_in _ ⟨by omega,by omega⟩);go_wp2_with fail;refine(HP.out kd x y z s t u _ a1 hs).mono ?_;rintro en w1 ⟨rfl,a0⟩;have a5:b<w1.heap.size:=Nat.lt_of_lt_of_le a4 a0.size;rw[←a0.cell (p:=⟨b,_,none⟩) a4 (fun h=>h)]at q0 q1 q2 q3 q4 q5 q6;replace a0:=a1.trans a0;go_wp2_with fail;refine(HQ.out kd x y z s t u _ a0 hs).mono ?_
   rintro en w2 ⟨rfl,a2⟩;replace a2:=a0.trans a2;clear q0 q1 q2 q3 q4 q5 q6;go_wp2_with fail
   go_roundg (n-(k+1))
   case measure=>omega
   case rel=>exact⟨k+1,by simp,by omega,by omega,by omega,a2⟩
  ·rcases Int.lt_or_le (k:Int) (n:Int)with h1|h1
   ·have h2: ¬(k:Int)<1152921504606846976:=fun h=>a3 ⟨by omega,h⟩
    go_wp2_with fail;refine(HA.out _ a1).mono ?_;rintro en w1 ⟨rfl,a0⟩;have a2:=a1.trans a0;go_wp2_with fail;exact b8 (.bool true) Tryz.results9 rfl rfl ⟨rfl,a2⟩
   ·have h2:=gtI h1;go_wp2_with fail;refine(HA.out _ a1).mono ?_;rintro en w1 ⟨rfl,a0⟩;have a2:=a1.trans a0;go_wp2_with fail;exact b8 (.bool true) Tryz.results9 rfl rfl ⟨rfl,a2⟩
end
section
open Go
theorem re {W:World} (h:laidMet Tryz.prog Rows.longerRow.laid W):dw W:=
 Lib.tabIs_of_head (rest:=[]) (g:=0) (t:=329) (e:=323) (n:=20) (by kernel_rfl) (by kernel_rfl) (by kernel_rfl) (by kernel_rfl) (by kernel_rfl) (by kernel_rfl) h.tail.tail
end
end Go.Proofs.YtpfkkmacakjmbaaGreatDoor
