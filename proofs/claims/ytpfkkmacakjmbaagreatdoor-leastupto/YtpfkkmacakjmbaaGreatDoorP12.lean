import Derived.Test.YtpfkkmacakjmbaaGreatDoorP11
set_option maxRecDepth 100000
set_option maxHeartbeats 6400000
set_option linter.unusedSimpArgs false
set_option linter.unusedVariables false
namespace Go.Proofs.YtpfkkmacakjmbaaGreatDoor
section
open Go Go.RowKit Sp
attribute [local go_sem ↓] Go.wp_at_zero Go.wp_at_succ
def dO (im:Img):Nat→List Bod→Except Nat (List (List St))
 |_,[]=> .ok []
 |i,b::bs=>
  match cZ im b with
  |none=> .error i
  |some t=>
   match dO im (i+1) bs with
   | .error e=> .error e
   | .ok ts=> .ok (t::ts)
theorem uP {im:Img}: ∀{bs:List Bod} {i k:Nat} {ts:List (List St)} {b:Bod},(bs.take k).map (cZ im)=ts.map some→bs[k]?=some b→cZ im b=none→dO im i bs= .error (i+k):=by
 intro bs
 induction bs with
 |nil=>intro i k ts b _ h;simp at h
 |cons x bs ih=>
  intro i k ts b h1 h2 h3
  cases k with
  |zero=>simp at h2;subst h2;simp[dO,h3]
  |succ k=>
   cases ts with
   |nil=>simp at h1
   |cons t ts=>
    simp at h1 h2;have:=ih (i:=i+1) (k:=k) (by rw[List.map_take];exact h1.2) h2 h3;simp only[dO,h1.1,this]
    congr 1
    omega
theorem xt {im:Img}: ∀{bs:List Bod} {i:Nat} {ts:List (List St)},bs.map (cZ im)=ts.map some→dO im i bs= .ok ts:=by
 intro bs
 induction bs with
 |nil=>intro i ts h;simp at h;subst h;rfl
 |cons x bs ih=>
  intro i ts h
  cases ts with
  |nil=>simp at h
  |cons t ts=>
   simp at h;simp only[dO,h.1,ih (i:=i+1) h.2]
def dP:St→List UInt8
 |none=> [63,44]
 |some (s,l)=>s++ [124]++l++ [44]
def aQ (t:List St):List UInt8:=t.flatMap dP++ [59]
def iX (t:List St):Prop:=t.length≤100∧ ∀(k:Nat) s l,t[k]?=some (some (s,l))→s.length≤100∧l.length≤5
theorem wfT.short {nc nl n:Nat} {t:List St} (h:wfT nc nl n t) (hn:n≤100) (hl:nl≤5):iX t:=
 ⟨by rw[h.1];exact hn,fun k s l hk=>by have:=h.okS hn k s l hk;exact⟨this.2.2.2,by rw[this.2.2.1];exact hl⟩⟩
def fJ (s:ByteArray):Nat×Nat:=
 match da s with
 | .error e=>e
 | .ok im=>
  match dO im 0 im.bodies with
  | .error k=>(4,k)
  | .ok _=>(0,0)
def ff (s:ByteArray):List UInt8×Nat:=
 match da s with
 | .error e=>([],e.1)
 | .ok im=>
  match dO im 0 im.bodies with
  | .error _=>([],4)
  | .ok ts=>(ts.flatMap aQ,0)
theorem uQ {s:ByteArray} {e p:Nat} (h:da s= .error (e,p)):1≤e∧e≤3:=by
 unfold da at h
 split at h
 ·cases h;omega
 split at h
 ·cases h;omega
 ·split at h
  ·cases h;omega
  ·cases h
theorem uR {im:Img}: ∀{bs:List Bod} {i:Nat} {ts:List (List St)},dO im i bs= .ok ts→ts.length=bs.length∧ ∀t∈ts,∃b∈bs,cZ im b=some t:=by
 intro bs
 induction bs with
 |nil=>intro i ts h;simp[dO]at h;subst h;simp
 |cons b bs ih=>
  intro i ts h;simp only[dO]at h
  split at h
  ·cases h
  ·rename_i t ht
   split at h
   ·cases h
   ·rename_i ts' hts
    injection h with h;subst h;have:=ih hts;refine⟨by simp[this.1],?_⟩;intro x hx;simp only[List.mem_cons]at hx;rcases hx with rfl|hx
    ·exact⟨b,by simp,ht⟩
    ·obtain⟨b',h1,h2⟩:=this.2 x hx;exact⟨b',by simp[h1],h2⟩
theorem zg {α:Type} {f:α→List UInt8} {m:Nat}: ∀{t:List α},(∀o∈t,(f o).length≤m)→(t.flatMap f).length≤m*t.length:=by
 intro t
 induction t with
 |nil=>intro _;simp
 |cons x t ih=>
  intro h;have h1:=h x (by simp);have h2:=ih (fun o ho=>h o (by simp[ho]));simp only[List.flatMap_cons,List.length_append,List.length_cons,Nat.mul_add];omega
theorem pw {t:List St} (h:iX t):(aQ t).length≤20001:=by
 have:(t.flatMap dP).length≤200*t.length:=by
  apply zg
  intro o ho;obtain⟨k,hk⟩:=List.mem_iff_getElem?.1 ho
  cases o with
  |none=>simp[dP]
  |some p=>
   obtain⟨s,l⟩:=p;have:=h.2 k s l hk;simp[dP];omega
 have h1:=h.1;simp only[aQ,List.length_append,List.length_singleton];omega
end
end Go.Proofs.YtpfkkmacakjmbaaGreatDoor
