import Derived.Test.YtpfkkmacakjmbaaGreatDoorP12
import Derived.Lib.AppendIntMem
import Derived.Shelf.Strconv.Itoa3
import Derived.Shelf.Strconv.AppendIntPublic10
import Derived.Test.YtpfkkmacakjmbaaGreatDoorProg
import Derived.Deep.Cut
set_option maxRecDepth 100000
set_option maxHeartbeats 6400000
set_option linter.all false
namespace Go.Proofs.YtpfkkmacakjmbaaGreatDoor
open Proofs.Tryz
section
open Go Go.RowKit Sp
attribute [local go_sem ↓] eF eG
theorem Ad {w:World} {base base' e size n:Nat} {v:Value} {xs:List Value} (h:w.ownsRow base e size v n xs) (hb:base'<=base):w.ownsRow base' e size v n xs:=
 ⟨h.1,h.2.imp id λ⟨g,cap,cur,a,b,c⟩=>⟨g,cap,cur,a,Nat.le_trans hb b,c⟩⟩
end
section
open Go Go.RowKit Sp
theorem dw {w:World} {base e size n:Nat} {v:Value} {xs:List Value} (h:w.ownsRow base e size v n xs) {g:Nat} (hg:v.ownBlock=some g): ∃cur,w.heap[g]?=some (.cells cur e (0,0)):=by
 obtain⟨rfl,_⟩ | ⟨g',cap,cur,rfl,_,a,_⟩:=h.2
 .cases hg
 .simp[Value.ownBlock]at hg;subst hg;exact⟨cur,a⟩
theorem lV {w:World} {base base' e e' size size' n n':Nat} {v v':Value} {xs xs':List Value} (h:w.ownsRow base e size v n xs) (h':w.ownsRow base' e' size' v' n' xs') (he:e≠e') {g:Nat} (hg:v.ownBlock=some g):v'.ownBlock≠some g:=λhg'=>by
 obtain⟨c,hc⟩:=dw h hg;obtain⟨c',a⟩:=dw h' hg';rw[hc]at a;injection a with a;injection a with h1 h2;exact he h2
theorem aE {w:World} {base e size n b:Nat} {v:Value} {xs:List Value} (h:w.ownsRow base e size v n xs) {cs:Array Value} {t:TypeId} {fr:Nat×Nat} (hb:w.heap[b]?=some (.cells cs t fr)) (he:e≠t):v.ownBlock≠some b:=λhg=>by
 obtain⟨c,hc⟩:=dw h hg;rw[hb]at hc;injection hc with hc;injection hc with h1 h2;exact he h2.symm
end
section
open Go Go.RowKit Sp
attribute [local go_sem ↓] eF eG
theorem dH (w:World) (r:Nat) (a b:Value):But (· =r) w ((w.setCell ⟨r,0,none⟩ a).setCell ⟨r,1,none⟩ b):=(aq _ _ _ _).trans (aq _ _ _ _)
end
section
open Go Go.RowKit
open Go.Shelf
def tL:Go.Shelf.Ren:=⟨λ|171=>181|243=>226|246=>243|283=>249|284=>250|285=>251|286=>252|129=>255|317=>254|318=>256|319=>257|320=>258|337=>260|338=>261|n=>n,λ|3=>3|9=>9|2=>2|4=>4|171=>322|0=>0|53=>323|37=>112|5=>5|173=>326|212=>329|51=>330|20=>20|213=>331|46=>332|232=>336|233=>337|n=>n,λ|17=>0|18=>1|19=>2|n=>n⟩
theorem BU:Go.Proofs.LaysM.n171 prog tL:=by constructor<;>first|kernel_rfl| (intro _;kernel_rfl) | (constructor<;>first|kernel_rfl| (intro _;kernel_rfl))
def ov:Go.Shelf.Ren:=⟨λ|176=>248|249=>253|288=>259|283=>249|284=>250|285=>251|286=>252|129=>255|317=>254|318=>256|319=>257|320=>258|337=>260|338=>261|n=>n,λ|37=>112|2=>2|3=>3|53=>323|4=>4|9=>9|171=>322|0=>0|173=>326|212=>329|51=>330|5=>5|20=>20|213=>331|46=>332|232=>336|233=>337|n=>n,λ|17=>0|18=>1|19=>2|n=>n⟩
theorem rz:Go.Proofs.LaysM.n176 prog ov:=by constructor<;>first|kernel_rfl| (intro _;kernel_rfl) | (constructor<;>first|kernel_rfl| (intro _;kernel_rfl))
def fd (w:World):Prop:=Lib.TabIs prog w "internal/strconv.uint64pow10" .u64 Lib.pow10Tab
theorem fd.but {w w':World} (h:fd w) (hb:B_ w w'):fd w':=by
 have a:Below w.heap.size w w':=hb.toBelow (bG _) (λ_ h=>h.elim);exact(Lib.tabBelow_of_tabIs h) w' a
theorem BV (n:Int) (h0: -2147483648<=n) (h1:n<2147483648) (w:World) (ht:fd w):
  Calls prog 181 #[.int .i64 n] w λen w'=>en= .returned (.string ⟨(Lib.itoa n).toArray⟩)/\B_ w w':=by
 refine(Go.Proofs.Any.strconv_Itoa BU n (by omega) (by omega) w ht).mono ?_;rintro en w' ⟨rfl,k,os,rfl⟩;refine⟨rfl,(bp _ w k).trans ⟨rfl,rfl,rfl,by simp[Sort.grow],λi hi _=> ?_⟩⟩;simp only[Sort.grow];exact Array.getElem?_append_left hi
theorem rD (B n:Nat) (i:Int) (h0: -2147483648<=i) (h1:i<2147483648) (sv:Value) (xs:List Value) (w:World) (ho:w.ownsRow B 5 1 sv n xs) (hB:B<=w.heap.size) (hl:n<=100000) (ht:Lib.TabBelow prog B w "internal/strconv.uint64pow10" .u64 Lib.pow10Tab):
  Calls prog 248 #[sv,.int .i64 i,.int .i64 10] w λen w'=> ∃v',en= .returned v'/\w'.ownsRow B 5 1 v' (n+(Lib.itoa i).length) (xs++Lib.byteCells (Lib.itoa i))/\Below B w w'/\Lib.OthersKept 5 none w w':=
 Go.Proofs.Any.strconv_AppendInt_10 rz B n i (by omega) (by omega) sv xs w ho hB (by omega) ht
end
section
open Go Go.RowKit Sp
attribute [local go_sem ↓] eF eG
theorem tst {x k:Nat} (h:x=k):((x:Int)==(k:Int))=true:=by rw[dS];omega
theorem tsf {x k:Nat} (h:x≠k):((x:Int)==(k:Int))=false:=by rw[fh];omega
def qJ (im:Img) (inp:ByteArray) (f d:Nat) (x:Ins) (u v:V) (l:List V) (s:Ev):R:=match u with
 | .o k=>if 12<=d then .bad 10 s.out else
  match bC im inp f (aZ im x k s) (d+1) 0 (aO (aZ im x k s) [u,v]) s with
  | .bad e o=> .bad e o
  | .ok r _ s=> .ok r l s
 |_=> .bad 6 s.out
theorem i9 {im:Img} {inp:ByteArray} {f:Nat} {b:Bod} {d i:Nat} {l:List V} {s:Ev} (h:s.left=0):bC im inp f b d i l s= .bad 5 s.out:=by
 cases f with
 |zero=>rfl
 |succ f=>simp[bC,h]
theorem sp {cc dd:List V->Ev->R} {g:Nat} {l:List V} {s:Ev} {e:Nat} {o:L_} (h0:s.left=0->cc l s= .bad 5 s.out) (hg:s.left<=g) (h:cc l s= .bad e o):fP cc dd g l s= .bad e o:=by
 cases g with
 |zero=>
  have:=h0 (by omega);rw[h]at this;exact this.symm
 |succ g=>simp[fP,h]
theorem jM {s:ByteArray} {im:Img} (hs:s.size<=2000) (hl:dM s= .ok im) (h:(dN s).1=0):eE im:=by
 have c:iQ im:=by
  unfold dM at hl
  split at hl
  .cases hl
  .split at hl
   .cases hl
   .rename_i im' hr
    split at hl
    .cases hl
    .cases hl;exact uw hs hr
 obtain⟨a,d⟩:=zl hl;refine⟨c,a,d,λb hb=> ?_⟩;unfold dN at h;rw[hl]at h;simp only at h
 cases hf:im.zj.findIdx? (λb=> !fa im b)with
 |some k=>rw[hf]at h;simp at h
 |none=>
  rw[List.findIdx?_eq_none_iff]at hf;simpa using hf b hb
theorem tM {im:Img} (h:eE im) {mb:Bod} (hm:mb∈im.zj):LT im.zq [] mb.zy (aO mb []):=by
 have e:aO mb []=mb.zy.map du:=by simp[aO]
 rw[e];refine⟨by simp,λj v hv=> ?_⟩;simp only[cg,Option.map_eq_some_iff]at hv;obtain⟨c,hc,rfl⟩:=hv;rw[show mb.zy.getD j 0=c from by rw[bM,hc];rfl];exact kv h.cls4 ((h.wf.bod mb hm).loc.2 c (a9 hc))
theorem oT (im:Img) {fu:Nat} (h:fu<=4000):StT im 88000 ⟨[],0,fu,[]⟩:=⟨⟨λk ob h=>by simp at h,λk ob h=>by simp at h,λk ob j v h=>by simp at h⟩,by simpa using h,by simp;omega,by omega,by simpa using h⟩
theorem vw {im:Img} {inp:ByteArray} {fu:Nat} {mb:Bod} {q:Nat} (hq:im.zj.length=q+1) (hm:im.zj[q]?=some mb):iM im inp fu=match bC im inp fu mb 1 0 (aO mb []) ⟨[],0,fu,[]⟩with
  | .bad e o=>(o,0,e)
  | .ok v _ s=>(s.out,v.N,0):=by
 unfold iM;rw[hq,Nat.add_sub_cancel,bM,hm]
 rfl
end
end Go.Proofs.YtpfkkmacakjmbaaGreatDoor
