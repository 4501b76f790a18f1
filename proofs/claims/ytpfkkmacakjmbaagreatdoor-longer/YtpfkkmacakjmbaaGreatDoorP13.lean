import Derived.Test.YtpfkkmacakjmbaaGreatDoorP12
import Derived.Lib.AppendIntMem
import Derived.Shelf.Strconv.Itoa3
import Derived.Shelf.Strconv.AppendIntPublic10
import Derived.Test.YtpfkkmacakjmbaaGreatDoorProg
import Derived.Deep.Cut
set_option maxRecDepth 100000
set_option maxHeartbeats 6400000
set_option linter.unusedSimpArgs false
set_option linter.unusedVariables false
namespace Go.Proofs.YtpfkkmacakjmbaaGreatDoor
section
open Go Go.RowKit Sp
attribute [local go_sem ↓] Go.wp_at_zero Go.wp_at_succ
theorem wN {w:World} {base base' e size n:Nat} {v:Value} {xs:List Value} (h:w.ownsRow base e size v n xs) (hb:base'≤base):w.ownsRow base' e size v n xs:=
 ⟨h.1,h.2.imp id fun⟨g,cap,cur,a,b,c⟩=>⟨g,cap,cur,a,Nat.le_trans hb b,c⟩⟩
end
section
open Go Go.RowKit Sp
theorem cD {w:World} {base e size n:Nat} {v:Value} {xs:List Value} (h:w.ownsRow base e size v n xs) {g:Nat} (hg:v.ownBlock=some g): ∃cur,w.heap[g]?=some (.cells cur e (0,0)):=by
 rcases h.2 with⟨rfl,_⟩ | ⟨g',cap,cur,rfl,_,hh,_⟩
 ·cases hg
 ·simp[Value.ownBlock]at hg;subst hg;exact⟨cur,hh⟩
theorem jL {w:World} {base base' e e' size size' n n':Nat} {v v':Value} {xs xs':List Value} (h:w.ownsRow base e size v n xs) (h':w.ownsRow base' e' size' v' n' xs') (he:e≠e') {g:Nat} (hg:v.ownBlock=some g):v'.ownBlock≠some g:=fun hg'=>by
 obtain⟨c,hc⟩:=cD h hg;obtain⟨c',a0⟩:=cD h' hg';rw[hc]at a0;injection a0 with a0;injection a0 with h1 h2;exact he h2
theorem aC {w:World} {base e size n b:Nat} {v:Value} {xs:List Value} (h:w.ownsRow base e size v n xs) {cs:Array Value} {t:TypeId} {fr:Nat×Nat} (hb:w.heap[b]?=some (.cells cs t fr)) (he:e≠t):v.ownBlock≠some b:=fun hg=>by
 obtain⟨c,hc⟩:=cD h hg;rw[hb]at hc;injection hc with hc;injection hc with h1 h2;exact he h2.symm
end
section
open Go Go.RowKit Sp
attribute [local go_sem ↓] Go.wp_at_zero Go.wp_at_succ
theorem cS (w:World) (r:Nat) (a b:Value):But (· =r) w ((w.setCell ⟨r,0,none⟩ a).setCell ⟨r,1,none⟩ b):=(But.setB _ _ _ _).trans (But.setB _ _ _ _)
end
section
open Go Go.RowKit
open Go.Shelf
def qG:Go.Shelf.Ren:=⟨fun|171=>181|243=>226|246=>243|283=>249|284=>250|285=>251|286=>252|129=>255|317=>254|318=>256|319=>257|320=>258|337=>260|338=>261|n=>n,fun|3=>3|9=>9|2=>2|4=>4|171=>322|0=>0|53=>323|37=>112|5=>5|173=>326|212=>329|51=>330|20=>20|213=>331|46=>332|232=>336|233=>337|n=>n,fun|17=>0|18=>1|19=>2|n=>n⟩
theorem yM:Go.Proofs.LaysM.n171 Tryz.prog qG:=by constructor<;>first|kernel_rfl| (intro _;kernel_rfl) | (constructor<;>first|kernel_rfl| (intro _;kernel_rfl))
def lA:Go.Shelf.Ren:=⟨fun|176=>248|249=>253|288=>259|283=>249|284=>250|285=>251|286=>252|129=>255|317=>254|318=>256|319=>257|320=>258|337=>260|338=>261|n=>n,fun|37=>112|2=>2|3=>3|53=>323|4=>4|9=>9|171=>322|0=>0|173=>326|212=>329|51=>330|5=>5|20=>20|213=>331|46=>332|232=>336|233=>337|n=>n,fun|17=>0|18=>1|19=>2|n=>n⟩
theorem oW:Go.Proofs.LaysM.n176 Tryz.prog lA:=by constructor<;>first|kernel_rfl| (intro _;kernel_rfl) | (constructor<;>first|kernel_rfl| (intro _;kernel_rfl))
def dw (w:World):Prop:=Lib.TabIs Tryz.prog w "internal/strconv.uint64pow10" .u64 Lib.pow10Tab
theorem dw.but {w w':World} (h:dw w) (hb:But (fun _=>False) w w'):dw w':=by
 have hB:Below w.heap.size w w':=hb.toBelow (Nat.le_refl _) (fun _ h=>h.elim);exact(Lib.tabBelow_of_tabIs h) w' hB
theorem yN (n:Int) (h0: -2147483648≤n) (h1:n<2147483648) (w:World) (ht:dw w):
  Calls Tryz.prog 181 #[.int .i64 n] w fun en w'=>en= .returned (.string ⟨(Lib.itoa n).toArray⟩)∧But (fun _=>False) w w':=by
 refine(Go.Proofs.Any.strconv_Itoa yM n (by omega) (by omega) w ht).mono ?_;rintro en w' ⟨rfl,k,os,rfl⟩;refine⟨rfl,(But.drewN _ w k).trans ⟨rfl,rfl,rfl,by simp[Sort.grow],fun i hi _=> ?_⟩⟩;simp only[Sort.grow];exact Array.getElem?_append_left hi
theorem oX (B n:Nat) (i:Int) (h0: -2147483648≤i) (h1:i<2147483648) (sv:Value) (xs:List Value) (w:World) (ho:w.ownsRow B 5 1 sv n xs) (hB:B≤w.heap.size) (hl:n≤100000) (ht:Lib.TabBelow Tryz.prog B w "internal/strconv.uint64pow10" .u64 Lib.pow10Tab):
  Calls Tryz.prog 248 #[sv,.int .i64 i,.int .i64 10] w fun en w'=> ∃v',en= .returned v'∧w'.ownsRow B 5 1 v' (n+(Lib.itoa i).length) (xs++Lib.byteCells (Lib.itoa i))∧Below B w w'∧Lib.OthersKept 5 none w w':=
 Go.Proofs.Any.strconv_AppendInt_10 oW B n i (by omega) (by omega) sv xs w ho hB (by omega) ht
end
section
open Go Go.RowKit Sp
attribute [local go_sem ↓] Go.wp_at_zero Go.wp_at_succ
theorem tst {x k:Nat} (h:x=k):((x:Int)==(k:Int))=true:=by rw[beq_iff_eq];omega
theorem tsf {x k:Nat} (h:x≠k):((x:Int)==(k:Int))=false:=by rw[beq_eq_false_iff_ne];omega
def og (im:Img) (inp:ByteArray) (f d:Nat) (x:Ins) (u v:V) (l:List V) (s:Ev):R:=match u with
 | .o k=>if 12≤d then .bad 10 s.out else
  match bn im inp f (ba im x k s) (d+1) 0 (aR (ba im x k s) [u,v]) s with
  | .bad e o=> .bad e o
  | .ok r _ s=> .ok r l s
 |_=> .bad 6 s.out
theorem fP {im:Img} {inp:ByteArray} {f:Nat} {b:Bod} {d i:Nat} {l:List V} {s:Ev} (h:s.left=0):bn im inp f b d i l s= .bad 5 s.out:=by
 cases f with
 |zero=>rfl
 |succ f=>simp[bn,h]
theorem pE {cc dd:List V→Ev→R} {g:Nat} {l:List V} {s:Ev} {e:Nat} {o:List UInt8} (h0:s.left=0→cc l s= .bad 5 s.out) (hg:s.left≤g) (h:cc l s= .bad e o):d7 cc dd g l s= .bad e o:=by
 cases g with
 |zero=>
  have:=h0 (by omega);rw[h]at this;exact this.symm
 |succ g=>simp[d7,h]
theorem sy {s:ByteArray} {im:Img} (hs:s.size≤2000) (hl:dZ s= .ok im) (h:(dK s).1=0):dz im:=by
 have hW:gH im:=by
  unfold dZ at hl
  split at hl
  ·cases hl
  ·split at hl
   ·cases hl
   ·rename_i im' hr
    split at hl
    ·cases hl
    ·cases hl;exact rz hs hr
 obtain⟨hE,hk⟩:=vV hl;refine⟨hW,hE,hk,fun b hb=> ?_⟩;unfold dK at h;rw[hl]at h;simp only at h
 cases hf:im.bodies.findIdx? (fun b=> !dR im b)with
 |some k=>rw[hf]at h;simp at h
 |none=>
  rw[List.findIdx?_eq_none_iff]at hf;simpa using hf b hb
theorem vx {im:Img} (h:dz im) {mb:Bod} (hm:mb∈im.bodies):LT im.classes [] mb.locals (aR mb []):=by
 have e:aR mb []=mb.locals.map cC:=by simp[aR]
 rw[e];refine⟨by simp,fun j v hv=> ?_⟩;simp only[List.getElem?_map,Option.map_eq_some_iff]at hv;obtain⟨c,hc,rfl⟩:=hv;rw[show mb.locals.getD j 0=c from by rw[List.getD_eq_getElem?_getD,hc];rfl];exact iD h.cls4 ((h.wf.bod mb hm).loc.2 c (List.mem_of_getElem? hc))
theorem pG (im:Img) {fu:Nat} (h:fu≤4000):StT im 88000 ⟨[],0,fu,[]⟩:=⟨⟨fun k ob h=>by simp at h,fun k ob h=>by simp at h,fun k ob j v h=>by simp at h⟩,by simpa using h,by simp;omega,by omega,by simpa using h⟩
theorem sA {im:Img} {inp:ByteArray} {fu:Nat} {mb:Bod} {q:Nat} (hq:im.bodies.length=q+1) (hm:im.bodies[q]?=some mb):jd im inp fu=match bn im inp fu mb 1 0 (aR mb []) ⟨[],0,fu,[]⟩with
  | .bad e o=>(o,0,e)
  | .ok v _ s=>(s.out,v.N,0):=by
 unfold jd;rw[hq,Nat.add_sub_cancel,List.getD_eq_getElem?_getD,hm]
 rfl
end
end Go.Proofs.YtpfkkmacakjmbaaGreatDoor
