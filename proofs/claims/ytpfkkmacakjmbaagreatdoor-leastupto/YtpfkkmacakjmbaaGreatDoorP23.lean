import Derived.Lib.AppendIntMem
import Derived.Shelf.Strconv.Itoa3
import Derived.Shelf.Strconv.AppendIntPublic10
import Derived.Test.YtpfkkmacakjmbaaGreatDoorProg
import Derived.Test.YtpfkkmacakjmbaaGreatDoorP21
set_option maxRecDepth 100000
set_option maxHeartbeats 6400000
set_option linter.unusedSimpArgs false
set_option linter.unusedVariables false
namespace Go.Proofs.YtpfkkmacakjmbaaGreatDoor
section
open Go Go.RowKit
open Go.Shelf
def pQ:Go.Shelf.Ren:=⟨fun|171=>181|243=>226|246=>243|283=>249|284=>250|285=>251|286=>252|129=>255|317=>254|318=>256|319=>257|320=>258|337=>260|338=>261|n=>n,fun|3=>3|9=>9|2=>2|4=>4|171=>322|0=>0|53=>323|37=>112|5=>5|173=>326|212=>329|51=>330|20=>20|213=>331|46=>332|232=>336|233=>337|n=>n,fun|17=>0|18=>1|19=>2|n=>n⟩
theorem xM:Go.Proofs.LaysM.n171 Tryz.prog pQ:=by constructor<;>first|kernel_rfl| (intro _;kernel_rfl) | (constructor<;>first|kernel_rfl| (intro _;kernel_rfl))
def kD:Go.Shelf.Ren:=⟨fun|176=>248|249=>253|288=>259|283=>249|284=>250|285=>251|286=>252|129=>255|317=>254|318=>256|319=>257|320=>258|337=>260|338=>261|n=>n,fun|37=>112|2=>2|3=>3|53=>323|4=>4|9=>9|171=>322|0=>0|173=>326|212=>329|51=>330|5=>5|20=>20|213=>331|46=>332|232=>336|233=>337|n=>n,fun|17=>0|18=>1|19=>2|n=>n⟩
theorem nO:Go.Proofs.LaysM.n176 Tryz.prog kD:=by constructor<;>first|kernel_rfl| (intro _;kernel_rfl) | (constructor<;>first|kernel_rfl| (intro _;kernel_rfl))
def eP (w:World):Prop:=Lib.TabIs Tryz.prog w "internal/strconv.uint64pow10" .u64 Lib.pow10Tab
theorem eP.but {w w':World} (h:eP w) (hb:But (fun _=>False) w w'):eP w':=by
 have hB:Below w.heap.size w w':=hb.toBelow (Nat.le_refl _) (fun _ h=>h.elim);exact(Lib.tabBelow_of_tabIs h) w' hB
theorem xP (n:Int) (h0: -2147483648≤n) (h1:n<2147483648) (w:World) (ht:eP w):
  Calls Tryz.prog 181 #[.int .i64 n] w fun en w'=>en= .returned (.string ⟨(Lib.itoa n).toArray⟩)∧But (fun _=>False) w w':=by
 refine(Go.Proofs.Any.strconv_Itoa xM n (by omega) (by omega) w ht).mono ?_;rintro en w' ⟨rfl,k,os,rfl⟩;refine⟨rfl,(But.drewN _ w k).trans ⟨rfl,rfl,rfl,by simp[Sort.grow],fun i hi _=> ?_⟩⟩;simp only[Sort.grow];exact Array.getElem?_append_left hi
theorem nP (B n:Nat) (i:Int) (h0: -2147483648≤i) (h1:i<2147483648) (sv:Value) (xs:List Value) (w:World) (ho:w.ownsRow B 5 1 sv n xs) (hB:B≤w.heap.size) (hl:n≤100000) (ht:Lib.TabBelow Tryz.prog B w "internal/strconv.uint64pow10" .u64 Lib.pow10Tab):
  Calls Tryz.prog 248 #[sv,.int .i64 i,.int .i64 10] w fun en w'=> ∃v',en= .returned v'∧w'.ownsRow B 5 1 v' (n+(Lib.itoa i).length) (xs++Lib.byteCells (Lib.itoa i))∧Below B w w'∧Lib.OthersKept 5 none w w':=
 Go.Proofs.Any.strconv_AppendInt_10 nO B n i (by omega) (by omega) sv xs w ho hB (by omega) ht
end
section
open Go Go.RowKit Sp
theorem ek {w:World} {base e size n:Nat} {v:Value} {xs:List Value} (h:w.ownsRow base e size v n xs) {g:Nat} (hg:v.ownBlock=some g): ∃cur,w.heap[g]?=some (.cells cur e (0,0)):=by
 rcases h.2 with⟨rfl,_⟩ | ⟨g',cap,cur,rfl,_,hh,_⟩
 ·cases hg
 ·simp[Value.ownBlock]at hg;subst hg;exact⟨cur,hh⟩
theorem lC {w:World} {base base' e e' size size' n n':Nat} {v v':Value} {xs xs':List Value} (h:w.ownsRow base e size v n xs) (h':w.ownsRow base' e' size' v' n' xs') (he:e≠e') {g:Nat} (hg:v.ownBlock=some g):v'.ownBlock≠some g:=fun hg'=>by
 obtain⟨c,hc⟩:=ek h hg;obtain⟨c',a0⟩:=ek h' hg';rw[hc]at a0;injection a0 with a0;injection a0 with h1 h2;exact he h2
theorem aN {w:World} {base e size n b:Nat} {v:Value} {xs:List Value} (h:w.ownsRow base e size v n xs) {cs:Array Value} {t:TypeId} {fr:Nat×Nat} (hb:w.heap[b]?=some (.cells cs t fr)) (he:e≠t):v.ownBlock≠some b:=fun hg=>by
 obtain⟨c,hc⟩:=ek h hg;rw[hb]at hc;injection hc with hc;injection hc with h1 h2;exact he h2.symm
end
section
open Go Go.RowKit Sp
attribute [local go_sem ↓] Go.wp_at_zero Go.wp_at_succ
theorem gE (w:World) (r:Nat) (a b:Value):But (· =r) w ((w.setCell ⟨r,0,none⟩ a).setCell ⟨r,1,none⟩ b):=(But.setB _ _ _ _).trans (But.setB _ _ _ _)
end
end Go.Proofs.YtpfkkmacakjmbaaGreatDoor
