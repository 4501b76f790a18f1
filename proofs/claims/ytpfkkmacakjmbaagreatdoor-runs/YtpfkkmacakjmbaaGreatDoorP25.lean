import Derived.Test.YtpfkkmacakjmbaaGreatDoorP13
import Derived.Test.YtpfkkmacakjmbaaGreatDoorP20
set_option maxRecDepth 100000
set_option maxHeartbeats 6400000
set_option linter.unusedSimpArgs false
set_option linter.unusedVariables false
namespace Go.Proofs.YtpfkkmacakjmbaaGreatDoor
section
open Go Go.RowKit Sp
attribute [local go_sem ↓] Go.wp_at_zero Go.wp_at_succ
def qe (x:Ins):XIt:=if xP x.op=true then⟨x.pos,107,45,x.b,none,0,0⟩else aK x
section
variable (b base:Nat) (s:ByteArray) (i:Nat) (SC:List Cls) (a0 a1 al:Option Addr) (ng nl cap0 cap1 capl:Nat) (v2:RdV) (w:World)
end
def Ay (t:List Ins):Nat→Nat→List Nat
 |0,_=> []
 |n+1,k=>if k<t.length then k::Ay t n (Bm t k)else []
def Br (t:List Ins) (k:Nat):List Nat:=match t[k]? with
 |some x=>Ay t (yI x.op) (k+1)
 |none=> []
def Az (cs:List bB) (ms:List Sig) (lo:List UInt8) (c k:UInt8) (n:Nat):List UInt8:=
 if c.toNat=105∨c.toNat=111 then [105]else if c.toNat=115 then [eP lo n]else aE cs ms c k n 45
def AA (cs:List bB) (ms:List Sig) (lo:List UInt8) (c k:UInt8) (n:Nat) (ps:List UInt8):UInt8:=
 if c.toNat=115∨c.toNat=112∨c.toNat=119∨c.toNat=111 then 105 else if c.toNat=44 then eP ps 1 else if c.toNat=105 then fS cs (eP ps 1) (eP ps 2)else aI cs ms c k n lo
section
variable (b:Nat) (cs:List bB) (ms:List Sig) (c0:UInt8) (m0:Nat) (r0:UInt8) (al ai:Option Addr) (capl ni capi:Nat) (lo:List UInt8) (x:XIt) (w:World)
def Bs (cs:List bB) (ak ps:List UInt8):Bool:=(List.range ak.length).all fun i=>d7 cs (eP ps i) (ak.getD i 0)
end
def AB (cs:List bB) (ms:List Sig) (lo:List UInt8) (y:Ins) (ps:List UInt8):Option UInt8:=
 if Bs cs (Az cs ms lo (qe y).op (qe y).cls (qe y).num) ps=true∧(AA cs ms lo (qe y).op (qe y).cls (qe y).num ps).toNat≠45 then some (AA cs ms lo (qe y).op (qe y).cls (qe y).num ps)else none
def stepX (cs:List bB) (ms:List Sig) (lo:List UInt8) (is:List Ins) (i:Nat) (ty:List UInt8):Option (List UInt8):=match is[i]? with
 |none=>none
 |some y=>(AB cs ms lo y ((Br is i).map (eP ty))).map fun c=>ty.set i c
section
variable (b:Nat) (cs:List bB) (ms:List Sig) (c0:UInt8) (m0:Nat) (r0:UInt8) (al ai:Option Addr) (capl capi:Nat) (lo:List UInt8) (its:List XIt) (is:List Ins) (w:World)
end
end
end Go.Proofs.YtpfkkmacakjmbaaGreatDoor
