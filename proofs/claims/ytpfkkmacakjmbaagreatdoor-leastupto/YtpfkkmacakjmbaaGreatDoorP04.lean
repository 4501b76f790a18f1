import Derived.Test.YtpfkkmacakjmbaaGreatDoorP02
import Derived.Test.YtpfkkmacakjmbaaGreatDoorCards
import Derived.Test.YtpfkkmacakjmbaaGreatDoorTie
import Derived.ProofKit
import Derived.OpenShut
import Derived.Carry
import Derived.Deep.Slices
import Derived.Deep.DeepHandedRow
import Derived.Lib.LaidTab
set_option maxRecDepth 100000
set_option maxHeartbeats 6400000
set_option linter.unusedSimpArgs false
set_option linter.unusedVariables false
namespace Go.Proofs.YtpfkkmacakjmbaaGreatDoor
section
open Go Go.RowKit Sp Go.ChangeShapes Go.WideShapes Go.ChangeAt
theorem Ah:ownKnob Tryz.prog.godebug=none:=by kernel_rfl
theorem yT:laidOutB Tryz.prog=true:=by kernel_rfl
theorem yU:Tryz.prog.cellsOf 27=7:=by kernel_rfl
theorem sI:Tryz.prog.cellsOf 9=1:=by kernel_rfl
theorem wL: ∃f0 f1 f2 f3 f4 f5 f6:Field,Tryz.prog.underlying 27=some (.struct #[f0,f1,f2,f3,f4,f5,f6])∧
  (f0.type=3∧f0.offset=0)∧(f1.type=3∧f1.offset=1)∧(f2.type=3∧f2.offset=2)∧(f3.type=3∧f3.offset=3)∧
  (f4.type=9∧f4.offset=4)∧(f5.type=9∧f5.offset=5)∧(f6.type=9∧f6.offset=6):=
 ⟨_,_,_,_,_,_,_,Tryz.underlying27,⟨rfl,rfl⟩,⟨rfl,rfl⟩,⟨rfl,rfl⟩,⟨rfl,rfl⟩,⟨rfl,rfl⟩,⟨rfl,rfl⟩,⟨rfl,rfl⟩⟩
theorem yV {w:World} {a:Addr} {v:Value} (h:w.cell? a=some v):a.block<w.heap.size:=by
 rcases Nat.lt_or_ge a.block w.heap.size with h1|h1
 ·exact h1
 ·unfold World.cell? at h;rw[Array.getElem?_eq_none h1]at h;simp at h
theorem Bl {a b:Bool} (h1:a=true) (h2:b=true):(a&&b)=true:=by rw[h1,h2];rfl
def pe:DataW Unit→Array Value
 | .agg ps=>(ps.map fun| .lit (.int k n)=>Value.int k n|_=>Value.bool false).toArray
 |_=>#[]
def es (d:DataW Unit):Obj→Obj
 | .cells _ t frozen=> .cells (pe d) t frozen
 |o=>o
end
end Go.Proofs.YtpfkkmacakjmbaaGreatDoor
