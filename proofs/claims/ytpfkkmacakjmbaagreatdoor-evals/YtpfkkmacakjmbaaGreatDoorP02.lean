import Derived.Test.YtpfkkmacakjmbaaGreatDoorP01
set_option maxRecDepth 100000
set_option maxHeartbeats 6400000
namespace Go.Proofs.YtpfkkmacakjmbaaGreatDoor
open Go Go.RowKit Sp Go.ChangeShapes Go.WideShapes Go.ChangeAt
set_option linter.unusedSimpArgs false
set_option linter.unusedVariables false
theorem band {a b : Bool} (h1 : a = true) (h2 : b = true) : (a && b) = true := by rw [h1, h2]; rfl
def cellsOfDatum : DataW Unit → Array Value
 | .agg ps => (ps.map fun | .lit (.int k n) => Value.int k n | _ => Value.bool false).toArray
 | _ => #[]
def fillWith (d : DataW Unit) : Obj → Obj
 | .cells _ t frozen => .cells (cellsOfDatum d) t frozen
 | o => o
end Go.Proofs.YtpfkkmacakjmbaaGreatDoor
