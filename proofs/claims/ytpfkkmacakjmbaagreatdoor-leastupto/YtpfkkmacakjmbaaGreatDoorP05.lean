import Derived.Test.YtpfkkmacakjmbaaGreatDoorP04
set_option maxRecDepth 100000
set_option maxHeartbeats 6400000
set_option linter.unusedSimpArgs false
set_option linter.unusedVariables false
namespace Go.Proofs.YtpfkkmacakjmbaaGreatDoor
section
open Go Go.RowKit Sp Go.ChangeShapes Go.WideShapes Go.ChangeAt
set_option maxHeartbeats 0 in
theorem B0:joinedFacts Tryz.pinned.checked.prog 5 Tryz.f5 (Rows.OpenSpec.upto Rows.leastSpec).bare Rows.leastUptoRow=true:=by
 unfold joinedFacts
 repeat' (with_reducible refine Bl ?_ ?_)
 all_goals (as_aux_lemma=>kernel_rfl)
end
end Go.Proofs.YtpfkkmacakjmbaaGreatDoor
