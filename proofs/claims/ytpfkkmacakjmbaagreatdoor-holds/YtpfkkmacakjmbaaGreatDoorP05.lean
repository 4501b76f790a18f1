import Derived.Test.YtpfkkmacakjmbaaGreatDoorP04
set_option maxRecDepth 100000
set_option maxHeartbeats 6400000
set_option linter.unusedSimpArgs false
set_option linter.unusedVariables false
namespace Go.Proofs.YtpfkkmacakjmbaaGreatDoor
section
open Go Go.RowKit Sp Go.ChangeShapes Go.WideShapes Go.ChangeAt
set_option maxHeartbeats 0 in
theorem pg:joinedFacts Tryz.pinned.checked.prog 6 Tryz.f6 (OpenSpec.ofChange Rows.holdsSpec).bare Rows.holdsRow=true:=by
 unfold joinedFacts
 repeat' (with_reducible refine Bl ?_ ?_)
 all_goals (as_aux_lemma=>kernel_rfl)
end
end Go.Proofs.YtpfkkmacakjmbaaGreatDoor
