import Derived.Test.YtpfkkmacakjmbaaGreatDoorP01
set_option maxRecDepth 100000
set_option maxHeartbeats 6400000
set_option linter.all false
namespace Go.Proofs.YtpfkkmacakjmbaaGreatDoor
section
open Go Go.RowKit Sp Go.ChangeShapes Go.WideShapes Go.ChangeAt
set_option maxHeartbeats 0 in
theorem pN:joinedFacts Tryz.pinned.checked.prog 13 Tryz.f13 (OpenSpec.ofChange Rows.compilesSpec).bare Rows.compilesRow=true:=by
 unfold joinedFacts
 repeat' (with_reducible refine FR ?_ ?_)
 all_goals (as_aux_lemma=>kernel_rfl)
end
end Go.Proofs.YtpfkkmacakjmbaaGreatDoor
