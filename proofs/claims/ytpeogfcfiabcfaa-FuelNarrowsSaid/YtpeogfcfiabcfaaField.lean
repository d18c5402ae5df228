import Derived.Lib.Small
import Derived.Lib.Walk
import Derived.Lib.Slices
import Derived.Test.YtpeogfcfiabcfaaChk
set_option linter.unusedVariables false
set_option linter.unusedSimpArgs false
namespace Go.Proofs.Ytpeogfcfiabcfaa
open Go.RowKit
@[go_sem, simp] theorem span_fst (x y : Value) (w : World) : Sem.run Try.prog (Instr.field 26 (.agg #[x, y]) 0) w = .ok x w := by kernel_rfl
@[go_sem, simp] theorem span_snd (x y : Value) (w : World) : Sem.run Try.prog (Instr.field 26 (.agg #[x, y]) 1) w = .ok y w := by kernel_rfl
end Go.Proofs.Ytpeogfcfiabcfaa
