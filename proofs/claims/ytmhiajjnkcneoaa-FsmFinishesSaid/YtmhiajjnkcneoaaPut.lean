/-
  octet.Put, where the size may be: the number's bytes in new memory.
-/
import Derived.Test.YtmhiajjnkcneoaaRows
import Derived.Test.YtmhiajjnkcneoaaPlain
import Derived.ProofKit
import Derived.BigQuiet
import Derived.Deep.QuietTactic
import Derived.Test.YtmhiajjnkcneoaaGrow
namespace Go.Proofs.Ytmhiajjnkcneoaa
open Go.RowKit
set_option linter.unusedVariables false
set_option linter.unusedSimpArgs false

theorem info5 : (Try.prog.info? 5).map (fun i => (i.zero, i.size, i.bytes)) = some (some (.int .u8 0), 1, 1) := by kernel_rfl
end Go.Proofs.Ytmhiajjnkcneoaa
