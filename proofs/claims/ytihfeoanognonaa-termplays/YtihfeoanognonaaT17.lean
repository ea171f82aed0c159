/-
 Known.
-/
import Derived.Test.YtihfeoanognonaaT16
namespace Go.Proofs.Ytihfeoanognonaa
open Go.RowKit
theorem info4z : (Try.prog.info? 4).map (fun i => (i.zero, i.size, i.bytes)) = some (some (.bool false), 1, 1) := by kernel_rfl
end Go.Proofs.Ytihfeoanognonaa
