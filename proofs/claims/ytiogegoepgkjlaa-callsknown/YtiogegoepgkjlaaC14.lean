/-
  CallsBack.
-/
import Derived.Test.YtiogegoepgkjlaaGH
namespace Go.Proofs.Ytiogegoepgkjlaa
open Go.RowKit

end Go.Proofs.Ytiogegoepgkjlaa
