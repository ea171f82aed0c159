/-
  The law's call.
-/
import Derived.Test.YtiogegoepgkjlaaC10
namespace Go.Proofs.Ytiogegoepgkjlaa
open Go.RowKit

end Go.Proofs.Ytiogegoepgkjlaa
