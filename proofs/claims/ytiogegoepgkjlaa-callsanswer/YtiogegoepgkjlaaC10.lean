/-
  The law's makers: full, bundle, list, call.
-/
import Derived.Test.YtiogegoepgkjlaaC9
namespace Go.Proofs.Ytiogegoepgkjlaa
open Go.RowKit

end Go.Proofs.Ytiogegoepgkjlaa
