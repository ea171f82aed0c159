/-
  wire, the reference: numbers and texts laid, its reader.
-/
import Derived.Test.YtiogegoepgkjlaaWA

namespace Go.Proofs.Ytiogegoepgkjlaa.Wi
open Go.RowKit Go.Proofs

end Go.Proofs.Ytiogegoepgkjlaa.Wi
