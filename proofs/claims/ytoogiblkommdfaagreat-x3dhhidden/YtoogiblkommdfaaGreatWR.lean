/-
  wire, the reference: numbers and texts laid, its reader.
-/
import Derived.Test.YtoogiblkommdfaaGreatWA

namespace Go.Proofs.YtoogiblkommdfaaGreat.Wi
open Go.RowKit Go.Proofs

end Go.Proofs.YtoogiblkommdfaaGreat.Wi
