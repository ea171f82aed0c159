/-
  wire, the reference: numbers and texts laid, its reader.
-/
import Derived.Test.YtmidladenidngaaWA

namespace Go.Proofs.Ytmidladenidngaa.Wi
open Go.RowKit Go.Proofs

end Go.Proofs.Ytmidladenidngaa.Wi
