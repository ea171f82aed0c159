/-
 says.
-/
import Derived.Test.YtckmlaempffpjaaGreatS23
namespace Go.Proofs.YtckmlaempffpjaaGreat
open Go.RowKit

end Go.Proofs.YtckmlaempffpjaaGreat
