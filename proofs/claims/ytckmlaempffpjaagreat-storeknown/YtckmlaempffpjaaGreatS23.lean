/-
 change.
-/
import Derived.Test.YtckmlaempffpjaaGreatS22
import Derived.Test.YtckmlaempffpjaaGreatSO
namespace Go.Proofs.YtckmlaempffpjaaGreat
open Go.RowKit

end Go.Proofs.YtckmlaempffpjaaGreat
