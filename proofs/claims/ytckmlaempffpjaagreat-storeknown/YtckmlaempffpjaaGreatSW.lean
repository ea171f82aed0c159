/-
  Turns as they came in; regions in which two operations may come first.
-/
import Derived.Test.YtckmlaempffpjaaGreatGM
import Derived.Test.YtckmlaempffpjaaGreatS25
namespace Go.Proofs.YtckmlaempffpjaaGreat
open Go.RowKit

end Go.Proofs.YtckmlaempffpjaaGreat
