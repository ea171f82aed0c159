/-
  A region that draws its order, in which one operation reads a variable that the region writes later: a move, for which whoever writes there waits.
-/
import Derived.Test.YtckmlaempffpjaaGreatWy
namespace Go.Proofs.YtckmlaempffpjaaGreat
open Go Go.RowKit

end Go.Proofs.YtckmlaempffpjaaGreat
