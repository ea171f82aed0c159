/-
  A region that draws its order, in which one operation reads a variable that the region writes later: a move, for which whoever writes there waits.
-/
import Derived.Test.YtoogiblkommdfaaGreatWy
namespace Go.Proofs.YtoogiblkommdfaaGreat
open Go Go.RowKit

end Go.Proofs.YtoogiblkommdfaaGreat
