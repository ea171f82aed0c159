/-
  Bundles and their bytes: each tells the other.
-/
import Derived.Test.YtoogiblkommdfaaGreatX7
namespace Go.Proofs.YtoogiblkommdfaaGreat
open Go.RowKit
namespace Rs
end Rs
open Rs
end Go.Proofs.YtoogiblkommdfaaGreat
