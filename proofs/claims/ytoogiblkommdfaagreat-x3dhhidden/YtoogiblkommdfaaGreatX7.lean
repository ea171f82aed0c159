/-
  The reference's EncodeBundle and DecodeBundle.
-/
import Derived.Test.YtoogiblkommdfaaGreatX6
namespace Go.Proofs.YtoogiblkommdfaaGreat
open Go.RowKit

namespace Rs
end Rs
end Go.Proofs.YtoogiblkommdfaaGreat
