/-
  The reference's word, May, EncodeBundle, DecodeBundle.
-/
import Derived.Test.YtoogiblkommdfaaGreatX5
namespace Go.Proofs.YtoogiblkommdfaaGreat
open Go.RowKit

end Go.Proofs.YtoogiblkommdfaaGreat
