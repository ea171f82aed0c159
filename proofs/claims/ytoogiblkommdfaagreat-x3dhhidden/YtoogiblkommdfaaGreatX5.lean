/-
  DecodeBundle.
-/
import Derived.Test.YtoogiblkommdfaaGreatX2
namespace Go.Proofs.YtoogiblkommdfaaGreat
open Go.RowKit

namespace Rs
end Rs
open Rs
/-- what was read -/
def mkB (u d : Nat) (sg dh : ByteArray) (pi : Nat) (pr ps : ByteArray) (oi : Nat) (on : ByteArray) : Bu := ⟨u, d, sg, dh, pi, pr, ps, oi, on⟩
end Go.Proofs.YtoogiblkommdfaaGreat
