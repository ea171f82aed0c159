/-
  DecodeAnswer.
-/
import Derived.Test.YtiogegoepgkjlaaC8
namespace Go.Proofs.Ytiogegoepgkjlaa
open Go.RowKit

end Go.Proofs.Ytiogegoepgkjlaa
