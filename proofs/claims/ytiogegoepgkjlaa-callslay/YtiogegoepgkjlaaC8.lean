/-
  SameAnswer, mayBeItems, mayBeAnswer, answerBytes, EncodeAnswer.
-/
import Derived.Test.YtiogegoepgkjlaaC7
namespace Go.Proofs.Ytiogegoepgkjlaa
open Go.RowKit

end Go.Proofs.Ytiogegoepgkjlaa
