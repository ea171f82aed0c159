/-
  The model of a table: what lies in memory.
-/
import Derived.Test.YtiogegoepgkjlaaTC
import Derived.WalkKit
import Derived.WalkSpells
namespace Go.Proofs.Ytiogegoepgkjlaa
open Go.RowKit

end Go.Proofs.Ytiogegoepgkjlaa
