/-
  The model of a table: what lies in memory.
-/
import Derived.Test.YtmidladenidngaaTC
import Derived.WalkKit
import Derived.WalkSpells
namespace Go.Proofs.Ytmidladenidngaa
open Go.RowKit

end Go.Proofs.Ytmidladenidngaa
