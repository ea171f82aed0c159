/-
  The law's makers: full, bundle, list, call.
-/
import Derived.Test.YtiogegoepgkjlaaC9
namespace Go.Proofs.Ytiogegoepgkjlaa
open Go.RowKit

theorem ext_size {s : ByteArray} {n : Nat} (h : n ≤ s.size) : (s.extract 0 n).size = n := by
  rw [ByteArray.size_extract]
  omega
end Go.Proofs.Ytiogegoepgkjlaa
