/-
 Within.
-/
import Derived.Test.YtihfeoanognonaaTN
import Derived.Test.YtihfeoanognonaaSh
namespace Go.Proofs.Ytihfeoanognonaa
open Go.RowKit
def RI (B : Nat) (w : World) (o : Option Addr) (ps : List Nat) : Prop := ps = [] ∨ ∃ q c, o = some ⟨q, 0, none⟩ ∧ B ≤ q ∧ Blk w q 3 c ∧ ∀ j, j < ps.length → c[j]? = some (iN .i64 (ps.getD j 0))
theorem RI.keep {B : Nat} {w w' : World} {o : Option Addr} {ps : List Nat} (h : RI B w o ps) (hb : Below w.heap.size w w') : RI B w' o ps := h.imp id (fun ⟨q, c, h1, h2, h3, h4⟩ => ⟨q, c, h1, h2, h3.keep hb, h4⟩)
end Go.Proofs.Ytihfeoanognonaa
