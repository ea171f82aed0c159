/-
 TermMore: who has more texts knows no less; known texts add nothing.
-/
import Derived.Test.YtihfeoanognonaaT45
import Derived.Test.YtihfeoanognonaaB3
import Derived.Test.YtihfeoanognonaaT10
namespace Go.Proofs.Ytihfeoanognonaa
open Go.RowKit
theorem Newer.one {B : Nat} {w : World} {q : Nat} {t : TypeId} {c : Array Value} (h1 : B ≤ q) (h2 : Blk w q t c) : Newer B w [(q, t, c)] := ⟨fun y hy => by rw [List.mem_singleton.1 hy]; exact ⟨h1, h2⟩, by simp⟩
theorem HA.add1 {z : Base} {L : BL} {w w' : World} {q : Nat} {t : TypeId} {c : Array Value} (H : HA z L w) (hb : Below w.heap.size w w') (h1 : w.heap.size ≤ q) (h2 : Blk w' q t c) : HA z ((q, t, c) :: L) w' := HA.perm (HA.addL H hb (Newer.one h1 h2)) (List.perm_append_singleton _ _)
end Go.Proofs.Ytihfeoanognonaa
