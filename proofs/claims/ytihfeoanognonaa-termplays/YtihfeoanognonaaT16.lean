/-
 lay: the rules of a term.
-/
import Derived.Test.YtihfeoanognonaaT15
namespace Go.Proofs.Ytihfeoanognonaa
open Go.RowKit
theorem Within_any {w : World} {t : Tb} {es : List Ent} (h : TV w t es) (hm : es.length ≤ 65536) {m0 : Int} (hv : w.cell? ⟨0, 0, none⟩ = some (.int .i64 m0)) (s : ByteArray) (hs : s.size ≤ 1000000) :
  Calls Try.prog 13 #[pt t.q, .string s] w fun e w' => ∃ o c, e = .returned (.slice o (wth es.length s).length c) ∧ RI w.heap.size w' o (wth es.length s) ∧ Below w.heap.size w w' := by
 obtain ⟨v, hq, h2⟩ := h.row
 obtain ⟨p, c, rfl⟩ : ∃ p c, v = .slice p es.length c := by
  rcases h2 with ⟨rfl, h2⟩ | ⟨g, cap, cur, h2, _⟩
  ·exact ⟨_, _, h2⟩
  ·exact ⟨_, _, h2⟩
 exact Within_blk hq hm hv s hs
theorem wth_len (m : Nat) (s : ByteArray) : (wth m s).length ≤ m := by
 unfold wth
 exact Nat.le_trans (List.length_filter_le _ _) (by simp)
end Go.Proofs.Ytihfeoanognonaa
