/-
 StoreLasts.
-/
import Derived.Test.YtckmlaempffpjaaGreatSW
namespace Go.Proofs.YtckmlaempffpjaaGreat
open Go.RowKit

theorem arm_S {w0 : World} {M : ML} {s : Sk} {S : SS} {L : BL} {w : World} (h : SH w0 M s S L w) (z : Int) : Calls Tryz.prog 14 #[pt s.d.q, .int .i64 z] w fun e w' => e = .returned (iN .i64 (armD S.D z).2) ∧ SH w0 M s ⟨(armD S.D z).1, S.rows, S.size⟩ L w' := by
 obtain ⟨rs, nx, h1, h2, hD⟩ := h
 exact (Arm_any hD z).mono fun e w' hr => ⟨hr.1, rs, nx, h1, h2, hr.2⟩
end Go.Proofs.YtckmlaempffpjaaGreat
