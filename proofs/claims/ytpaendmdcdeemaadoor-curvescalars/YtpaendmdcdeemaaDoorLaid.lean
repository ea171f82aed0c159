/-
  The package's variables as they are laid; an argument of 32 bytes.
-/
import Derived.Test.YtpaendmdcdeemaaDoorLeast
import Derived.Lib.LaidU8
import Derived.ProofKit
import Derived.OpenShut
import Derived.ShutString
import Derived.ChangeOld
namespace Go.Proofs.YtpaendmdcdeemaaDoor
open Go.RowKit Num Go.Lib

theorem cells22 : Tryd.prog.cellsOf 22 = 1 := by kernel_rfl
theorem cells5 : Tryd.prog.cellsOf 5 = 1 := by kernel_rfl

/-- a variable that reads as four words holds them -/
theorem at_of_reads {w : World} {name : String} {g n a b c d : Nat} (hg : Tryd.prog.globalNamed name = some g) (ht : (Tryd.prog.globals[g]?).map (·.type) = some 23)
    (hn : digs K 4 n = [a, b, c, d])
    (h : VarReads Tryd.prog w name (.agg [.lit (.int .u64 a), .lit (.int .u64 b), .lit (.int .u64 c), .lit (.int .u64 d)])) : At w g n := by
  obtain ⟨g', t, cs, fuel, p, h1, h2, h3, h4⟩ := h
  rw [hg] at h1
  obtain rfl := Option.some.inj h1
  rw [ht] at h2
  obtain rfl := Option.some.inj h2
  have key : ∀ i (hi : i < 4) (z : Nat), [a, b, c, d][i]? = some z → w.cell? ⟨g, i, none⟩ = some (.int .u64 (z : Int)) := fun i hi z hz => by
    obtain ⟨f', d', q, e1, e2⟩ := array_elem Tryd.underlying23 h4 i hi
    rw [cells22, Nat.mul_one] at e2
    have e3 : d' = .lit (.int .u64 (z : Int)) := by
      have : ([a, b, c, d].map fun x : Nat => (DataW.lit (.int .u64 (x : Int)) : DataW Unit))[i]? = some d' := e1
      rw [List.getElem?_map, hz] at this
      exact (Option.some.inj this).symm
    subst e3
    obtain ⟨y, hy, hd, _⟩ := DataW.trod_int Tryd.underlying22 e2
    have ey : y = (z : Int) := by
      simp at hd
      exact hd.1.symm
    subst ey
    rw [var?_cell hg h3 i]
    have := congrArg (·[0]?) hy
    simpa [List.getElem?_take, List.getElem?_drop] using this
  intro i hi
  have hz : [a, b, c, d][i]? = some (n / K ^ i % K) := by
    rw [← hn, List.getElem?_eq_getElem (by rw [digs_length]; exact hi), digs_get]
  exact key i hi _ hz
end Go.Proofs.YtpaendmdcdeemaaDoor
