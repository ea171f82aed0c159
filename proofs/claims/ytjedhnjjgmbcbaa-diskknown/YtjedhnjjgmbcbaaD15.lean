/-
  DiskKnown.
-/
import Derived.Test.YtjedhnjjgmbcbaaD14
namespace Go.Proofs.Ytjedhnjjgmbcbaa
open Go.RowKit

theorem srt_two (x y : FA) (h : bl x.nm ≤ bl y.nm) : srtL [x, y] = [bl x.nm, bl y.nm] := by
  rw [srtL]
  exact List.mergeSort_of_pairwise (by simp [leB, h])
theorem wk_two (x y : FA) (ks : List Int) (h : bl x.nm ≤ bl y.nm) (hne : bl x.nm ≠ bl y.nm) : wkK [x, y] ks 2 = [cutA x (ks.getD 0 0), cutA y (ks.getD 1 0)] := by
  have h1 : rankF [x, y] x.nm = 0 := by rw [rankF, srt_two x y h]; simp
  have h2 : rankF [x, y] y.nm = 1 := by
    rw [rankF, srt_two x y h]
    have hb : (bl x.nm == bl y.nm) = false := by simpa using hne
    simp [List.idxOf_cons, hb]
  simp [wkK, h1, h2]
theorem wake_two (x y : FA) (n l : Nat) (b : Bool) (sz : List Nat) (ks : List Int) (h : bl x.nm ≤ bl y.nm) (hne : bl x.nm ≠ bl y.nm) : wakeD ⟨[x, y], n, l, b, sz⟩ ks = ⟨[cutA x (ks.getD 0 0), cutA y (ks.getD 1 0)], n + used [x, y] - used [cutA x (ks.getD 0 0), cutA y (ks.getD 1 0)], 0, false, sz⟩ := by
  unfold wakeD
  rw [show ([x, y] : List FA).length = 2 from rfl, wk_two x y ks h hne]
theorem lst_len (fs : List FA) (p : ByteArray) : (lstL fs p).length = (fs.filter fun x => pfx x.nm p).length := by simp [lstL]
theorem take_get {cu : Array Value} {n : Nat} {l : List Value} (h : cu.toList.take n = l) (k : Nat) (hk : k < n) : cu[k]? = l[k]? := by
  rw [← h, List.getElem?_take, if_pos hk, Array.getElem?_toList]
theorem kv_neg : ∀ j, j < [(-1 : Int)].length → (#[Value.int .i64 (-1)] : Array Value)[j]? = some (.int .i64 ([(-1 : Int)].getD j 0)) := fun j hj => by
  have : j = 0 := by simpa using hj
  subst this
  rfl
def lgS : ByteArray := ⟨(List.replicate 65 0).toArray⟩
theorem kn0 : AppendD ⟨[], 5, 0, false, []⟩ ({ data := #[97] }) ({ data := #[97, 98, 99] }) = (⟨[⟨{ data := #[97] }, [97, 98, 99], 0⟩], 2, 0, false, [3]⟩, 0) := by decide +kernel
theorem kn1 : AppendD ⟨[⟨{ data := #[97] }, [97, 98, 99], 0⟩], 2, 0, false, [3]⟩ ({ data := #[98] }) ({ data := #[120, 121, 122] }) = (⟨[⟨{ data := #[97] }, [97, 98, 99], 0⟩], 2, 0, false, [3]⟩, 7) := by decide +kernel
theorem kn2 : AppendD ⟨[⟨{ data := #[97] }, [97, 98, 99], 0⟩], 2, 0, false, [3]⟩ ({ data := #[98] }) ({ data := #[120] }) = (⟨[⟨{ data := #[97] }, [97, 98, 99], 0⟩, ⟨{ data := #[98] }, [120], 0⟩], 1, 0, false, [3, 1]⟩, 0) := by decide +kernel
theorem kn3 : SyncD ⟨[⟨{ data := #[97] }, [97, 98, 99], 0⟩, ⟨{ data := #[98] }, [120], 0⟩], 1, 0, false, [3, 1]⟩ ({ data := #[97] }) = (⟨[⟨{ data := #[97] }, [97, 98, 99], 3⟩, ⟨{ data := #[98] }, [120], 0⟩], 1, 0, false, [3, 1, 0]⟩, 0) := by decide +kernel
theorem kn4 : AppendD ⟨[⟨{ data := #[97] }, [97, 98, 99], 3⟩, ⟨{ data := #[98] }, [120], 0⟩], 1, 0, false, [3, 1, 0]⟩ ({ data := #[97] }) ({ data := #[100] }) = (⟨[⟨{ data := #[97] }, [97, 98, 99, 100], 3⟩, ⟨{ data := #[98] }, [120], 0⟩], 0, 0, false, [3, 1, 0, 1]⟩, 0) := by decide +kernel
theorem kn5 : wakeD ⟨[⟨{ data := #[97] }, [97, 98, 99, 100], 3⟩, ⟨{ data := #[98] }, [120], 0⟩], 0, 0, false, [3, 1, 0, 1]⟩ [] = ⟨[⟨{ data := #[97] }, [97, 98, 99], 3⟩, ⟨{ data := #[98] }, [], 0⟩], 2, 0, false, [3, 1, 0, 1]⟩ := by
  rw [wake_two _ _ _ _ _ _ _ (by decide) (by decide)]
  decide +kernel
theorem kn6 : readD ⟨[⟨{ data := #[97] }, [97, 98, 99], 3⟩, ⟨{ data := #[98] }, [], 0⟩], 2, 0, false, [3, 1, 0, 1]⟩ ({ data := #[97] }) = ({ data := #[97, 98, 99] }, 0) := by decide +kernel
theorem kn7 : readD ⟨[⟨{ data := #[97] }, [97, 98, 99], 3⟩, ⟨{ data := #[98] }, [], 0⟩], 2, 0, false, [3, 1, 0, 1]⟩ ({ data := #[98] }) = ({ data := #[] }, 0) := by decide +kernel
theorem kn8 : (listD ⟨[⟨{ data := #[97] }, [97, 98, 99], 3⟩, ⟨{ data := #[98] }, [], 0⟩], 2, 0, false, [3, 1, 0, 1]⟩ { data := #[] }).length = 2 := by
  rw [listD, if_neg (by decide), lst_len]
  decide +kernel
theorem kn9 : AppendD ⟨[⟨{ data := #[97] }, [97, 98, 99], 3⟩, ⟨{ data := #[98] }, [], 0⟩], 2, 0, false, [3, 1, 0, 1]⟩ ({ data := #[97] }) ({ data := #[100, 101] }) = (⟨[⟨{ data := #[97] }, [97, 98, 99, 100, 101], 3⟩, ⟨{ data := #[98] }, [], 0⟩], 0, 0, false, [3, 1, 0, 1, 2]⟩, 0) := by decide +kernel
theorem kn10 : wakeD ⟨[⟨{ data := #[97] }, [97, 98, 99, 100, 101], 3⟩, ⟨{ data := #[98] }, [], 0⟩], 0, 0, false, [3, 1, 0, 1, 2]⟩ [-1] = ⟨[⟨{ data := #[97] }, [97, 98, 99, 100, 101], 5⟩, ⟨{ data := #[98] }, [], 0⟩], 0, 0, false, [3, 1, 0, 1, 2]⟩ := by
  rw [wake_two _ _ _ _ _ _ _ (by decide) (by decide)]
  decide +kernel
theorem kn11 : synD ⟨[⟨{ data := #[97] }, [97, 98, 99, 100, 101], 5⟩, ⟨{ data := #[98] }, [], 0⟩], 0, 0, false, [3, 1, 0, 1, 2]⟩ ({ data := #[97] }) = 5 := by decide +kernel
theorem kn12 : armD ⟨[⟨{ data := #[97] }, [97, 98, 99, 100, 101], 5⟩, ⟨{ data := #[98] }, [], 0⟩], 0, 0, false, [3, 1, 0, 1, 2]⟩ (2) = (⟨[⟨{ data := #[97] }, [97, 98, 99, 100, 101], 5⟩, ⟨{ data := #[98] }, [], 0⟩], 0, 2, false, [3, 1, 0, 1, 2]⟩, 0) := by decide +kernel
theorem kn13 : SyncD ⟨[⟨{ data := #[97] }, [97, 98, 99, 100, 101], 5⟩, ⟨{ data := #[98] }, [], 0⟩], 0, 2, false, [3, 1, 0, 1, 2]⟩ ({ data := #[98] }) = (⟨[⟨{ data := #[97] }, [97, 98, 99, 100, 101], 5⟩, ⟨{ data := #[98] }, [], 0⟩], 0, 1, false, [3, 1, 0, 1, 2, 0]⟩, 0) := by decide +kernel
theorem kn14 : RenameD ⟨[⟨{ data := #[97] }, [97, 98, 99, 100, 101], 5⟩, ⟨{ data := #[98] }, [], 0⟩], 0, 1, false, [3, 1, 0, 1, 2, 0]⟩ ({ data := #[97] }) ({ data := #[98] }) = (⟨[⟨{ data := #[97] }, [97, 98, 99, 100, 101], 5⟩, ⟨{ data := #[98] }, [], 0⟩], 0, 0, true, [3, 1, 0, 1, 2, 0]⟩, 16) := by decide +kernel
theorem kn15 : RemoveD ⟨[⟨{ data := #[97] }, [97, 98, 99, 100, 101], 5⟩, ⟨{ data := #[98] }, [], 0⟩], 0, 0, true, [3, 1, 0, 1, 2, 0]⟩ ({ data := #[97] }) = (⟨[⟨{ data := #[97] }, [97, 98, 99, 100, 101], 5⟩, ⟨{ data := #[98] }, [], 0⟩], 0, 0, true, [3, 1, 0, 1, 2, 0]⟩, 16) := by decide +kernel
theorem kn16 : armD ⟨[⟨{ data := #[97] }, [97, 98, 99, 100, 101], 5⟩, ⟨{ data := #[98] }, [], 0⟩], 0, 0, true, [3, 1, 0, 1, 2, 0]⟩ (1) = (⟨[⟨{ data := #[97] }, [97, 98, 99, 100, 101], 5⟩, ⟨{ data := #[98] }, [], 0⟩], 0, 0, true, [3, 1, 0, 1, 2, 0]⟩, 16) := by decide +kernel
theorem kn17 : synD ⟨[⟨{ data := #[97] }, [97, 98, 99, 100, 101], 5⟩, ⟨{ data := #[98] }, [], 0⟩], 0, 0, true, [3, 1, 0, 1, 2, 0]⟩ ({ data := #[97] }) = 0 := by decide +kernel
theorem kn18 : (listD ⟨[⟨{ data := #[97] }, [97, 98, 99, 100, 101], 5⟩, ⟨{ data := #[98] }, [], 0⟩], 0, 0, true, [3, 1, 0, 1, 2, 0]⟩ { data := #[] }).length = 0 := by
  decide +kernel
theorem kn19 : readD ⟨[⟨{ data := #[97] }, [97, 98, 99, 100, 101], 5⟩, ⟨{ data := #[98] }, [], 0⟩], 0, 0, true, [3, 1, 0, 1, 2, 0]⟩ ({ data := #[97] }) = ({ data := #[] }, 16) := by decide +kernel
theorem kn20 : wakeD ⟨[⟨{ data := #[97] }, [97, 98, 99, 100, 101], 5⟩, ⟨{ data := #[98] }, [], 0⟩], 0, 0, true, [3, 1, 0, 1, 2, 0]⟩ [] = ⟨[⟨{ data := #[97] }, [97, 98, 99, 100, 101], 5⟩, ⟨{ data := #[98] }, [], 0⟩], 0, 0, false, [3, 1, 0, 1, 2, 0]⟩ := by
  rw [wake_two _ _ _ _ _ _ _ (by decide) (by decide)]
  decide +kernel
theorem kn21 : RenameD ⟨[⟨{ data := #[97] }, [97, 98, 99, 100, 101], 5⟩, ⟨{ data := #[98] }, [], 0⟩], 0, 0, false, [3, 1, 0, 1, 2, 0]⟩ ({ data := #[97] }) ({ data := #[98] }) = (⟨[⟨{ data := #[98] }, [97, 98, 99, 100, 101], 5⟩], 0, 0, false, [3, 1, 0, 1, 2, 0, 0]⟩, 0) := by decide +kernel
theorem kn22 : SyncD ⟨[⟨{ data := #[98] }, [97, 98, 99, 100, 101], 5⟩], 0, 0, false, [3, 1, 0, 1, 2, 0, 0]⟩ ({ data := #[97] }) = (⟨[⟨{ data := #[98] }, [97, 98, 99, 100, 101], 5⟩], 0, 0, false, [3, 1, 0, 1, 2, 0, 0]⟩, 5) := by decide +kernel
theorem kn23 : armD ⟨[⟨{ data := #[98] }, [97, 98, 99, 100, 101], 5⟩], 0, 0, false, [3, 1, 0, 1, 2, 0, 0]⟩ (-1) = (⟨[⟨{ data := #[98] }, [97, 98, 99, 100, 101], 5⟩], 0, 0, false, [3, 1, 0, 1, 2, 0, 0]⟩, 2) := by decide +kernel
theorem kn24 : readD ⟨[⟨{ data := #[98] }, [97, 98, 99, 100, 101], 5⟩], 0, 0, false, [3, 1, 0, 1, 2, 0, 0]⟩ ({ data := #[98] }) = ({ data := #[97, 98, 99, 100, 101] }, 0) := by decide +kernel
theorem kn25 : armD ⟨[⟨{ data := #[98] }, [97, 98, 99, 100, 101], 5⟩], 0, 0, false, [3, 1, 0, 1, 2, 0, 0]⟩ (1) = (⟨[⟨{ data := #[98] }, [97, 98, 99, 100, 101], 5⟩], 0, 1, false, [3, 1, 0, 1, 2, 0, 0]⟩, 0) := by decide +kernel
theorem kn26 : armD ⟨[⟨{ data := #[98] }, [97, 98, 99, 100, 101], 5⟩], 0, 1, false, [3, 1, 0, 1, 2, 0, 0]⟩ (0) = (⟨[⟨{ data := #[98] }, [97, 98, 99, 100, 101], 5⟩], 0, 0, false, [3, 1, 0, 1, 2, 0, 0]⟩, 0) := by decide +kernel
theorem kn27 : AppendD ⟨[⟨{ data := #[98] }, [97, 98, 99, 100, 101], 5⟩], 0, 0, false, [3, 1, 0, 1, 2, 0, 0]⟩ ({ data := #[] }) ({ data := #[] }) = (⟨[⟨{ data := #[98] }, [97, 98, 99, 100, 101], 5⟩], 0, 0, false, [3, 1, 0, 1, 2, 0, 0]⟩, 2) := by decide +kernel
theorem kn28 : AppendD ⟨[⟨{ data := #[98] }, [97, 98, 99, 100, 101], 5⟩], 0, 0, false, [3, 1, 0, 1, 2, 0, 0]⟩ lgS ({ data := #[] }) = (⟨[⟨{ data := #[98] }, [97, 98, 99, 100, 101], 5⟩], 0, 0, false, [3, 1, 0, 1, 2, 0, 0]⟩, 2) := by decide +kernel
theorem kn29 : RenameD ⟨[⟨{ data := #[98] }, [97, 98, 99, 100, 101], 5⟩], 0, 0, false, [3, 1, 0, 1, 2, 0, 0]⟩ ({ data := #[98] }) ({ data := #[] }) = (⟨[⟨{ data := #[98] }, [97, 98, 99, 100, 101], 5⟩], 0, 0, false, [3, 1, 0, 1, 2, 0, 0]⟩, 2) := by decide +kernel
theorem kn30 : RenameD ⟨[⟨{ data := #[98] }, [97, 98, 99, 100, 101], 5⟩], 0, 0, false, [3, 1, 0, 1, 2, 0, 0]⟩ ({ data := #[98] }) ({ data := #[98] }) = (⟨[⟨{ data := #[98] }, [97, 98, 99, 100, 101], 5⟩], 0, 0, false, [3, 1, 0, 1, 2, 0, 0, 0]⟩, 0) := by decide +kernel
theorem kn31 : RemoveD ⟨[⟨{ data := #[98] }, [97, 98, 99, 100, 101], 5⟩], 0, 0, false, [3, 1, 0, 1, 2, 0, 0, 0]⟩ ({ data := #[98] }) = (⟨[], 5, 0, false, [3, 1, 0, 1, 2, 0, 0, 0, 0]⟩, 0) := by decide +kernel
theorem kn32 : RemoveD ⟨[], 5, 0, false, [3, 1, 0, 1, 2, 0, 0, 0, 0]⟩ ({ data := #[98] }) = (⟨[], 5, 0, false, [3, 1, 0, 1, 2, 0, 0, 0, 0]⟩, 5) := by decide +kernel
theorem kn33 : AppendD ⟨[], 5, 0, false, [3, 1, 0, 1, 2, 0, 0, 0, 0]⟩ (lgS.extract 0 64) ({ data := #[] }) = (⟨[⟨{ data := #[0, 0, 0, 0, 0, 0, 0, 0, 0, 0, 0, 0, 0, 0, 0, 0, 0, 0, 0, 0, 0, 0, 0, 0, 0, 0, 0, 0, 0, 0, 0, 0, 0, 0, 0, 0, 0, 0, 0, 0, 0, 0, 0, 0, 0, 0, 0, 0, 0, 0, 0, 0, 0, 0, 0, 0, 0, 0, 0, 0, 0, 0, 0, 0] }, [], 0⟩], 5, 0, false, [3, 1, 0, 1, 2, 0, 0, 0, 0, 0]⟩, 0) := by decide +kernel
theorem kn34 : armD ⟨[⟨{ data := #[0, 0, 0, 0, 0, 0, 0, 0, 0, 0, 0, 0, 0, 0, 0, 0, 0, 0, 0, 0, 0, 0, 0, 0, 0, 0, 0, 0, 0, 0, 0, 0, 0, 0, 0, 0, 0, 0, 0, 0, 0, 0, 0, 0, 0, 0, 0, 0, 0, 0, 0, 0, 0, 0, 0, 0, 0, 0, 0, 0, 0, 0, 0, 0] }, [], 0⟩], 5, 0, false, [3, 1, 0, 1, 2, 0, 0, 0, 0, 0]⟩ (1) = (⟨[⟨{ data := #[0, 0, 0, 0, 0, 0, 0, 0, 0, 0, 0, 0, 0, 0, 0, 0, 0, 0, 0, 0, 0, 0, 0, 0, 0, 0, 0, 0, 0, 0, 0, 0, 0, 0, 0, 0, 0, 0, 0, 0, 0, 0, 0, 0, 0, 0, 0, 0, 0, 0, 0, 0, 0, 0, 0, 0, 0, 0, 0, 0, 0, 0, 0, 0] }, [], 0⟩], 5, 1, false, [3, 1, 0, 1, 2, 0, 0, 0, 0, 0]⟩, 0) := by decide +kernel
theorem kn35 : RemoveD ⟨[⟨{ data := #[0, 0, 0, 0, 0, 0, 0, 0, 0, 0, 0, 0, 0, 0, 0, 0, 0, 0, 0, 0, 0, 0, 0, 0, 0, 0, 0, 0, 0, 0, 0, 0, 0, 0, 0, 0, 0, 0, 0, 0, 0, 0, 0, 0, 0, 0, 0, 0, 0, 0, 0, 0, 0, 0, 0, 0, 0, 0, 0, 0, 0, 0, 0, 0] }, [], 0⟩], 5, 1, false, [3, 1, 0, 1, 2, 0, 0, 0, 0, 0]⟩ ({ data := #[110, 111, 98, 111, 100, 121] }) = (⟨[⟨{ data := #[0, 0, 0, 0, 0, 0, 0, 0, 0, 0, 0, 0, 0, 0, 0, 0, 0, 0, 0, 0, 0, 0, 0, 0, 0, 0, 0, 0, 0, 0, 0, 0, 0, 0, 0, 0, 0, 0, 0, 0, 0, 0, 0, 0, 0, 0, 0, 0, 0, 0, 0, 0, 0, 0, 0, 0, 0, 0, 0, 0, 0, 0, 0, 0] }, [], 0⟩], 5, 0, true, [3, 1, 0, 1, 2, 0, 0, 0, 0, 0]⟩, 16) := by decide +kernel
set_option linter.unusedVariables false in
set_option maxRecDepth 100000 in
set_option maxHeartbeats 2000000 in
theorem known_any (w : World) :
    Calls Try.prog 6 #[] w fun e w' => e = .returned (.bool true) ∧ Below w.heap.size w w' := by
  have H0 := HA.start w
  go_enter Try.func6, Try.ntmps6
  refine wp_seq ?_
  refine wl_region ?_
  refine wl_val (.bool false) (by kernel_rfl) (by kernel_rfl) ?_
  refine wl_nil ?_
  refine then_at rfl ?_
  refine wp_seq ?_
  refine wl_region ?_
  refine wl_callx (by kernel_rfl) enter7 #[iN .i64 5] (by kernel_rfl) (New_any 5 H0) ?_
  rintro _ w1 ⟨d, rfl, hD0⟩
  refine ⟨_, rfl, ?_⟩
  have hb0 : DB ⟨[], 5, 0, false, []⟩ 0 0 := new_DB (by decide)
  have hD1 : DH _ _ d ⟨[], 5, 0, false, []⟩ _ _ := hD0
  have hD1 : DH _ _ d (⟨[], 5, 0, false, []⟩) _ _ := hD1
  obtain ⟨z2, X3, hcl4, hbe5, h6⟩ := DH.front hD1
  have h7 : HA z2 X3 w1 := h6
  refine wl_val (.pointer (some ⟨d.q, 0, none⟩)) (by kernel_rfl) (by kernel_rfl) ?_
  refine wl_nil ?_
  refine then_at rfl ?_
  refine wp_seq ?_
  refine wp_seq ?_
  refine wl_region ?_
  refine wl_val (.pointer (some ⟨d.q, 0, none⟩)) (by kernel_rfl) (by kernel_rfl) ?_
  refine wl_val (.bool false) (by kernel_rfl) (by kernel_rfl) ?_
  refine wl_val (.bool false) (by kernel_rfl) (by kernel_rfl) ?_
  refine wl_val (.pointer (some ⟨d.q, 0, none⟩)) (by kernel_rfl) (by kernel_rfl) ?_
  refine wl_callx (by kernel_rfl) enter10 #[.pointer (some ⟨d.q, 0, none⟩), .string ({ data := #[97] }), .string ({ data := #[97, 98, 99] })] (by kernel_rfl) (by have h := Append_any (hcl4 [] _ h7) ({ data := #[97] }) ({ data := #[97, 98, 99] }) hb0 (by decide) (by decide); rw [kn0] at h; exact h) ?_
  rintro _ w10 ⟨rfl, hD8⟩
  refine ⟨_, rfl, ?_⟩
  have hb9 := Append_DB hb0 ({ data := #[97] }) ({ data := #[97, 98, 99] })
  rw [kn0] at hb9
  have hD8 : DH _ _ d (⟨[⟨{ data := #[97] }, [97, 98, 99], 0⟩], 2, 0, false, [3]⟩) _ _ := hD8
  obtain ⟨z11, X12, hcl13, hbe14, h15⟩ := DH.front hD8
  have h16 : HA z11 X12 w10 := h15
  refine wl_val (.bool false) (by kernel_rfl) (run_nei (k := .i64) (a := 0) (b := 0) (by kernel_rfl) (by kernel_rfl) false (by decide)) ?_
  refine wl_val (.bool false) (by kernel_rfl) (by kernel_rfl) ?_
  refine wl_val (.bool false) (by kernel_rfl) (by kernel_rfl) ?_
  refine wl_val (.pointer (some ⟨d.q, 0, none⟩)) (by kernel_rfl) (by kernel_rfl) ?_
  refine wl_callx (by kernel_rfl) enter10 #[.pointer (some ⟨d.q, 0, none⟩), .string ({ data := #[98] }), .string ({ data := #[120, 121, 122] })] (by kernel_rfl) (by have h := Append_any (hcl13 [] _ h16) ({ data := #[98] }) ({ data := #[120, 121, 122] }) hb9 (by decide) (by decide); rw [kn1] at h; exact h) ?_
  rintro _ w19 ⟨rfl, hD17⟩
  refine ⟨_, rfl, ?_⟩
  have hb18 := Append_DB hb9 ({ data := #[98] }) ({ data := #[120, 121, 122] })
  rw [kn1] at hb18
  have hD17 : DH _ _ d (⟨[⟨{ data := #[97] }, [97, 98, 99], 0⟩], 2, 0, false, [3]⟩) _ _ := hD17
  obtain ⟨z20, X21, hcl22, hbe23, h24⟩ := DH.front hD17
  have h25 : HA z20 X21 w19 := h24
  refine wl_val (.bool false) (by kernel_rfl) (run_nei (k := .i64) (a := 7) (b := 7) (by kernel_rfl) (by kernel_rfl) false (by decide)) ?_
  refine wl_val (.bool false) (by kernel_rfl) (by kernel_rfl) ?_
  refine wl_val (.bool false) (by kernel_rfl) (by kernel_rfl) ?_
  refine wl_val (.pointer (some ⟨d.q, 0, none⟩)) (by kernel_rfl) (by kernel_rfl) ?_
  refine wl_callx (by kernel_rfl) enter10 #[.pointer (some ⟨d.q, 0, none⟩), .string ({ data := #[98] }), .string ({ data := #[120] })] (by kernel_rfl) (by have h := Append_any (hcl22 [] _ h25) ({ data := #[98] }) ({ data := #[120] }) hb18 (by decide) (by decide); rw [kn2] at h; exact h) ?_
  rintro _ w28 ⟨rfl, hD26⟩
  refine ⟨_, rfl, ?_⟩
  have hb27 := Append_DB hb18 ({ data := #[98] }) ({ data := #[120] })
  rw [kn2] at hb27
  have hD26 : DH _ _ d (⟨[⟨{ data := #[97] }, [97, 98, 99], 0⟩, ⟨{ data := #[98] }, [120], 0⟩], 1, 0, false, [3, 1]⟩) _ _ := hD26
  obtain ⟨z29, X30, hcl31, hbe32, h33⟩ := DH.front hD26
  have h34 : HA z29 X30 w28 := h33
  refine wl_val (.bool false) (by kernel_rfl) (run_nei (k := .i64) (a := 0) (b := 0) (by kernel_rfl) (by kernel_rfl) false (by decide)) ?_
  refine wl_val (.bool false) (by kernel_rfl) (by kernel_rfl) ?_
  refine wl_val (.bool false) (by kernel_rfl) (by kernel_rfl) ?_
  refine wl_val (.pointer (some ⟨d.q, 0, none⟩)) (by kernel_rfl) (by kernel_rfl) ?_
  refine wl_call (v := iN .i64 1) h34 (by kernel_rfl) enter31 #[.pointer (some ⟨d.q, 0, none⟩)] (by kernel_rfl) (Free_any (hcl31 [] _ h34)) ?_
  intro w35 h36
  refine wl_val (.bool false) (by kernel_rfl) (run_nei (k := .i64) (a := 1) (b := 1) (by kernel_rfl) (by kernel_rfl) false (by decide)) ?_
  refine wl_val (.bool false) (by kernel_rfl) (by kernel_rfl) ?_
  refine wl_nil ?_
  refine then_at rfl ?_
  refine wp_cond_false (by kernel_rfl) ?_
  refine wp_skip ?_
  refine then_at rfl ?_
  refine wp_seq ?_
  refine wp_seq ?_
  refine wl_region ?_
  refine wl_val (.pointer (some ⟨d.q, 0, none⟩)) (by kernel_rfl) (by kernel_rfl) ?_
  refine wl_callx (by kernel_rfl) enter12 #[.pointer (some ⟨d.q, 0, none⟩), .string ({ data := #[97] })] (by kernel_rfl) (by have h := Sync_any (hcl31 [] _ h36) ({ data := #[97] }) hb27 (by decide); rw [kn3] at h; exact h) ?_
  rintro _ w39 ⟨rfl, hD37⟩
  refine ⟨_, rfl, ?_⟩
  have hb38 := Sync_DB hb27 ({ data := #[97] })
  rw [kn3] at hb38
  have hD37 : DH _ _ d (⟨[⟨{ data := #[97] }, [97, 98, 99], 3⟩, ⟨{ data := #[98] }, [120], 0⟩], 1, 0, false, [3, 1, 0]⟩) _ _ := hD37
  obtain ⟨z40, X41, hcl42, hbe43, h44⟩ := DH.front hD37
  have h45 : HA z40 X41 w39 := h44
  refine wl_val (.bool false) (by kernel_rfl) (run_nei (k := .i64) (a := 0) (b := 0) (by kernel_rfl) (by kernel_rfl) false (by decide)) ?_
  refine wl_val (.bool false) (by kernel_rfl) (by kernel_rfl) ?_
  refine wl_val (.pointer (some ⟨d.q, 0, none⟩)) (by kernel_rfl) (by kernel_rfl) ?_
  refine wl_callx (by kernel_rfl) enter10 #[.pointer (some ⟨d.q, 0, none⟩), .string ({ data := #[97] }), .string ({ data := #[100] })] (by kernel_rfl) (by have h := Append_any (hcl42 [] _ h45) ({ data := #[97] }) ({ data := #[100] }) hb38 (by decide) (by decide); rw [kn4] at h; exact h) ?_
  rintro _ w48 ⟨rfl, hD46⟩
  refine ⟨_, rfl, ?_⟩
  have hb47 := Append_DB hb38 ({ data := #[97] }) ({ data := #[100] })
  rw [kn4] at hb47
  have hD46 : DH _ _ d (⟨[⟨{ data := #[97] }, [97, 98, 99, 100], 3⟩, ⟨{ data := #[98] }, [120], 0⟩], 0, 0, false, [3, 1, 0, 1]⟩) _ _ := hD46
  obtain ⟨z49, X50, hcl51, hbe52, h53⟩ := DH.front hD46
  have h54 : HA z49 X50 w48 := h53
  refine wl_val (.bool false) (by kernel_rfl) (run_nei (k := .i64) (a := 0) (b := 0) (by kernel_rfl) (by kernel_rfl) false (by decide)) ?_
  refine wl_val (.bool false) (by kernel_rfl) (by kernel_rfl) ?_
  refine wl_val (.bool false) (by kernel_rfl) (by kernel_rfl) ?_
  refine wl_val (.pointer (some ⟨d.q, 0, none⟩)) (by kernel_rfl) (by kernel_rfl) ?_
  refine wl_callx (by kernel_rfl) enter20 #[.pointer (some ⟨d.q, 0, none⟩), .slice none 0 0] (by kernel_rfl) (by have h := Wake_any (o := none) (c := 0) (ks := []) (hcl51 [] _ h54) (KV.nil _ _ _) (by decide) hb47 (by decide) (by decide); rw [kn5] at h; exact h) ?_
  rintro _ w57 ⟨rfl, hD55⟩
  refine ⟨_, rfl, ?_⟩
  have hb56 := wake_DB hb47 []
  rw [kn5] at hb56
  have hD55 : DH _ _ d (⟨[⟨{ data := #[97] }, [97, 98, 99], 3⟩, ⟨{ data := #[98] }, [], 0⟩], 2, 0, false, [3, 1, 0, 1]⟩) _ _ := hD55
  obtain ⟨z58, X59, hcl60, hbe61, h62⟩ := DH.front hD55
  have h63 : HA z58 X59 w57 := h62
  refine wl_val (.bool false) (by kernel_rfl) (run_nei (k := .i64) (a := 0) (b := 0) (by kernel_rfl) (by kernel_rfl) false (by decide)) ?_
  refine wl_val (.bool false) (by kernel_rfl) (by kernel_rfl) ?_
  refine wl_nil ?_
  refine then_at rfl ?_
  refine wp_cond_false (by kernel_rfl) ?_
  refine wp_skip ?_
  refine then_at (F := ⟨(.bool false :: pt d.q :: un :: un :: un :: un :: un :: un :: un :: un :: un :: un :: un :: pt d.q :: pt d.q :: .bool false :: .bool false :: pt d.q :: iN .i64 0 :: .bool false :: .bool false :: .bool false :: pt d.q :: iN .i64 7 :: .bool false :: .bool false :: .bool false :: pt d.q :: iN .i64 0 :: .bool false :: .bool false :: .bool false :: pt d.q :: iN .i64 1 :: .bool false :: .bool false :: pt d.q :: iN .i64 0 :: .bool false :: .bool false :: pt d.q :: iN .i64 0 :: .bool false :: .bool false :: .bool false :: pt d.q :: iN .i64 0 :: .bool false :: .bool false :: List.replicate 282 un).toArray, []⟩) (by kernel_rfl) ?_
  refine wp_seq ?_
  refine wl_region ?_
  refine wl_val (.pointer (some ⟨d.q, 0, none⟩)) (by kernel_rfl) (by kernel_rfl) ?_
  refine wl_call (v := .tuple #[.string ({ data := #[97, 98, 99] }), iN .i64 0]) h63 (by kernel_rfl) enter23 #[.pointer (some ⟨d.q, 0, none⟩), .string ({ data := #[97] })] (by kernel_rfl) (by have h := Read_any (hcl60 [] _ h63) ({ data := #[97] }); rw [kn6] at h; exact h) ?_
  intro w64 h65
  refine wl_val (.tuple #[.string ({ data := #[97, 98, 99] }), iN .i64 0]) (by kernel_rfl) (by kernel_rfl) ?_
  refine wl_val (.string ({ data := #[97, 98, 99] })) (by kernel_rfl) (by kernel_rfl) ?_
  refine wl_val (iN .i64 0) (by kernel_rfl) (by kernel_rfl) ?_
  refine wl_val (.string ({ data := #[97, 98, 99] })) (by kernel_rfl) (by kernel_rfl) ?_
  refine wl_val (iN .i64 0) (by kernel_rfl) (by kernel_rfl) ?_
  refine wl_nil ?_
  refine then_at rfl ?_
  refine wp_seq ?_
  refine wl_region ?_
  refine wl_val (.pointer (some ⟨d.q, 0, none⟩)) (by kernel_rfl) (by kernel_rfl) ?_
  refine wl_call (v := .tuple #[.string ({ data := #[] }), iN .i64 0]) h65 (by kernel_rfl) enter23 #[.pointer (some ⟨d.q, 0, none⟩), .string ({ data := #[98] })] (by kernel_rfl) (by have h := Read_any (hcl60 [] _ h65) ({ data := #[98] }); rw [kn7] at h; exact h) ?_
  intro w66 h67
  refine wl_val (.tuple #[.string ({ data := #[] }), iN .i64 0]) (by kernel_rfl) (by kernel_rfl) ?_
  refine wl_val (.string ({ data := #[] })) (by kernel_rfl) (by kernel_rfl) ?_
  refine wl_val (iN .i64 0) (by kernel_rfl) (by kernel_rfl) ?_
  refine wl_val (.string ({ data := #[] })) (by kernel_rfl) (by kernel_rfl) ?_
  refine wl_val (iN .i64 0) (by kernel_rfl) (by kernel_rfl) ?_
  refine wl_nil ?_
  refine then_at rfl ?_
  refine wp_seq ?_
  refine wp_seq ?_
  refine wl_region ?_
  refine wl_val (.string ({ data := #[97, 98, 99] })) (by kernel_rfl) (by kernel_rfl) ?_
  refine wl_val (.bool false) (by kernel_rfl) (run_nes (s := { data := #[97, 98, 99] }) (t := { data := #[97, 98, 99] }) (by kernel_rfl) (by kernel_rfl) false (by decide)) ?_
  refine wl_val (.bool false) (by kernel_rfl) (by kernel_rfl) ?_
  refine wl_val (iN .i64 0) (by kernel_rfl) (by kernel_rfl) ?_
  refine wl_val (.bool false) (by kernel_rfl) (run_nei (k := .i64) (a := 0) (b := 0) (by kernel_rfl) (by kernel_rfl) false (by decide)) ?_
  refine wl_val (.bool false) (by kernel_rfl) (by kernel_rfl) ?_
  refine wl_val (.bool false) (by kernel_rfl) (by kernel_rfl) ?_
  refine wl_val (.string ({ data := #[] })) (by kernel_rfl) (by kernel_rfl) ?_
  refine wl_val (.bool false) (by kernel_rfl) (run_nes (s := { data := #[] }) (t := { data := #[] }) (by kernel_rfl) (by kernel_rfl) false (by decide)) ?_
  refine wl_val (.bool false) (by kernel_rfl) (by kernel_rfl) ?_
  refine wl_val (.bool false) (by kernel_rfl) (by kernel_rfl) ?_
  refine wl_val (iN .i64 0) (by kernel_rfl) (by kernel_rfl) ?_
  refine wl_val (.bool false) (by kernel_rfl) (run_nei (k := .i64) (a := 0) (b := 0) (by kernel_rfl) (by kernel_rfl) false (by decide)) ?_
  refine wl_val (.bool false) (by kernel_rfl) (by kernel_rfl) ?_
  refine wl_val (.bool false) (by kernel_rfl) (by kernel_rfl) ?_
  refine wl_val (.pointer (some ⟨d.q, 0, none⟩)) (by kernel_rfl) (by kernel_rfl) ?_
  refine wl_callx (by kernel_rfl) enter29 #[.pointer (some ⟨d.q, 0, none⟩), .string ({ data := #[] })] (by kernel_rfl) (List_any (hcl60 [] _ h67) { data := #[] } hb56 (by decide)) ?_
  rintro _ w74 ⟨vl72, Ll73, rfl, hR70, hLl71⟩
  refine ⟨_, rfl, ?_⟩
  obtain ⟨pl68, cl69, rfl⟩ := hR70.form
  have h75 := HA.keep _ _ h67 hLl71.old.old
  rw [kn8] at hR70 ⊢
  refine wl_val (iN .i64 2) (by kernel_rfl) (by kernel_rfl) ?_
  refine wl_val (.bool false) (by kernel_rfl) (run_nei (k := .i64) (a := 2) (b := 2) (by kernel_rfl) (by kernel_rfl) false (by decide)) ?_
  refine wl_val (.bool false) (by kernel_rfl) (by kernel_rfl) ?_
  refine wl_val (.bool false) (by kernel_rfl) (by kernel_rfl) ?_
  refine wl_val (.pointer (some ⟨d.q, 0, none⟩)) (by kernel_rfl) (by kernel_rfl) ?_
  refine wl_callx (by kernel_rfl) enter10 #[.pointer (some ⟨d.q, 0, none⟩), .string ({ data := #[97] }), .string ({ data := #[100, 101] })] (by kernel_rfl) (by have h := Append_any (hcl60 [] _ h75) ({ data := #[97] }) ({ data := #[100, 101] }) hb56 (by decide) (by decide); rw [kn9] at h; exact h) ?_
  rintro _ w78 ⟨rfl, hD76⟩
  refine ⟨_, rfl, ?_⟩
  have hb77 := Append_DB hb56 ({ data := #[97] }) ({ data := #[100, 101] })
  rw [kn9] at hb77
  have hD76 : DH _ _ d (⟨[⟨{ data := #[97] }, [97, 98, 99, 100, 101], 3⟩, ⟨{ data := #[98] }, [], 0⟩], 0, 0, false, [3, 1, 0, 1, 2]⟩) _ _ := hD76
  obtain ⟨z79, X80, hcl81, hbe82, h83⟩ := DH.front hD76
  have h84 : HA z79 X80 w78 := h83
  refine wl_val (.bool false) (by kernel_rfl) (run_nei (k := .i64) (a := 0) (b := 0) (by kernel_rfl) (by kernel_rfl) false (by decide)) ?_
  refine wl_val (.bool false) (by kernel_rfl) (by kernel_rfl) ?_
  refine wl_val (.bool false) (by kernel_rfl) (by kernel_rfl) ?_
  refine wl_val (.pointer (some ⟨d.q, 0, none⟩)) (by kernel_rfl) (by kernel_rfl) ?_
  refine wl_mks (n := 1) (m := 1) (c := #[.int .i64 (-1)]) h84 3 (by kernel_rfl) (by kernel_rfl) ?_
  intro q85 w86 (h87 : HA z79 ((q85, 3, #[.int .i64 (-1)]) :: X80) w86)
  refine wl_callx (by kernel_rfl) enter20 #[.pointer (some ⟨d.q, 0, none⟩), .slice (some ⟨q85, 0, none⟩) 1 1] (by kernel_rfl) (by have h := Wake_any (o := some ⟨q85, 0, none⟩) (c := 1) (ks := [-1]) (hcl81 [(q85, 3, #[.int .i64 (-1)])] _ h87) (KV.own (cu := #[.int .i64 (-1)]) (by simp) kv_neg) (by decide) hb77 (by decide) (by decide); rw [kn10] at h; exact h) ?_
  rintro _ w90 ⟨rfl, hD88⟩
  refine ⟨_, rfl, ?_⟩
  have hD91 := DH.drop (A := [(q85, 3, #[.int .i64 (-1)])]) hD88
  have hb89 := wake_DB hb77 [-1]
  rw [kn10] at hb89
  have hD91 : DH _ _ d (⟨[⟨{ data := #[97] }, [97, 98, 99, 100, 101], 5⟩, ⟨{ data := #[98] }, [], 0⟩], 0, 0, false, [3, 1, 0, 1, 2]⟩) _ _ := hD91
  obtain ⟨z92, X93, hcl94, hbe95, h96⟩ := DH.front hD91
  have h97 : HA z92 X93 w90 := h96
  refine wl_val (.bool false) (by kernel_rfl) (run_nei (k := .i64) (a := 0) (b := 0) (by kernel_rfl) (by kernel_rfl) false (by decide)) ?_
  refine wl_val (.bool false) (by kernel_rfl) (by kernel_rfl) ?_
  refine wl_val (.bool false) (by kernel_rfl) (by kernel_rfl) ?_
  refine wl_val (.pointer (some ⟨d.q, 0, none⟩)) (by kernel_rfl) (by kernel_rfl) ?_
  refine wl_call (v := iN .i64 5) h97 (by kernel_rfl) enter28 #[.pointer (some ⟨d.q, 0, none⟩), .string ({ data := #[97] })] (by kernel_rfl) (by have h := Synced_any (hcl94 [] _ h97) ({ data := #[97] }); rw [kn11] at h; exact h) ?_
  intro w98 h99
  refine wl_val (.bool false) (by kernel_rfl) (run_nei (k := .i64) (a := 5) (b := 5) (by kernel_rfl) (by kernel_rfl) false (by decide)) ?_
  refine wl_val (.bool false) (by kernel_rfl) (by kernel_rfl) ?_
  refine wl_nil ?_
  refine then_at rfl ?_
  refine wp_cond_false (by kernel_rfl) ?_
  refine wp_skip ?_
  refine then_at rfl ?_
  refine wp_seq ?_
  refine wp_seq ?_
  refine wl_region ?_
  refine wl_val (.pointer (some ⟨d.q, 0, none⟩)) (by kernel_rfl) (by kernel_rfl) ?_
  refine wl_callx (by kernel_rfl) enter18 #[.pointer (some ⟨d.q, 0, none⟩), iN .i64 2] (by kernel_rfl) (by have h := Arm_any (hcl94 [] _ h99) (2); rw [kn12] at h; exact h) ?_
  rintro _ w102 ⟨rfl, hD100⟩
  refine ⟨_, rfl, ?_⟩
  have hb101 := arm_DB hb89 (z := 2) (by decide)
  rw [kn12] at hb101
  have hD100 : DH _ _ d (⟨[⟨{ data := #[97] }, [97, 98, 99, 100, 101], 5⟩, ⟨{ data := #[98] }, [], 0⟩], 0, 2, false, [3, 1, 0, 1, 2]⟩) _ _ := hD100
  obtain ⟨z103, X104, hcl105, hbe106, h107⟩ := DH.front hD100
  have h108 : HA z103 X104 w102 := h107
  refine wl_val (.bool false) (by kernel_rfl) (run_nei (k := .i64) (a := 0) (b := 0) (by kernel_rfl) (by kernel_rfl) false (by decide)) ?_
  refine wl_val (.bool false) (by kernel_rfl) (by kernel_rfl) ?_
  refine wl_val (.pointer (some ⟨d.q, 0, none⟩)) (by kernel_rfl) (by kernel_rfl) ?_
  refine wl_callx (by kernel_rfl) enter12 #[.pointer (some ⟨d.q, 0, none⟩), .string ({ data := #[98] })] (by kernel_rfl) (by have h := Sync_any (hcl105 [] _ h108) ({ data := #[98] }) hb101 (by decide); rw [kn13] at h; exact h) ?_
  rintro _ w111 ⟨rfl, hD109⟩
  refine ⟨_, rfl, ?_⟩
  have hb110 := Sync_DB hb101 ({ data := #[98] })
  rw [kn13] at hb110
  have hD109 : DH _ _ d (⟨[⟨{ data := #[97] }, [97, 98, 99, 100, 101], 5⟩, ⟨{ data := #[98] }, [], 0⟩], 0, 1, false, [3, 1, 0, 1, 2, 0]⟩) _ _ := hD109
  obtain ⟨z112, X113, hcl114, hbe115, h116⟩ := DH.front hD109
  have h117 : HA z112 X113 w111 := h116
  refine wl_val (.bool false) (by kernel_rfl) (run_nei (k := .i64) (a := 0) (b := 0) (by kernel_rfl) (by kernel_rfl) false (by decide)) ?_
  refine wl_val (.bool false) (by kernel_rfl) (by kernel_rfl) ?_
  refine wl_val (.bool false) (by kernel_rfl) (by kernel_rfl) ?_
  refine wl_val (.pointer (some ⟨d.q, 0, none⟩)) (by kernel_rfl) (by kernel_rfl) ?_
  refine wl_callx (by kernel_rfl) enter14 #[.pointer (some ⟨d.q, 0, none⟩), .string ({ data := #[97] }), .string ({ data := #[98] })] (by kernel_rfl) (by have h := Rename_any (hcl114 [] _ h117) ({ data := #[97] }) ({ data := #[98] }) hb110 (by decide); rw [kn14] at h; exact h) ?_
  rintro _ w120 ⟨rfl, hD118⟩
  refine ⟨_, rfl, ?_⟩
  have hb119 := Rename_DB hb110 ({ data := #[97] }) ({ data := #[98] })
  rw [kn14] at hb119
  have hD118 : DH _ _ d (⟨[⟨{ data := #[97] }, [97, 98, 99, 100, 101], 5⟩, ⟨{ data := #[98] }, [], 0⟩], 0, 0, true, [3, 1, 0, 1, 2, 0]⟩) _ _ := hD118
  obtain ⟨z121, X122, hcl123, hbe124, h125⟩ := DH.front hD118
  have h126 : HA z121 X122 w120 := h125
  refine wl_val (.bool false) (by kernel_rfl) (run_nei (k := .i64) (a := 16) (b := 16) (by kernel_rfl) (by kernel_rfl) false (by decide)) ?_
  refine wl_val (.bool false) (by kernel_rfl) (by kernel_rfl) ?_
  refine wl_val (.bool false) (by kernel_rfl) (by kernel_rfl) ?_
  refine wl_val (.pointer (some ⟨d.q, 0, none⟩)) (by kernel_rfl) (by kernel_rfl) ?_
  refine wl_call (v := .bool true) h126 (by kernel_rfl) enter27 #[.pointer (some ⟨d.q, 0, none⟩)] (by kernel_rfl) (Down_any (hcl123 [] _ h126)) ?_
  intro w127 h128
  refine wl_val (.bool false) (by kernel_rfl) (by kernel_rfl) ?_
  refine wl_val (.bool false) (by kernel_rfl) (by kernel_rfl) ?_
  refine wl_val (.bool false) (by kernel_rfl) (by kernel_rfl) ?_
  refine wl_val (.pointer (some ⟨d.q, 0, none⟩)) (by kernel_rfl) (by kernel_rfl) ?_
  refine wl_callx (by kernel_rfl) enter16 #[.pointer (some ⟨d.q, 0, none⟩), .string ({ data := #[97] })] (by kernel_rfl) (by have h := Remove_any (hcl123 [] _ h128) ({ data := #[97] }) hb119 (by decide); rw [kn15] at h; exact h) ?_
  rintro _ w131 ⟨rfl, hD129⟩
  refine ⟨_, rfl, ?_⟩
  have hb130 := Remove_DB hb119 ({ data := #[97] })
  rw [kn15] at hb130
  have hD129 : DH _ _ d (⟨[⟨{ data := #[97] }, [97, 98, 99, 100, 101], 5⟩, ⟨{ data := #[98] }, [], 0⟩], 0, 0, true, [3, 1, 0, 1, 2, 0]⟩) _ _ := hD129
  obtain ⟨z132, X133, hcl134, hbe135, h136⟩ := DH.front hD129
  have h137 : HA z132 X133 w131 := h136
  refine wl_val (.bool false) (by kernel_rfl) (run_nei (k := .i64) (a := 16) (b := 16) (by kernel_rfl) (by kernel_rfl) false (by decide)) ?_
  refine wl_val (.bool false) (by kernel_rfl) (by kernel_rfl) ?_
  refine wl_val (.bool false) (by kernel_rfl) (by kernel_rfl) ?_
  refine wl_val (.pointer (some ⟨d.q, 0, none⟩)) (by kernel_rfl) (by kernel_rfl) ?_
  refine wl_callx (by kernel_rfl) enter18 #[.pointer (some ⟨d.q, 0, none⟩), iN .i64 1] (by kernel_rfl) (by have h := Arm_any (hcl134 [] _ h137) (1); rw [kn16] at h; exact h) ?_
  rintro _ w140 ⟨rfl, hD138⟩
  refine ⟨_, rfl, ?_⟩
  have hb139 := arm_DB hb130 (z := 1) (by decide)
  rw [kn16] at hb139
  have hD138 : DH _ _ d (⟨[⟨{ data := #[97] }, [97, 98, 99, 100, 101], 5⟩, ⟨{ data := #[98] }, [], 0⟩], 0, 0, true, [3, 1, 0, 1, 2, 0]⟩) _ _ := hD138
  obtain ⟨z141, X142, hcl143, hbe144, h145⟩ := DH.front hD138
  have h146 : HA z141 X142 w140 := h145
  refine wl_val (.bool false) (by kernel_rfl) (run_nei (k := .i64) (a := 16) (b := 16) (by kernel_rfl) (by kernel_rfl) false (by decide)) ?_
  refine wl_val (.bool false) (by kernel_rfl) (by kernel_rfl) ?_
  refine wl_val (.bool false) (by kernel_rfl) (by kernel_rfl) ?_
  refine wl_val (.pointer (some ⟨d.q, 0, none⟩)) (by kernel_rfl) (by kernel_rfl) ?_
  refine wl_call (v := iN .i64 0) h146 (by kernel_rfl) enter31 #[.pointer (some ⟨d.q, 0, none⟩)] (by kernel_rfl) (Free_any (hcl143 [] _ h146)) ?_
  intro w147 h148
  refine wl_val (.bool false) (by kernel_rfl) (run_nei (k := .i64) (a := 0) (b := 0) (by kernel_rfl) (by kernel_rfl) false (by decide)) ?_
  refine wl_val (.bool false) (by kernel_rfl) (by kernel_rfl) ?_
  refine wl_val (.bool false) (by kernel_rfl) (by kernel_rfl) ?_
  refine wl_val (.pointer (some ⟨d.q, 0, none⟩)) (by kernel_rfl) (by kernel_rfl) ?_
  refine wl_call (v := iN .i64 0) h148 (by kernel_rfl) enter28 #[.pointer (some ⟨d.q, 0, none⟩), .string ({ data := #[97] })] (by kernel_rfl) (by have h := Synced_any (hcl143 [] _ h148) ({ data := #[97] }); rw [kn17] at h; exact h) ?_
  intro w149 h150
  refine wl_val (.bool false) (by kernel_rfl) (run_nei (k := .i64) (a := 0) (b := 0) (by kernel_rfl) (by kernel_rfl) false (by decide)) ?_
  refine wl_val (.bool false) (by kernel_rfl) (by kernel_rfl) ?_
  refine wl_val (.bool false) (by kernel_rfl) (by kernel_rfl) ?_
  refine wl_val (.pointer (some ⟨d.q, 0, none⟩)) (by kernel_rfl) (by kernel_rfl) ?_
  refine wl_callx (by kernel_rfl) enter29 #[.pointer (some ⟨d.q, 0, none⟩), .string ({ data := #[] })] (by kernel_rfl) (List_any (hcl143 [] _ h150) { data := #[] } hb139 (by decide)) ?_
  rintro _ w157 ⟨vl155, Ll156, rfl, hR153, hLl154⟩
  refine ⟨_, rfl, ?_⟩
  obtain ⟨pl151, cl152, rfl⟩ := hR153.form
  have h158 := HA.keep _ _ h150 hLl154.old.old
  rw [kn18] at hR153 ⊢
  refine wl_val (iN .i64 0) (by kernel_rfl) (by kernel_rfl) ?_
  refine wl_val (.bool false) (by kernel_rfl) (run_nei (k := .i64) (a := 0) (b := 0) (by kernel_rfl) (by kernel_rfl) false (by decide)) ?_
  refine wl_val (.bool false) (by kernel_rfl) (by kernel_rfl) ?_
  refine wl_nil ?_
  refine then_at rfl ?_
  refine wp_cond_false (by kernel_rfl) ?_
  refine wp_skip ?_
  refine then_at (F := ⟨(.bool false :: pt d.q :: .string ({ data := #[97, 98, 99] }) :: iN .i64 0 :: .string ({ data := #[] }) :: iN .i64 0 :: un :: un :: un :: un :: un :: un :: un :: pt d.q :: pt d.q :: .bool false :: .bool false :: pt d.q :: iN .i64 0 :: .bool false :: .bool false :: .bool false :: pt d.q :: iN .i64 7 :: .bool false :: .bool false :: .bool false :: pt d.q :: iN .i64 0 :: .bool false :: .bool false :: .bool false :: pt d.q :: iN .i64 1 :: .bool false :: .bool false :: pt d.q :: iN .i64 0 :: .bool false :: .bool false :: pt d.q :: iN .i64 0 :: .bool false :: .bool false :: .bool false :: pt d.q :: iN .i64 0 :: .bool false :: .bool false :: .tuple #[.string ({ data := #[97, 98, 99] }), iN .i64 0] :: pt d.q :: .tuple #[.string ({ data := #[97, 98, 99] }), iN .i64 0] :: .string ({ data := #[97, 98, 99] }) :: iN .i64 0 :: .tuple #[.string ({ data := #[] }), iN .i64 0] :: pt d.q :: .tuple #[.string ({ data := #[] }), iN .i64 0] :: .string ({ data := #[] }) :: iN .i64 0 :: .string ({ data := #[97, 98, 99] }) :: .bool false :: .bool false :: iN .i64 0 :: .bool false :: .bool false :: .bool false :: .string ({ data := #[] }) :: .bool false :: .bool false :: .bool false :: iN .i64 0 :: .bool false :: .bool false :: .bool false :: pt d.q :: .slice pl68 2 cl69 :: iN .i64 2 :: .bool false :: .bool false :: .bool false :: pt d.q :: iN .i64 0 :: .bool false :: .bool false :: .bool false :: pt d.q :: .slice (some ⟨q85, 0, none⟩) 1 1 :: iN .i64 0 :: .bool false :: .bool false :: .bool false :: pt d.q :: iN .i64 5 :: .bool false :: .bool false :: pt d.q :: iN .i64 0 :: .bool false :: .bool false :: pt d.q :: iN .i64 0 :: .bool false :: .bool false :: .bool false :: pt d.q :: iN .i64 16 :: .bool false :: .bool false :: .bool false :: pt d.q :: .bool true :: .bool false :: .bool false :: .bool false :: pt d.q :: iN .i64 16 :: .bool false :: .bool false :: .bool false :: pt d.q :: iN .i64 16 :: .bool false :: .bool false :: .bool false :: pt d.q :: iN .i64 0 :: .bool false :: .bool false :: .bool false :: pt d.q :: iN .i64 0 :: .bool false :: .bool false :: .bool false :: pt d.q :: .slice pl151 0 cl152 :: iN .i64 0 :: .bool false :: .bool false :: List.replicate 192 un).toArray, []⟩) (by kernel_rfl) ?_
  refine wp_seq ?_
  refine wl_region ?_
  refine wl_val (.pointer (some ⟨d.q, 0, none⟩)) (by kernel_rfl) (by kernel_rfl) ?_
  refine wl_call (v := .tuple #[.string ({ data := #[] }), iN .i64 16]) h158 (by kernel_rfl) enter23 #[.pointer (some ⟨d.q, 0, none⟩), .string ({ data := #[97] })] (by kernel_rfl) (by have h := Read_any (hcl143 [] _ h158) ({ data := #[97] }); rw [kn19] at h; exact h) ?_
  intro w159 h160
  refine wl_val (.tuple #[.string ({ data := #[] }), iN .i64 16]) (by kernel_rfl) (by kernel_rfl) ?_
  refine wl_val (.string ({ data := #[] })) (by kernel_rfl) (by kernel_rfl) ?_
  refine wl_val (iN .i64 16) (by kernel_rfl) (by kernel_rfl) ?_
  refine wl_val (iN .i64 16) (by kernel_rfl) (by kernel_rfl) ?_
  refine wl_nil ?_
  refine then_at rfl ?_
  refine wp_seq ?_
  refine wp_seq ?_
  refine wl_region ?_
  refine wl_val (iN .i64 16) (by kernel_rfl) (by kernel_rfl) ?_
  refine wl_val (.bool false) (by kernel_rfl) (run_nei (k := .i64) (a := 16) (b := 16) (by kernel_rfl) (by kernel_rfl) false (by decide)) ?_
  refine wl_val (.bool false) (by kernel_rfl) (by kernel_rfl) ?_
  refine wl_val (.pointer (some ⟨d.q, 0, none⟩)) (by kernel_rfl) (by kernel_rfl) ?_
  refine wl_callx (by kernel_rfl) enter20 #[.pointer (some ⟨d.q, 0, none⟩), .slice none 0 0] (by kernel_rfl) (by have h := Wake_any (o := none) (c := 0) (ks := []) (hcl143 [] _ h160) (KV.nil _ _ _) (by decide) hb139 (by decide) (by decide); rw [kn20] at h; exact h) ?_
  rintro _ w163 ⟨rfl, hD161⟩
  refine ⟨_, rfl, ?_⟩
  have hb162 := wake_DB hb139 []
  rw [kn20] at hb162
  have hD161 : DH _ _ d (⟨[⟨{ data := #[97] }, [97, 98, 99, 100, 101], 5⟩, ⟨{ data := #[98] }, [], 0⟩], 0, 0, false, [3, 1, 0, 1, 2, 0]⟩) _ _ := hD161
  obtain ⟨z164, X165, hcl166, hbe167, h168⟩ := DH.front hD161
  have h169 : HA z164 X165 w163 := h168
  refine wl_val (.bool false) (by kernel_rfl) (run_nei (k := .i64) (a := 0) (b := 0) (by kernel_rfl) (by kernel_rfl) false (by decide)) ?_
  refine wl_val (.bool false) (by kernel_rfl) (by kernel_rfl) ?_
  refine wl_val (.bool false) (by kernel_rfl) (by kernel_rfl) ?_
  refine wl_val (.pointer (some ⟨d.q, 0, none⟩)) (by kernel_rfl) (by kernel_rfl) ?_
  refine wl_callx (by kernel_rfl) enter14 #[.pointer (some ⟨d.q, 0, none⟩), .string ({ data := #[97] }), .string ({ data := #[98] })] (by kernel_rfl) (by have h := Rename_any (hcl166 [] _ h169) ({ data := #[97] }) ({ data := #[98] }) hb162 (by decide); rw [kn21] at h; exact h) ?_
  rintro _ w172 ⟨rfl, hD170⟩
  refine ⟨_, rfl, ?_⟩
  have hb171 := Rename_DB hb162 ({ data := #[97] }) ({ data := #[98] })
  rw [kn21] at hb171
  have hD170 : DH _ _ d (⟨[⟨{ data := #[98] }, [97, 98, 99, 100, 101], 5⟩], 0, 0, false, [3, 1, 0, 1, 2, 0, 0]⟩) _ _ := hD170
  obtain ⟨z173, X174, hcl175, hbe176, h177⟩ := DH.front hD170
  have h178 : HA z173 X174 w172 := h177
  refine wl_val (.bool false) (by kernel_rfl) (run_nei (k := .i64) (a := 0) (b := 0) (by kernel_rfl) (by kernel_rfl) false (by decide)) ?_
  refine wl_val (.bool false) (by kernel_rfl) (by kernel_rfl) ?_
  refine wl_val (.bool false) (by kernel_rfl) (by kernel_rfl) ?_
  refine wl_val (.pointer (some ⟨d.q, 0, none⟩)) (by kernel_rfl) (by kernel_rfl) ?_
  refine wl_callx (by kernel_rfl) enter12 #[.pointer (some ⟨d.q, 0, none⟩), .string ({ data := #[97] })] (by kernel_rfl) (by have h := Sync_any (hcl175 [] _ h178) ({ data := #[97] }) hb171 (by decide); rw [kn22] at h; exact h) ?_
  rintro _ w181 ⟨rfl, hD179⟩
  refine ⟨_, rfl, ?_⟩
  have hb180 := Sync_DB hb171 ({ data := #[97] })
  rw [kn22] at hb180
  have hD179 : DH _ _ d (⟨[⟨{ data := #[98] }, [97, 98, 99, 100, 101], 5⟩], 0, 0, false, [3, 1, 0, 1, 2, 0, 0]⟩) _ _ := hD179
  obtain ⟨z182, X183, hcl184, hbe185, h186⟩ := DH.front hD179
  have h187 : HA z182 X183 w181 := h186
  refine wl_val (.bool false) (by kernel_rfl) (run_nei (k := .i64) (a := 5) (b := 5) (by kernel_rfl) (by kernel_rfl) false (by decide)) ?_
  refine wl_val (.bool false) (by kernel_rfl) (by kernel_rfl) ?_
  refine wl_val (.bool false) (by kernel_rfl) (by kernel_rfl) ?_
  refine wl_val (.pointer (some ⟨d.q, 0, none⟩)) (by kernel_rfl) (by kernel_rfl) ?_
  refine wl_callx (by kernel_rfl) enter18 #[.pointer (some ⟨d.q, 0, none⟩), .int .i64 (-1)] (by kernel_rfl) (by have h := Arm_any (hcl184 [] _ h187) (-1); rw [kn23] at h; exact h) ?_
  rintro _ w190 ⟨rfl, hD188⟩
  refine ⟨_, rfl, ?_⟩
  have hb189 := arm_DB hb180 (z := -1) (by decide)
  rw [kn23] at hb189
  have hD188 : DH _ _ d (⟨[⟨{ data := #[98] }, [97, 98, 99, 100, 101], 5⟩], 0, 0, false, [3, 1, 0, 1, 2, 0, 0]⟩) _ _ := hD188
  obtain ⟨z191, X192, hcl193, hbe194, h195⟩ := DH.front hD188
  have h196 : HA z191 X192 w190 := h195
  refine wl_val (.bool false) (by kernel_rfl) (run_nei (k := .i64) (a := 2) (b := 2) (by kernel_rfl) (by kernel_rfl) false (by decide)) ?_
  refine wl_val (.bool false) (by kernel_rfl) (by kernel_rfl) ?_
  refine wl_nil ?_
  refine then_at rfl ?_
  refine wp_cond_false (by kernel_rfl) ?_
  refine wp_skip ?_
  refine then_at rfl ?_
  refine wp_seq ?_
  refine wl_region ?_
  refine wl_val (.pointer (some ⟨d.q, 0, none⟩)) (by kernel_rfl) (by kernel_rfl) ?_
  refine wl_call (v := .tuple #[.string ({ data := #[97, 98, 99, 100, 101] }), iN .i64 0]) h196 (by kernel_rfl) enter23 #[.pointer (some ⟨d.q, 0, none⟩), .string ({ data := #[98] })] (by kernel_rfl) (by have h := Read_any (hcl193 [] _ h196) ({ data := #[98] }); rw [kn24] at h; exact h) ?_
  intro w197 h198
  refine wl_val (.tuple #[.string ({ data := #[97, 98, 99, 100, 101] }), iN .i64 0]) (by kernel_rfl) (by kernel_rfl) ?_
  refine wl_val (.string ({ data := #[97, 98, 99, 100, 101] })) (by kernel_rfl) (by kernel_rfl) ?_
  refine wl_val (iN .i64 0) (by kernel_rfl) (by kernel_rfl) ?_
  refine wl_val (.string ({ data := #[97, 98, 99, 100, 101] })) (by kernel_rfl) (by kernel_rfl) ?_
  refine wl_nil ?_
  refine then_at rfl ?_
  refine wp_seq ?_
  refine wl_region ?_
  refine wl_mks (n := 7) (m := 7) (c := #[iN .i64 3, iN .i64 1, iN .i64 0, iN .i64 1, iN .i64 2, iN .i64 0, iN .i64 0]) h198 3 (by kernel_rfl) (by kernel_rfl) ?_
  intro q199 w200 (h201 : HA z191 ((q199, 3, #[iN .i64 3, iN .i64 1, iN .i64 0, iN .i64 1, iN .i64 2, iN .i64 0, iN .i64 0]) :: X192) w200)
  refine wl_val (.slice (some ⟨q199, 0, none⟩) 7 7) (by kernel_rfl) (by kernel_rfl) ?_
  refine wl_nil ?_
  refine then_at rfl ?_
  refine wp_seq ?_
  refine wl_region ?_
  refine wl_val (.pointer (some ⟨d.q, 0, none⟩)) (by kernel_rfl) (by kernel_rfl) ?_
  refine wl_callx (by kernel_rfl) enter30 #[.pointer (some ⟨d.q, 0, none⟩)] (by kernel_rfl) (Sizes_any (hcl193 [(q199, 3, #[iN .i64 3, iN .i64 1, iN .i64 0, iN .i64 1, iN .i64 2, iN .i64 0, iN .i64 0])] _ h201) (by decide)) ?_
  rintro _ w202 ⟨vs, rfl, hos, hbs⟩
  refine ⟨_, rfl, ?_⟩
  obtain ⟨Ls, hRs, hHs⟩ := HA.owned h201 hbs hos
  obtain ⟨ps, cs, rfl⟩ := hRs.form
  obtain ⟨gs, cus, hps, hLs, _⟩ := hRs.at (k := 0) (by decide)
  subst hps hLs
  have hct : cus.toList.take 7 = [iN .i64 3, iN .i64 1, iN .i64 0, iN .i64 1, iN .i64 2, iN .i64 0, iN .i64 0] := by
    rcases hRs.2 with ⟨h1, _⟩ | ⟨g2, c2, u2, h1, h2, _, _, _, h6⟩
    · cases h1
    · simp only [List.cons.injEq, Prod.mk.injEq, and_true, true_and] at h2
      rw [h2.2]
      exact h6
  have h203 : HA z191 ((gs, 3, cus) :: (q199, 3, #[iN .i64 3, iN .i64 1, iN .i64 0, iN .i64 1, iN .i64 2, iN .i64 0, iN .i64 0]) :: X192) w202 := hHs
  refine wl_val (.slice (some ⟨gs, 0, none⟩) 7 cs) (by kernel_rfl) (by kernel_rfl) ?_
  refine wl_nil ?_
  refine then_at (F := ⟨(.bool false :: pt d.q :: .string ({ data := #[97, 98, 99] }) :: iN .i64 16 :: .string ({ data := #[97, 98, 99, 100, 101] }) :: iN .i64 0 :: .slice (some ⟨q199, 0, none⟩) 7 7 :: .slice (some ⟨gs, 0, none⟩) 7 cs :: un :: un :: un :: un :: un :: pt d.q :: pt d.q :: .bool false :: .bool false :: pt d.q :: iN .i64 0 :: .bool false :: .bool false :: .bool false :: pt d.q :: iN .i64 7 :: .bool false :: .bool false :: .bool false :: pt d.q :: iN .i64 0 :: .bool false :: .bool false :: .bool false :: pt d.q :: iN .i64 1 :: .bool false :: .bool false :: pt d.q :: iN .i64 0 :: .bool false :: .bool false :: pt d.q :: iN .i64 0 :: .bool false :: .bool false :: .bool false :: pt d.q :: iN .i64 0 :: .bool false :: .bool false :: .tuple #[.string ({ data := #[97, 98, 99] }), iN .i64 0] :: pt d.q :: .tuple #[.string ({ data := #[97, 98, 99] }), iN .i64 0] :: .string ({ data := #[97, 98, 99] }) :: iN .i64 0 :: .tuple #[.string ({ data := #[] }), iN .i64 0] :: pt d.q :: .tuple #[.string ({ data := #[] }), iN .i64 0] :: .string ({ data := #[] }) :: iN .i64 0 :: .string ({ data := #[97, 98, 99] }) :: .bool false :: .bool false :: iN .i64 0 :: .bool false :: .bool false :: .bool false :: .string ({ data := #[] }) :: .bool false :: .bool false :: .bool false :: iN .i64 0 :: .bool false :: .bool false :: .bool false :: pt d.q :: .slice pl68 2 cl69 :: iN .i64 2 :: .bool false :: .bool false :: .bool false :: pt d.q :: iN .i64 0 :: .bool false :: .bool false :: .bool false :: pt d.q :: .slice (some ⟨q85, 0, none⟩) 1 1 :: iN .i64 0 :: .bool false :: .bool false :: .bool false :: pt d.q :: iN .i64 5 :: .bool false :: .bool false :: pt d.q :: iN .i64 0 :: .bool false :: .bool false :: pt d.q :: iN .i64 0 :: .bool false :: .bool false :: .bool false :: pt d.q :: iN .i64 16 :: .bool false :: .bool false :: .bool false :: pt d.q :: .bool true :: .bool false :: .bool false :: .bool false :: pt d.q :: iN .i64 16 :: .bool false :: .bool false :: .bool false :: pt d.q :: iN .i64 16 :: .bool false :: .bool false :: .bool false :: pt d.q :: iN .i64 0 :: .bool false :: .bool false :: .bool false :: pt d.q :: iN .i64 0 :: .bool false :: .bool false :: .bool false :: pt d.q :: .slice pl151 0 cl152 :: iN .i64 0 :: .bool false :: .bool false :: .tuple #[.string ({ data := #[] }), iN .i64 16] :: pt d.q :: .tuple #[.string ({ data := #[] }), iN .i64 16] :: .string ({ data := #[] }) :: iN .i64 16 :: iN .i64 16 :: .bool false :: .bool false :: pt d.q :: iN .i64 0 :: .bool false :: .bool false :: .bool false :: pt d.q :: iN .i64 0 :: .bool false :: .bool false :: .bool false :: pt d.q :: iN .i64 5 :: .bool false :: .bool false :: .bool false :: pt d.q :: iN .i64 2 :: .bool false :: .bool false :: .tuple #[.string ({ data := #[97, 98, 99, 100, 101] }), iN .i64 0] :: pt d.q :: .tuple #[.string ({ data := #[97, 98, 99, 100, 101] }), iN .i64 0] :: .string ({ data := #[97, 98, 99, 100, 101] }) :: iN .i64 0 :: .slice (some ⟨q199, 0, none⟩) 7 7 :: pt d.q :: .slice (some ⟨gs, 0, none⟩) 7 cs :: List.replicate 157 un).toArray, []⟩) (by kernel_rfl) ?_
  refine wp_seq ?_
  refine wp_seq ?_
  refine wl_region ?_
  refine wl_val (.string ({ data := #[97, 98, 99, 100, 101] })) (by kernel_rfl) (by kernel_rfl) ?_
  refine wl_val (.bool false) (by kernel_rfl) (run_nes (s := { data := #[97, 98, 99, 100, 101] }) (t := { data := #[97, 98, 99, 100, 101] }) (by kernel_rfl) (by kernel_rfl) false (by decide)) ?_
  refine wl_val (.bool false) (by kernel_rfl) (by kernel_rfl) ?_
  refine wl_val (.slice (some ⟨gs, 0, none⟩) 7 cs) (by kernel_rfl) (by kernel_rfl) ?_
  refine wl_val (iN .i64 7) (by kernel_rfl) (by kernel_rfl) ?_
  refine wl_val (.slice (some ⟨q199, 0, none⟩) 7 7) (by kernel_rfl) (by kernel_rfl) ?_
  refine wl_val (iN .i64 7) (by kernel_rfl) (by kernel_rfl) ?_
  refine wl_val (.bool false) (by kernel_rfl) (run_nei (k := .i64) (a := 7) (b := 7) (by kernel_rfl) (by kernel_rfl) false (by decide)) ?_
  refine wl_val (.bool false) (by kernel_rfl) (by kernel_rfl) ?_
  refine wl_nil ?_
  refine then_at rfl ?_
  refine wp_cond_false (by kernel_rfl) ?_
  refine wp_skip ?_
  refine then_at rfl ?_
  refine wp_seq ?_
  refine wp_seq ?_
  refine wl_region ?_
  refine wl_val (iN .i64 0) (by kernel_rfl) (by kernel_rfl) ?_
  refine wl_nil ?_
  refine then_at rfl ?_
  refine wp_block ?_
  refine wp_loop_rounds 8 ?_
  try rw [rounds_succ]
  refine wp_seq ?_
  refine wp_seq ?_
  refine wl_region ?_
  refine wl_val (iN .i64 0) (by kernel_rfl) (by kernel_rfl) ?_
  refine wl_val (.slice (some ⟨q199, 0, none⟩) 7 7) (by kernel_rfl) (by kernel_rfl) ?_
  refine wl_val (iN .i64 7) (by kernel_rfl) (by kernel_rfl) ?_
  refine wl_val (.bool true) (by kernel_rfl) (run_lss (k := .i64) (a := 0) (b := 7) (by kernel_rfl) (by kernel_rfl) true (by decide)) ?_
  refine wl_nil ?_
  refine then_at rfl ?_
  refine wp_cond_true (by kernel_rfl) ?_
  refine wp_skip ?_
  refine then_at rfl ?_
  refine wp_seq ?_
  refine wp_block ?_
  refine wp_seq ?_
  refine wp_region_sure ⟨(.bool false :: pt d.q :: .string ({ data := #[97, 98, 99] }) :: iN .i64 16 :: .string ({ data := #[97, 98, 99, 100, 101] }) :: iN .i64 0 :: .slice (some ⟨q199, 0, none⟩) 7 7 :: .slice (some ⟨gs, 0, none⟩) 7 cs :: iN .i64 0 :: un :: un :: un :: un :: pt d.q :: pt d.q :: .bool false :: .bool false :: pt d.q :: iN .i64 0 :: .bool false :: .bool false :: .bool false :: pt d.q :: iN .i64 7 :: .bool false :: .bool false :: .bool false :: pt d.q :: iN .i64 0 :: .bool false :: .bool false :: .bool false :: pt d.q :: iN .i64 1 :: .bool false :: .bool false :: pt d.q :: iN .i64 0 :: .bool false :: .bool false :: pt d.q :: iN .i64 0 :: .bool false :: .bool false :: .bool false :: pt d.q :: iN .i64 0 :: .bool false :: .bool false :: .tuple #[.string ({ data := #[97, 98, 99] }), iN .i64 0] :: pt d.q :: .tuple #[.string ({ data := #[97, 98, 99] }), iN .i64 0] :: .string ({ data := #[97, 98, 99] }) :: iN .i64 0 :: .tuple #[.string ({ data := #[] }), iN .i64 0] :: pt d.q :: .tuple #[.string ({ data := #[] }), iN .i64 0] :: .string ({ data := #[] }) :: iN .i64 0 :: .string ({ data := #[97, 98, 99] }) :: .bool false :: .bool false :: iN .i64 0 :: .bool false :: .bool false :: .bool false :: .string ({ data := #[] }) :: .bool false :: .bool false :: .bool false :: iN .i64 0 :: .bool false :: .bool false :: .bool false :: pt d.q :: .slice pl68 2 cl69 :: iN .i64 2 :: .bool false :: .bool false :: .bool false :: pt d.q :: iN .i64 0 :: .bool false :: .bool false :: .bool false :: pt d.q :: .slice (some ⟨q85, 0, none⟩) 1 1 :: iN .i64 0 :: .bool false :: .bool false :: .bool false :: pt d.q :: iN .i64 5 :: .bool false :: .bool false :: pt d.q :: iN .i64 0 :: .bool false :: .bool false :: pt d.q :: iN .i64 0 :: .bool false :: .bool false :: .bool false :: pt d.q :: iN .i64 16 :: .bool false :: .bool false :: .bool false :: pt d.q :: .bool true :: .bool false :: .bool false :: .bool false :: pt d.q :: iN .i64 16 :: .bool false :: .bool false :: .bool false :: pt d.q :: iN .i64 16 :: .bool false :: .bool false :: .bool false :: pt d.q :: iN .i64 0 :: .bool false :: .bool false :: .bool false :: pt d.q :: iN .i64 0 :: .bool false :: .bool false :: .bool false :: pt d.q :: .slice pl151 0 cl152 :: iN .i64 0 :: .bool false :: .bool false :: .tuple #[.string ({ data := #[] }), iN .i64 16] :: pt d.q :: .tuple #[.string ({ data := #[] }), iN .i64 16] :: .string ({ data := #[] }) :: iN .i64 16 :: iN .i64 16 :: .bool false :: .bool false :: pt d.q :: iN .i64 0 :: .bool false :: .bool false :: .bool false :: pt d.q :: iN .i64 0 :: .bool false :: .bool false :: .bool false :: pt d.q :: iN .i64 5 :: .bool false :: .bool false :: .bool false :: pt d.q :: iN .i64 2 :: .bool false :: .bool false :: .tuple #[.string ({ data := #[97, 98, 99, 100, 101] }), iN .i64 0] :: pt d.q :: .tuple #[.string ({ data := #[97, 98, 99, 100, 101] }), iN .i64 0] :: .string ({ data := #[97, 98, 99, 100, 101] }) :: iN .i64 0 :: .slice (some ⟨q199, 0, none⟩) 7 7 :: pt d.q :: .slice (some ⟨gs, 0, none⟩) 7 cs :: .string ({ data := #[97, 98, 99, 100, 101] }) :: .bool false :: .bool false :: .slice (some ⟨gs, 0, none⟩) 7 cs :: iN .i64 7 :: .slice (some ⟨q199, 0, none⟩) 7 7 :: iN .i64 7 :: .bool false :: .bool false :: iN .i64 0 :: .slice (some ⟨q199, 0, none⟩) 7 7 :: iN .i64 7 :: .bool true :: un :: un :: .slice (some ⟨gs, 0, none⟩) 7 cs :: iN .i64 0 :: pt gs :: iN .i64 3 :: .slice (some ⟨q199, 0, none⟩) 7 7 :: iN .i64 0 :: pt q199 :: iN .i64 3 :: .bool false :: List.replicate 133 un).toArray, []⟩ (HA z191 ((gs, 3, cus) :: (q199, 3, #[iN .i64 3, iN .i64 1, iN .i64 0, iN .i64 1, iN .i64 2, iN .i64 0, iN .i64 0]) :: X192)) [.slice (some ⟨gs, 0, none⟩) 7 cs, iN .i64 0, .pointer (some ⟨gs, 0, none⟩), iN .i64 3, .slice (some ⟨q199, 0, none⟩) 7 7, iN .i64 0, .pointer (some ⟨q199, 0, none⟩), iN .i64 3, .bool false] (by kernel_rfl) (by kernel_rfl) (by kernel_rfl) (by kernel_rfl) (fun _ _ _ h => h) h203.drew ?_ ?_
  · refine AllSure.cons (OpSure.take (v := .slice (some ⟨gs, 0, none⟩) 7 cs) (by kernel_rfl) (by kernel_rfl) (fun _ _ => (by kernel_rfl))) ?_
    refine AllSure.cons (OpSure.take (v := iN .i64 0) (by kernel_rfl) (by kernel_rfl) (fun _ _ => (by kernel_rfl))) ?_
    refine AllSure.cons (OpSure.take (v := .pointer (some ⟨gs, 0, none⟩)) (by kernel_rfl) (by kernel_rfl) (fun _ _ => (run_addr_slice (q := gs) (n := 7) (m := cs) (a := 0) Try.underlying26 (fun w => Try.sizeOf3 w) (by kernel_rfl) (by kernel_rfl) (by decide)))) ?_
    refine AllSure.cons (OpSure.take (v := iN .i64 3) (by kernel_rfl) (by kernel_rfl) (fun w' h' => run_load1 (fun w => Try.isAgg3 w) (by kernel_rfl) (((h'.get 0 rfl).cell 0).trans (take_get hct 0 (by decide))))) ?_
    refine AllSure.cons (OpSure.take (v := .slice (some ⟨q199, 0, none⟩) 7 7) (by kernel_rfl) (by kernel_rfl) (fun _ _ => (by kernel_rfl))) ?_
    refine AllSure.cons (OpSure.take (v := iN .i64 0) (by kernel_rfl) (by kernel_rfl) (fun _ _ => (by kernel_rfl))) ?_
    refine AllSure.cons (OpSure.take (v := .pointer (some ⟨q199, 0, none⟩)) (by kernel_rfl) (by kernel_rfl) (fun _ _ => (run_addr_slice (q := q199) (n := 7) (m := 7) (a := 0) Try.underlying26 (fun w => Try.sizeOf3 w) (by kernel_rfl) (by kernel_rfl) (by decide)))) ?_
    refine AllSure.cons (OpSure.take (v := iN .i64 3) (by kernel_rfl) (by kernel_rfl) (fun w' h' => run_load1 (fun w => Try.isAgg3 w) (by kernel_rfl) (((h'.get 1 rfl).cell 0).trans rfl))) ?_
    refine AllSure.cons (OpSure.take (v := .bool false) (by kernel_rfl) (by kernel_rfl) (fun _ _ => (run_nei (k := .i64) (a := 3) (b := 3) (by kernel_rfl) (by kernel_rfl) false (by decide)))) ?_
    exact AllSure.nil
  intro w204 h205
  refine then_at (F := ⟨(.bool false :: pt d.q :: .string ({ data := #[97, 98, 99] }) :: iN .i64 16 :: .string ({ data := #[97, 98, 99, 100, 101] }) :: iN .i64 0 :: .slice (some ⟨q199, 0, none⟩) 7 7 :: .slice (some ⟨gs, 0, none⟩) 7 cs :: iN .i64 0 :: un :: un :: un :: un :: pt d.q :: pt d.q :: .bool false :: .bool false :: pt d.q :: iN .i64 0 :: .bool false :: .bool false :: .bool false :: pt d.q :: iN .i64 7 :: .bool false :: .bool false :: .bool false :: pt d.q :: iN .i64 0 :: .bool false :: .bool false :: .bool false :: pt d.q :: iN .i64 1 :: .bool false :: .bool false :: pt d.q :: iN .i64 0 :: .bool false :: .bool false :: pt d.q :: iN .i64 0 :: .bool false :: .bool false :: .bool false :: pt d.q :: iN .i64 0 :: .bool false :: .bool false :: .tuple #[.string ({ data := #[97, 98, 99] }), iN .i64 0] :: pt d.q :: .tuple #[.string ({ data := #[97, 98, 99] }), iN .i64 0] :: .string ({ data := #[97, 98, 99] }) :: iN .i64 0 :: .tuple #[.string ({ data := #[] }), iN .i64 0] :: pt d.q :: .tuple #[.string ({ data := #[] }), iN .i64 0] :: .string ({ data := #[] }) :: iN .i64 0 :: .string ({ data := #[97, 98, 99] }) :: .bool false :: .bool false :: iN .i64 0 :: .bool false :: .bool false :: .bool false :: .string ({ data := #[] }) :: .bool false :: .bool false :: .bool false :: iN .i64 0 :: .bool false :: .bool false :: .bool false :: pt d.q :: .slice pl68 2 cl69 :: iN .i64 2 :: .bool false :: .bool false :: .bool false :: pt d.q :: iN .i64 0 :: .bool false :: .bool false :: .bool false :: pt d.q :: .slice (some ⟨q85, 0, none⟩) 1 1 :: iN .i64 0 :: .bool false :: .bool false :: .bool false :: pt d.q :: iN .i64 5 :: .bool false :: .bool false :: pt d.q :: iN .i64 0 :: .bool false :: .bool false :: pt d.q :: iN .i64 0 :: .bool false :: .bool false :: .bool false :: pt d.q :: iN .i64 16 :: .bool false :: .bool false :: .bool false :: pt d.q :: .bool true :: .bool false :: .bool false :: .bool false :: pt d.q :: iN .i64 16 :: .bool false :: .bool false :: .bool false :: pt d.q :: iN .i64 16 :: .bool false :: .bool false :: .bool false :: pt d.q :: iN .i64 0 :: .bool false :: .bool false :: .bool false :: pt d.q :: iN .i64 0 :: .bool false :: .bool false :: .bool false :: pt d.q :: .slice pl151 0 cl152 :: iN .i64 0 :: .bool false :: .bool false :: .tuple #[.string ({ data := #[] }), iN .i64 16] :: pt d.q :: .tuple #[.string ({ data := #[] }), iN .i64 16] :: .string ({ data := #[] }) :: iN .i64 16 :: iN .i64 16 :: .bool false :: .bool false :: pt d.q :: iN .i64 0 :: .bool false :: .bool false :: .bool false :: pt d.q :: iN .i64 0 :: .bool false :: .bool false :: .bool false :: pt d.q :: iN .i64 5 :: .bool false :: .bool false :: .bool false :: pt d.q :: iN .i64 2 :: .bool false :: .bool false :: .tuple #[.string ({ data := #[97, 98, 99, 100, 101] }), iN .i64 0] :: pt d.q :: .tuple #[.string ({ data := #[97, 98, 99, 100, 101] }), iN .i64 0] :: .string ({ data := #[97, 98, 99, 100, 101] }) :: iN .i64 0 :: .slice (some ⟨q199, 0, none⟩) 7 7 :: pt d.q :: .slice (some ⟨gs, 0, none⟩) 7 cs :: .string ({ data := #[97, 98, 99, 100, 101] }) :: .bool false :: .bool false :: .slice (some ⟨gs, 0, none⟩) 7 cs :: iN .i64 7 :: .slice (some ⟨q199, 0, none⟩) 7 7 :: iN .i64 7 :: .bool false :: .bool false :: iN .i64 0 :: .slice (some ⟨q199, 0, none⟩) 7 7 :: iN .i64 7 :: .bool true :: un :: un :: .slice (some ⟨gs, 0, none⟩) 7 cs :: iN .i64 0 :: pt gs :: iN .i64 3 :: .slice (some ⟨q199, 0, none⟩) 7 7 :: iN .i64 0 :: pt q199 :: iN .i64 3 :: .bool false :: List.replicate 133 un).toArray, []⟩) (by kernel_rfl) ?_
  refine wp_cond_false (by kernel_rfl) ?_
  refine wp_skip ?_
  refine block_normal ?_
  refine then_at rfl ?_
  refine wl_region ?_
  refine wl_val (iN .i64 0) (by kernel_rfl) (by kernel_rfl) ?_
  refine wl_val (iN .i64 (0 + 1)) (by kernel_rfl) (run_add (k := .i64) (a := 0) (b := 1) (by kernel_rfl) (by kernel_rfl) (by decide)) ?_
  refine wl_val (iN .i64 (0 + 1)) (by kernel_rfl) (by kernel_rfl) ?_
  refine wl_nil ?_
  refine then_at rfl ?_
  try rw [rounds_succ]
  refine wp_seq ?_
  refine wp_seq ?_
  refine wl_region ?_
  refine wl_val (iN .i64 (0 + 1)) (by kernel_rfl) (by kernel_rfl) ?_
  refine wl_val (.slice (some ⟨q199, 0, none⟩) 7 7) (by kernel_rfl) (by kernel_rfl) ?_
  refine wl_val (iN .i64 7) (by kernel_rfl) (by kernel_rfl) ?_
  refine wl_val (.bool true) (by kernel_rfl) (run_lss (k := .i64) (a := 0 + 1) (b := 7) (by kernel_rfl) (by kernel_rfl) true (by decide)) ?_
  refine wl_nil ?_
  refine then_at rfl ?_
  refine wp_cond_true (by kernel_rfl) ?_
  refine wp_skip ?_
  refine then_at rfl ?_
  refine wp_seq ?_
  refine wp_block ?_
  refine wp_seq ?_
  refine wp_region_sure ⟨(.bool false :: pt d.q :: .string ({ data := #[97, 98, 99] }) :: iN .i64 16 :: .string ({ data := #[97, 98, 99, 100, 101] }) :: iN .i64 0 :: .slice (some ⟨q199, 0, none⟩) 7 7 :: .slice (some ⟨gs, 0, none⟩) 7 cs :: iN .i64 (0 + 1) :: un :: un :: un :: un :: pt d.q :: pt d.q :: .bool false :: .bool false :: pt d.q :: iN .i64 0 :: .bool false :: .bool false :: .bool false :: pt d.q :: iN .i64 7 :: .bool false :: .bool false :: .bool false :: pt d.q :: iN .i64 0 :: .bool false :: .bool false :: .bool false :: pt d.q :: iN .i64 1 :: .bool false :: .bool false :: pt d.q :: iN .i64 0 :: .bool false :: .bool false :: pt d.q :: iN .i64 0 :: .bool false :: .bool false :: .bool false :: pt d.q :: iN .i64 0 :: .bool false :: .bool false :: .tuple #[.string ({ data := #[97, 98, 99] }), iN .i64 0] :: pt d.q :: .tuple #[.string ({ data := #[97, 98, 99] }), iN .i64 0] :: .string ({ data := #[97, 98, 99] }) :: iN .i64 0 :: .tuple #[.string ({ data := #[] }), iN .i64 0] :: pt d.q :: .tuple #[.string ({ data := #[] }), iN .i64 0] :: .string ({ data := #[] }) :: iN .i64 0 :: .string ({ data := #[97, 98, 99] }) :: .bool false :: .bool false :: iN .i64 0 :: .bool false :: .bool false :: .bool false :: .string ({ data := #[] }) :: .bool false :: .bool false :: .bool false :: iN .i64 0 :: .bool false :: .bool false :: .bool false :: pt d.q :: .slice pl68 2 cl69 :: iN .i64 2 :: .bool false :: .bool false :: .bool false :: pt d.q :: iN .i64 0 :: .bool false :: .bool false :: .bool false :: pt d.q :: .slice (some ⟨q85, 0, none⟩) 1 1 :: iN .i64 0 :: .bool false :: .bool false :: .bool false :: pt d.q :: iN .i64 5 :: .bool false :: .bool false :: pt d.q :: iN .i64 0 :: .bool false :: .bool false :: pt d.q :: iN .i64 0 :: .bool false :: .bool false :: .bool false :: pt d.q :: iN .i64 16 :: .bool false :: .bool false :: .bool false :: pt d.q :: .bool true :: .bool false :: .bool false :: .bool false :: pt d.q :: iN .i64 16 :: .bool false :: .bool false :: .bool false :: pt d.q :: iN .i64 16 :: .bool false :: .bool false :: .bool false :: pt d.q :: iN .i64 0 :: .bool false :: .bool false :: .bool false :: pt d.q :: iN .i64 0 :: .bool false :: .bool false :: .bool false :: pt d.q :: .slice pl151 0 cl152 :: iN .i64 0 :: .bool false :: .bool false :: .tuple #[.string ({ data := #[] }), iN .i64 16] :: pt d.q :: .tuple #[.string ({ data := #[] }), iN .i64 16] :: .string ({ data := #[] }) :: iN .i64 16 :: iN .i64 16 :: .bool false :: .bool false :: pt d.q :: iN .i64 0 :: .bool false :: .bool false :: .bool false :: pt d.q :: iN .i64 0 :: .bool false :: .bool false :: .bool false :: pt d.q :: iN .i64 5 :: .bool false :: .bool false :: .bool false :: pt d.q :: iN .i64 2 :: .bool false :: .bool false :: .tuple #[.string ({ data := #[97, 98, 99, 100, 101] }), iN .i64 0] :: pt d.q :: .tuple #[.string ({ data := #[97, 98, 99, 100, 101] }), iN .i64 0] :: .string ({ data := #[97, 98, 99, 100, 101] }) :: iN .i64 0 :: .slice (some ⟨q199, 0, none⟩) 7 7 :: pt d.q :: .slice (some ⟨gs, 0, none⟩) 7 cs :: .string ({ data := #[97, 98, 99, 100, 101] }) :: .bool false :: .bool false :: .slice (some ⟨gs, 0, none⟩) 7 cs :: iN .i64 7 :: .slice (some ⟨q199, 0, none⟩) 7 7 :: iN .i64 7 :: .bool false :: .bool false :: iN .i64 (0 + 1) :: .slice (some ⟨q199, 0, none⟩) 7 7 :: iN .i64 7 :: .bool true :: iN .i64 0 :: iN .i64 (0 + 1) :: .slice (some ⟨gs, 0, none⟩) 7 cs :: iN .i64 (0 + 1) :: .pointer (some ⟨gs, 0 + 1, none⟩) :: iN .i64 1 :: .slice (some ⟨q199, 0, none⟩) 7 7 :: iN .i64 (0 + 1) :: .pointer (some ⟨q199, 0 + 1, none⟩) :: iN .i64 1 :: .bool false :: List.replicate 133 un).toArray, []⟩ (HA z191 ((gs, 3, cus) :: (q199, 3, #[iN .i64 3, iN .i64 1, iN .i64 0, iN .i64 1, iN .i64 2, iN .i64 0, iN .i64 0]) :: X192)) [.slice (some ⟨gs, 0, none⟩) 7 cs, iN .i64 (0 + 1), .pointer (some ⟨gs, 0 + 1, none⟩), iN .i64 1, .slice (some ⟨q199, 0, none⟩) 7 7, iN .i64 (0 + 1), .pointer (some ⟨q199, 0 + 1, none⟩), iN .i64 1, .bool false] (by kernel_rfl) (by kernel_rfl) (by kernel_rfl) (by kernel_rfl) (fun _ _ _ h => h) h205.drew ?_ ?_
  · refine AllSure.cons (OpSure.take (v := .slice (some ⟨gs, 0, none⟩) 7 cs) (by kernel_rfl) (by kernel_rfl) (fun _ _ => (by kernel_rfl))) ?_
    refine AllSure.cons (OpSure.take (v := iN .i64 (0 + 1)) (by kernel_rfl) (by kernel_rfl) (fun _ _ => (by kernel_rfl))) ?_
    refine AllSure.cons (OpSure.take (v := .pointer (some ⟨gs, 0 + 1, none⟩)) (by kernel_rfl) (by kernel_rfl) (fun _ _ => (run_addr_slice (q := gs) (n := 7) (m := cs) (a := 0 + 1) Try.underlying26 (fun w => Try.sizeOf3 w) (by kernel_rfl) (by kernel_rfl) (by decide)))) ?_
    refine AllSure.cons (OpSure.take (v := iN .i64 1) (by kernel_rfl) (by kernel_rfl) (fun w' h' => run_load1 (fun w => Try.isAgg3 w) (by kernel_rfl) (((h'.get 0 rfl).cell (0 + 1)).trans (take_get hct (0 + 1) (by decide))))) ?_
    refine AllSure.cons (OpSure.take (v := .slice (some ⟨q199, 0, none⟩) 7 7) (by kernel_rfl) (by kernel_rfl) (fun _ _ => (by kernel_rfl))) ?_
    refine AllSure.cons (OpSure.take (v := iN .i64 (0 + 1)) (by kernel_rfl) (by kernel_rfl) (fun _ _ => (by kernel_rfl))) ?_
    refine AllSure.cons (OpSure.take (v := .pointer (some ⟨q199, 0 + 1, none⟩)) (by kernel_rfl) (by kernel_rfl) (fun _ _ => (run_addr_slice (q := q199) (n := 7) (m := 7) (a := 0 + 1) Try.underlying26 (fun w => Try.sizeOf3 w) (by kernel_rfl) (by kernel_rfl) (by decide)))) ?_
    refine AllSure.cons (OpSure.take (v := iN .i64 1) (by kernel_rfl) (by kernel_rfl) (fun w' h' => run_load1 (fun w => Try.isAgg3 w) (by kernel_rfl) (((h'.get 1 rfl).cell (0 + 1)).trans rfl))) ?_
    refine AllSure.cons (OpSure.take (v := .bool false) (by kernel_rfl) (by kernel_rfl) (fun _ _ => (run_nei (k := .i64) (a := 1) (b := 1) (by kernel_rfl) (by kernel_rfl) false (by decide)))) ?_
    exact AllSure.nil
  intro w206 h207
  refine then_at rfl ?_
  refine wp_cond_false (by kernel_rfl) ?_
  refine wp_skip ?_
  refine block_normal ?_
  refine then_at (F := ⟨(.bool false :: pt d.q :: .string ({ data := #[97, 98, 99] }) :: iN .i64 16 :: .string ({ data := #[97, 98, 99, 100, 101] }) :: iN .i64 0 :: .slice (some ⟨q199, 0, none⟩) 7 7 :: .slice (some ⟨gs, 0, none⟩) 7 cs :: iN .i64 (0 + 1) :: un :: un :: un :: un :: pt d.q :: pt d.q :: .bool false :: .bool false :: pt d.q :: iN .i64 0 :: .bool false :: .bool false :: .bool false :: pt d.q :: iN .i64 7 :: .bool false :: .bool false :: .bool false :: pt d.q :: iN .i64 0 :: .bool false :: .bool false :: .bool false :: pt d.q :: iN .i64 1 :: .bool false :: .bool false :: pt d.q :: iN .i64 0 :: .bool false :: .bool false :: pt d.q :: iN .i64 0 :: .bool false :: .bool false :: .bool false :: pt d.q :: iN .i64 0 :: .bool false :: .bool false :: .tuple #[.string ({ data := #[97, 98, 99] }), iN .i64 0] :: pt d.q :: .tuple #[.string ({ data := #[97, 98, 99] }), iN .i64 0] :: .string ({ data := #[97, 98, 99] }) :: iN .i64 0 :: .tuple #[.string ({ data := #[] }), iN .i64 0] :: pt d.q :: .tuple #[.string ({ data := #[] }), iN .i64 0] :: .string ({ data := #[] }) :: iN .i64 0 :: .string ({ data := #[97, 98, 99] }) :: .bool false :: .bool false :: iN .i64 0 :: .bool false :: .bool false :: .bool false :: .string ({ data := #[] }) :: .bool false :: .bool false :: .bool false :: iN .i64 0 :: .bool false :: .bool false :: .bool false :: pt d.q :: .slice pl68 2 cl69 :: iN .i64 2 :: .bool false :: .bool false :: .bool false :: pt d.q :: iN .i64 0 :: .bool false :: .bool false :: .bool false :: pt d.q :: .slice (some ⟨q85, 0, none⟩) 1 1 :: iN .i64 0 :: .bool false :: .bool false :: .bool false :: pt d.q :: iN .i64 5 :: .bool false :: .bool false :: pt d.q :: iN .i64 0 :: .bool false :: .bool false :: pt d.q :: iN .i64 0 :: .bool false :: .bool false :: .bool false :: pt d.q :: iN .i64 16 :: .bool false :: .bool false :: .bool false :: pt d.q :: .bool true :: .bool false :: .bool false :: .bool false :: pt d.q :: iN .i64 16 :: .bool false :: .bool false :: .bool false :: pt d.q :: iN .i64 16 :: .bool false :: .bool false :: .bool false :: pt d.q :: iN .i64 0 :: .bool false :: .bool false :: .bool false :: pt d.q :: iN .i64 0 :: .bool false :: .bool false :: .bool false :: pt d.q :: .slice pl151 0 cl152 :: iN .i64 0 :: .bool false :: .bool false :: .tuple #[.string ({ data := #[] }), iN .i64 16] :: pt d.q :: .tuple #[.string ({ data := #[] }), iN .i64 16] :: .string ({ data := #[] }) :: iN .i64 16 :: iN .i64 16 :: .bool false :: .bool false :: pt d.q :: iN .i64 0 :: .bool false :: .bool false :: .bool false :: pt d.q :: iN .i64 0 :: .bool false :: .bool false :: .bool false :: pt d.q :: iN .i64 5 :: .bool false :: .bool false :: .bool false :: pt d.q :: iN .i64 2 :: .bool false :: .bool false :: .tuple #[.string ({ data := #[97, 98, 99, 100, 101] }), iN .i64 0] :: pt d.q :: .tuple #[.string ({ data := #[97, 98, 99, 100, 101] }), iN .i64 0] :: .string ({ data := #[97, 98, 99, 100, 101] }) :: iN .i64 0 :: .slice (some ⟨q199, 0, none⟩) 7 7 :: pt d.q :: .slice (some ⟨gs, 0, none⟩) 7 cs :: .string ({ data := #[97, 98, 99, 100, 101] }) :: .bool false :: .bool false :: .slice (some ⟨gs, 0, none⟩) 7 cs :: iN .i64 7 :: .slice (some ⟨q199, 0, none⟩) 7 7 :: iN .i64 7 :: .bool false :: .bool false :: iN .i64 (0 + 1) :: .slice (some ⟨q199, 0, none⟩) 7 7 :: iN .i64 7 :: .bool true :: iN .i64 0 :: iN .i64 (0 + 1) :: .slice (some ⟨gs, 0, none⟩) 7 cs :: iN .i64 (0 + 1) :: .pointer (some ⟨gs, 0 + 1, none⟩) :: iN .i64 1 :: .slice (some ⟨q199, 0, none⟩) 7 7 :: iN .i64 (0 + 1) :: .pointer (some ⟨q199, 0 + 1, none⟩) :: iN .i64 1 :: .bool false :: List.replicate 133 un).toArray, []⟩) (by kernel_rfl) ?_
  refine wl_region ?_
  refine wl_val (iN .i64 (0 + 1)) (by kernel_rfl) (by kernel_rfl) ?_
  refine wl_val (iN .i64 ((0 + 1) + 1)) (by kernel_rfl) (run_add (k := .i64) (a := 0 + 1) (b := 1) (by kernel_rfl) (by kernel_rfl) (by decide)) ?_
  refine wl_val (iN .i64 ((0 + 1) + 1)) (by kernel_rfl) (by kernel_rfl) ?_
  refine wl_nil ?_
  refine then_at rfl ?_
  try rw [rounds_succ]
  refine wp_seq ?_
  refine wp_seq ?_
  refine wl_region ?_
  refine wl_val (iN .i64 ((0 + 1) + 1)) (by kernel_rfl) (by kernel_rfl) ?_
  refine wl_val (.slice (some ⟨q199, 0, none⟩) 7 7) (by kernel_rfl) (by kernel_rfl) ?_
  refine wl_val (iN .i64 7) (by kernel_rfl) (by kernel_rfl) ?_
  refine wl_val (.bool true) (by kernel_rfl) (run_lss (k := .i64) (a := (0 + 1) + 1) (b := 7) (by kernel_rfl) (by kernel_rfl) true (by decide)) ?_
  refine wl_nil ?_
  refine then_at rfl ?_
  refine wp_cond_true (by kernel_rfl) ?_
  refine wp_skip ?_
  refine then_at rfl ?_
  refine wp_seq ?_
  refine wp_block ?_
  refine wp_seq ?_
  refine wp_region_sure ⟨(.bool false :: pt d.q :: .string ({ data := #[97, 98, 99] }) :: iN .i64 16 :: .string ({ data := #[97, 98, 99, 100, 101] }) :: iN .i64 0 :: .slice (some ⟨q199, 0, none⟩) 7 7 :: .slice (some ⟨gs, 0, none⟩) 7 cs :: iN .i64 ((0 + 1) + 1) :: un :: un :: un :: un :: pt d.q :: pt d.q :: .bool false :: .bool false :: pt d.q :: iN .i64 0 :: .bool false :: .bool false :: .bool false :: pt d.q :: iN .i64 7 :: .bool false :: .bool false :: .bool false :: pt d.q :: iN .i64 0 :: .bool false :: .bool false :: .bool false :: pt d.q :: iN .i64 1 :: .bool false :: .bool false :: pt d.q :: iN .i64 0 :: .bool false :: .bool false :: pt d.q :: iN .i64 0 :: .bool false :: .bool false :: .bool false :: pt d.q :: iN .i64 0 :: .bool false :: .bool false :: .tuple #[.string ({ data := #[97, 98, 99] }), iN .i64 0] :: pt d.q :: .tuple #[.string ({ data := #[97, 98, 99] }), iN .i64 0] :: .string ({ data := #[97, 98, 99] }) :: iN .i64 0 :: .tuple #[.string ({ data := #[] }), iN .i64 0] :: pt d.q :: .tuple #[.string ({ data := #[] }), iN .i64 0] :: .string ({ data := #[] }) :: iN .i64 0 :: .string ({ data := #[97, 98, 99] }) :: .bool false :: .bool false :: iN .i64 0 :: .bool false :: .bool false :: .bool false :: .string ({ data := #[] }) :: .bool false :: .bool false :: .bool false :: iN .i64 0 :: .bool false :: .bool false :: .bool false :: pt d.q :: .slice pl68 2 cl69 :: iN .i64 2 :: .bool false :: .bool false :: .bool false :: pt d.q :: iN .i64 0 :: .bool false :: .bool false :: .bool false :: pt d.q :: .slice (some ⟨q85, 0, none⟩) 1 1 :: iN .i64 0 :: .bool false :: .bool false :: .bool false :: pt d.q :: iN .i64 5 :: .bool false :: .bool false :: pt d.q :: iN .i64 0 :: .bool false :: .bool false :: pt d.q :: iN .i64 0 :: .bool false :: .bool false :: .bool false :: pt d.q :: iN .i64 16 :: .bool false :: .bool false :: .bool false :: pt d.q :: .bool true :: .bool false :: .bool false :: .bool false :: pt d.q :: iN .i64 16 :: .bool false :: .bool false :: .bool false :: pt d.q :: iN .i64 16 :: .bool false :: .bool false :: .bool false :: pt d.q :: iN .i64 0 :: .bool false :: .bool false :: .bool false :: pt d.q :: iN .i64 0 :: .bool false :: .bool false :: .bool false :: pt d.q :: .slice pl151 0 cl152 :: iN .i64 0 :: .bool false :: .bool false :: .tuple #[.string ({ data := #[] }), iN .i64 16] :: pt d.q :: .tuple #[.string ({ data := #[] }), iN .i64 16] :: .string ({ data := #[] }) :: iN .i64 16 :: iN .i64 16 :: .bool false :: .bool false :: pt d.q :: iN .i64 0 :: .bool false :: .bool false :: .bool false :: pt d.q :: iN .i64 0 :: .bool false :: .bool false :: .bool false :: pt d.q :: iN .i64 5 :: .bool false :: .bool false :: .bool false :: pt d.q :: iN .i64 2 :: .bool false :: .bool false :: .tuple #[.string ({ data := #[97, 98, 99, 100, 101] }), iN .i64 0] :: pt d.q :: .tuple #[.string ({ data := #[97, 98, 99, 100, 101] }), iN .i64 0] :: .string ({ data := #[97, 98, 99, 100, 101] }) :: iN .i64 0 :: .slice (some ⟨q199, 0, none⟩) 7 7 :: pt d.q :: .slice (some ⟨gs, 0, none⟩) 7 cs :: .string ({ data := #[97, 98, 99, 100, 101] }) :: .bool false :: .bool false :: .slice (some ⟨gs, 0, none⟩) 7 cs :: iN .i64 7 :: .slice (some ⟨q199, 0, none⟩) 7 7 :: iN .i64 7 :: .bool false :: .bool false :: iN .i64 ((0 + 1) + 1) :: .slice (some ⟨q199, 0, none⟩) 7 7 :: iN .i64 7 :: .bool true :: iN .i64 (0 + 1) :: iN .i64 ((0 + 1) + 1) :: .slice (some ⟨gs, 0, none⟩) 7 cs :: iN .i64 ((0 + 1) + 1) :: .pointer (some ⟨gs, (0 + 1) + 1, none⟩) :: iN .i64 0 :: .slice (some ⟨q199, 0, none⟩) 7 7 :: iN .i64 ((0 + 1) + 1) :: .pointer (some ⟨q199, (0 + 1) + 1, none⟩) :: iN .i64 0 :: .bool false :: List.replicate 133 un).toArray, []⟩ (HA z191 ((gs, 3, cus) :: (q199, 3, #[iN .i64 3, iN .i64 1, iN .i64 0, iN .i64 1, iN .i64 2, iN .i64 0, iN .i64 0]) :: X192)) [.slice (some ⟨gs, 0, none⟩) 7 cs, iN .i64 ((0 + 1) + 1), .pointer (some ⟨gs, (0 + 1) + 1, none⟩), iN .i64 0, .slice (some ⟨q199, 0, none⟩) 7 7, iN .i64 ((0 + 1) + 1), .pointer (some ⟨q199, (0 + 1) + 1, none⟩), iN .i64 0, .bool false] (by kernel_rfl) (by kernel_rfl) (by kernel_rfl) (by kernel_rfl) (fun _ _ _ h => h) h207.drew ?_ ?_
  · refine AllSure.cons (OpSure.take (v := .slice (some ⟨gs, 0, none⟩) 7 cs) (by kernel_rfl) (by kernel_rfl) (fun _ _ => (by kernel_rfl))) ?_
    refine AllSure.cons (OpSure.take (v := iN .i64 ((0 + 1) + 1)) (by kernel_rfl) (by kernel_rfl) (fun _ _ => (by kernel_rfl))) ?_
    refine AllSure.cons (OpSure.take (v := .pointer (some ⟨gs, (0 + 1) + 1, none⟩)) (by kernel_rfl) (by kernel_rfl) (fun _ _ => (run_addr_slice (q := gs) (n := 7) (m := cs) (a := (0 + 1) + 1) Try.underlying26 (fun w => Try.sizeOf3 w) (by kernel_rfl) (by kernel_rfl) (by decide)))) ?_
    refine AllSure.cons (OpSure.take (v := iN .i64 0) (by kernel_rfl) (by kernel_rfl) (fun w' h' => run_load1 (fun w => Try.isAgg3 w) (by kernel_rfl) (((h'.get 0 rfl).cell ((0 + 1) + 1)).trans (take_get hct ((0 + 1) + 1) (by decide))))) ?_
    refine AllSure.cons (OpSure.take (v := .slice (some ⟨q199, 0, none⟩) 7 7) (by kernel_rfl) (by kernel_rfl) (fun _ _ => (by kernel_rfl))) ?_
    refine AllSure.cons (OpSure.take (v := iN .i64 ((0 + 1) + 1)) (by kernel_rfl) (by kernel_rfl) (fun _ _ => (by kernel_rfl))) ?_
    refine AllSure.cons (OpSure.take (v := .pointer (some ⟨q199, (0 + 1) + 1, none⟩)) (by kernel_rfl) (by kernel_rfl) (fun _ _ => (run_addr_slice (q := q199) (n := 7) (m := 7) (a := (0 + 1) + 1) Try.underlying26 (fun w => Try.sizeOf3 w) (by kernel_rfl) (by kernel_rfl) (by decide)))) ?_
    refine AllSure.cons (OpSure.take (v := iN .i64 0) (by kernel_rfl) (by kernel_rfl) (fun w' h' => run_load1 (fun w => Try.isAgg3 w) (by kernel_rfl) (((h'.get 1 rfl).cell ((0 + 1) + 1)).trans rfl))) ?_
    refine AllSure.cons (OpSure.take (v := .bool false) (by kernel_rfl) (by kernel_rfl) (fun _ _ => (run_nei (k := .i64) (a := 0) (b := 0) (by kernel_rfl) (by kernel_rfl) false (by decide)))) ?_
    exact AllSure.nil
  intro w208 h209
  refine then_at rfl ?_
  refine wp_cond_false (by kernel_rfl) ?_
  refine wp_skip ?_
  refine block_normal ?_
  refine then_at rfl ?_
  refine wl_region ?_
  refine wl_val (iN .i64 ((0 + 1) + 1)) (by kernel_rfl) (by kernel_rfl) ?_
  refine wl_val (iN .i64 (((0 + 1) + 1) + 1)) (by kernel_rfl) (run_add (k := .i64) (a := (0 + 1) + 1) (b := 1) (by kernel_rfl) (by kernel_rfl) (by decide)) ?_
  refine wl_val (iN .i64 (((0 + 1) + 1) + 1)) (by kernel_rfl) (by kernel_rfl) ?_
  refine wl_nil ?_
  refine then_at (F := ⟨(.bool false :: pt d.q :: .string ({ data := #[97, 98, 99] }) :: iN .i64 16 :: .string ({ data := #[97, 98, 99, 100, 101] }) :: iN .i64 0 :: .slice (some ⟨q199, 0, none⟩) 7 7 :: .slice (some ⟨gs, 0, none⟩) 7 cs :: iN .i64 (((0 + 1) + 1) + 1) :: un :: un :: un :: un :: pt d.q :: pt d.q :: .bool false :: .bool false :: pt d.q :: iN .i64 0 :: .bool false :: .bool false :: .bool false :: pt d.q :: iN .i64 7 :: .bool false :: .bool false :: .bool false :: pt d.q :: iN .i64 0 :: .bool false :: .bool false :: .bool false :: pt d.q :: iN .i64 1 :: .bool false :: .bool false :: pt d.q :: iN .i64 0 :: .bool false :: .bool false :: pt d.q :: iN .i64 0 :: .bool false :: .bool false :: .bool false :: pt d.q :: iN .i64 0 :: .bool false :: .bool false :: .tuple #[.string ({ data := #[97, 98, 99] }), iN .i64 0] :: pt d.q :: .tuple #[.string ({ data := #[97, 98, 99] }), iN .i64 0] :: .string ({ data := #[97, 98, 99] }) :: iN .i64 0 :: .tuple #[.string ({ data := #[] }), iN .i64 0] :: pt d.q :: .tuple #[.string ({ data := #[] }), iN .i64 0] :: .string ({ data := #[] }) :: iN .i64 0 :: .string ({ data := #[97, 98, 99] }) :: .bool false :: .bool false :: iN .i64 0 :: .bool false :: .bool false :: .bool false :: .string ({ data := #[] }) :: .bool false :: .bool false :: .bool false :: iN .i64 0 :: .bool false :: .bool false :: .bool false :: pt d.q :: .slice pl68 2 cl69 :: iN .i64 2 :: .bool false :: .bool false :: .bool false :: pt d.q :: iN .i64 0 :: .bool false :: .bool false :: .bool false :: pt d.q :: .slice (some ⟨q85, 0, none⟩) 1 1 :: iN .i64 0 :: .bool false :: .bool false :: .bool false :: pt d.q :: iN .i64 5 :: .bool false :: .bool false :: pt d.q :: iN .i64 0 :: .bool false :: .bool false :: pt d.q :: iN .i64 0 :: .bool false :: .bool false :: .bool false :: pt d.q :: iN .i64 16 :: .bool false :: .bool false :: .bool false :: pt d.q :: .bool true :: .bool false :: .bool false :: .bool false :: pt d.q :: iN .i64 16 :: .bool false :: .bool false :: .bool false :: pt d.q :: iN .i64 16 :: .bool false :: .bool false :: .bool false :: pt d.q :: iN .i64 0 :: .bool false :: .bool false :: .bool false :: pt d.q :: iN .i64 0 :: .bool false :: .bool false :: .bool false :: pt d.q :: .slice pl151 0 cl152 :: iN .i64 0 :: .bool false :: .bool false :: .tuple #[.string ({ data := #[] }), iN .i64 16] :: pt d.q :: .tuple #[.string ({ data := #[] }), iN .i64 16] :: .string ({ data := #[] }) :: iN .i64 16 :: iN .i64 16 :: .bool false :: .bool false :: pt d.q :: iN .i64 0 :: .bool false :: .bool false :: .bool false :: pt d.q :: iN .i64 0 :: .bool false :: .bool false :: .bool false :: pt d.q :: iN .i64 5 :: .bool false :: .bool false :: .bool false :: pt d.q :: iN .i64 2 :: .bool false :: .bool false :: .tuple #[.string ({ data := #[97, 98, 99, 100, 101] }), iN .i64 0] :: pt d.q :: .tuple #[.string ({ data := #[97, 98, 99, 100, 101] }), iN .i64 0] :: .string ({ data := #[97, 98, 99, 100, 101] }) :: iN .i64 0 :: .slice (some ⟨q199, 0, none⟩) 7 7 :: pt d.q :: .slice (some ⟨gs, 0, none⟩) 7 cs :: .string ({ data := #[97, 98, 99, 100, 101] }) :: .bool false :: .bool false :: .slice (some ⟨gs, 0, none⟩) 7 cs :: iN .i64 7 :: .slice (some ⟨q199, 0, none⟩) 7 7 :: iN .i64 7 :: .bool false :: .bool false :: iN .i64 ((0 + 1) + 1) :: .slice (some ⟨q199, 0, none⟩) 7 7 :: iN .i64 7 :: .bool true :: iN .i64 ((0 + 1) + 1) :: iN .i64 (((0 + 1) + 1) + 1) :: .slice (some ⟨gs, 0, none⟩) 7 cs :: iN .i64 ((0 + 1) + 1) :: .pointer (some ⟨gs, (0 + 1) + 1, none⟩) :: iN .i64 0 :: .slice (some ⟨q199, 0, none⟩) 7 7 :: iN .i64 ((0 + 1) + 1) :: .pointer (some ⟨q199, (0 + 1) + 1, none⟩) :: iN .i64 0 :: .bool false :: List.replicate 133 un).toArray, []⟩) (by kernel_rfl) ?_
  try rw [rounds_succ]
  refine wp_seq ?_
  refine wp_seq ?_
  refine wl_region ?_
  refine wl_val (iN .i64 (((0 + 1) + 1) + 1)) (by kernel_rfl) (by kernel_rfl) ?_
  refine wl_val (.slice (some ⟨q199, 0, none⟩) 7 7) (by kernel_rfl) (by kernel_rfl) ?_
  refine wl_val (iN .i64 7) (by kernel_rfl) (by kernel_rfl) ?_
  refine wl_val (.bool true) (by kernel_rfl) (run_lss (k := .i64) (a := ((0 + 1) + 1) + 1) (b := 7) (by kernel_rfl) (by kernel_rfl) true (by decide)) ?_
  refine wl_nil ?_
  refine then_at rfl ?_
  refine wp_cond_true (by kernel_rfl) ?_
  refine wp_skip ?_
  refine then_at rfl ?_
  refine wp_seq ?_
  refine wp_block ?_
  refine wp_seq ?_
  refine wp_region_sure ⟨(.bool false :: pt d.q :: .string ({ data := #[97, 98, 99] }) :: iN .i64 16 :: .string ({ data := #[97, 98, 99, 100, 101] }) :: iN .i64 0 :: .slice (some ⟨q199, 0, none⟩) 7 7 :: .slice (some ⟨gs, 0, none⟩) 7 cs :: iN .i64 (((0 + 1) + 1) + 1) :: un :: un :: un :: un :: pt d.q :: pt d.q :: .bool false :: .bool false :: pt d.q :: iN .i64 0 :: .bool false :: .bool false :: .bool false :: pt d.q :: iN .i64 7 :: .bool false :: .bool false :: .bool false :: pt d.q :: iN .i64 0 :: .bool false :: .bool false :: .bool false :: pt d.q :: iN .i64 1 :: .bool false :: .bool false :: pt d.q :: iN .i64 0 :: .bool false :: .bool false :: pt d.q :: iN .i64 0 :: .bool false :: .bool false :: .bool false :: pt d.q :: iN .i64 0 :: .bool false :: .bool false :: .tuple #[.string ({ data := #[97, 98, 99] }), iN .i64 0] :: pt d.q :: .tuple #[.string ({ data := #[97, 98, 99] }), iN .i64 0] :: .string ({ data := #[97, 98, 99] }) :: iN .i64 0 :: .tuple #[.string ({ data := #[] }), iN .i64 0] :: pt d.q :: .tuple #[.string ({ data := #[] }), iN .i64 0] :: .string ({ data := #[] }) :: iN .i64 0 :: .string ({ data := #[97, 98, 99] }) :: .bool false :: .bool false :: iN .i64 0 :: .bool false :: .bool false :: .bool false :: .string ({ data := #[] }) :: .bool false :: .bool false :: .bool false :: iN .i64 0 :: .bool false :: .bool false :: .bool false :: pt d.q :: .slice pl68 2 cl69 :: iN .i64 2 :: .bool false :: .bool false :: .bool false :: pt d.q :: iN .i64 0 :: .bool false :: .bool false :: .bool false :: pt d.q :: .slice (some ⟨q85, 0, none⟩) 1 1 :: iN .i64 0 :: .bool false :: .bool false :: .bool false :: pt d.q :: iN .i64 5 :: .bool false :: .bool false :: pt d.q :: iN .i64 0 :: .bool false :: .bool false :: pt d.q :: iN .i64 0 :: .bool false :: .bool false :: .bool false :: pt d.q :: iN .i64 16 :: .bool false :: .bool false :: .bool false :: pt d.q :: .bool true :: .bool false :: .bool false :: .bool false :: pt d.q :: iN .i64 16 :: .bool false :: .bool false :: .bool false :: pt d.q :: iN .i64 16 :: .bool false :: .bool false :: .bool false :: pt d.q :: iN .i64 0 :: .bool false :: .bool false :: .bool false :: pt d.q :: iN .i64 0 :: .bool false :: .bool false :: .bool false :: pt d.q :: .slice pl151 0 cl152 :: iN .i64 0 :: .bool false :: .bool false :: .tuple #[.string ({ data := #[] }), iN .i64 16] :: pt d.q :: .tuple #[.string ({ data := #[] }), iN .i64 16] :: .string ({ data := #[] }) :: iN .i64 16 :: iN .i64 16 :: .bool false :: .bool false :: pt d.q :: iN .i64 0 :: .bool false :: .bool false :: .bool false :: pt d.q :: iN .i64 0 :: .bool false :: .bool false :: .bool false :: pt d.q :: iN .i64 5 :: .bool false :: .bool false :: .bool false :: pt d.q :: iN .i64 2 :: .bool false :: .bool false :: .tuple #[.string ({ data := #[97, 98, 99, 100, 101] }), iN .i64 0] :: pt d.q :: .tuple #[.string ({ data := #[97, 98, 99, 100, 101] }), iN .i64 0] :: .string ({ data := #[97, 98, 99, 100, 101] }) :: iN .i64 0 :: .slice (some ⟨q199, 0, none⟩) 7 7 :: pt d.q :: .slice (some ⟨gs, 0, none⟩) 7 cs :: .string ({ data := #[97, 98, 99, 100, 101] }) :: .bool false :: .bool false :: .slice (some ⟨gs, 0, none⟩) 7 cs :: iN .i64 7 :: .slice (some ⟨q199, 0, none⟩) 7 7 :: iN .i64 7 :: .bool false :: .bool false :: iN .i64 (((0 + 1) + 1) + 1) :: .slice (some ⟨q199, 0, none⟩) 7 7 :: iN .i64 7 :: .bool true :: iN .i64 ((0 + 1) + 1) :: iN .i64 (((0 + 1) + 1) + 1) :: .slice (some ⟨gs, 0, none⟩) 7 cs :: iN .i64 (((0 + 1) + 1) + 1) :: .pointer (some ⟨gs, ((0 + 1) + 1) + 1, none⟩) :: iN .i64 1 :: .slice (some ⟨q199, 0, none⟩) 7 7 :: iN .i64 (((0 + 1) + 1) + 1) :: .pointer (some ⟨q199, ((0 + 1) + 1) + 1, none⟩) :: iN .i64 1 :: .bool false :: List.replicate 133 un).toArray, []⟩ (HA z191 ((gs, 3, cus) :: (q199, 3, #[iN .i64 3, iN .i64 1, iN .i64 0, iN .i64 1, iN .i64 2, iN .i64 0, iN .i64 0]) :: X192)) [.slice (some ⟨gs, 0, none⟩) 7 cs, iN .i64 (((0 + 1) + 1) + 1), .pointer (some ⟨gs, ((0 + 1) + 1) + 1, none⟩), iN .i64 1, .slice (some ⟨q199, 0, none⟩) 7 7, iN .i64 (((0 + 1) + 1) + 1), .pointer (some ⟨q199, ((0 + 1) + 1) + 1, none⟩), iN .i64 1, .bool false] (by kernel_rfl) (by kernel_rfl) (by kernel_rfl) (by kernel_rfl) (fun _ _ _ h => h) h209.drew ?_ ?_
  · refine AllSure.cons (OpSure.take (v := .slice (some ⟨gs, 0, none⟩) 7 cs) (by kernel_rfl) (by kernel_rfl) (fun _ _ => (by kernel_rfl))) ?_
    refine AllSure.cons (OpSure.take (v := iN .i64 (((0 + 1) + 1) + 1)) (by kernel_rfl) (by kernel_rfl) (fun _ _ => (by kernel_rfl))) ?_
    refine AllSure.cons (OpSure.take (v := .pointer (some ⟨gs, ((0 + 1) + 1) + 1, none⟩)) (by kernel_rfl) (by kernel_rfl) (fun _ _ => (run_addr_slice (q := gs) (n := 7) (m := cs) (a := ((0 + 1) + 1) + 1) Try.underlying26 (fun w => Try.sizeOf3 w) (by kernel_rfl) (by kernel_rfl) (by decide)))) ?_
    refine AllSure.cons (OpSure.take (v := iN .i64 1) (by kernel_rfl) (by kernel_rfl) (fun w' h' => run_load1 (fun w => Try.isAgg3 w) (by kernel_rfl) (((h'.get 0 rfl).cell (((0 + 1) + 1) + 1)).trans (take_get hct (((0 + 1) + 1) + 1) (by decide))))) ?_
    refine AllSure.cons (OpSure.take (v := .slice (some ⟨q199, 0, none⟩) 7 7) (by kernel_rfl) (by kernel_rfl) (fun _ _ => (by kernel_rfl))) ?_
    refine AllSure.cons (OpSure.take (v := iN .i64 (((0 + 1) + 1) + 1)) (by kernel_rfl) (by kernel_rfl) (fun _ _ => (by kernel_rfl))) ?_
    refine AllSure.cons (OpSure.take (v := .pointer (some ⟨q199, ((0 + 1) + 1) + 1, none⟩)) (by kernel_rfl) (by kernel_rfl) (fun _ _ => (run_addr_slice (q := q199) (n := 7) (m := 7) (a := ((0 + 1) + 1) + 1) Try.underlying26 (fun w => Try.sizeOf3 w) (by kernel_rfl) (by kernel_rfl) (by decide)))) ?_
    refine AllSure.cons (OpSure.take (v := iN .i64 1) (by kernel_rfl) (by kernel_rfl) (fun w' h' => run_load1 (fun w => Try.isAgg3 w) (by kernel_rfl) (((h'.get 1 rfl).cell (((0 + 1) + 1) + 1)).trans rfl))) ?_
    refine AllSure.cons (OpSure.take (v := .bool false) (by kernel_rfl) (by kernel_rfl) (fun _ _ => (run_nei (k := .i64) (a := 1) (b := 1) (by kernel_rfl) (by kernel_rfl) false (by decide)))) ?_
    exact AllSure.nil
  intro w210 h211
  refine then_at rfl ?_
  refine wp_cond_false (by kernel_rfl) ?_
  refine wp_skip ?_
  refine block_normal ?_
  refine then_at rfl ?_
  refine wl_region ?_
  refine wl_val (iN .i64 (((0 + 1) + 1) + 1)) (by kernel_rfl) (by kernel_rfl) ?_
  refine wl_val (iN .i64 ((((0 + 1) + 1) + 1) + 1)) (by kernel_rfl) (run_add (k := .i64) (a := ((0 + 1) + 1) + 1) (b := 1) (by kernel_rfl) (by kernel_rfl) (by decide)) ?_
  refine wl_val (iN .i64 ((((0 + 1) + 1) + 1) + 1)) (by kernel_rfl) (by kernel_rfl) ?_
  refine wl_nil ?_
  refine then_at rfl ?_
  try rw [rounds_succ]
  refine wp_seq ?_
  refine wp_seq ?_
  refine wl_region ?_
  refine wl_val (iN .i64 ((((0 + 1) + 1) + 1) + 1)) (by kernel_rfl) (by kernel_rfl) ?_
  refine wl_val (.slice (some ⟨q199, 0, none⟩) 7 7) (by kernel_rfl) (by kernel_rfl) ?_
  refine wl_val (iN .i64 7) (by kernel_rfl) (by kernel_rfl) ?_
  refine wl_val (.bool true) (by kernel_rfl) (run_lss (k := .i64) (a := (((0 + 1) + 1) + 1) + 1) (b := 7) (by kernel_rfl) (by kernel_rfl) true (by decide)) ?_
  refine wl_nil ?_
  refine then_at (F := ⟨(.bool false :: pt d.q :: .string ({ data := #[97, 98, 99] }) :: iN .i64 16 :: .string ({ data := #[97, 98, 99, 100, 101] }) :: iN .i64 0 :: .slice (some ⟨q199, 0, none⟩) 7 7 :: .slice (some ⟨gs, 0, none⟩) 7 cs :: iN .i64 ((((0 + 1) + 1) + 1) + 1) :: un :: un :: un :: un :: pt d.q :: pt d.q :: .bool false :: .bool false :: pt d.q :: iN .i64 0 :: .bool false :: .bool false :: .bool false :: pt d.q :: iN .i64 7 :: .bool false :: .bool false :: .bool false :: pt d.q :: iN .i64 0 :: .bool false :: .bool false :: .bool false :: pt d.q :: iN .i64 1 :: .bool false :: .bool false :: pt d.q :: iN .i64 0 :: .bool false :: .bool false :: pt d.q :: iN .i64 0 :: .bool false :: .bool false :: .bool false :: pt d.q :: iN .i64 0 :: .bool false :: .bool false :: .tuple #[.string ({ data := #[97, 98, 99] }), iN .i64 0] :: pt d.q :: .tuple #[.string ({ data := #[97, 98, 99] }), iN .i64 0] :: .string ({ data := #[97, 98, 99] }) :: iN .i64 0 :: .tuple #[.string ({ data := #[] }), iN .i64 0] :: pt d.q :: .tuple #[.string ({ data := #[] }), iN .i64 0] :: .string ({ data := #[] }) :: iN .i64 0 :: .string ({ data := #[97, 98, 99] }) :: .bool false :: .bool false :: iN .i64 0 :: .bool false :: .bool false :: .bool false :: .string ({ data := #[] }) :: .bool false :: .bool false :: .bool false :: iN .i64 0 :: .bool false :: .bool false :: .bool false :: pt d.q :: .slice pl68 2 cl69 :: iN .i64 2 :: .bool false :: .bool false :: .bool false :: pt d.q :: iN .i64 0 :: .bool false :: .bool false :: .bool false :: pt d.q :: .slice (some ⟨q85, 0, none⟩) 1 1 :: iN .i64 0 :: .bool false :: .bool false :: .bool false :: pt d.q :: iN .i64 5 :: .bool false :: .bool false :: pt d.q :: iN .i64 0 :: .bool false :: .bool false :: pt d.q :: iN .i64 0 :: .bool false :: .bool false :: .bool false :: pt d.q :: iN .i64 16 :: .bool false :: .bool false :: .bool false :: pt d.q :: .bool true :: .bool false :: .bool false :: .bool false :: pt d.q :: iN .i64 16 :: .bool false :: .bool false :: .bool false :: pt d.q :: iN .i64 16 :: .bool false :: .bool false :: .bool false :: pt d.q :: iN .i64 0 :: .bool false :: .bool false :: .bool false :: pt d.q :: iN .i64 0 :: .bool false :: .bool false :: .bool false :: pt d.q :: .slice pl151 0 cl152 :: iN .i64 0 :: .bool false :: .bool false :: .tuple #[.string ({ data := #[] }), iN .i64 16] :: pt d.q :: .tuple #[.string ({ data := #[] }), iN .i64 16] :: .string ({ data := #[] }) :: iN .i64 16 :: iN .i64 16 :: .bool false :: .bool false :: pt d.q :: iN .i64 0 :: .bool false :: .bool false :: .bool false :: pt d.q :: iN .i64 0 :: .bool false :: .bool false :: .bool false :: pt d.q :: iN .i64 5 :: .bool false :: .bool false :: .bool false :: pt d.q :: iN .i64 2 :: .bool false :: .bool false :: .tuple #[.string ({ data := #[97, 98, 99, 100, 101] }), iN .i64 0] :: pt d.q :: .tuple #[.string ({ data := #[97, 98, 99, 100, 101] }), iN .i64 0] :: .string ({ data := #[97, 98, 99, 100, 101] }) :: iN .i64 0 :: .slice (some ⟨q199, 0, none⟩) 7 7 :: pt d.q :: .slice (some ⟨gs, 0, none⟩) 7 cs :: .string ({ data := #[97, 98, 99, 100, 101] }) :: .bool false :: .bool false :: .slice (some ⟨gs, 0, none⟩) 7 cs :: iN .i64 7 :: .slice (some ⟨q199, 0, none⟩) 7 7 :: iN .i64 7 :: .bool false :: .bool false :: iN .i64 ((((0 + 1) + 1) + 1) + 1) :: .slice (some ⟨q199, 0, none⟩) 7 7 :: iN .i64 7 :: .bool true :: iN .i64 (((0 + 1) + 1) + 1) :: iN .i64 ((((0 + 1) + 1) + 1) + 1) :: .slice (some ⟨gs, 0, none⟩) 7 cs :: iN .i64 (((0 + 1) + 1) + 1) :: .pointer (some ⟨gs, ((0 + 1) + 1) + 1, none⟩) :: iN .i64 1 :: .slice (some ⟨q199, 0, none⟩) 7 7 :: iN .i64 (((0 + 1) + 1) + 1) :: .pointer (some ⟨q199, ((0 + 1) + 1) + 1, none⟩) :: iN .i64 1 :: .bool false :: List.replicate 133 un).toArray, []⟩) (by kernel_rfl) ?_
  refine wp_cond_true (by kernel_rfl) ?_
  refine wp_skip ?_
  refine then_at rfl ?_
  refine wp_seq ?_
  refine wp_block ?_
  refine wp_seq ?_
  refine wp_region_sure ⟨(.bool false :: pt d.q :: .string ({ data := #[97, 98, 99] }) :: iN .i64 16 :: .string ({ data := #[97, 98, 99, 100, 101] }) :: iN .i64 0 :: .slice (some ⟨q199, 0, none⟩) 7 7 :: .slice (some ⟨gs, 0, none⟩) 7 cs :: iN .i64 ((((0 + 1) + 1) + 1) + 1) :: un :: un :: un :: un :: pt d.q :: pt d.q :: .bool false :: .bool false :: pt d.q :: iN .i64 0 :: .bool false :: .bool false :: .bool false :: pt d.q :: iN .i64 7 :: .bool false :: .bool false :: .bool false :: pt d.q :: iN .i64 0 :: .bool false :: .bool false :: .bool false :: pt d.q :: iN .i64 1 :: .bool false :: .bool false :: pt d.q :: iN .i64 0 :: .bool false :: .bool false :: pt d.q :: iN .i64 0 :: .bool false :: .bool false :: .bool false :: pt d.q :: iN .i64 0 :: .bool false :: .bool false :: .tuple #[.string ({ data := #[97, 98, 99] }), iN .i64 0] :: pt d.q :: .tuple #[.string ({ data := #[97, 98, 99] }), iN .i64 0] :: .string ({ data := #[97, 98, 99] }) :: iN .i64 0 :: .tuple #[.string ({ data := #[] }), iN .i64 0] :: pt d.q :: .tuple #[.string ({ data := #[] }), iN .i64 0] :: .string ({ data := #[] }) :: iN .i64 0 :: .string ({ data := #[97, 98, 99] }) :: .bool false :: .bool false :: iN .i64 0 :: .bool false :: .bool false :: .bool false :: .string ({ data := #[] }) :: .bool false :: .bool false :: .bool false :: iN .i64 0 :: .bool false :: .bool false :: .bool false :: pt d.q :: .slice pl68 2 cl69 :: iN .i64 2 :: .bool false :: .bool false :: .bool false :: pt d.q :: iN .i64 0 :: .bool false :: .bool false :: .bool false :: pt d.q :: .slice (some ⟨q85, 0, none⟩) 1 1 :: iN .i64 0 :: .bool false :: .bool false :: .bool false :: pt d.q :: iN .i64 5 :: .bool false :: .bool false :: pt d.q :: iN .i64 0 :: .bool false :: .bool false :: pt d.q :: iN .i64 0 :: .bool false :: .bool false :: .bool false :: pt d.q :: iN .i64 16 :: .bool false :: .bool false :: .bool false :: pt d.q :: .bool true :: .bool false :: .bool false :: .bool false :: pt d.q :: iN .i64 16 :: .bool false :: .bool false :: .bool false :: pt d.q :: iN .i64 16 :: .bool false :: .bool false :: .bool false :: pt d.q :: iN .i64 0 :: .bool false :: .bool false :: .bool false :: pt d.q :: iN .i64 0 :: .bool false :: .bool false :: .bool false :: pt d.q :: .slice pl151 0 cl152 :: iN .i64 0 :: .bool false :: .bool false :: .tuple #[.string ({ data := #[] }), iN .i64 16] :: pt d.q :: .tuple #[.string ({ data := #[] }), iN .i64 16] :: .string ({ data := #[] }) :: iN .i64 16 :: iN .i64 16 :: .bool false :: .bool false :: pt d.q :: iN .i64 0 :: .bool false :: .bool false :: .bool false :: pt d.q :: iN .i64 0 :: .bool false :: .bool false :: .bool false :: pt d.q :: iN .i64 5 :: .bool false :: .bool false :: .bool false :: pt d.q :: iN .i64 2 :: .bool false :: .bool false :: .tuple #[.string ({ data := #[97, 98, 99, 100, 101] }), iN .i64 0] :: pt d.q :: .tuple #[.string ({ data := #[97, 98, 99, 100, 101] }), iN .i64 0] :: .string ({ data := #[97, 98, 99, 100, 101] }) :: iN .i64 0 :: .slice (some ⟨q199, 0, none⟩) 7 7 :: pt d.q :: .slice (some ⟨gs, 0, none⟩) 7 cs :: .string ({ data := #[97, 98, 99, 100, 101] }) :: .bool false :: .bool false :: .slice (some ⟨gs, 0, none⟩) 7 cs :: iN .i64 7 :: .slice (some ⟨q199, 0, none⟩) 7 7 :: iN .i64 7 :: .bool false :: .bool false :: iN .i64 ((((0 + 1) + 1) + 1) + 1) :: .slice (some ⟨q199, 0, none⟩) 7 7 :: iN .i64 7 :: .bool true :: iN .i64 (((0 + 1) + 1) + 1) :: iN .i64 ((((0 + 1) + 1) + 1) + 1) :: .slice (some ⟨gs, 0, none⟩) 7 cs :: iN .i64 ((((0 + 1) + 1) + 1) + 1) :: .pointer (some ⟨gs, (((0 + 1) + 1) + 1) + 1, none⟩) :: iN .i64 2 :: .slice (some ⟨q199, 0, none⟩) 7 7 :: iN .i64 ((((0 + 1) + 1) + 1) + 1) :: .pointer (some ⟨q199, (((0 + 1) + 1) + 1) + 1, none⟩) :: iN .i64 2 :: .bool false :: List.replicate 133 un).toArray, []⟩ (HA z191 ((gs, 3, cus) :: (q199, 3, #[iN .i64 3, iN .i64 1, iN .i64 0, iN .i64 1, iN .i64 2, iN .i64 0, iN .i64 0]) :: X192)) [.slice (some ⟨gs, 0, none⟩) 7 cs, iN .i64 ((((0 + 1) + 1) + 1) + 1), .pointer (some ⟨gs, (((0 + 1) + 1) + 1) + 1, none⟩), iN .i64 2, .slice (some ⟨q199, 0, none⟩) 7 7, iN .i64 ((((0 + 1) + 1) + 1) + 1), .pointer (some ⟨q199, (((0 + 1) + 1) + 1) + 1, none⟩), iN .i64 2, .bool false] (by kernel_rfl) (by kernel_rfl) (by kernel_rfl) (by kernel_rfl) (fun _ _ _ h => h) h211.drew ?_ ?_
  · refine AllSure.cons (OpSure.take (v := .slice (some ⟨gs, 0, none⟩) 7 cs) (by kernel_rfl) (by kernel_rfl) (fun _ _ => (by kernel_rfl))) ?_
    refine AllSure.cons (OpSure.take (v := iN .i64 ((((0 + 1) + 1) + 1) + 1)) (by kernel_rfl) (by kernel_rfl) (fun _ _ => (by kernel_rfl))) ?_
    refine AllSure.cons (OpSure.take (v := .pointer (some ⟨gs, (((0 + 1) + 1) + 1) + 1, none⟩)) (by kernel_rfl) (by kernel_rfl) (fun _ _ => (run_addr_slice (q := gs) (n := 7) (m := cs) (a := (((0 + 1) + 1) + 1) + 1) Try.underlying26 (fun w => Try.sizeOf3 w) (by kernel_rfl) (by kernel_rfl) (by decide)))) ?_
    refine AllSure.cons (OpSure.take (v := iN .i64 2) (by kernel_rfl) (by kernel_rfl) (fun w' h' => run_load1 (fun w => Try.isAgg3 w) (by kernel_rfl) (((h'.get 0 rfl).cell ((((0 + 1) + 1) + 1) + 1)).trans (take_get hct ((((0 + 1) + 1) + 1) + 1) (by decide))))) ?_
    refine AllSure.cons (OpSure.take (v := .slice (some ⟨q199, 0, none⟩) 7 7) (by kernel_rfl) (by kernel_rfl) (fun _ _ => (by kernel_rfl))) ?_
    refine AllSure.cons (OpSure.take (v := iN .i64 ((((0 + 1) + 1) + 1) + 1)) (by kernel_rfl) (by kernel_rfl) (fun _ _ => (by kernel_rfl))) ?_
    refine AllSure.cons (OpSure.take (v := .pointer (some ⟨q199, (((0 + 1) + 1) + 1) + 1, none⟩)) (by kernel_rfl) (by kernel_rfl) (fun _ _ => (run_addr_slice (q := q199) (n := 7) (m := 7) (a := (((0 + 1) + 1) + 1) + 1) Try.underlying26 (fun w => Try.sizeOf3 w) (by kernel_rfl) (by kernel_rfl) (by decide)))) ?_
    refine AllSure.cons (OpSure.take (v := iN .i64 2) (by kernel_rfl) (by kernel_rfl) (fun w' h' => run_load1 (fun w => Try.isAgg3 w) (by kernel_rfl) (((h'.get 1 rfl).cell ((((0 + 1) + 1) + 1) + 1)).trans rfl))) ?_
    refine AllSure.cons (OpSure.take (v := .bool false) (by kernel_rfl) (by kernel_rfl) (fun _ _ => (run_nei (k := .i64) (a := 2) (b := 2) (by kernel_rfl) (by kernel_rfl) false (by decide)))) ?_
    exact AllSure.nil
  intro w212 h213
  refine then_at rfl ?_
  refine wp_cond_false (by kernel_rfl) ?_
  refine wp_skip ?_
  refine block_normal ?_
  refine then_at rfl ?_
  refine wl_region ?_
  refine wl_val (iN .i64 ((((0 + 1) + 1) + 1) + 1)) (by kernel_rfl) (by kernel_rfl) ?_
  refine wl_val (iN .i64 (((((0 + 1) + 1) + 1) + 1) + 1)) (by kernel_rfl) (run_add (k := .i64) (a := (((0 + 1) + 1) + 1) + 1) (b := 1) (by kernel_rfl) (by kernel_rfl) (by decide)) ?_
  refine wl_val (iN .i64 (((((0 + 1) + 1) + 1) + 1) + 1)) (by kernel_rfl) (by kernel_rfl) ?_
  refine wl_nil ?_
  refine then_at rfl ?_
  try rw [rounds_succ]
  refine wp_seq ?_
  refine wp_seq ?_
  refine wl_region ?_
  refine wl_val (iN .i64 (((((0 + 1) + 1) + 1) + 1) + 1)) (by kernel_rfl) (by kernel_rfl) ?_
  refine wl_val (.slice (some ⟨q199, 0, none⟩) 7 7) (by kernel_rfl) (by kernel_rfl) ?_
  refine wl_val (iN .i64 7) (by kernel_rfl) (by kernel_rfl) ?_
  refine wl_val (.bool true) (by kernel_rfl) (run_lss (k := .i64) (a := ((((0 + 1) + 1) + 1) + 1) + 1) (b := 7) (by kernel_rfl) (by kernel_rfl) true (by decide)) ?_
  refine wl_nil ?_
  refine then_at rfl ?_
  refine wp_cond_true (by kernel_rfl) ?_
  refine wp_skip ?_
  refine then_at (F := ⟨(.bool false :: pt d.q :: .string ({ data := #[97, 98, 99] }) :: iN .i64 16 :: .string ({ data := #[97, 98, 99, 100, 101] }) :: iN .i64 0 :: .slice (some ⟨q199, 0, none⟩) 7 7 :: .slice (some ⟨gs, 0, none⟩) 7 cs :: iN .i64 (((((0 + 1) + 1) + 1) + 1) + 1) :: un :: un :: un :: un :: pt d.q :: pt d.q :: .bool false :: .bool false :: pt d.q :: iN .i64 0 :: .bool false :: .bool false :: .bool false :: pt d.q :: iN .i64 7 :: .bool false :: .bool false :: .bool false :: pt d.q :: iN .i64 0 :: .bool false :: .bool false :: .bool false :: pt d.q :: iN .i64 1 :: .bool false :: .bool false :: pt d.q :: iN .i64 0 :: .bool false :: .bool false :: pt d.q :: iN .i64 0 :: .bool false :: .bool false :: .bool false :: pt d.q :: iN .i64 0 :: .bool false :: .bool false :: .tuple #[.string ({ data := #[97, 98, 99] }), iN .i64 0] :: pt d.q :: .tuple #[.string ({ data := #[97, 98, 99] }), iN .i64 0] :: .string ({ data := #[97, 98, 99] }) :: iN .i64 0 :: .tuple #[.string ({ data := #[] }), iN .i64 0] :: pt d.q :: .tuple #[.string ({ data := #[] }), iN .i64 0] :: .string ({ data := #[] }) :: iN .i64 0 :: .string ({ data := #[97, 98, 99] }) :: .bool false :: .bool false :: iN .i64 0 :: .bool false :: .bool false :: .bool false :: .string ({ data := #[] }) :: .bool false :: .bool false :: .bool false :: iN .i64 0 :: .bool false :: .bool false :: .bool false :: pt d.q :: .slice pl68 2 cl69 :: iN .i64 2 :: .bool false :: .bool false :: .bool false :: pt d.q :: iN .i64 0 :: .bool false :: .bool false :: .bool false :: pt d.q :: .slice (some ⟨q85, 0, none⟩) 1 1 :: iN .i64 0 :: .bool false :: .bool false :: .bool false :: pt d.q :: iN .i64 5 :: .bool false :: .bool false :: pt d.q :: iN .i64 0 :: .bool false :: .bool false :: pt d.q :: iN .i64 0 :: .bool false :: .bool false :: .bool false :: pt d.q :: iN .i64 16 :: .bool false :: .bool false :: .bool false :: pt d.q :: .bool true :: .bool false :: .bool false :: .bool false :: pt d.q :: iN .i64 16 :: .bool false :: .bool false :: .bool false :: pt d.q :: iN .i64 16 :: .bool false :: .bool false :: .bool false :: pt d.q :: iN .i64 0 :: .bool false :: .bool false :: .bool false :: pt d.q :: iN .i64 0 :: .bool false :: .bool false :: .bool false :: pt d.q :: .slice pl151 0 cl152 :: iN .i64 0 :: .bool false :: .bool false :: .tuple #[.string ({ data := #[] }), iN .i64 16] :: pt d.q :: .tuple #[.string ({ data := #[] }), iN .i64 16] :: .string ({ data := #[] }) :: iN .i64 16 :: iN .i64 16 :: .bool false :: .bool false :: pt d.q :: iN .i64 0 :: .bool false :: .bool false :: .bool false :: pt d.q :: iN .i64 0 :: .bool false :: .bool false :: .bool false :: pt d.q :: iN .i64 5 :: .bool false :: .bool false :: .bool false :: pt d.q :: iN .i64 2 :: .bool false :: .bool false :: .tuple #[.string ({ data := #[97, 98, 99, 100, 101] }), iN .i64 0] :: pt d.q :: .tuple #[.string ({ data := #[97, 98, 99, 100, 101] }), iN .i64 0] :: .string ({ data := #[97, 98, 99, 100, 101] }) :: iN .i64 0 :: .slice (some ⟨q199, 0, none⟩) 7 7 :: pt d.q :: .slice (some ⟨gs, 0, none⟩) 7 cs :: .string ({ data := #[97, 98, 99, 100, 101] }) :: .bool false :: .bool false :: .slice (some ⟨gs, 0, none⟩) 7 cs :: iN .i64 7 :: .slice (some ⟨q199, 0, none⟩) 7 7 :: iN .i64 7 :: .bool false :: .bool false :: iN .i64 (((((0 + 1) + 1) + 1) + 1) + 1) :: .slice (some ⟨q199, 0, none⟩) 7 7 :: iN .i64 7 :: .bool true :: iN .i64 ((((0 + 1) + 1) + 1) + 1) :: iN .i64 (((((0 + 1) + 1) + 1) + 1) + 1) :: .slice (some ⟨gs, 0, none⟩) 7 cs :: iN .i64 ((((0 + 1) + 1) + 1) + 1) :: .pointer (some ⟨gs, (((0 + 1) + 1) + 1) + 1, none⟩) :: iN .i64 2 :: .slice (some ⟨q199, 0, none⟩) 7 7 :: iN .i64 ((((0 + 1) + 1) + 1) + 1) :: .pointer (some ⟨q199, (((0 + 1) + 1) + 1) + 1, none⟩) :: iN .i64 2 :: .bool false :: List.replicate 133 un).toArray, []⟩) (by kernel_rfl) ?_
  refine wp_seq ?_
  refine wp_block ?_
  refine wp_seq ?_
  refine wp_region_sure ⟨(.bool false :: pt d.q :: .string ({ data := #[97, 98, 99] }) :: iN .i64 16 :: .string ({ data := #[97, 98, 99, 100, 101] }) :: iN .i64 0 :: .slice (some ⟨q199, 0, none⟩) 7 7 :: .slice (some ⟨gs, 0, none⟩) 7 cs :: iN .i64 (((((0 + 1) + 1) + 1) + 1) + 1) :: un :: un :: un :: un :: pt d.q :: pt d.q :: .bool false :: .bool false :: pt d.q :: iN .i64 0 :: .bool false :: .bool false :: .bool false :: pt d.q :: iN .i64 7 :: .bool false :: .bool false :: .bool false :: pt d.q :: iN .i64 0 :: .bool false :: .bool false :: .bool false :: pt d.q :: iN .i64 1 :: .bool false :: .bool false :: pt d.q :: iN .i64 0 :: .bool false :: .bool false :: pt d.q :: iN .i64 0 :: .bool false :: .bool false :: .bool false :: pt d.q :: iN .i64 0 :: .bool false :: .bool false :: .tuple #[.string ({ data := #[97, 98, 99] }), iN .i64 0] :: pt d.q :: .tuple #[.string ({ data := #[97, 98, 99] }), iN .i64 0] :: .string ({ data := #[97, 98, 99] }) :: iN .i64 0 :: .tuple #[.string ({ data := #[] }), iN .i64 0] :: pt d.q :: .tuple #[.string ({ data := #[] }), iN .i64 0] :: .string ({ data := #[] }) :: iN .i64 0 :: .string ({ data := #[97, 98, 99] }) :: .bool false :: .bool false :: iN .i64 0 :: .bool false :: .bool false :: .bool false :: .string ({ data := #[] }) :: .bool false :: .bool false :: .bool false :: iN .i64 0 :: .bool false :: .bool false :: .bool false :: pt d.q :: .slice pl68 2 cl69 :: iN .i64 2 :: .bool false :: .bool false :: .bool false :: pt d.q :: iN .i64 0 :: .bool false :: .bool false :: .bool false :: pt d.q :: .slice (some ⟨q85, 0, none⟩) 1 1 :: iN .i64 0 :: .bool false :: .bool false :: .bool false :: pt d.q :: iN .i64 5 :: .bool false :: .bool false :: pt d.q :: iN .i64 0 :: .bool false :: .bool false :: pt d.q :: iN .i64 0 :: .bool false :: .bool false :: .bool false :: pt d.q :: iN .i64 16 :: .bool false :: .bool false :: .bool false :: pt d.q :: .bool true :: .bool false :: .bool false :: .bool false :: pt d.q :: iN .i64 16 :: .bool false :: .bool false :: .bool false :: pt d.q :: iN .i64 16 :: .bool false :: .bool false :: .bool false :: pt d.q :: iN .i64 0 :: .bool false :: .bool false :: .bool false :: pt d.q :: iN .i64 0 :: .bool false :: .bool false :: .bool false :: pt d.q :: .slice pl151 0 cl152 :: iN .i64 0 :: .bool false :: .bool false :: .tuple #[.string ({ data := #[] }), iN .i64 16] :: pt d.q :: .tuple #[.string ({ data := #[] }), iN .i64 16] :: .string ({ data := #[] }) :: iN .i64 16 :: iN .i64 16 :: .bool false :: .bool false :: pt d.q :: iN .i64 0 :: .bool false :: .bool false :: .bool false :: pt d.q :: iN .i64 0 :: .bool false :: .bool false :: .bool false :: pt d.q :: iN .i64 5 :: .bool false :: .bool false :: .bool false :: pt d.q :: iN .i64 2 :: .bool false :: .bool false :: .tuple #[.string ({ data := #[97, 98, 99, 100, 101] }), iN .i64 0] :: pt d.q :: .tuple #[.string ({ data := #[97, 98, 99, 100, 101] }), iN .i64 0] :: .string ({ data := #[97, 98, 99, 100, 101] }) :: iN .i64 0 :: .slice (some ⟨q199, 0, none⟩) 7 7 :: pt d.q :: .slice (some ⟨gs, 0, none⟩) 7 cs :: .string ({ data := #[97, 98, 99, 100, 101] }) :: .bool false :: .bool false :: .slice (some ⟨gs, 0, none⟩) 7 cs :: iN .i64 7 :: .slice (some ⟨q199, 0, none⟩) 7 7 :: iN .i64 7 :: .bool false :: .bool false :: iN .i64 (((((0 + 1) + 1) + 1) + 1) + 1) :: .slice (some ⟨q199, 0, none⟩) 7 7 :: iN .i64 7 :: .bool true :: iN .i64 ((((0 + 1) + 1) + 1) + 1) :: iN .i64 (((((0 + 1) + 1) + 1) + 1) + 1) :: .slice (some ⟨gs, 0, none⟩) 7 cs :: iN .i64 (((((0 + 1) + 1) + 1) + 1) + 1) :: .pointer (some ⟨gs, ((((0 + 1) + 1) + 1) + 1) + 1, none⟩) :: iN .i64 0 :: .slice (some ⟨q199, 0, none⟩) 7 7 :: iN .i64 (((((0 + 1) + 1) + 1) + 1) + 1) :: .pointer (some ⟨q199, ((((0 + 1) + 1) + 1) + 1) + 1, none⟩) :: iN .i64 0 :: .bool false :: List.replicate 133 un).toArray, []⟩ (HA z191 ((gs, 3, cus) :: (q199, 3, #[iN .i64 3, iN .i64 1, iN .i64 0, iN .i64 1, iN .i64 2, iN .i64 0, iN .i64 0]) :: X192)) [.slice (some ⟨gs, 0, none⟩) 7 cs, iN .i64 (((((0 + 1) + 1) + 1) + 1) + 1), .pointer (some ⟨gs, ((((0 + 1) + 1) + 1) + 1) + 1, none⟩), iN .i64 0, .slice (some ⟨q199, 0, none⟩) 7 7, iN .i64 (((((0 + 1) + 1) + 1) + 1) + 1), .pointer (some ⟨q199, ((((0 + 1) + 1) + 1) + 1) + 1, none⟩), iN .i64 0, .bool false] (by kernel_rfl) (by kernel_rfl) (by kernel_rfl) (by kernel_rfl) (fun _ _ _ h => h) h213.drew ?_ ?_
  · refine AllSure.cons (OpSure.take (v := .slice (some ⟨gs, 0, none⟩) 7 cs) (by kernel_rfl) (by kernel_rfl) (fun _ _ => (by kernel_rfl))) ?_
    refine AllSure.cons (OpSure.take (v := iN .i64 (((((0 + 1) + 1) + 1) + 1) + 1)) (by kernel_rfl) (by kernel_rfl) (fun _ _ => (by kernel_rfl))) ?_
    refine AllSure.cons (OpSure.take (v := .pointer (some ⟨gs, ((((0 + 1) + 1) + 1) + 1) + 1, none⟩)) (by kernel_rfl) (by kernel_rfl) (fun _ _ => (run_addr_slice (q := gs) (n := 7) (m := cs) (a := ((((0 + 1) + 1) + 1) + 1) + 1) Try.underlying26 (fun w => Try.sizeOf3 w) (by kernel_rfl) (by kernel_rfl) (by decide)))) ?_
    refine AllSure.cons (OpSure.take (v := iN .i64 0) (by kernel_rfl) (by kernel_rfl) (fun w' h' => run_load1 (fun w => Try.isAgg3 w) (by kernel_rfl) (((h'.get 0 rfl).cell (((((0 + 1) + 1) + 1) + 1) + 1)).trans (take_get hct (((((0 + 1) + 1) + 1) + 1) + 1) (by decide))))) ?_
    refine AllSure.cons (OpSure.take (v := .slice (some ⟨q199, 0, none⟩) 7 7) (by kernel_rfl) (by kernel_rfl) (fun _ _ => (by kernel_rfl))) ?_
    refine AllSure.cons (OpSure.take (v := iN .i64 (((((0 + 1) + 1) + 1) + 1) + 1)) (by kernel_rfl) (by kernel_rfl) (fun _ _ => (by kernel_rfl))) ?_
    refine AllSure.cons (OpSure.take (v := .pointer (some ⟨q199, ((((0 + 1) + 1) + 1) + 1) + 1, none⟩)) (by kernel_rfl) (by kernel_rfl) (fun _ _ => (run_addr_slice (q := q199) (n := 7) (m := 7) (a := ((((0 + 1) + 1) + 1) + 1) + 1) Try.underlying26 (fun w => Try.sizeOf3 w) (by kernel_rfl) (by kernel_rfl) (by decide)))) ?_
    refine AllSure.cons (OpSure.take (v := iN .i64 0) (by kernel_rfl) (by kernel_rfl) (fun w' h' => run_load1 (fun w => Try.isAgg3 w) (by kernel_rfl) (((h'.get 1 rfl).cell (((((0 + 1) + 1) + 1) + 1) + 1)).trans rfl))) ?_
    refine AllSure.cons (OpSure.take (v := .bool false) (by kernel_rfl) (by kernel_rfl) (fun _ _ => (run_nei (k := .i64) (a := 0) (b := 0) (by kernel_rfl) (by kernel_rfl) false (by decide)))) ?_
    exact AllSure.nil
  intro w214 h215
  refine then_at rfl ?_
  refine wp_cond_false (by kernel_rfl) ?_
  refine wp_skip ?_
  refine block_normal ?_
  refine then_at rfl ?_
  refine wl_region ?_
  refine wl_val (iN .i64 (((((0 + 1) + 1) + 1) + 1) + 1)) (by kernel_rfl) (by kernel_rfl) ?_
  refine wl_val (iN .i64 ((((((0 + 1) + 1) + 1) + 1) + 1) + 1)) (by kernel_rfl) (run_add (k := .i64) (a := ((((0 + 1) + 1) + 1) + 1) + 1) (b := 1) (by kernel_rfl) (by kernel_rfl) (by decide)) ?_
  refine wl_val (iN .i64 ((((((0 + 1) + 1) + 1) + 1) + 1) + 1)) (by kernel_rfl) (by kernel_rfl) ?_
  refine wl_nil ?_
  refine then_at rfl ?_
  try rw [rounds_succ]
  refine wp_seq ?_
  refine wp_seq ?_
  refine wl_region ?_
  refine wl_val (iN .i64 ((((((0 + 1) + 1) + 1) + 1) + 1) + 1)) (by kernel_rfl) (by kernel_rfl) ?_
  refine wl_val (.slice (some ⟨q199, 0, none⟩) 7 7) (by kernel_rfl) (by kernel_rfl) ?_
  refine wl_val (iN .i64 7) (by kernel_rfl) (by kernel_rfl) ?_
  refine wl_val (.bool true) (by kernel_rfl) (run_lss (k := .i64) (a := (((((0 + 1) + 1) + 1) + 1) + 1) + 1) (b := 7) (by kernel_rfl) (by kernel_rfl) true (by decide)) ?_
  refine wl_nil ?_
  refine then_at rfl ?_
  refine wp_cond_true (by kernel_rfl) ?_
  refine wp_skip ?_
  refine then_at rfl ?_
  refine wp_seq ?_
  refine wp_block ?_
  refine wp_seq ?_
  refine wp_region_sure ⟨(.bool false :: pt d.q :: .string ({ data := #[97, 98, 99] }) :: iN .i64 16 :: .string ({ data := #[97, 98, 99, 100, 101] }) :: iN .i64 0 :: .slice (some ⟨q199, 0, none⟩) 7 7 :: .slice (some ⟨gs, 0, none⟩) 7 cs :: iN .i64 ((((((0 + 1) + 1) + 1) + 1) + 1) + 1) :: un :: un :: un :: un :: pt d.q :: pt d.q :: .bool false :: .bool false :: pt d.q :: iN .i64 0 :: .bool false :: .bool false :: .bool false :: pt d.q :: iN .i64 7 :: .bool false :: .bool false :: .bool false :: pt d.q :: iN .i64 0 :: .bool false :: .bool false :: .bool false :: pt d.q :: iN .i64 1 :: .bool false :: .bool false :: pt d.q :: iN .i64 0 :: .bool false :: .bool false :: pt d.q :: iN .i64 0 :: .bool false :: .bool false :: .bool false :: pt d.q :: iN .i64 0 :: .bool false :: .bool false :: .tuple #[.string ({ data := #[97, 98, 99] }), iN .i64 0] :: pt d.q :: .tuple #[.string ({ data := #[97, 98, 99] }), iN .i64 0] :: .string ({ data := #[97, 98, 99] }) :: iN .i64 0 :: .tuple #[.string ({ data := #[] }), iN .i64 0] :: pt d.q :: .tuple #[.string ({ data := #[] }), iN .i64 0] :: .string ({ data := #[] }) :: iN .i64 0 :: .string ({ data := #[97, 98, 99] }) :: .bool false :: .bool false :: iN .i64 0 :: .bool false :: .bool false :: .bool false :: .string ({ data := #[] }) :: .bool false :: .bool false :: .bool false :: iN .i64 0 :: .bool false :: .bool false :: .bool false :: pt d.q :: .slice pl68 2 cl69 :: iN .i64 2 :: .bool false :: .bool false :: .bool false :: pt d.q :: iN .i64 0 :: .bool false :: .bool false :: .bool false :: pt d.q :: .slice (some ⟨q85, 0, none⟩) 1 1 :: iN .i64 0 :: .bool false :: .bool false :: .bool false :: pt d.q :: iN .i64 5 :: .bool false :: .bool false :: pt d.q :: iN .i64 0 :: .bool false :: .bool false :: pt d.q :: iN .i64 0 :: .bool false :: .bool false :: .bool false :: pt d.q :: iN .i64 16 :: .bool false :: .bool false :: .bool false :: pt d.q :: .bool true :: .bool false :: .bool false :: .bool false :: pt d.q :: iN .i64 16 :: .bool false :: .bool false :: .bool false :: pt d.q :: iN .i64 16 :: .bool false :: .bool false :: .bool false :: pt d.q :: iN .i64 0 :: .bool false :: .bool false :: .bool false :: pt d.q :: iN .i64 0 :: .bool false :: .bool false :: .bool false :: pt d.q :: .slice pl151 0 cl152 :: iN .i64 0 :: .bool false :: .bool false :: .tuple #[.string ({ data := #[] }), iN .i64 16] :: pt d.q :: .tuple #[.string ({ data := #[] }), iN .i64 16] :: .string ({ data := #[] }) :: iN .i64 16 :: iN .i64 16 :: .bool false :: .bool false :: pt d.q :: iN .i64 0 :: .bool false :: .bool false :: .bool false :: pt d.q :: iN .i64 0 :: .bool false :: .bool false :: .bool false :: pt d.q :: iN .i64 5 :: .bool false :: .bool false :: .bool false :: pt d.q :: iN .i64 2 :: .bool false :: .bool false :: .tuple #[.string ({ data := #[97, 98, 99, 100, 101] }), iN .i64 0] :: pt d.q :: .tuple #[.string ({ data := #[97, 98, 99, 100, 101] }), iN .i64 0] :: .string ({ data := #[97, 98, 99, 100, 101] }) :: iN .i64 0 :: .slice (some ⟨q199, 0, none⟩) 7 7 :: pt d.q :: .slice (some ⟨gs, 0, none⟩) 7 cs :: .string ({ data := #[97, 98, 99, 100, 101] }) :: .bool false :: .bool false :: .slice (some ⟨gs, 0, none⟩) 7 cs :: iN .i64 7 :: .slice (some ⟨q199, 0, none⟩) 7 7 :: iN .i64 7 :: .bool false :: .bool false :: iN .i64 ((((((0 + 1) + 1) + 1) + 1) + 1) + 1) :: .slice (some ⟨q199, 0, none⟩) 7 7 :: iN .i64 7 :: .bool true :: iN .i64 (((((0 + 1) + 1) + 1) + 1) + 1) :: iN .i64 ((((((0 + 1) + 1) + 1) + 1) + 1) + 1) :: .slice (some ⟨gs, 0, none⟩) 7 cs :: iN .i64 ((((((0 + 1) + 1) + 1) + 1) + 1) + 1) :: .pointer (some ⟨gs, (((((0 + 1) + 1) + 1) + 1) + 1) + 1, none⟩) :: iN .i64 0 :: .slice (some ⟨q199, 0, none⟩) 7 7 :: iN .i64 ((((((0 + 1) + 1) + 1) + 1) + 1) + 1) :: .pointer (some ⟨q199, (((((0 + 1) + 1) + 1) + 1) + 1) + 1, none⟩) :: iN .i64 0 :: .bool false :: List.replicate 133 un).toArray, []⟩ (HA z191 ((gs, 3, cus) :: (q199, 3, #[iN .i64 3, iN .i64 1, iN .i64 0, iN .i64 1, iN .i64 2, iN .i64 0, iN .i64 0]) :: X192)) [.slice (some ⟨gs, 0, none⟩) 7 cs, iN .i64 ((((((0 + 1) + 1) + 1) + 1) + 1) + 1), .pointer (some ⟨gs, (((((0 + 1) + 1) + 1) + 1) + 1) + 1, none⟩), iN .i64 0, .slice (some ⟨q199, 0, none⟩) 7 7, iN .i64 ((((((0 + 1) + 1) + 1) + 1) + 1) + 1), .pointer (some ⟨q199, (((((0 + 1) + 1) + 1) + 1) + 1) + 1, none⟩), iN .i64 0, .bool false] (by kernel_rfl) (by kernel_rfl) (by kernel_rfl) (by kernel_rfl) (fun _ _ _ h => h) h215.drew ?_ ?_
  · refine AllSure.cons (OpSure.take (v := .slice (some ⟨gs, 0, none⟩) 7 cs) (by kernel_rfl) (by kernel_rfl) (fun _ _ => (by kernel_rfl))) ?_
    refine AllSure.cons (OpSure.take (v := iN .i64 ((((((0 + 1) + 1) + 1) + 1) + 1) + 1)) (by kernel_rfl) (by kernel_rfl) (fun _ _ => (by kernel_rfl))) ?_
    refine AllSure.cons (OpSure.take (v := .pointer (some ⟨gs, (((((0 + 1) + 1) + 1) + 1) + 1) + 1, none⟩)) (by kernel_rfl) (by kernel_rfl) (fun _ _ => (run_addr_slice (q := gs) (n := 7) (m := cs) (a := (((((0 + 1) + 1) + 1) + 1) + 1) + 1) Try.underlying26 (fun w => Try.sizeOf3 w) (by kernel_rfl) (by kernel_rfl) (by decide)))) ?_
    refine AllSure.cons (OpSure.take (v := iN .i64 0) (by kernel_rfl) (by kernel_rfl) (fun w' h' => run_load1 (fun w => Try.isAgg3 w) (by kernel_rfl) (((h'.get 0 rfl).cell ((((((0 + 1) + 1) + 1) + 1) + 1) + 1)).trans (take_get hct ((((((0 + 1) + 1) + 1) + 1) + 1) + 1) (by decide))))) ?_
    refine AllSure.cons (OpSure.take (v := .slice (some ⟨q199, 0, none⟩) 7 7) (by kernel_rfl) (by kernel_rfl) (fun _ _ => (by kernel_rfl))) ?_
    refine AllSure.cons (OpSure.take (v := iN .i64 ((((((0 + 1) + 1) + 1) + 1) + 1) + 1)) (by kernel_rfl) (by kernel_rfl) (fun _ _ => (by kernel_rfl))) ?_
    refine AllSure.cons (OpSure.take (v := .pointer (some ⟨q199, (((((0 + 1) + 1) + 1) + 1) + 1) + 1, none⟩)) (by kernel_rfl) (by kernel_rfl) (fun _ _ => (run_addr_slice (q := q199) (n := 7) (m := 7) (a := (((((0 + 1) + 1) + 1) + 1) + 1) + 1) Try.underlying26 (fun w => Try.sizeOf3 w) (by kernel_rfl) (by kernel_rfl) (by decide)))) ?_
    refine AllSure.cons (OpSure.take (v := iN .i64 0) (by kernel_rfl) (by kernel_rfl) (fun w' h' => run_load1 (fun w => Try.isAgg3 w) (by kernel_rfl) (((h'.get 1 rfl).cell ((((((0 + 1) + 1) + 1) + 1) + 1) + 1)).trans rfl))) ?_
    refine AllSure.cons (OpSure.take (v := .bool false) (by kernel_rfl) (by kernel_rfl) (fun _ _ => (run_nei (k := .i64) (a := 0) (b := 0) (by kernel_rfl) (by kernel_rfl) false (by decide)))) ?_
    exact AllSure.nil
  intro w216 h217
  refine then_at (F := ⟨(.bool false :: pt d.q :: .string ({ data := #[97, 98, 99] }) :: iN .i64 16 :: .string ({ data := #[97, 98, 99, 100, 101] }) :: iN .i64 0 :: .slice (some ⟨q199, 0, none⟩) 7 7 :: .slice (some ⟨gs, 0, none⟩) 7 cs :: iN .i64 ((((((0 + 1) + 1) + 1) + 1) + 1) + 1) :: un :: un :: un :: un :: pt d.q :: pt d.q :: .bool false :: .bool false :: pt d.q :: iN .i64 0 :: .bool false :: .bool false :: .bool false :: pt d.q :: iN .i64 7 :: .bool false :: .bool false :: .bool false :: pt d.q :: iN .i64 0 :: .bool false :: .bool false :: .bool false :: pt d.q :: iN .i64 1 :: .bool false :: .bool false :: pt d.q :: iN .i64 0 :: .bool false :: .bool false :: pt d.q :: iN .i64 0 :: .bool false :: .bool false :: .bool false :: pt d.q :: iN .i64 0 :: .bool false :: .bool false :: .tuple #[.string ({ data := #[97, 98, 99] }), iN .i64 0] :: pt d.q :: .tuple #[.string ({ data := #[97, 98, 99] }), iN .i64 0] :: .string ({ data := #[97, 98, 99] }) :: iN .i64 0 :: .tuple #[.string ({ data := #[] }), iN .i64 0] :: pt d.q :: .tuple #[.string ({ data := #[] }), iN .i64 0] :: .string ({ data := #[] }) :: iN .i64 0 :: .string ({ data := #[97, 98, 99] }) :: .bool false :: .bool false :: iN .i64 0 :: .bool false :: .bool false :: .bool false :: .string ({ data := #[] }) :: .bool false :: .bool false :: .bool false :: iN .i64 0 :: .bool false :: .bool false :: .bool false :: pt d.q :: .slice pl68 2 cl69 :: iN .i64 2 :: .bool false :: .bool false :: .bool false :: pt d.q :: iN .i64 0 :: .bool false :: .bool false :: .bool false :: pt d.q :: .slice (some ⟨q85, 0, none⟩) 1 1 :: iN .i64 0 :: .bool false :: .bool false :: .bool false :: pt d.q :: iN .i64 5 :: .bool false :: .bool false :: pt d.q :: iN .i64 0 :: .bool false :: .bool false :: pt d.q :: iN .i64 0 :: .bool false :: .bool false :: .bool false :: pt d.q :: iN .i64 16 :: .bool false :: .bool false :: .bool false :: pt d.q :: .bool true :: .bool false :: .bool false :: .bool false :: pt d.q :: iN .i64 16 :: .bool false :: .bool false :: .bool false :: pt d.q :: iN .i64 16 :: .bool false :: .bool false :: .bool false :: pt d.q :: iN .i64 0 :: .bool false :: .bool false :: .bool false :: pt d.q :: iN .i64 0 :: .bool false :: .bool false :: .bool false :: pt d.q :: .slice pl151 0 cl152 :: iN .i64 0 :: .bool false :: .bool false :: .tuple #[.string ({ data := #[] }), iN .i64 16] :: pt d.q :: .tuple #[.string ({ data := #[] }), iN .i64 16] :: .string ({ data := #[] }) :: iN .i64 16 :: iN .i64 16 :: .bool false :: .bool false :: pt d.q :: iN .i64 0 :: .bool false :: .bool false :: .bool false :: pt d.q :: iN .i64 0 :: .bool false :: .bool false :: .bool false :: pt d.q :: iN .i64 5 :: .bool false :: .bool false :: .bool false :: pt d.q :: iN .i64 2 :: .bool false :: .bool false :: .tuple #[.string ({ data := #[97, 98, 99, 100, 101] }), iN .i64 0] :: pt d.q :: .tuple #[.string ({ data := #[97, 98, 99, 100, 101] }), iN .i64 0] :: .string ({ data := #[97, 98, 99, 100, 101] }) :: iN .i64 0 :: .slice (some ⟨q199, 0, none⟩) 7 7 :: pt d.q :: .slice (some ⟨gs, 0, none⟩) 7 cs :: .string ({ data := #[97, 98, 99, 100, 101] }) :: .bool false :: .bool false :: .slice (some ⟨gs, 0, none⟩) 7 cs :: iN .i64 7 :: .slice (some ⟨q199, 0, none⟩) 7 7 :: iN .i64 7 :: .bool false :: .bool false :: iN .i64 ((((((0 + 1) + 1) + 1) + 1) + 1) + 1) :: .slice (some ⟨q199, 0, none⟩) 7 7 :: iN .i64 7 :: .bool true :: iN .i64 (((((0 + 1) + 1) + 1) + 1) + 1) :: iN .i64 ((((((0 + 1) + 1) + 1) + 1) + 1) + 1) :: .slice (some ⟨gs, 0, none⟩) 7 cs :: iN .i64 ((((((0 + 1) + 1) + 1) + 1) + 1) + 1) :: .pointer (some ⟨gs, (((((0 + 1) + 1) + 1) + 1) + 1) + 1, none⟩) :: iN .i64 0 :: .slice (some ⟨q199, 0, none⟩) 7 7 :: iN .i64 ((((((0 + 1) + 1) + 1) + 1) + 1) + 1) :: .pointer (some ⟨q199, (((((0 + 1) + 1) + 1) + 1) + 1) + 1, none⟩) :: iN .i64 0 :: .bool false :: List.replicate 133 un).toArray, []⟩) (by kernel_rfl) ?_
  refine wp_cond_false (by kernel_rfl) ?_
  refine wp_skip ?_
  refine block_normal ?_
  refine then_at rfl ?_
  refine wl_region ?_
  refine wl_val (iN .i64 ((((((0 + 1) + 1) + 1) + 1) + 1) + 1)) (by kernel_rfl) (by kernel_rfl) ?_
  refine wl_val (iN .i64 (((((((0 + 1) + 1) + 1) + 1) + 1) + 1) + 1)) (by kernel_rfl) (run_add (k := .i64) (a := (((((0 + 1) + 1) + 1) + 1) + 1) + 1) (b := 1) (by kernel_rfl) (by kernel_rfl) (by decide)) ?_
  refine wl_val (iN .i64 (((((((0 + 1) + 1) + 1) + 1) + 1) + 1) + 1)) (by kernel_rfl) (by kernel_rfl) ?_
  refine wl_nil ?_
  refine then_at rfl ?_
  try rw [rounds_succ]
  refine wp_seq ?_
  refine wp_seq ?_
  refine wl_region ?_
  refine wl_val (iN .i64 (((((((0 + 1) + 1) + 1) + 1) + 1) + 1) + 1)) (by kernel_rfl) (by kernel_rfl) ?_
  refine wl_val (.slice (some ⟨q199, 0, none⟩) 7 7) (by kernel_rfl) (by kernel_rfl) ?_
  refine wl_val (iN .i64 7) (by kernel_rfl) (by kernel_rfl) ?_
  refine wl_val (.bool false) (by kernel_rfl) (run_lss (k := .i64) (a := ((((((0 + 1) + 1) + 1) + 1) + 1) + 1) + 1) (b := 7) (by kernel_rfl) (by kernel_rfl) false (by decide)) ?_
  refine wl_nil ?_
  refine then_at rfl ?_
  refine wp_cond_false (by kernel_rfl) ?_
  refine wp_exit ?_
  repeat first | refine then_exit ?_ | refine block_exit ?_ | refine block_exit_ne (by decide) ?_
  refine then_at rfl ?_
  refine wp_seq ?_
  refine wl_region ?_
  refine wl_mks (n := 65) (m := 65) (c := bc (List.replicate 65 0)) h217 5 (by kernel_rfl) (run_mk (m := 65) (c := 65) (k := .i64) (by kernel_rfl) (by kernel_rfl) (by decide) (by decide)) ?_
  intro q218 w219 (h220 : HA z191 ((q218, 5, bc (List.replicate 65 0)) :: (gs, 3, cus) :: (q199, 3, #[iN .i64 3, iN .i64 1, iN .i64 0, iN .i64 1, iN .i64 2, iN .i64 0, iN .i64 0]) :: X192) w219)
  refine wl_val (.string lgS) (by kernel_rfl) (((run_textg (m := 65) (c := 65) (l := List.replicate 65 0) (by kernel_rfl) (h220.get 0 rfl) (by decide)).trans (by rw [List.take_of_length_le (by decide)]; rfl))) ?_
  refine wl_val (.string lgS) (by kernel_rfl) (by kernel_rfl) ?_
  refine wl_nil ?_
  refine then_at rfl ?_
  refine wp_seq ?_
  refine wp_seq ?_
  refine wl_region ?_
  refine wl_val (.pointer (some ⟨d.q, 0, none⟩)) (by kernel_rfl) (by kernel_rfl) ?_
  refine wl_callx (by kernel_rfl) enter18 #[.pointer (some ⟨d.q, 0, none⟩), iN .i64 1] (by kernel_rfl) (by have h := Arm_any (hcl193 [(q218, 5, bc (List.replicate 65 0)), (gs, 3, cus), (q199, 3, #[iN .i64 3, iN .i64 1, iN .i64 0, iN .i64 1, iN .i64 2, iN .i64 0, iN .i64 0])] _ h220) (1); rw [kn25] at h; exact h) ?_
  rintro _ w223 ⟨rfl, hD221⟩
  refine ⟨_, rfl, ?_⟩
  have hb222 := arm_DB hb189 (z := 1) (by decide)
  rw [kn25] at hb222
  have hD221 : DH _ _ d (⟨[⟨{ data := #[98] }, [97, 98, 99, 100, 101], 5⟩], 0, 1, false, [3, 1, 0, 1, 2, 0, 0]⟩) _ _ := hD221
  obtain ⟨z224, X225, hcl226, hbe227, h228⟩ := DH.front hD221
  have h229 : HA z224 ((q218, 5, bc (List.replicate 65 0)) :: (gs, 3, cus) :: (q199, 3, #[iN .i64 3, iN .i64 1, iN .i64 0, iN .i64 1, iN .i64 2, iN .i64 0, iN .i64 0]) :: X225) w223 := h228
  refine wl_val (.bool false) (by kernel_rfl) (run_nei (k := .i64) (a := 0) (b := 0) (by kernel_rfl) (by kernel_rfl) false (by decide)) ?_
  refine wl_val (.bool false) (by kernel_rfl) (by kernel_rfl) ?_
  refine wl_val (.pointer (some ⟨d.q, 0, none⟩)) (by kernel_rfl) (by kernel_rfl) ?_
  refine wl_callx (by kernel_rfl) enter18 #[.pointer (some ⟨d.q, 0, none⟩), iN .i64 0] (by kernel_rfl) (by have h := Arm_any (hcl226 [(q218, 5, bc (List.replicate 65 0)), (gs, 3, cus), (q199, 3, #[iN .i64 3, iN .i64 1, iN .i64 0, iN .i64 1, iN .i64 2, iN .i64 0, iN .i64 0])] _ h229) (0); rw [kn26] at h; exact h) ?_
  rintro _ w232 ⟨rfl, hD230⟩
  refine ⟨_, rfl, ?_⟩
  have hb231 := arm_DB hb222 (z := 0) (by decide)
  rw [kn26] at hb231
  have hD230 : DH _ _ d (⟨[⟨{ data := #[98] }, [97, 98, 99, 100, 101], 5⟩], 0, 0, false, [3, 1, 0, 1, 2, 0, 0]⟩) _ _ := hD230
  obtain ⟨z233, X234, hcl235, hbe236, h237⟩ := DH.front hD230
  have h238 : HA z233 ((q218, 5, bc (List.replicate 65 0)) :: (gs, 3, cus) :: (q199, 3, #[iN .i64 3, iN .i64 1, iN .i64 0, iN .i64 1, iN .i64 2, iN .i64 0, iN .i64 0]) :: X234) w232 := h237
  refine wl_val (.bool false) (by kernel_rfl) (run_nei (k := .i64) (a := 0) (b := 0) (by kernel_rfl) (by kernel_rfl) false (by decide)) ?_
  refine wl_val (.bool false) (by kernel_rfl) (by kernel_rfl) ?_
  refine wl_val (.bool false) (by kernel_rfl) (by kernel_rfl) ?_
  refine wl_val (.pointer (some ⟨d.q, 0, none⟩)) (by kernel_rfl) (by kernel_rfl) ?_
  refine wl_callx (by kernel_rfl) enter10 #[.pointer (some ⟨d.q, 0, none⟩), .string ({ data := #[] }), .string ({ data := #[] })] (by kernel_rfl) (by have h := Append_any (hcl235 [(q218, 5, bc (List.replicate 65 0)), (gs, 3, cus), (q199, 3, #[iN .i64 3, iN .i64 1, iN .i64 0, iN .i64 1, iN .i64 2, iN .i64 0, iN .i64 0])] _ h238) ({ data := #[] }) ({ data := #[] }) hb231 (by decide) (by decide); rw [kn27] at h; exact h) ?_
  rintro _ w241 ⟨rfl, hD239⟩
  refine ⟨_, rfl, ?_⟩
  have hb240 := Append_DB hb231 ({ data := #[] }) ({ data := #[] })
  rw [kn27] at hb240
  have hD239 : DH _ _ d (⟨[⟨{ data := #[98] }, [97, 98, 99, 100, 101], 5⟩], 0, 0, false, [3, 1, 0, 1, 2, 0, 0]⟩) _ _ := hD239
  obtain ⟨z242, X243, hcl244, hbe245, h246⟩ := DH.front hD239
  have h247 : HA z242 ((q218, 5, bc (List.replicate 65 0)) :: (gs, 3, cus) :: (q199, 3, #[iN .i64 3, iN .i64 1, iN .i64 0, iN .i64 1, iN .i64 2, iN .i64 0, iN .i64 0]) :: X243) w241 := h246
  refine wl_val (.bool false) (by kernel_rfl) (run_nei (k := .i64) (a := 2) (b := 2) (by kernel_rfl) (by kernel_rfl) false (by decide)) ?_
  refine wl_val (.bool false) (by kernel_rfl) (by kernel_rfl) ?_
  refine wl_val (.bool false) (by kernel_rfl) (by kernel_rfl) ?_
  refine wl_val (.pointer (some ⟨d.q, 0, none⟩)) (by kernel_rfl) (by kernel_rfl) ?_
  refine wl_val (.string lgS) (by kernel_rfl) (by kernel_rfl) ?_
  refine wl_callx (by kernel_rfl) enter10 #[.pointer (some ⟨d.q, 0, none⟩), .string lgS, .string ({ data := #[] })] (by kernel_rfl) (by have h := Append_any (hcl244 [(q218, 5, bc (List.replicate 65 0)), (gs, 3, cus), (q199, 3, #[iN .i64 3, iN .i64 1, iN .i64 0, iN .i64 1, iN .i64 2, iN .i64 0, iN .i64 0])] _ h247) lgS ({ data := #[] }) hb240 (by decide) (by decide); rw [kn28] at h; exact h) ?_
  rintro _ w250 ⟨rfl, hD248⟩
  refine ⟨_, rfl, ?_⟩
  have hb249 := Append_DB hb240 lgS ({ data := #[] })
  rw [kn28] at hb249
  have hD248 : DH _ _ d (⟨[⟨{ data := #[98] }, [97, 98, 99, 100, 101], 5⟩], 0, 0, false, [3, 1, 0, 1, 2, 0, 0]⟩) _ _ := hD248
  obtain ⟨z251, X252, hcl253, hbe254, h255⟩ := DH.front hD248
  have h256 : HA z251 ((q218, 5, bc (List.replicate 65 0)) :: (gs, 3, cus) :: (q199, 3, #[iN .i64 3, iN .i64 1, iN .i64 0, iN .i64 1, iN .i64 2, iN .i64 0, iN .i64 0]) :: X252) w250 := h255
  refine wl_val (.bool false) (by kernel_rfl) (run_nei (k := .i64) (a := 2) (b := 2) (by kernel_rfl) (by kernel_rfl) false (by decide)) ?_
  refine wl_val (.bool false) (by kernel_rfl) (by kernel_rfl) ?_
  refine wl_val (.bool false) (by kernel_rfl) (by kernel_rfl) ?_
  refine wl_val (.pointer (some ⟨d.q, 0, none⟩)) (by kernel_rfl) (by kernel_rfl) ?_
  refine wl_callx (by kernel_rfl) enter14 #[.pointer (some ⟨d.q, 0, none⟩), .string ({ data := #[98] }), .string ({ data := #[] })] (by kernel_rfl) (by have h := Rename_any (hcl253 [(q218, 5, bc (List.replicate 65 0)), (gs, 3, cus), (q199, 3, #[iN .i64 3, iN .i64 1, iN .i64 0, iN .i64 1, iN .i64 2, iN .i64 0, iN .i64 0])] _ h256) ({ data := #[98] }) ({ data := #[] }) hb249 (by decide); rw [kn29] at h; exact h) ?_
  rintro _ w259 ⟨rfl, hD257⟩
  refine ⟨_, rfl, ?_⟩
  have hb258 := Rename_DB hb249 ({ data := #[98] }) ({ data := #[] })
  rw [kn29] at hb258
  have hD257 : DH _ _ d (⟨[⟨{ data := #[98] }, [97, 98, 99, 100, 101], 5⟩], 0, 0, false, [3, 1, 0, 1, 2, 0, 0]⟩) _ _ := hD257
  obtain ⟨z260, X261, hcl262, hbe263, h264⟩ := DH.front hD257
  have h265 : HA z260 ((q218, 5, bc (List.replicate 65 0)) :: (gs, 3, cus) :: (q199, 3, #[iN .i64 3, iN .i64 1, iN .i64 0, iN .i64 1, iN .i64 2, iN .i64 0, iN .i64 0]) :: X261) w259 := h264
  refine wl_val (.bool false) (by kernel_rfl) (run_nei (k := .i64) (a := 2) (b := 2) (by kernel_rfl) (by kernel_rfl) false (by decide)) ?_
  refine wl_val (.bool false) (by kernel_rfl) (by kernel_rfl) ?_
  refine wl_val (.bool false) (by kernel_rfl) (by kernel_rfl) ?_
  refine wl_val (.pointer (some ⟨d.q, 0, none⟩)) (by kernel_rfl) (by kernel_rfl) ?_
  refine wl_callx (by kernel_rfl) enter14 #[.pointer (some ⟨d.q, 0, none⟩), .string ({ data := #[98] }), .string ({ data := #[98] })] (by kernel_rfl) (by have h := Rename_any (hcl262 [(q218, 5, bc (List.replicate 65 0)), (gs, 3, cus), (q199, 3, #[iN .i64 3, iN .i64 1, iN .i64 0, iN .i64 1, iN .i64 2, iN .i64 0, iN .i64 0])] _ h265) ({ data := #[98] }) ({ data := #[98] }) hb258 (by decide); rw [kn30] at h; exact h) ?_
  rintro _ w268 ⟨rfl, hD266⟩
  refine ⟨_, rfl, ?_⟩
  have hb267 := Rename_DB hb258 ({ data := #[98] }) ({ data := #[98] })
  rw [kn30] at hb267
  have hD266 : DH _ _ d (⟨[⟨{ data := #[98] }, [97, 98, 99, 100, 101], 5⟩], 0, 0, false, [3, 1, 0, 1, 2, 0, 0, 0]⟩) _ _ := hD266
  obtain ⟨z269, X270, hcl271, hbe272, h273⟩ := DH.front hD266
  have h274 : HA z269 ((q218, 5, bc (List.replicate 65 0)) :: (gs, 3, cus) :: (q199, 3, #[iN .i64 3, iN .i64 1, iN .i64 0, iN .i64 1, iN .i64 2, iN .i64 0, iN .i64 0]) :: X270) w268 := h273
  refine wl_val (.bool false) (by kernel_rfl) (run_nei (k := .i64) (a := 0) (b := 0) (by kernel_rfl) (by kernel_rfl) false (by decide)) ?_
  refine wl_val (.bool false) (by kernel_rfl) (by kernel_rfl) ?_
  refine wl_val (.bool false) (by kernel_rfl) (by kernel_rfl) ?_
  refine wl_val (.pointer (some ⟨d.q, 0, none⟩)) (by kernel_rfl) (by kernel_rfl) ?_
  refine wl_callx (by kernel_rfl) enter16 #[.pointer (some ⟨d.q, 0, none⟩), .string ({ data := #[98] })] (by kernel_rfl) (by have h := Remove_any (hcl271 [(q218, 5, bc (List.replicate 65 0)), (gs, 3, cus), (q199, 3, #[iN .i64 3, iN .i64 1, iN .i64 0, iN .i64 1, iN .i64 2, iN .i64 0, iN .i64 0])] _ h274) ({ data := #[98] }) hb267 (by decide); rw [kn31] at h; exact h) ?_
  rintro _ w277 ⟨rfl, hD275⟩
  refine ⟨_, rfl, ?_⟩
  have hb276 := Remove_DB hb267 ({ data := #[98] })
  rw [kn31] at hb276
  have hD275 : DH _ _ d (⟨[], 5, 0, false, [3, 1, 0, 1, 2, 0, 0, 0, 0]⟩) _ _ := hD275
  obtain ⟨z278, X279, hcl280, hbe281, h282⟩ := DH.front hD275
  have h283 : HA z278 ((q218, 5, bc (List.replicate 65 0)) :: (gs, 3, cus) :: (q199, 3, #[iN .i64 3, iN .i64 1, iN .i64 0, iN .i64 1, iN .i64 2, iN .i64 0, iN .i64 0]) :: X279) w277 := h282
  refine wl_val (.bool false) (by kernel_rfl) (run_nei (k := .i64) (a := 0) (b := 0) (by kernel_rfl) (by kernel_rfl) false (by decide)) ?_
  refine wl_val (.bool false) (by kernel_rfl) (by kernel_rfl) ?_
  refine wl_val (.bool false) (by kernel_rfl) (by kernel_rfl) ?_
  refine wl_val (.pointer (some ⟨d.q, 0, none⟩)) (by kernel_rfl) (by kernel_rfl) ?_
  refine wl_callx (by kernel_rfl) enter16 #[.pointer (some ⟨d.q, 0, none⟩), .string ({ data := #[98] })] (by kernel_rfl) (by have h := Remove_any (hcl280 [(q218, 5, bc (List.replicate 65 0)), (gs, 3, cus), (q199, 3, #[iN .i64 3, iN .i64 1, iN .i64 0, iN .i64 1, iN .i64 2, iN .i64 0, iN .i64 0])] _ h283) ({ data := #[98] }) hb276 (by decide); rw [kn32] at h; exact h) ?_
  rintro _ w286 ⟨rfl, hD284⟩
  refine ⟨_, rfl, ?_⟩
  have hb285 := Remove_DB hb276 ({ data := #[98] })
  rw [kn32] at hb285
  have hD284 : DH _ _ d (⟨[], 5, 0, false, [3, 1, 0, 1, 2, 0, 0, 0, 0]⟩) _ _ := hD284
  obtain ⟨z287, X288, hcl289, hbe290, h291⟩ := DH.front hD284
  have h292 : HA z287 ((q218, 5, bc (List.replicate 65 0)) :: (gs, 3, cus) :: (q199, 3, #[iN .i64 3, iN .i64 1, iN .i64 0, iN .i64 1, iN .i64 2, iN .i64 0, iN .i64 0]) :: X288) w286 := h291
  refine wl_val (.bool false) (by kernel_rfl) (run_nei (k := .i64) (a := 5) (b := 5) (by kernel_rfl) (by kernel_rfl) false (by decide)) ?_
  refine wl_val (.bool false) (by kernel_rfl) (by kernel_rfl) ?_
  refine wl_val (.bool false) (by kernel_rfl) (by kernel_rfl) ?_
  refine wl_val (.pointer (some ⟨d.q, 0, none⟩)) (by kernel_rfl) (by kernel_rfl) ?_
  refine wl_val (.string lgS) (by kernel_rfl) (by kernel_rfl) ?_
  refine wl_val (.string (lgS.extract 0 64)) (by kernel_rfl) (run_cut_hi (s := lgS) (b := 64) (by kernel_rfl) (by kernel_rfl) (by decide)) ?_
  refine wl_callx (by kernel_rfl) enter10 #[.pointer (some ⟨d.q, 0, none⟩), .string (lgS.extract 0 64), .string ({ data := #[] })] (by kernel_rfl) (by have h := Append_any (hcl289 [(q218, 5, bc (List.replicate 65 0)), (gs, 3, cus), (q199, 3, #[iN .i64 3, iN .i64 1, iN .i64 0, iN .i64 1, iN .i64 2, iN .i64 0, iN .i64 0])] _ h292) (lgS.extract 0 64) ({ data := #[] }) hb285 (by decide) (by decide); rw [kn33] at h; exact h) ?_
  rintro _ w295 ⟨rfl, hD293⟩
  refine ⟨_, rfl, ?_⟩
  have hb294 := Append_DB hb285 (lgS.extract 0 64) ({ data := #[] })
  rw [kn33] at hb294
  have hD293 : DH _ _ d (⟨[⟨{ data := #[0, 0, 0, 0, 0, 0, 0, 0, 0, 0, 0, 0, 0, 0, 0, 0, 0, 0, 0, 0, 0, 0, 0, 0, 0, 0, 0, 0, 0, 0, 0, 0, 0, 0, 0, 0, 0, 0, 0, 0, 0, 0, 0, 0, 0, 0, 0, 0, 0, 0, 0, 0, 0, 0, 0, 0, 0, 0, 0, 0, 0, 0, 0, 0] }, [], 0⟩], 5, 0, false, [3, 1, 0, 1, 2, 0, 0, 0, 0, 0]⟩) _ _ := hD293
  obtain ⟨z296, X297, hcl298, hbe299, h300⟩ := DH.front hD293
  have h301 : HA z296 ((q218, 5, bc (List.replicate 65 0)) :: (gs, 3, cus) :: (q199, 3, #[iN .i64 3, iN .i64 1, iN .i64 0, iN .i64 1, iN .i64 2, iN .i64 0, iN .i64 0]) :: X297) w295 := h300
  refine wl_val (.bool false) (by kernel_rfl) (run_nei (k := .i64) (a := 0) (b := 0) (by kernel_rfl) (by kernel_rfl) false (by decide)) ?_
  refine wl_val (.bool false) (by kernel_rfl) (by kernel_rfl) ?_
  refine wl_nil ?_
  refine then_at (F := ⟨(.bool false :: pt d.q :: .string ({ data := #[97, 98, 99] }) :: iN .i64 16 :: .string ({ data := #[97, 98, 99, 100, 101] }) :: iN .i64 0 :: .slice (some ⟨q199, 0, none⟩) 7 7 :: .slice (some ⟨gs, 0, none⟩) 7 cs :: iN .i64 (((((((0 + 1) + 1) + 1) + 1) + 1) + 1) + 1) :: .string lgS :: un :: un :: un :: pt d.q :: pt d.q :: .bool false :: .bool false :: pt d.q :: iN .i64 0 :: .bool false :: .bool false :: .bool false :: pt d.q :: iN .i64 7 :: .bool false :: .bool false :: .bool false :: pt d.q :: iN .i64 0 :: .bool false :: .bool false :: .bool false :: pt d.q :: iN .i64 1 :: .bool false :: .bool false :: pt d.q :: iN .i64 0 :: .bool false :: .bool false :: pt d.q :: iN .i64 0 :: .bool false :: .bool false :: .bool false :: pt d.q :: iN .i64 0 :: .bool false :: .bool false :: .tuple #[.string ({ data := #[97, 98, 99] }), iN .i64 0] :: pt d.q :: .tuple #[.string ({ data := #[97, 98, 99] }), iN .i64 0] :: .string ({ data := #[97, 98, 99] }) :: iN .i64 0 :: .tuple #[.string ({ data := #[] }), iN .i64 0] :: pt d.q :: .tuple #[.string ({ data := #[] }), iN .i64 0] :: .string ({ data := #[] }) :: iN .i64 0 :: .string ({ data := #[97, 98, 99] }) :: .bool false :: .bool false :: iN .i64 0 :: .bool false :: .bool false :: .bool false :: .string ({ data := #[] }) :: .bool false :: .bool false :: .bool false :: iN .i64 0 :: .bool false :: .bool false :: .bool false :: pt d.q :: .slice pl68 2 cl69 :: iN .i64 2 :: .bool false :: .bool false :: .bool false :: pt d.q :: iN .i64 0 :: .bool false :: .bool false :: .bool false :: pt d.q :: .slice (some ⟨q85, 0, none⟩) 1 1 :: iN .i64 0 :: .bool false :: .bool false :: .bool false :: pt d.q :: iN .i64 5 :: .bool false :: .bool false :: pt d.q :: iN .i64 0 :: .bool false :: .bool false :: pt d.q :: iN .i64 0 :: .bool false :: .bool false :: .bool false :: pt d.q :: iN .i64 16 :: .bool false :: .bool false :: .bool false :: pt d.q :: .bool true :: .bool false :: .bool false :: .bool false :: pt d.q :: iN .i64 16 :: .bool false :: .bool false :: .bool false :: pt d.q :: iN .i64 16 :: .bool false :: .bool false :: .bool false :: pt d.q :: iN .i64 0 :: .bool false :: .bool false :: .bool false :: pt d.q :: iN .i64 0 :: .bool false :: .bool false :: .bool false :: pt d.q :: .slice pl151 0 cl152 :: iN .i64 0 :: .bool false :: .bool false :: .tuple #[.string ({ data := #[] }), iN .i64 16] :: pt d.q :: .tuple #[.string ({ data := #[] }), iN .i64 16] :: .string ({ data := #[] }) :: iN .i64 16 :: iN .i64 16 :: .bool false :: .bool false :: pt d.q :: iN .i64 0 :: .bool false :: .bool false :: .bool false :: pt d.q :: iN .i64 0 :: .bool false :: .bool false :: .bool false :: pt d.q :: iN .i64 5 :: .bool false :: .bool false :: .bool false :: pt d.q :: iN .i64 2 :: .bool false :: .bool false :: .tuple #[.string ({ data := #[97, 98, 99, 100, 101] }), iN .i64 0] :: pt d.q :: .tuple #[.string ({ data := #[97, 98, 99, 100, 101] }), iN .i64 0] :: .string ({ data := #[97, 98, 99, 100, 101] }) :: iN .i64 0 :: .slice (some ⟨q199, 0, none⟩) 7 7 :: pt d.q :: .slice (some ⟨gs, 0, none⟩) 7 cs :: .string ({ data := #[97, 98, 99, 100, 101] }) :: .bool false :: .bool false :: .slice (some ⟨gs, 0, none⟩) 7 cs :: iN .i64 7 :: .slice (some ⟨q199, 0, none⟩) 7 7 :: iN .i64 7 :: .bool false :: .bool false :: iN .i64 (((((((0 + 1) + 1) + 1) + 1) + 1) + 1) + 1) :: .slice (some ⟨q199, 0, none⟩) 7 7 :: iN .i64 7 :: .bool false :: iN .i64 ((((((0 + 1) + 1) + 1) + 1) + 1) + 1) :: iN .i64 (((((((0 + 1) + 1) + 1) + 1) + 1) + 1) + 1) :: .slice (some ⟨gs, 0, none⟩) 7 cs :: iN .i64 ((((((0 + 1) + 1) + 1) + 1) + 1) + 1) :: .pointer (some ⟨gs, (((((0 + 1) + 1) + 1) + 1) + 1) + 1, none⟩) :: iN .i64 0 :: .slice (some ⟨q199, 0, none⟩) 7 7 :: iN .i64 ((((((0 + 1) + 1) + 1) + 1) + 1) + 1) :: .pointer (some ⟨q199, (((((0 + 1) + 1) + 1) + 1) + 1) + 1, none⟩) :: iN .i64 0 :: .bool false :: .slice (some ⟨q218, 0, none⟩) 65 65 :: .string lgS :: pt d.q :: iN .i64 0 :: .bool false :: .bool false :: pt d.q :: iN .i64 0 :: .bool false :: .bool false :: .bool false :: pt d.q :: iN .i64 2 :: .bool false :: .bool false :: .bool false :: pt d.q :: .string lgS :: iN .i64 2 :: .bool false :: .bool false :: .bool false :: pt d.q :: iN .i64 2 :: .bool false :: .bool false :: .bool false :: pt d.q :: iN .i64 0 :: .bool false :: .bool false :: .bool false :: pt d.q :: iN .i64 0 :: .bool false :: .bool false :: .bool false :: pt d.q :: iN .i64 5 :: .bool false :: .bool false :: .bool false :: pt d.q :: .string lgS :: .string (lgS.extract 0 64) :: iN .i64 0 :: .bool false :: .bool false :: List.replicate 85 un).toArray, []⟩) (by kernel_rfl) ?_
  refine wp_cond_false (by kernel_rfl) ?_
  refine wp_skip ?_
  refine then_at rfl ?_
  refine wp_seq ?_
  refine wp_seq ?_
  refine wl_region ?_
  refine wl_val (.pointer (some ⟨d.q, 0, none⟩)) (by kernel_rfl) (by kernel_rfl) ?_
  refine wl_callx (by kernel_rfl) enter18 #[.pointer (some ⟨d.q, 0, none⟩), iN .i64 1] (by kernel_rfl) (by have h := Arm_any (hcl298 [(q218, 5, bc (List.replicate 65 0)), (gs, 3, cus), (q199, 3, #[iN .i64 3, iN .i64 1, iN .i64 0, iN .i64 1, iN .i64 2, iN .i64 0, iN .i64 0])] _ h301) (1); rw [kn34] at h; exact h) ?_
  rintro _ w304 ⟨rfl, hD302⟩
  refine ⟨_, rfl, ?_⟩
  have hb303 := arm_DB hb294 (z := 1) (by decide)
  rw [kn34] at hb303
  have hD302 : DH _ _ d (⟨[⟨{ data := #[0, 0, 0, 0, 0, 0, 0, 0, 0, 0, 0, 0, 0, 0, 0, 0, 0, 0, 0, 0, 0, 0, 0, 0, 0, 0, 0, 0, 0, 0, 0, 0, 0, 0, 0, 0, 0, 0, 0, 0, 0, 0, 0, 0, 0, 0, 0, 0, 0, 0, 0, 0, 0, 0, 0, 0, 0, 0, 0, 0, 0, 0, 0, 0] }, [], 0⟩], 5, 1, false, [3, 1, 0, 1, 2, 0, 0, 0, 0, 0]⟩) _ _ := hD302
  obtain ⟨z305, X306, hcl307, hbe308, h309⟩ := DH.front hD302
  have h310 : HA z305 ((q218, 5, bc (List.replicate 65 0)) :: (gs, 3, cus) :: (q199, 3, #[iN .i64 3, iN .i64 1, iN .i64 0, iN .i64 1, iN .i64 2, iN .i64 0, iN .i64 0]) :: X306) w304 := h309
  refine wl_val (.bool false) (by kernel_rfl) (run_nei (k := .i64) (a := 0) (b := 0) (by kernel_rfl) (by kernel_rfl) false (by decide)) ?_
  refine wl_val (.bool false) (by kernel_rfl) (by kernel_rfl) ?_
  refine wl_val (.pointer (some ⟨d.q, 0, none⟩)) (by kernel_rfl) (by kernel_rfl) ?_
  refine wl_callx (by kernel_rfl) enter16 #[.pointer (some ⟨d.q, 0, none⟩), .string ({ data := #[110, 111, 98, 111, 100, 121] })] (by kernel_rfl) (by have h := Remove_any (hcl307 [(q218, 5, bc (List.replicate 65 0)), (gs, 3, cus), (q199, 3, #[iN .i64 3, iN .i64 1, iN .i64 0, iN .i64 1, iN .i64 2, iN .i64 0, iN .i64 0])] _ h310) ({ data := #[110, 111, 98, 111, 100, 121] }) hb303 (by decide); rw [kn35] at h; exact h) ?_
  rintro _ w313 ⟨rfl, hD311⟩
  refine ⟨_, rfl, ?_⟩
  have hb312 := Remove_DB hb303 ({ data := #[110, 111, 98, 111, 100, 121] })
  rw [kn35] at hb312
  have hD311 : DH _ _ d (⟨[⟨{ data := #[0, 0, 0, 0, 0, 0, 0, 0, 0, 0, 0, 0, 0, 0, 0, 0, 0, 0, 0, 0, 0, 0, 0, 0, 0, 0, 0, 0, 0, 0, 0, 0, 0, 0, 0, 0, 0, 0, 0, 0, 0, 0, 0, 0, 0, 0, 0, 0, 0, 0, 0, 0, 0, 0, 0, 0, 0, 0, 0, 0, 0, 0, 0, 0] }, [], 0⟩], 5, 0, true, [3, 1, 0, 1, 2, 0, 0, 0, 0, 0]⟩) _ _ := hD311
  obtain ⟨z314, X315, hcl316, hbe317, h318⟩ := DH.front hD311
  have h319 : HA z314 ((q218, 5, bc (List.replicate 65 0)) :: (gs, 3, cus) :: (q199, 3, #[iN .i64 3, iN .i64 1, iN .i64 0, iN .i64 1, iN .i64 2, iN .i64 0, iN .i64 0]) :: X315) w313 := h318
  refine wl_val (.bool false) (by kernel_rfl) (run_nei (k := .i64) (a := 16) (b := 16) (by kernel_rfl) (by kernel_rfl) false (by decide)) ?_
  refine wl_val (.bool false) (by kernel_rfl) (by kernel_rfl) ?_
  refine wl_val (.bool false) (by kernel_rfl) (by kernel_rfl) ?_
  refine wl_val (.pointer (some ⟨d.q, 0, none⟩)) (by kernel_rfl) (by kernel_rfl) ?_
  refine wl_call (v := .bool true) h319 (by kernel_rfl) enter27 #[.pointer (some ⟨d.q, 0, none⟩)] (by kernel_rfl) (Down_any (hcl316 [(q218, 5, bc (List.replicate 65 0)), (gs, 3, cus), (q199, 3, #[iN .i64 3, iN .i64 1, iN .i64 0, iN .i64 1, iN .i64 2, iN .i64 0, iN .i64 0])] _ h319)) ?_
  intro w320 h321
  refine wl_val (.bool false) (by kernel_rfl) (by kernel_rfl) ?_
  refine wl_val (.bool false) (by kernel_rfl) (by kernel_rfl) ?_
  refine wl_nil ?_
  refine then_at rfl ?_
  refine wp_cond_false (by kernel_rfl) ?_
  refine wp_skip ?_
  refine then_at rfl ?_
  refine wp_seq ?_
  refine wl_region ?_
  refine wl_val (.pointer none) (by kernel_rfl) (by kernel_rfl) ?_
  refine wl_nil ?_
  refine then_at rfl ?_
  refine wp_seq ?_
  refine wl_region ?_
  refine wl_val (.pointer none) (by kernel_rfl) (by kernel_rfl) ?_
  refine wl_call (v := .tuple #[.string ({ data := #[] }), iN .i64 1]) h321 (by kernel_rfl) enter23 #[.pointer none, .string ({ data := #[97] })] (by kernel_rfl) (Read_nil ({ data := #[97] }) w320) ?_
  intro w322 h323
  refine wl_val (.tuple #[.string ({ data := #[] }), iN .i64 1]) (by kernel_rfl) (by kernel_rfl) ?_
  refine wl_val (.string ({ data := #[] })) (by kernel_rfl) (by kernel_rfl) ?_
  refine wl_val (iN .i64 1) (by kernel_rfl) (by kernel_rfl) ?_
  refine wl_val (.string ({ data := #[] })) (by kernel_rfl) (by kernel_rfl) ?_
  refine wl_val (iN .i64 1) (by kernel_rfl) (by kernel_rfl) ?_
  refine wl_nil ?_
  refine then_at rfl ?_
  refine wp_seq ?_
  refine wl_region ?_
  refine wl_val (iN .i64 1) (by kernel_rfl) (by kernel_rfl) ?_
  refine wl_val (.bool true) (by kernel_rfl) (run_eqi (k := .i64) (a := 1) (b := 1) (by kernel_rfl) (by kernel_rfl) true (by decide)) ?_
  refine wl_val (.bool true) (by kernel_rfl) (by kernel_rfl) ?_
  refine wl_val (.pointer none) (by kernel_rfl) (by kernel_rfl) ?_
  refine wl_call (v := iN .i64 1) h323 (by kernel_rfl) enter10 #[.pointer none, .string ({ data := #[97] }), .string ({ data := #[] })] (by kernel_rfl) (Append_nil ({ data := #[97] }) ({ data := #[] }) w322) ?_
  intro w324 h325
  refine wl_val (.bool true) (by kernel_rfl) (run_eqi (k := .i64) (a := 1) (b := 1) (by kernel_rfl) (by kernel_rfl) true (by decide)) ?_
  refine wl_val (.bool true) (by kernel_rfl) (by kernel_rfl) ?_
  refine wl_val (.bool true) (by kernel_rfl) (by kernel_rfl) ?_
  refine wl_val (.pointer none) (by kernel_rfl) (by kernel_rfl) ?_
  refine wl_call (v := iN .i64 1) h325 (by kernel_rfl) enter12 #[.pointer none, .string ({ data := #[97] })] (by kernel_rfl) (Sync_nil ({ data := #[97] }) w324) ?_
  intro w326 h327
  refine wl_val (.bool true) (by kernel_rfl) (run_eqi (k := .i64) (a := 1) (b := 1) (by kernel_rfl) (by kernel_rfl) true (by decide)) ?_
  refine wl_val (.bool true) (by kernel_rfl) (by kernel_rfl) ?_
  refine wl_val (.bool true) (by kernel_rfl) (by kernel_rfl) ?_
  refine wl_val (.pointer none) (by kernel_rfl) (by kernel_rfl) ?_
  refine wl_call (v := iN .i64 1) h327 (by kernel_rfl) enter14 #[.pointer none, .string ({ data := #[97] }), .string ({ data := #[98] })] (by kernel_rfl) (Rename_nil ({ data := #[97] }) ({ data := #[98] }) w326) ?_
  intro w328 h329
  refine wl_val (.bool true) (by kernel_rfl) (run_eqi (k := .i64) (a := 1) (b := 1) (by kernel_rfl) (by kernel_rfl) true (by decide)) ?_
  refine wl_val (.bool true) (by kernel_rfl) (by kernel_rfl) ?_
  refine wl_val (.bool true) (by kernel_rfl) (by kernel_rfl) ?_
  refine wl_val (.pointer none) (by kernel_rfl) (by kernel_rfl) ?_
  refine wl_call (v := iN .i64 1) h329 (by kernel_rfl) enter16 #[.pointer none, .string ({ data := #[97] })] (by kernel_rfl) (Remove_nil ({ data := #[97] }) w328) ?_
  intro w330 h331
  refine wl_val (.bool true) (by kernel_rfl) (run_eqi (k := .i64) (a := 1) (b := 1) (by kernel_rfl) (by kernel_rfl) true (by decide)) ?_
  refine wl_val (.bool true) (by kernel_rfl) (by kernel_rfl) ?_
  refine wl_val (.bool true) (by kernel_rfl) (by kernel_rfl) ?_
  refine wl_val (.pointer none) (by kernel_rfl) (by kernel_rfl) ?_
  refine wl_call (v := iN .i64 1) h331 (by kernel_rfl) enter18 #[.pointer none, iN .i64 1] (by kernel_rfl) (Arm_nil 1 w330) ?_
  intro w332 h333
  refine wl_val (.bool true) (by kernel_rfl) (run_eqi (k := .i64) (a := 1) (b := 1) (by kernel_rfl) (by kernel_rfl) true (by decide)) ?_
  refine wl_val (.bool true) (by kernel_rfl) (by kernel_rfl) ?_
  refine wl_val (.bool true) (by kernel_rfl) (by kernel_rfl) ?_
  refine wl_val (.pointer none) (by kernel_rfl) (by kernel_rfl) ?_
  refine wl_call (v := iN .i64 1) h333 (by kernel_rfl) enter20 #[.pointer none, .slice none 0 0] (by kernel_rfl) (Wake_nil (.slice none 0 0) w332) ?_
  intro w334 h335
  refine wl_val (.bool true) (by kernel_rfl) (run_eqi (k := .i64) (a := 1) (b := 1) (by kernel_rfl) (by kernel_rfl) true (by decide)) ?_
  refine wl_val (.bool true) (by kernel_rfl) (by kernel_rfl) ?_
  refine wl_val (.bool true) (by kernel_rfl) (by kernel_rfl) ?_
  refine wl_val (.pointer none) (by kernel_rfl) (by kernel_rfl) ?_
  refine wl_call (v := .bool false) h335 (by kernel_rfl) enter27 #[.pointer none] (by kernel_rfl) (Down_nil  w334) ?_
  intro w336 h337
  refine wl_val (.bool true) (by kernel_rfl) (by kernel_rfl) ?_
  refine wl_val (.bool true) (by kernel_rfl) (by kernel_rfl) ?_
  refine wl_val (.bool true) (by kernel_rfl) (by kernel_rfl) ?_
  refine wl_val (.pointer none) (by kernel_rfl) (by kernel_rfl) ?_
  refine wl_call (v := iN .i64 0) h337 (by kernel_rfl) enter31 #[.pointer none] (by kernel_rfl) (Free_nil  w336) ?_
  intro w338 h339
  refine wl_val (.bool true) (by kernel_rfl) (run_eqi (k := .i64) (a := 0) (b := 0) (by kernel_rfl) (by kernel_rfl) true (by decide)) ?_
  refine wl_val (.bool true) (by kernel_rfl) (by kernel_rfl) ?_
  refine wl_val (.bool true) (by kernel_rfl) (by kernel_rfl) ?_
  refine wl_val (.pointer none) (by kernel_rfl) (by kernel_rfl) ?_
  refine wl_call (v := iN .i64 0) h339 (by kernel_rfl) enter28 #[.pointer none, .string ({ data := #[97] })] (by kernel_rfl) (Synced_nil ({ data := #[97] }) w338) ?_
  intro w340 h341
  refine wl_val (.bool true) (by kernel_rfl) (run_eqi (k := .i64) (a := 0) (b := 0) (by kernel_rfl) (by kernel_rfl) true (by decide)) ?_
  refine wl_val (.bool true) (by kernel_rfl) (by kernel_rfl) ?_
  refine wl_val (.bool true) (by kernel_rfl) (by kernel_rfl) ?_
  refine wl_val (.pointer none) (by kernel_rfl) (by kernel_rfl) ?_
  refine wl_call (v := .slice none 0 0) h341 (by kernel_rfl) enter29 #[.pointer none, .string ({ data := #[] })] (by kernel_rfl) (List_nil ({ data := #[] }) w340) ?_
  intro w342 h343
  refine wl_val (iN .i64 0) (by kernel_rfl) (by kernel_rfl) ?_
  refine wl_val (.bool true) (by kernel_rfl) (run_eqi (k := .i64) (a := 0) (b := 0) (by kernel_rfl) (by kernel_rfl) true (by decide)) ?_
  refine wl_val (.bool true) (by kernel_rfl) (by kernel_rfl) ?_
  refine wl_val (.bool true) (by kernel_rfl) (by kernel_rfl) ?_
  refine wl_val (.pointer none) (by kernel_rfl) (by kernel_rfl) ?_
  refine wl_call (v := .slice none 0 0) h343 (by kernel_rfl) enter30 #[.pointer none] (by kernel_rfl) (Sizes_nil  w342) ?_
  intro w344 h345
  refine wl_val (iN .i64 0) (by kernel_rfl) (by kernel_rfl) ?_
  refine wl_val (.bool true) (by kernel_rfl) (run_eqi (k := .i64) (a := 0) (b := 0) (by kernel_rfl) (by kernel_rfl) true (by decide)) ?_
  refine wl_val (.bool true) (by kernel_rfl) (by kernel_rfl) ?_
  refine wl_val (.bool true) (by kernel_rfl) (by kernel_rfl) ?_
  refine wl_val (.pointer none) (by kernel_rfl) (by kernel_rfl) ?_
  refine wl_call (v := .pointer none) h345 (by kernel_rfl) enter22 #[.pointer none] (by kernel_rfl) (Copy_nil  w344) ?_
  intro w346 h347
  refine wl_val (.bool true) (by kernel_rfl) (by kernel_rfl) ?_
  refine wl_val (.bool true) (by kernel_rfl) (by kernel_rfl) ?_
  refine wl_val (.bool true) (by kernel_rfl) (by kernel_rfl) ?_
  refine wl_call (v := .bool true) h347 (by kernel_rfl) enter26 #[] (by kernel_rfl) (works_any w346) ?_
  intro w348 h349
  refine wl_val (.bool true) (by kernel_rfl) (by kernel_rfl) ?_
  refine wl_val (.bool true) (by kernel_rfl) (by kernel_rfl) ?_
  refine wl_nil ?_
  refine then_at (F := ⟨(.bool true :: pt d.q :: .string ({ data := #[97, 98, 99] }) :: iN .i64 16 :: .string ({ data := #[97, 98, 99, 100, 101] }) :: iN .i64 0 :: .slice (some ⟨q199, 0, none⟩) 7 7 :: .slice (some ⟨gs, 0, none⟩) 7 cs :: iN .i64 (((((((0 + 1) + 1) + 1) + 1) + 1) + 1) + 1) :: .string lgS :: .pointer none :: .string ({ data := #[] }) :: iN .i64 1 :: pt d.q :: pt d.q :: .bool false :: .bool false :: pt d.q :: iN .i64 0 :: .bool false :: .bool false :: .bool false :: pt d.q :: iN .i64 7 :: .bool false :: .bool false :: .bool false :: pt d.q :: iN .i64 0 :: .bool false :: .bool false :: .bool false :: pt d.q :: iN .i64 1 :: .bool false :: .bool false :: pt d.q :: iN .i64 0 :: .bool false :: .bool false :: pt d.q :: iN .i64 0 :: .bool false :: .bool false :: .bool false :: pt d.q :: iN .i64 0 :: .bool false :: .bool false :: .tuple #[.string ({ data := #[97, 98, 99] }), iN .i64 0] :: pt d.q :: .tuple #[.string ({ data := #[97, 98, 99] }), iN .i64 0] :: .string ({ data := #[97, 98, 99] }) :: iN .i64 0 :: .tuple #[.string ({ data := #[] }), iN .i64 0] :: pt d.q :: .tuple #[.string ({ data := #[] }), iN .i64 0] :: .string ({ data := #[] }) :: iN .i64 0 :: .string ({ data := #[97, 98, 99] }) :: .bool false :: .bool false :: iN .i64 0 :: .bool false :: .bool false :: .bool false :: .string ({ data := #[] }) :: .bool false :: .bool false :: .bool false :: iN .i64 0 :: .bool false :: .bool false :: .bool false :: pt d.q :: .slice pl68 2 cl69 :: iN .i64 2 :: .bool false :: .bool false :: .bool false :: pt d.q :: iN .i64 0 :: .bool false :: .bool false :: .bool false :: pt d.q :: .slice (some ⟨q85, 0, none⟩) 1 1 :: iN .i64 0 :: .bool false :: .bool false :: .bool false :: pt d.q :: iN .i64 5 :: .bool false :: .bool false :: pt d.q :: iN .i64 0 :: .bool false :: .bool false :: pt d.q :: iN .i64 0 :: .bool false :: .bool false :: .bool false :: pt d.q :: iN .i64 16 :: .bool false :: .bool false :: .bool false :: pt d.q :: .bool true :: .bool false :: .bool false :: .bool false :: pt d.q :: iN .i64 16 :: .bool false :: .bool false :: .bool false :: pt d.q :: iN .i64 16 :: .bool false :: .bool false :: .bool false :: pt d.q :: iN .i64 0 :: .bool false :: .bool false :: .bool false :: pt d.q :: iN .i64 0 :: .bool false :: .bool false :: .bool false :: pt d.q :: .slice pl151 0 cl152 :: iN .i64 0 :: .bool false :: .bool false :: .tuple #[.string ({ data := #[] }), iN .i64 16] :: pt d.q :: .tuple #[.string ({ data := #[] }), iN .i64 16] :: .string ({ data := #[] }) :: iN .i64 16 :: iN .i64 16 :: .bool false :: .bool false :: pt d.q :: iN .i64 0 :: .bool false :: .bool false :: .bool false :: pt d.q :: iN .i64 0 :: .bool false :: .bool false :: .bool false :: pt d.q :: iN .i64 5 :: .bool false :: .bool false :: .bool false :: pt d.q :: iN .i64 2 :: .bool false :: .bool false :: .tuple #[.string ({ data := #[97, 98, 99, 100, 101] }), iN .i64 0] :: pt d.q :: .tuple #[.string ({ data := #[97, 98, 99, 100, 101] }), iN .i64 0] :: .string ({ data := #[97, 98, 99, 100, 101] }) :: iN .i64 0 :: .slice (some ⟨q199, 0, none⟩) 7 7 :: pt d.q :: .slice (some ⟨gs, 0, none⟩) 7 cs :: .string ({ data := #[97, 98, 99, 100, 101] }) :: .bool false :: .bool false :: .slice (some ⟨gs, 0, none⟩) 7 cs :: iN .i64 7 :: .slice (some ⟨q199, 0, none⟩) 7 7 :: iN .i64 7 :: .bool false :: .bool false :: iN .i64 (((((((0 + 1) + 1) + 1) + 1) + 1) + 1) + 1) :: .slice (some ⟨q199, 0, none⟩) 7 7 :: iN .i64 7 :: .bool false :: iN .i64 ((((((0 + 1) + 1) + 1) + 1) + 1) + 1) :: iN .i64 (((((((0 + 1) + 1) + 1) + 1) + 1) + 1) + 1) :: .slice (some ⟨gs, 0, none⟩) 7 cs :: iN .i64 ((((((0 + 1) + 1) + 1) + 1) + 1) + 1) :: .pointer (some ⟨gs, (((((0 + 1) + 1) + 1) + 1) + 1) + 1, none⟩) :: iN .i64 0 :: .slice (some ⟨q199, 0, none⟩) 7 7 :: iN .i64 ((((((0 + 1) + 1) + 1) + 1) + 1) + 1) :: .pointer (some ⟨q199, (((((0 + 1) + 1) + 1) + 1) + 1) + 1, none⟩) :: iN .i64 0 :: .bool false :: .slice (some ⟨q218, 0, none⟩) 65 65 :: .string lgS :: pt d.q :: iN .i64 0 :: .bool false :: .bool false :: pt d.q :: iN .i64 0 :: .bool false :: .bool false :: .bool false :: pt d.q :: iN .i64 2 :: .bool false :: .bool false :: .bool false :: pt d.q :: .string lgS :: iN .i64 2 :: .bool false :: .bool false :: .bool false :: pt d.q :: iN .i64 2 :: .bool false :: .bool false :: .bool false :: pt d.q :: iN .i64 0 :: .bool false :: .bool false :: .bool false :: pt d.q :: iN .i64 0 :: .bool false :: .bool false :: .bool false :: pt d.q :: iN .i64 5 :: .bool false :: .bool false :: .bool false :: pt d.q :: .string lgS :: .string (lgS.extract 0 64) :: iN .i64 0 :: .bool false :: .bool false :: pt d.q :: iN .i64 0 :: .bool false :: .bool false :: pt d.q :: iN .i64 16 :: .bool false :: .bool false :: .bool false :: pt d.q :: .bool true :: .bool false :: .bool false :: .tuple #[.string ({ data := #[] }), iN .i64 1] :: .pointer none :: .tuple #[.string ({ data := #[] }), iN .i64 1] :: .string ({ data := #[] }) :: iN .i64 1 :: iN .i64 1 :: .bool true :: .bool true :: .pointer none :: iN .i64 1 :: .bool true :: .bool true :: .bool true :: .pointer none :: iN .i64 1 :: .bool true :: .bool true :: .bool true :: .pointer none :: iN .i64 1 :: .bool true :: .bool true :: .bool true :: .pointer none :: iN .i64 1 :: .bool true :: .bool true :: .bool true :: .pointer none :: iN .i64 1 :: .bool true :: .bool true :: .bool true :: .pointer none :: iN .i64 1 :: .bool true :: .bool true :: .bool true :: .pointer none :: .bool false :: .bool true :: .bool true :: .bool true :: .pointer none :: iN .i64 0 :: .bool true :: .bool true :: .bool true :: .pointer none :: iN .i64 0 :: .bool true :: .bool true :: .bool true :: .pointer none :: .slice none 0 0 :: iN .i64 0 :: .bool true :: .bool true :: .bool true :: .pointer none :: .slice none 0 0 :: iN .i64 0 :: .bool true :: .bool true :: .bool true :: .pointer none :: .pointer none :: .bool true :: .bool true :: .bool true :: .bool true :: .bool true :: List.replicate 0 un).toArray, []⟩) (by kernel_rfl) ?_
  refine wp_ret ?_
  repeat first | refine then_ret ?_ | refine block_ret ?_
  exact bodyPost_ret (v := .bool true) (by kernel_rfl) rfl ⟨rfl, hbe317 _ _ h349⟩
end Go.Proofs.Ytjedhnjjgmbcbaa
