/-
  What is known of four connections.
-/
import Derived.Test.YtcjjbpbehapjpaaGreatGF
import Derived.Test.YtcjjbpbehapjpaaGreatGE
namespace Go.Proofs.YtcjjbpbehapjpaaGreat
open Go.RowKit

/-- the numbers that stand in a text, one by one -/
def occL (m : Nat) (s : ByteArray) : List Nat := (List.range s.size).filterMap fun i => firstT m (s.extract i s.size)
def wth2 (m : Nat) (s : ByteArray) : List Nat := (List.range m).filter fun x => (occL m s).contains x
theorem wth_2 (m : Nat) (s : ByteArray) : wth m s = wth2 m s := by
  unfold wth wth2
  refine List.filter_congr fun x _ => ?_
  rw [Bool.eq_iff_iff, List.any_eq_true, List.contains_iff_mem]
  unfold occL
  rw [List.mem_filterMap]
  constructor
  · rintro ⟨i, hi, h⟩
    exact ⟨i, hi, of_decide_eq_true h⟩
  · rintro ⟨i, hi, h⟩
    exact ⟨i, hi, decide_eq_true h⟩
def itm2 (l : Nat) : Ent → Itm
  | .nm _ => .n
  | .dt s => .d (wth2 l s)
  | .mk k n _ ps _ => .m k n ps
theorem itm_2 (l : Nat) (e : Ent) : itm l e = itm2 l e := by
  cases e with
  | nm _ => rfl
  | mk _ _ _ _ _ => rfl
  | dt s =>
    show Itm.d (wth l s) = Itm.d (wth2 l s)
    rw [wth_2]
theorem itm_z (l : Nat) (e : Ent) : itm l (zE e) = itm l e := by cases e <;> rfl
theorem known_Z (es : List Ent) (ss : List ByteArray) : knownF es ss = knownF (Z es) ss := by
  rw [knownF_I, knownF_I, Z_len]
  have e1 : pubT (Z es) = pubT es := by
    funext x
    unfold pubT
    rw [mks_Z]
  have e2 : (Z es).map (itm es.length) = es.map (itm es.length) := by
    unfold Z
    rw [List.map_map]
    exact List.map_congr_left fun e _ => itm_z _ e
  rw [e1, e2]
theorem known_2 {es : List Ent} {ss : List ByteArray} {m : Nat} (hm : es.length = m) {l : List Itm} {q : List (List Nat)} {r : List Bool} (h1 : es.map (itm2 m) = l) (h2 : ss.map (wth2 m) = q) (h3 : knownI (pubT es) m l q = r) : knownF es ss = r := by
  refine knownL hm (l := l) (q := q) ?_ ?_ h3
  · rw [← h1]
    exact List.map_congr_left fun e _ => itm_2 m e
  · rw [← h2]
    exact List.map_congr_left fun e _ => wth_2 m e
def seenL : Nat → List ByteArray
  | 0 => [txt 2, txt 3]
  | k + 1 => seenL k ++ [heF k, reF k]
def keysL : Nat → List ByteArray
  | 0 => []
  | k + 1 => keysL k ++ [txt (oF k + 16), txt (oF k + 15)]
def allL (k : Nat) : List ByteArray := seenL k ++ [txt 0, txt 1]
theorem seenL_len : ∀ k, (seenL k).length = 2 * k + 2
  | 0 => rfl
  | k + 1 => by simp only [seenL, List.length_append, seenL_len k, List.length_cons, List.length_nil]; omega
theorem seenL_size : ∀ k, ∀ s ∈ seenL k, s.size ≤ 1000
  | 0, s, h => by
    simp only [seenL, List.mem_cons, List.not_mem_nil, or_false] at h
    rcases h with rfl | rfl <;> rw [txt_size] <;> decide
  | k + 1, s, h => by
    rcases List.mem_append.1 h with h | h
    · exact seenL_size k s h
    · simp only [List.mem_cons, List.not_mem_nil, or_false] at h
      rcases h with rfl | rfl
      · rw [heF_size]; decide
      · rw [reF_size]; decide
theorem allL_size (k : Nat) : ∀ s ∈ allL k, s.size ≤ 1000 := fun s h => by
  rcases List.mem_append.1 h with h | h
  · exact seenL_size k s h
  · simp only [List.mem_cons, List.not_mem_nil, or_false] at h
    rcases h with rfl | rfl <;> rw [txt_size] <;> decide
theorem getD_size {l : List ByteArray} {m : Nat} (h : ∀ s ∈ l, s.size ≤ m) (i : Nat) : (l.getD i ByteArray.empty).size ≤ m := by
  rw [List.getD_eq_getElem?_getD]
  cases e : l[i]? with
  | none => exact Nat.zero_le _
  | some s => exact h s (List.mem_of_getElem? e)
/-- the key's number -/
def kn (i : Nat) : Nat := if i % 2 = 0 then oF (i / 2) + 16 else oF (i / 2) + 15
def knoI (N : Nat) (ss : List ByteArray) : List Bool := knownI (pubT (hk N)) (lnF N) ((hk N).map (itm2 (lnF N))) (ss.map (wth2 (lnF N)))
theorem kno_eq {N : Nat} (h : (hk N).length = lnF N) (ss : List ByteArray) : knownF (hk N) ss = knoI N ss := known_2 h rfl rfl rfl
def chkH (N : Nat) (K K2 : List Bool) : Bool := (List.range (2 * N)).all fun i => wth2 (lnF N) ((keysL N).getD i ByteArray.empty) == [kn i] && K.getD (kn i) true == false && K2.getD (kn i) true == false
end Go.Proofs.YtcjjbpbehapjpaaGreat
