/-
  A prim of terms: its calls, by equations; texts laid.
-/
import Derived.Test.YtoogiblkommdfaaGreatP6
namespace Go.Proofs.YtoogiblkommdfaaGreat
open Go.RowKit

/-- texts laid one behind the other -/
def layT (ss : List ByteArray) : Nat → ByteArray
  | 0 => { data := #[] }
  | k + 1 => ⟨((layT ss k).data.toList ++ Wi.pt (ss.getD k ByteArray.empty).data.toList).toArray⟩
theorem layT_size {ss : List ByteArray} {m : Nat} (h : ∀ i, (ss.getD i ByteArray.empty).size ≤ m) : ∀ k, (layT ss k).size ≤ k * (m + 4)
  | 0 => Nat.zero_le _
  | k + 1 => by
    have h1 := layT_size h k
    have h2 := h k
    show (((layT ss k).data.toList ++ Wi.pt (ss.getD k ByteArray.empty).data.toList).toArray).size ≤ _
    rw [List.size_toArray, List.length_append, Wi.pt, List.length_append, Wi.be_length, Array.length_toList, Array.length_toList]
    have e1 : (layT ss k).data.size = (layT ss k).size := rfl
    have e2 : (ss.getD k ByteArray.empty).data.size = (ss.getD k ByteArray.empty).size := rfl
    rw [e1, e2, Nat.succ_mul]
    omega
/-- keys: the table, the keys -/
def dv (A : List Ent) (sec salt info : ByteArray) (N : Nat) : List Ent × List ByteArray := (derE A sec salt info N, derL A sec salt info N)
theorem Row.texts {v : Value} {N : Nat} {ss : List ByteArray} {Lr : BL} (h : Row 9 1 v N (ss.map Value.string) Lr) (hp : 0 < N) : ∃ g c cur, v = .slice (some ⟨g, 0, none⟩) N c ∧ Lr = [(g, 9, cur)] ∧ ∀ j, j < N → cur[j]? = some (.string (ss.getD j ByteArray.empty)) := by
  rcases h.2 with ⟨h1, h2, h3⟩ | ⟨g, cap, cur, h1, h2, h3, h4, h5, h6⟩
  · omega
  · refine ⟨g, cap, cur, h1, h2, fun j hj => ?_⟩
    have hl : ss.length = N := by simpa using h.1
    have : (cur.toList.take (N * 1))[j]? = some (.string (ss.getD j ByteArray.empty)) := by rw [h6, List.getElem?_map]; simp [hl, hj]
    rw [List.getElem?_take, if_pos (by omega)] at this
    simpa using this
theorem Public_E {w0 w : World} {M : ML} {p : Pr} {A : List Ent} {n : Nat} {L : BL} (H : PH w0 M p A n L w) (s : ByteArray) (hs : s.size ≤ 65536) (hf : A.length < 58000) {A' : List Ent} {x : Nat} (hm : mkA A 3 { data := #[] } [s] = (A', x)) :
    Calls Tryz.prog 33 #[pt p.q, .string s] w fun e w' => e = .returned (.tuple #[.string (txt x), iN .i64 0]) ∧ PH w0 M p A' n L w' := by
  have h := Public_P H s hs hf
  rw [hm] at h
  exact h
theorem Signer_E {w0 w : World} {M : ML} {p : Pr} {A : List Ent} {n : Nat} {L : BL} (H : PH w0 M p A n L w) (s : ByteArray) (hs : s.size ≤ 65536) (hf : A.length < 58000) {A' : List Ent} {x : Nat} (hm : mkA A 3 { data := #[] } [s] = (A', x)) :
    Calls Tryz.prog 20 #[pt p.q, .string s] w fun e w' => e = .returned (.tuple #[.string (txt x), iN .i64 0]) ∧ PH w0 M p A' n L w' := by
  have h := Signer_P H s hs hf
  rw [hm] at h
  exact h
theorem Dh_E {w0 w : World} {M : ML} {p : Pr} {A : List Ent} {n : Nat} {L : BL} (H : PH w0 M p A n L w) (s u : ByteArray) (hs : s.size ≤ 65536) (hu : u.size ≤ 65536) (hf : A.length < 58000) {A' : List Ent} {x : Nat} (hm : mkA A 4 { data := #[] } [s, u] = (A', x)) :
    Calls Tryz.prog 109 #[pt p.q, .string s, .string u] w fun e w' => e = .returned (.tuple #[.string (txt x), iN .i64 0]) ∧ PH w0 M p A' n L w' := by
  have h := Dh_P H s u hs hu hf
  rw [hm] at h
  exact h
theorem Derive_E {w0 w : World} {M : ML} {p : Pr} {A : List Ent} {n : Nat} {L : BL} (H : PH w0 M p A n L w) (sec salt info : ByteArray) (hs : sec.size ≤ 65536) (hu : salt.size ≤ 65536) (hi : info.size ≤ 1000) (N : Nat) (hN1 : 1 ≤ N) (hN : N ≤ 16) (hf : A.length < 57000) {A' : List Ent} {ks : List ByteArray} (hm : dv A sec salt info N = (A', ks)) :
    Calls Tryz.prog 110 #[pt p.q, .string sec, .string salt, .string info, iN .i64 N] w fun e w' => ∃ g cap cur, e = .returned (.tuple #[.slice (some ⟨g, 0, none⟩) N cap, iN .i64 0]) ∧ (∀ j, j < N → cur[j]? = some (.string (ks.getD j ByteArray.empty))) ∧ PH w0 M p A' n ((g, 9, cur) :: L) w' := by
  refine (Derive_P H sec salt info hs hu hi N hN1 hN hf).mono ?_
  rintro e w' ⟨v, Lr, rfl, hR, hP⟩
  obtain ⟨e1, e2⟩ := Prod.mk.inj hm
  rw [e1] at hP
  rw [e2] at hR
  obtain ⟨g, c, cur, rfl, rfl, hc⟩ := hR.texts (by omega)
  exact ⟨g, c, cur, rfl, hc, hP⟩
end Go.Proofs.YtoogiblkommdfaaGreat
