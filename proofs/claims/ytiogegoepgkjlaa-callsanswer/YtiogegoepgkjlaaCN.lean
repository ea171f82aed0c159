/-
  Bytes there and back: answers.
-/
import Derived.Test.YtiogegoepgkjlaaCM
namespace Go.Proofs.Ytiogegoepgkjlaa
open Go.RowKit

open Rs
theorem li_back {l : Li} (h : (sameL l ⟨0, 0, { data := #[] }, [], { data := #[] }⟩ || mayL l) = true) : lisR (lbA l) = l := by
  rcases hm : mayL l with _ | _
  · rw [hm, Bool.or_false] at h
    obtain rfl := of_decide_eq_true ((sameL_eq _ _).symm.trans h)
    kernel_rfl
  · exact lisR_enc hm
theorem bu_back {b : Bu} (h : (decide (b = ⟨0, 0, { data := #[] }, { data := #[] }, 0, { data := #[] }, { data := #[] }, 0, { data := #[] }⟩) || !decide ((encA b).1 = { data := #[] })) = true) : (decA (encA b).1).1 = b := by
  rcases hm : decide (b = ⟨0, 0, { data := #[] }, { data := #[] }, 0, { data := #[] }, { data := #[] }, 0, { data := #[] }⟩) with _ | _
  · rw [hm, Bool.false_or] at h
    have hb := enc_ne (b := b) (by intro e; rw [e] at h; cases h)
    rw [decA_enc hb]
  · obtain rfl := of_decide_eq_true hm
    kernel_rfl
/-- items, a list -/
def itL (l : List It) : List UInt8 := l.flatMap fun x => Wi.be x.n 8 ++ (Wi.be x.f.toNat 1 ++ (Wi.be x.o 8 ++ Wi.pt (bl x.b)))
theorem its_enc : ∀ (l acc : List It) (r : List UInt8), (∀ x ∈ l, itOk x = true) → its l.length (itL l ++ r) acc = (acc ++ l, r)
  | [], acc, r, _ => by simp [itL, its]
  | x :: l, acc, r, h => by
    obtain ⟨h1, h2, h3, h4, h5⟩ := itOk_le (h x (List.mem_cons_self ..))
    have e : itL (x :: l) ++ r = Wi.be x.n 8 ++ (Wi.be x.f.toNat 1 ++ (Wi.be x.o 8 ++ (Wi.pt (bl x.b) ++ (itL l ++ r)))) := by simp [itL]
    rw [e, List.length_cons, its_s, R8 x.n _ (by omega)]
    simp only []
    rw [R1 x.f.toNat _ (by omega)]
    simp only []
    rw [R8 x.o _ (by omega)]
    simp only []
    rw [RT x.b _ (by omega)]
    have := its_enc l (acc ++ [x]) r fun y hy => h y (List.mem_cons_of_mem _ hy)
    simp only [Int.toNat_of_nonneg (show 0 ≤ x.f by omega)]
    rw [this, List.append_assoc]
    rfl
theorem bl_it (b : ByteArray) (l : List It) : ∀ k, k ≤ l.length → bl (itS b l k) = bl b ++ itL (l.take k)
  | 0, _ => by simp [itS, itL]
  | k + 1, h => by
    have h1 := bl_it b l k (by omega)
    have h2 : l.take (k + 1) = l.take k ++ [l.getD k it0] := by
      rw [List.take_add_one, List.getD_eq_getElem?_getD, List.getElem?_eq_getElem (by omega)]
      rfl
    rw [h2]
    show bl (itS b l k ++ itT (l.getD k it0)) = _
    rw [bl_app, h1, itT]
    simp only [bl_app, bl_n1, bl_n8, bl_l1]
    simp [itL]
theorem lay2_sz (s u : ByteArray) : (layT [s, u] 2).size = 4 + s.size + (4 + u.size) := by
  have h := congrArg List.length (bl_l2 s u)
  unfold bl at h
  rw [List.length_append, pt_len, pt_len] at h
  rw [show (layT [s, u] 2).size = (layT [s, u] 2).data.toList.length from Array.length_toList.symm]
  exact h
theorem rdA_core {id : Nat} {a : An} (hO : OkA a) (h1 : lisR (lbA a.li) = a.li) (h2 : (decA (encA a.bu).1).1 = a.bu) (hid : id < 18446744073709551616) (hz : (ansB id a).size ≤ 16384) (r : List UInt8) : rdA (bl (ansB id a) ++ r) = (id, a, r) := by
  have h3 := hO.e0; have h4 := hO.e1; have h5 := hO.len; have h6 := hO.bt; have h7 := hO.l0; have h8 := hO.l1
  have hz2 : (encA a.bu).1.size ≤ 16384 := by
    have h9 := lay2_sz (lbA a.li) (encA a.bu).1
    have h10 : ∀ k, (hdA id a).size ≤ (itS (hdA id a) a.its k).size := fun k => by
      induction k with
      | zero => exact Nat.le_refl _
      | succ k ih => show _ ≤ (itS (hdA id a) a.its k ++ itT (a.its.getD k it0)).size; rw [ByteArray.size_append]; omega
    have h11 := h10 a.its.length
    unfold ansB at hz
    rw [ByteArray.size_append, ByteArray.size_append] at hz
    have h12 : (layT [lbA a.li, (encA a.bu).1] 2).size ≤ (hdA id a).size := by
      unfold hdA
      simp only [ByteArray.size_append]
      omega
    omega
  have hlb : (lbA a.li).size ≤ 16384 := Nat.le_trans (lbA_le a.li) (by decide)
  have e : bl (ansB id a) ++ r = Wi.be id 8 ++ (Wi.be a.er.toNat 1 ++ (Wi.pt (bl (lbA a.li)) ++ (Wi.pt (bl (encA a.bu).1) ++ (Wi.be a.its.length 1 ++ (itL a.its ++ (Wi.pt (bl a.bt) ++ (Wi.be a.lf.toNat 1 ++ r))))))) := by
    unfold ansB hdA
    rw [bl_app, bl_app, bl_it _ _ _ (Nat.le_refl _), List.take_length]
    simp only [bl_app, bl_n1, bl_n8, bl_l1, bl_l2, List.append_assoc]
  rw [e]
  unfold rdA
  rw [R8 id _ hid]
  simp only []
  rw [R1 a.er.toNat _ (by omega)]
  simp only []
  rw [RT (lbA a.li) _ hlb]
  simp only []
  rw [RT (encA a.bu).1 _ hz2]
  simp only []
  rw [R1 a.its.length _ (by omega)]
  simp only []
  rw [its_enc a.its [] _ hO.it]
  unfold rdE
  simp only []
  rw [RT a.bt _ (by omega)]
  simp only []
  rw [R1 a.lf.toNat _ (by omega)]
  simp only []
  rw [h1, h2, Int.toNat_of_nonneg h3, Int.toNat_of_nonneg h7]
  rfl
theorem rdA_enc {id : Nat} {a : An} (hm : mayA a = true) (hid : id < 18446744073709551616) (hz : (ansB id a).size ≤ 16384) (r : List UInt8) : rdA (bl (ansB id a) ++ r) = (id, a, r) := by
  have hO := mayA_ok hm
  unfold mayA at hm
  rcases q : decide (a.er = 0) with _ | _
  · rw [q] at hm
    have h1 := and2 (show (wi a.er 0 16 && sameA a ⟨a.er, ⟨0, 0, { data := #[] }, [], { data := #[] }⟩, ⟨0, 0, { data := #[] }, { data := #[] }, 0, { data := #[] }, { data := #[] }, 0, { data := #[] }⟩, [], { data := #[] }, 0⟩) = true from hm)
    have h3 : a = ⟨a.er, ⟨0, 0, { data := #[] }, [], { data := #[] }⟩, ⟨0, 0, { data := #[] }, { data := #[] }, 0, { data := #[] }, { data := #[] }, 0, { data := #[] }⟩, [], { data := #[] }, 0⟩ := of_decide_eq_true ((sameA_eq _ _).symm.trans h1.2)
    have h4 : a.li = ⟨0, 0, { data := #[] }, [], { data := #[] }⟩ := congrArg An.li h3
    have h5 : a.bu = ⟨0, 0, { data := #[] }, { data := #[] }, 0, { data := #[] }, { data := #[] }, 0, { data := #[] }⟩ := congrArg An.bu h3
    exact rdA_core hO (by rw [h4]; kernel_rfl) (by rw [h5]; kernel_rfl) hid hz r
  · rw [q] at hm
    have h2 := and2 (and2 (and2 hm).1).1
    have h3 := and2 h2.1
    exact rdA_core hO (li_back h3.1) (bu_back h3.2) hid hz r
theorem encN_ok {id : Nat} {a : An} (hm : mayA a = true) (hz : (ansB id a).size ≤ 16384) : encN id a = (ansB id a, 0) := by
  unfold encN
  rw [hm]
  exact bdA_ok hz
theorem encN_inv {id : Nat} {a : An} {y : ByteArray} (h : encN id a = (y, 0)) : mayA a = true ∧ (ansB id a).size ≤ 16384 ∧ ansB id a = y := by
  unfold encN at h
  rcases hm : mayA a with _ | _
  · rw [hm] at h
    cases h
  · rw [hm] at h
    have h2 : bdA (ansB id a) = (y, 0) := h
    unfold bdA at h2
    split at h2
    · next hz =>
      exact ⟨rfl, hz, (Prod.mk.inj h2).1⟩
    · cases h2
theorem decN_enc {id : Nat} {a : An} (hm : mayA a = true) (hid : id < 18446744073709551616) (hz : (ansB id a).size ≤ 16384) : decN (ansB id a) = (id, a, 0) := by
  have h := rdA_enc hm hid hz []
  rw [List.append_nil] at h
  exact decN_y h (encN_ok hm hz) rfl (decide_eq_true rfl)
theorem decN_cases (s : ByteArray) : decN s = (0, an0, 4) ∨ ∃ id c, decN s = (id, c, 0) ∧ id < 18446744073709551616 ∧ mayA c = true ∧ (ansB id c).size ≤ 16384 ∧ ansB id c = s := by
  obtain ⟨id, c, r, hrd⟩ : ∃ id c r, rdA (bl s) = (id, c, r) := ⟨_, _, _, rfl⟩
  obtain ⟨y, e, hE⟩ : ∃ y e, encN id c = (y, e) := ⟨_, _, rfl⟩
  rcases q1 : decide (e = 0) with _ | _
  · exact .inl (decN_n hrd hE (af_1 q1))
  rcases q2 : decide (y = s) with _ | _
  · exact .inl (decN_n hrd hE (af_2 q2))
  · right
    obtain rfl := of_decide_eq_true q1
    obtain rfl := of_decide_eq_true q2
    have hi := encN_inv hE
    refine ⟨id, c, decN_y hrd hE q1 q2, ?_, hi⟩
    have := nxn8_lt (bl y)
    have h2 : id = (nxn 8 (bl y)).1 := by
      have := congrArg Prod.fst hrd
      exact this.symm
    omega
end Go.Proofs.Ytiogegoepgkjlaa
