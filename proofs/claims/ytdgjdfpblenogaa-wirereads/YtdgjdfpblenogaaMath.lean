/-
  Plain facts on bytes: numbers, texts and digits lead back.
-/
import Derived.Test.YtdgjdfpblenogaaHex
namespace Go.Proofs.Ytdgjdfpblenogaa
open Go.RowKit

theorem foldl_val (l : List UInt8) : ∀ a, l.foldl (fun v c => v * 256 + c.toNat) a = a * 256 ^ l.length + val l := by
  induction l with
  | nil => intro a; simp [val]
  | cons c l ih =>
    intro a
    have h0 := ih c.toNat
    have e : val (c :: l) = c.toNat * 256 ^ l.length + val l := by
      unfold val
      rw [List.foldl_cons]
      simpa [val] using h0
    rw [List.foldl_cons, ih, e, List.length_cons, Nat.pow_succ, Nat.add_mul]
    rw [Nat.mul_assoc a 256, Nat.mul_comm 256]
    omega

theorem val_cons (c : UInt8) (l : List UInt8) : val (c :: l) = c.toNat * 256 ^ l.length + val l := by
  have := foldl_val l c.toNat
  unfold val
  rw [List.foldl_cons]
  simpa [val] using this

theorem val_be (v : Nat) : ∀ n, val (be v n) = v % 256 ^ n
  | 0 => by simp [be, val, Nat.mod_one]
  | n + 1 => by
    have e : (UInt8.ofNat (v / 256 ^ n)).toNat = v / 256 ^ n % 256 := UInt8.toNat_ofNat'
    have h : v % (256 ^ n * 256) = v % 256 ^ n + 256 ^ n * (v / 256 ^ n % 256) := Nat.mod_mul
    rw [be, val_cons, be_length, val_be v n, e, Nat.pow_succ, h, Nat.mul_comm, Nat.add_comm]

theorem be_inj {v u n : Nat} (hv : v < 256 ^ n) (hu : u < 256 ^ n) (h : be v n = be u n) : v = u := by
  have := congrArg val h
  rw [val_be, val_be, Nat.mod_eq_of_lt hv, Nat.mod_eq_of_lt hu] at this
  exact this

theorem pt_length (t : List UInt8) : (pt t).length = 4 + t.length := by rw [pt, List.length_append, be_length]

theorem pt_inj {x y r s : List UInt8} (hx : x.length < 4294967296) (hy : y.length < 4294967296) (h : pt x ++ r = pt y ++ s) : x = y ∧ r = s := by
  unfold pt at h
  rw [List.append_assoc, List.append_assoc] at h
  obtain ⟨h1, h2⟩ := List.append_inj h (by rw [be_length, be_length])
  have h3 : x.length = y.length := be_inj (by simpa using hx) (by simpa using hy) h1
  exact List.append_inj h2 h3

/-- texts one behind the other -/
def cat (xs : List (List UInt8)) : List UInt8 := (xs.map pt).flatten

theorem cat_nil : cat [] = [] := rfl
theorem cat_cons (x : List UInt8) (xs : List (List UInt8)) : cat (x :: xs) = pt x ++ cat xs := by simp [cat]
theorem cat_snoc (xs : List (List UInt8)) (x : List UInt8) : cat (xs ++ [x]) = cat xs ++ pt x := by simp [cat]

theorem cat_inj : ∀ {xs ys : List (List UInt8)}, xs.length = ys.length → (∀ x ∈ xs, x.length < 4294967296) → (∀ y ∈ ys, y.length < 4294967296) → cat xs = cat ys → xs = ys
  | [], [], _, _, _, _ => rfl
  | [], _ :: _, h, _, _, _ => by simp at h
  | _ :: _, [], h, _, _, _ => by simp at h
  | x :: xs, y :: ys, h, hx, hy, e => by
    rw [cat_cons, cat_cons] at e
    obtain ⟨h1, h2⟩ := pt_inj (hx x (by simp)) (hy y (by simp)) e
    rw [h1, cat_inj (by simpa using h) (fun z hz => hx z (by simp [hz])) (fun z hz => hy z (by simp [hz])) h2]

theorem dv_dg : ∀ i : Fin 16, dv (dg i.val).toNat = some i.val := by decide

theorem unhex_hexl (l : List UInt8) : unhex (hexl l) = some l := by
  induction l with
  | nil => rfl
  | cons c l ih =>
    have hc := c.toNat_lt
    have e : hexl (c :: l) = dg (c.toNat / 16) :: dg (c.toNat % 16) :: hexl l := by simp [hexl]
    have h1 := dv_dg ⟨c.toNat / 16, by omega⟩
    have h2 := dv_dg ⟨c.toNat % 16, by omega⟩
    simp only at h1 h2
    rw [e, unhex, h1, h2]
    simp only [ih, Option.map_some]
    have e3 : c.toNat / 16 * 16 + c.toNat % 16 = c.toNat := by omega
    rw [e3, UInt8.ofNat_toNat]
end Go.Proofs.Ytdgjdfpblenogaa
