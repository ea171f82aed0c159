/-
  What is padded is brought back (of no program).
-/
import Derived.Test.YthelhalfmdbdlaaPLays
namespace Go.Proofs.Ythelhalfmdbdlaa
open Go.RowKit Go.Shelf Go.Proofs.Ythelhalfmdbdlaa.Wi

theorem val_be2 (n : Nat) (h : n < 65536) : val (be n 2) = n := by
  show (0 * 256 + (UInt8.ofNat (n / 256 ^ 1)).toNat) * 256 + (UInt8.ofNat (n / 256 ^ 0)).toNat = n
  rw [UInt8.toNat_ofNat', UInt8.toNat_ofNat']
  omega

theorem unpad_pad (l : List UInt8) (h : l.length ≤ 8190) : unpadL (padL l) = some l := by
  have h1 : (padL l).take 2 = be l.length 2 := by
    unfold padL
    rw [List.append_assoc, List.take_left' (be_length _ 2)]
  have h2 : val ((padL l).take 2) = l.length := by rw [h1, val_be2 _ (by omega)]
  have h3 : ((padL l).drop 2).take l.length = l := by
    unfold padL
    rw [List.append_assoc, List.drop_left' (be_length _ 2), List.take_left' rfl]
  have h4 := sz_ge (2 + l.length)
  unfold unpadL
  rw [h2, h3, padL_len, if_pos ⟨by omega, h4, h, rfl⟩]

theorem padL_inj {l m : List UInt8} (hl : l.length ≤ 8190) (hm : m.length ≤ 8190) (h : padL l = padL m) : l = m := by
  have := unpad_pad l hl
  rw [h, unpad_pad m hm] at this
  exact (Option.some.inj this).symm

theorem pad_unpad {l t : List UInt8} (h : unpadL l = some t) : padL t = l ∧ t.length ≤ 8190 := by
  unfold unpadL at h
  split at h
  · rename_i hc
    cases h
    refine ⟨hc.2.2.2, ?_⟩
    rw [List.length_take]
    omega
  · cases h

theorem sz_mono {a b : Nat} (h : a ≤ b) : szN a ≤ szN b := by
  unfold szN
  repeat' split
  all_goals omega

theorem ba_ne {x y : ByteArray} (h : x ≠ y) : x.data.toList ≠ y.data.toList := fun e => h (by apply ByteArray.ext; exact Array.toList_inj.1 e)
end Go.Proofs.Ythelhalfmdbdlaa
