/-
  Of: the element of 32 bytes.
-/
import Derived.Test.YtpaendmdcdeemaaDoorRoot
namespace Go.Proofs.YtpaendmdcdeemaaDoor
open Go.RowKit Num

/-- a text's bytes as numbers -/
def bts (s : ByteArray) : List Nat := s.data.toList.map (·.toNat)
def numS (s : ByteArray) : Nat := num 256 (bts s)
theorem bts_length (s : ByteArray) : (bts s).length = s.size := by
  unfold bts
  rw [List.length_map, Array.length_toList]; rfl
theorem bts_get (s : ByteArray) (j : Nat) (h : j < s.size) (h' : j < (bts s).length) : (bts s)[j] = (s[j]'h).toNat := by
  have : (bts s)[j]? = some (s[j]'h).toNat := by
    unfold bts
    rw [List.getElem?_map, Array.getElem?_toList, Array.getElem?_eq_getElem h]
    rfl
  rw [List.getElem?_eq_getElem h'] at this
  exact Option.some.inj this
theorem bts_lt (s : ByteArray) : ∀ x ∈ bts s, x < 256 := by
  unfold bts
  intro x hx
  simp only [List.mem_map] at hx
  obtain ⟨u, _, rfl⟩ := hx
  exact UInt8.toNat_lt u

theorem or_put (z x r : Nat) (hz : z < 2 ^ r) (hx : x < 256) (hr : r ≤ 56) : bits .or .u64 (z : Int) (IntKind.u64.wrap ((x : Int) * 2 ^ r)) = ((z + x * 2 ^ r : Nat) : Int) := by
  have h1 : 2 ^ r ≤ 2 ^ 56 := Nat.pow_le_pow_right (by decide) hr
  have h2 : (2 : Nat) ^ 56 = 72057594037927936 := by decide
  have h3 : x * 2 ^ r ≤ 255 * 2 ^ r := Nat.mul_le_mul_right _ (by omega)
  have e : (x : Int) * 2 ^ r = ((x * 2 ^ r : Nat) : Int) := by push_cast; rfl
  rw [e, M64.wrapN _ (by omega), u64_or_nat z (x * 2 ^ r) (by omega) (by omega), Nat.or_comm, nat_join r (x * 2 ^ r) z (Nat.mul_mod_left ..) hz, Nat.add_comm]

/-- the element of a text -/
def ofP (s : ByteArray) : Option Nat := if s.size = 32 ∧ numS s < P then some (numS s) else none

set_option maxHeartbeats 2000000 in
theorem Of_any (s : ByteArray) (w : World) (V : Vars w) :
    Calls Tryd.prog 38 #[.string s] w fun e w' => e = .returned (two (ofP s)) ∧ Below w.heap.size w w' := by
  have hV := V.big
  have h0 : 0 < w.heap.size := by omega
  have VV := hide V
  by_cases h32 : s.size = 32
  · have hne : ((s.size : Int) != 32) = false := by rw [h32]; rfl
    obtain ⟨p0, p1, p2, p3, ep, ep'⟩ := arr_open P
    obtain ⟨g0, g1, g2, g3⟩ := V.p.four ep
    have EP := hide ep'
    clear ep ep' V
    go_enter Tryd.func38, Tryd.ntmps38
    go_wp2
    go_loopw [12] (fun i wr => ∃ k : Nat, k ≤ 32 ∧ i = .int .i64 k ∧ wr.heap.size = w.heap.size + 2 ∧ Row wr w.heap.size 25 .u64 [0, 0, 0, 0] ∧ Row wr (w.heap.size + 1) 23 .u64 (digs K 4 (num 256 ((bts s).take k))) ∧ Below w.heap.size w wr) (fun i _ => 32 - (intOf i).toNat)
    case atStart =>
      refine ⟨0, by omega, rfl, by simp, ?_, ?_, ?_⟩
      · repeat (first | (refine Row.mk ?_ rfl; simp; done) | refine Row.alloc ?_ _)
      · rw [List.take_zero, num_nil]; repeat (first | (refine Row.mk ?_ rfl; simp; done) | refine Row.alloc ?_ _)
      · repeat (first | exact Below.refl _ _ | refine new_below ?_ (Nat.le_refl _))
    case round =>
      obtain ⟨k, hk, rfl, hsz, rr, ro, hbel⟩ := hrel
      by_cases hlt : k < 32
      · have hks : k < s.size := by omega
        have hbl : k < (bts s).length := by rw [bts_length]; exact hks
        have hnt : num 256 ((bts s).take k) < 256 ^ k := by
          have h := num_lt 256 ((bts s).take k) (fun x hx => bts_lt s x (List.mem_of_mem_take hx))
          rwa [List.length_take, Nat.min_eq_left (by omega)] at h
        have hx : s[k].toNat < 256 := UInt8.toNat_lt _
        have hS := hide (num_take 256 (bts s) k hbl)
        rw [bts_get s k hks hbl] at hS
        generalize num 256 ((bts s).take k) = n at *
        have hput := hide (byte_put n k s[k].toNat hnt hlt hx)
        have co := ro.dig (k / 8) (by omega)
        have fo := ro.free (k / 8)
        obtain ⟨q, hq⟩ : ∃ q, q = k / 8 := ⟨_, rfl⟩
        obtain ⟨r, hr⟩ : ∃ r, r = 8 * (k % 8) := ⟨_, rfl⟩
        rw [← hq, ← hr] at hput
        rw [← hq] at co fo
        have hk0 : (0 : Int) ≤ (k : Int) := by omega
        have hk1 : (k : Int) < (s.size : Int) := by omega
        have hq1 : (q : Int) < 4 := by omega
        have hq0 : (0 : Int) ≤ (q : Int) := by omega
        have hdiv : (k : Int) / 8 = (q : Int) := by omega
        have hmod : (8 : Int) * ((k : Int) % 8) = (r : Int) := by omega
        have hr1 : (r : Int) < 64 := by omega
        have hr0 : (0 : Int) ≤ (r : Int) := by omega
        generalize n / K ^ q % K = z at *
        have hor := or_put z s[k].toNat r hput.out.2 hx (by omega)
        obtain ⟨v, hv⟩ : ∃ v, v = z + s[k].toNat * 2 ^ r := ⟨_, rfl⟩
        rw [← hv] at hor hput
        clear hv
        have hro := hide ro
        have hrr := hide rr
        have HQ := hide hq
        have HR := hide hr
        clear ro rr hq hr hnt hbl
        go_wp2
        go_region
        go_wp2
        go_roundw
        case rel =>
          refine ⟨k + 1, by omega, int_eq (by omega), by simp; omega, (hrr.out.off (by omega)).drew, ?_, (put_below hbel (by omega)).drew⟩
          rw [hS.out, ← hput.out.1]
          exact (hro.out.set q v).drew
        case measure => simp [intOf]; omega
      · have hk4 : k = 32 := by omega
        subst hk4
        rw [List.take_of_length_le (by rw [bts_length]; omega)] at ro
        have hnl : numS s < K ^ 4 := by
          have h := num_lt 256 (bts s) (bts_lt s)
          rw [bts_length, h32] at h
          exact Nat.lt_of_lt_of_le h (by decide)
        have C := fun w => difference_of (numS s) P hnl P_lt w
        obtain ⟨n0, n1, n2, n3, en, en'⟩ := arr_open (numS s)
        obtain ⟨d0, d1, d2, d3, ed, ed'⟩ := arr_open ((numS s + K ^ 4 - P) % K ^ 4)
        rw [en', ed', EP.out] at C
        have C' := hide C
        have ro' : Row wr (w.heap.size + 1) 23 .u64 [n0, n1, n2, n3] := by rw [← en]; exact ro
        obtain ⟨c0, c1, c2, c3⟩ := ro'.four
        have g0' := (hbel.cell (p := ⟨0, 0, none⟩) h0).trans g0
        have g1' := (hbel.cell (p := ⟨0, 1, none⟩) h0).trans g1
        have g2' := (hbel.cell (p := ⟨0, 2, none⟩) h0).trans g2
        have g3' := (hbel.cell (p := ⟨0, 3, none⟩) h0).trans g3
        have hro := hide ro'
        have hrr := hide rr
        have EN := hide en'
        clear C ro ro' rr en en' ed ed' g0 g1 g2 g3
        go_wp2_with fail
        refine (C'.out _).mono ?_
        rintro e w1 ⟨rfl, hb1⟩
        have q1 := Row.below hrr.out hb1 (by omega)
        have q2 := Row.below hro.out hb1 (by omega)
        have hB1 : Below w.heap.size w w1 := hbel.trans (hb1.mono (by omega))
        have hs1 : w.heap.size + 1 < w1.heap.size := q2.lt
        have hs2 : w.heap.size < w1.heap.size := by omega
        obtain ⟨z0, z1, z2, z3⟩ := q1.four
        have f := fun i => q1.free i
        obtain ⟨y0, y1, y2, y3⟩ := q2.four
        clear c0 c1 c2 c3 g0' g1' g2' g3' hro hrr hb1 C' q1 q2
        by_cases hp : numS s < P
        · have HO : Hid (ofP s = some (numS s)) := if_pos ⟨h32, hp⟩
          rw [if_pos hp]
          go_wp2
          refine bodyPost_ret (v := .tuple #[.agg #[.int .u64 n0, .int .u64 n1, .int .u64 n2, .int .u64 n3], .bool true]) (by simp [results, Tryd.results38, go_sem, z0, z1, z2, z3, hs2]) rfl ⟨by rw [HO.out]; show _ = Ending.returned (.tuple #[arr (numS s), .bool true]); rw [EN.out], ?_⟩
          repeat (first | refine put_below ?_ (by omega) | refine new_below ?_ (Nat.le_refl _) | exact hB1)
        · have HO : Hid (ofP s = none) := if_neg (fun h => hp h.2)
          rw [if_neg hp]
          go_wp2
          refine bodyPost_ret (v := .tuple #[.agg #[.int .u64 0, .int .u64 0, .int .u64 0, .int .u64 0], .bool false]) (by simp [results, Tryd.results38, go_sem, z0, z1, z2, z3, hs2]) rfl ⟨by rw [HO.out]; rfl, ?_⟩
          repeat (first | refine put_below ?_ (by omega) | refine new_below ?_ (Nat.le_refl _) | exact hB1)
  · have hne : ((s.size : Int) != 32) = true := by simp; omega
    have HO : Hid (ofP s = none) := if_neg (fun h => h32 h.1)
    clear V
    go_enter Tryd.func38, Tryd.ntmps38
    go_wp2
    refine bodyPost_ret (v := .tuple #[.agg #[.int .u64 0, .int .u64 0, .int .u64 0, .int .u64 0], .bool false]) (by simp [results, Tryd.results38, go_sem]) rfl ⟨by rw [HO.out]; rfl, ?_⟩
    repeat (first | refine put_below ?_ (by omega) | refine new_below ?_ (Nat.le_refl _) | exact Below.refl _ _)
end Go.Proofs.YtpaendmdcdeemaaDoor
