/-
  any1: the element of any 32 bytes.
-/
import Derived.Test.YtbmfmamhidccbaaDoorBytes
import Derived.Deep.WholeRow
namespace Go.Proofs.YtbmfmamhidccbaaDoor
open Go.RowKit Num

/-- the number of 32 bytes, whose highest bit counts for nothing, modulo P -/
def anyP (l : List UInt8) : Nat := num 256 (l.map (·.toNat)) % 2 ^ 255 % P

theorem cs_set (l : List UInt8) (i : Nat) (z : UInt8) : (cs l).toArray.setIfInBounds i (.int .u8 (z.toNat : Int)) = (cs (l.set i z)).toArray := by
  simp [cs, List.map_set]

/-- the highest bit is struck -/
theorem top_struck (l : List UInt8) (hl : l.length = 32) (z : UInt8) (hz : z.toNat = (l[31]'(by omega)).toNat % 128) :
    num 256 ((l.set 31 z).map (·.toNat)) = num 256 (l.map (·.toNat)) % 2 ^ 255 := by
  have hlm : (l.map (·.toNat)).length = 32 := by rw [List.length_map, hl]
  have h1 := num_set 256 (l.map (·.toNat)) 31 z.toNat (by omega)
  have h2 := num_take 256 (l.map (·.toNat)) 31 (by omega)
  rw [List.take_of_length_le (by omega)] at h2
  have h3 := num_lt 256 ((l.map (·.toNat)).take 31) (fun x hx => by
    have := List.mem_of_mem_take hx
    simp only [List.mem_map] at this
    obtain ⟨u, _, rfl⟩ := this
    exact UInt8.toNat_lt u)
  rw [List.length_take, hlm] at h3
  have e1 : (l.map (·.toNat))[31]'(by omega) = (l[31]'(by omega)).toNat := by simp
  rw [e1] at h1 h2
  rw [List.map_set]
  have hx : (l[31]'(by omega)).toNat < 256 := UInt8.toNat_lt _
  generalize (l[31]'(by omega)).toNat = x at *
  generalize num 256 (l.map (·.toNat)) = N at *
  generalize num 256 ((l.map (·.toNat)).take 31) = low at *
  generalize num 256 ((l.map (·.toNat)).set 31 z.toNat) = M at *
  rw [hz] at h1
  have e2 : (256 : Nat) ^ 31 = 452312848583266388373324160190187140051835877600158453279131187530910662656 := by decide
  have e3 : (2 : Nat) ^ 255 = 57896044618658097711785492504343953926634992332820282019728792003956564819968 := by decide
  have e4 : min 31 32 = 31 := rfl
  rw [e4, e2] at h3
  rw [e2] at h1 h2
  rw [e3]
  omega

theorem low_byte (l : List UInt8) (hl : l.length = 32) : num 256 (l.map (·.toNat)) % 256 = (l[0]'(by omega)).toNat := by
  match l, hl with
  | u :: r, _ =>
    have := UInt8.toNat_lt u
    simp only [List.map_cons, num, List.getElem_cons_zero]
    omega

/-- what is beyond P -/
theorem beyond (m : Nat) (h1 : m < 2 ^ 255) (h2 : ¬ m < P) : m % P = m % 256 - 237 ∧ 237 ≤ m % 256 := by
  have e3 : (2 : Nat) ^ 255 = 57896044618658097711785492504343953926634992332820282019728792003956564819968 := by decide
  have eP : P = 57896044618658097711785492504343953926634992332820282019728792003956564819949 := rfl
  rw [e3] at h1
  rw [Nat.mod_eq_sub_mod (by omega), Nat.mod_eq_of_lt (by omega)]
  rw [eP] at h2 ⊢
  omega

set_option maxHeartbeats 2000000 in
theorem any1_any (l : List UInt8) (hl : l.length = 32) (w : World) (V : Vars w) :
    Calls Tryd.prog 20 #[.agg (cs l).toArray] w fun e w' => e = .returned (arr (anyP l)) ∧ Below w.heap.size w w' := by
  have hV := V.big
  obtain ⟨c, hc⟩ : ∃ c, c = (cs l).toArray := ⟨_, rfl⟩
  rw [← hc]
  have HC := hide hc
  have cget : ∀ j (h : j < 32), c[j]? = some (.int .u8 ((l[j]'(by omega)).toNat : Int)) := fun j h => by
    rw [hc]
    simp [cs, List.getElem?_eq_getElem (show j < l.length by omega)]
  have h31 := cget 31 (by omega)
  have h00 := cget 0 (by omega)
  have hcs : c.size = 32 := by rw [hc]; simp [cs, hl]
  obtain ⟨x, hx⟩ : ∃ x, x = (l[31]'(by omega)).toNat := ⟨_, rfl⟩
  obtain ⟨y, hy⟩ : ∃ y, y = (l[0]'(by omega)).toNat := ⟨_, rfl⟩
  rw [← hx] at h31
  rw [← hy] at h00
  have hx8 : x < 256 := by rw [hx]; exact UInt8.toNat_lt _
  have hy8 : y < 256 := by rw [hy]; exact UInt8.toNat_lt _
  obtain ⟨z, hz⟩ : ∃ z, z = x % 128 := ⟨_, rfl⟩
  have hand : bits .and .u8 (x : Int) 127 = (z : Int) := by
    have h1 := u8_and_nat x 127 (by omega) (by omega)
    have e : x &&& 127 = x % 128 := Nat.and_two_pow_sub_one_eq_mod x 7
    rw [e, ← hz] at h1
    exact h1
  have HX := hide hx
  have HY := hide hy
  have HZ := hide hz
  have h31' : c[31]'(by omega) = .int .u8 (x : Int) := by rw [Array.getElem?_eq_getElem (show 31 < c.size by omega)] at h31; exact Option.some.inj h31
  have h00' : c[0]'(by omega) = .int .u8 (y : Int) := by rw [Array.getElem?_eq_getElem (show 0 < c.size by omega)] at h00; exact Option.some.inj h00
  clear hc cget hx hy hz
  have hmod : c.setIfInBounds 31 (.int .u8 (z : Int)) = (cs (l.set 31 (UInt8.ofNat z))).toArray := by
    have hz8 : z < 128 := by rw [HZ.out]; omega
    have : (z : Int) = ((UInt8.ofNat z).toNat : Int) := by rw [UInt8.toNat_ofNat']; omega
    rw [HC.out, this]
    exact cs_set l 31 _
  have hzt : (UInt8.ofNat z).toNat = (l[31]'(by omega)).toNat % 128 := by
    rw [UInt8.toNat_ofNat', ← HX.out, HZ.out]; omega
  have hnum := top_struck l hl _ hzt
  obtain ⟨l', hl'⟩ : ∃ l', l' = l.set 31 (UInt8.ofNat z) := ⟨_, rfl⟩
  rw [← hl'] at hmod hnum
  have hll : l'.length = 32 := by rw [hl', List.length_set, hl]
  have hy0 : y = (l'[0]'(by omega)).toNat := by
    rw [HY.out]
    simp [hl']
  have q0 : ∀ o, ((w.alloc (.cells (c.setIfInBounds 31 (.int .u8 (z : Int))) 40)).alloc o).heap[w.heap.size]? = some (.cells (cs l').toArray 40 (0, 0)) := fun o => by
    rw [hmod]
    rw [Below.heap_alloc _ o w.heap.size (by simp)]
    exact heap_alloc_last w _
  have hcv : ∀ o, (convert 55 9 (.slice (some ⟨w.heap.size, 0, none⟩) 32 32)).run Tryd.prog ((w.alloc (.cells (c.setIfInBounds 31 (.int .u8 (z : Int))) 40)).alloc o) = .ok (.string ⟨l'.toArray⟩) ((w.alloc (.cells (c.setIfInBounds 31 (.int .u8 (z : Int))) 40)).alloc o) := fun o => by
    have hc : ∀ j (hj : j < l'.length), ((w.alloc (.cells (c.setIfInBounds 31 (.int .u8 (z : Int))) 40)).alloc o).cell? ((⟨w.heap.size, 0, none⟩ : Addr).add j) = some (.int .u8 ((l'[j]).toNat : Int)) := fun j hj => by
      have hadd : (⟨w.heap.size, 0, none⟩ : Addr).add j = ⟨w.heap.size, j, none⟩ := by unfold Addr.add; split <;> simp_all
      rw [hadd, cell_of_row _ w.heap.size j _ 40 _ (q0 o)]
      simp [cs, List.getElem?_eq_getElem hj]
    have := run_convert_bytes_back (P := Tryd.prog) ((w.alloc (.cells (c.setIfInBounds 31 (.int .u8 (z : Int))) 40)).alloc o) 55 9 5 ⟨w.heap.size, 0, none⟩ 32 l' Tryd.underlying55 Tryd.underlying5 Tryd.underlying9 hc
    rw [hll] at this
    exact this
  have hbts : bts ⟨l'.toArray⟩ = l'.map (·.toNat) := rfl
  have hsize : (⟨l'.toArray⟩ : ByteArray).size = 32 := by show l'.toArray.size = 32; simp [hll]
  have hnS : numS ⟨l'.toArray⟩ = num 256 (l.map (·.toNat)) % 2 ^ 255 := hnum
  have hm255 : num 256 (l.map (·.toNat)) % 2 ^ 255 < 2 ^ 255 := Nat.mod_lt _ (by decide)
  have hlow := low_byte l' hll
  rw [hnum, ← hy0] at hlow
  have HA : Hid (anyP l = num 256 (l.map (·.toNat)) % 2 ^ 255 % P) := rfl
  generalize num 256 (l.map (·.toNat)) % 2 ^ 255 = m at *
  have C := hide (fun w V => Of_any ⟨l'.toArray⟩ w V)
  by_cases hp : m < P
  · have hof : ofP ⟨l'.toArray⟩ = some m := by
      unfold ofP
      rw [hnS]
      exact if_pos ⟨hsize, hp⟩
    rw [hof] at C
    have C' : Hid (∀ w, Vars w → Calls Tryd.prog 11 #[.string ⟨l'.toArray⟩] w fun e w' => e = .returned (.tuple #[arr m, .bool true]) ∧ Below w.heap.size w w') := C
    obtain ⟨r0, r1, r2, r3, er, er'⟩ := arr_open m
    rw [er'] at C'
    have ER : Hid (arr (anyP l) = .agg #[.int .u64 r0, .int .u64 r1, .int .u64 r2, .int .u64 r3]) := by
      show _ = _
      rw [HA.out, Nat.mod_eq_of_lt hp]; exact er'
    have VV := hide V
    have hz1 : Hid (w.heap.size + 1 = (w.alloc (.cells (c.setIfInBounds 31 (.int .u8 (z : Int))) 40)).heap.size) := by show _ = _; simp
    clear C er er' hof hnS hsize hbts hnum hy0 hzt hmod HC HX HY HZ h31 h00 V hlow hm255 q0 hl'
    go_enter Tryd.func20, Tryd.ntmps20
    go_wp2_with fail
    refine (C'.out _ (VV.out.below (new_below (new_below (Below.refl _ w) (Nat.le_refl _)) (Nat.le_refl _)) hV)).mono ?_
    rintro e w1 ⟨rfl, hb1⟩
    have q1 : Row w1 (w.heap.size + 1) 26 .u64 [0, 0, 0, 0] := Row.below (Row.mk hz1.out rfl) hb1 (by simp)
    have hB1 : Below w.heap.size w w1 := (new_below (new_below (Below.refl _ w) (Nat.le_refl _)) (Nat.le_refl _)).trans (hb1.mono (by simp; omega))
    have hs1 : w.heap.size + 1 < w1.heap.size := q1.lt
    obtain ⟨z0, z1, z2, z3⟩ := q1.four
    have f := fun i => q1.free i
    clear hb1 C' q1 hcv
    go_wp2
    refine bodyPost_ret (v := .agg #[.int .u64 r0, .int .u64 r1, .int .u64 r2, .int .u64 r3]) (by simp [results, Tryd.results20, go_sem, z0, z1, z2, z3, hs1]) rfl ⟨by rw [ER.out], ?_⟩
    repeat (first | refine put_below ?_ (by omega) | refine new_below ?_ (Nat.le_refl _) | exact hB1)
  · have hof : ofP ⟨l'.toArray⟩ = none := by
      unfold ofP
      rw [hnS]
      exact if_neg (fun h => hp h.2)
    rw [hof] at C
    have C' : Hid (∀ w, Vars w → Calls Tryd.prog 11 #[.string ⟨l'.toArray⟩] w fun e w' => e = .returned (.tuple #[.agg #[.int .u64 0, .int .u64 0, .int .u64 0, .int .u64 0], .bool false]) ∧ Below w.heap.size w w') := C
    obtain ⟨e1, e2⟩ := beyond m hm255 hp
    rw [hlow] at e1 e2
    have hw : IntKind.u32.wrap ((y : Int) - 237) = ((y - 237 : Nat) : Int) := by rw [IntKind.wrap_u32]; omega
    have CS := hide (fun w => Small_any (y - 237) (by omega) w)
    obtain ⟨t, ht⟩ : ∃ t, t = y - 237 := ⟨_, rfl⟩
    rw [← ht] at CS hw e1
    obtain ⟨r0, r1, r2, r3, er, er'⟩ := arr_open t
    rw [er'] at CS
    have ER : Hid (arr (anyP l) = .agg #[.int .u64 r0, .int .u64 r1, .int .u64 r2, .int .u64 r3]) := by
      show _ = _
      rw [HA.out, e1]; exact er'
    have VV := hide V
    have hz1 : Hid (w.heap.size + 1 = (w.alloc (.cells (c.setIfInBounds 31 (.int .u8 (z : Int))) 40)).heap.size) := by show _ = _; simp
    have hc0 : ∀ o, ((w.alloc (.cells (c.setIfInBounds 31 (.int .u8 (z : Int))) 40)).alloc o).cell? ⟨w.heap.size, 0, none⟩ = some (.int .u8 (y : Int)) := fun o => by
      rw [cell_of_row _ w.heap.size 0 _ 40 _ (q0 o)]
      simp [cs, List.getElem?_eq_getElem (show 0 < l'.length by omega), hy0]
    clear C er er' hof hnS hsize hbts hnum hy0 hzt hmod HC HX HY HZ h31 h00 V hlow hm255 q0 ht e1 hl'
    go_enter Tryd.func20, Tryd.ntmps20
    go_wp2_with fail
    refine (C'.out _ (VV.out.below (new_below (new_below (Below.refl _ w) (Nat.le_refl _)) (Nat.le_refl _)) hV)).mono ?_
    rintro e w1 ⟨rfl, hb1⟩
    have q1 : Row w1 (w.heap.size + 1) 26 .u64 [0, 0, 0, 0] := Row.below (Row.mk hz1.out rfl) hb1 (by simp)
    have hB1 : Below w.heap.size w w1 := (new_below (new_below (Below.refl _ w) (Nat.le_refl _)) (Nat.le_refl _)).trans (hb1.mono (by simp; omega))
    have hs1 : w.heap.size + 1 < w1.heap.size := q1.lt
    have hs0 : w.heap.size < w1.heap.size := by omega
    have c0 := (hb1.cell (p := ⟨w.heap.size, 0, none⟩) (by simp; omega)).trans (hc0 _)
    clear hb1 C' hcv hc0
    go_wp2_with fail
    refine (CS.out _).mono ?_
    rintro e w2 ⟨rfl, hb2⟩
    have q2 : Row w2 (w.heap.size + 1) 26 .u64 [0, 0, 0, 0] := Row.below (q1.alloc _) hb2 (by simp; omega)
    have hB2 : Below w.heap.size w w2 := (new_below hB1 (Nat.le_refl _)).trans (hb2.mono (by simp; omega))
    obtain ⟨z0, z1, z2, z3⟩ := q2.four
    have f := fun i => q2.free i
    clear hb2 CS q1 q2 hB1 c0
    go_wp2
    refine bodyPost_ret (v := .agg #[.int .u64 r0, .int .u64 r1, .int .u64 r2, .int .u64 r3]) (by simp [results, Tryd.results20, go_sem, z0, z1, z2, z3]) rfl ⟨by rw [ER.out], ?_⟩
    repeat (first | refine put_below ?_ (by omega) | refine new_below ?_ (Nat.le_refl _) | exact hB2)
end Go.Proofs.YtbmfmamhidccbaaDoor
