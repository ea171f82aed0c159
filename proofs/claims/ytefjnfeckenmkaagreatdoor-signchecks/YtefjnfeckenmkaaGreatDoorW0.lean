/-
 Words of 64 bits: what Add64, Sub64, Mul64 and step answer.
-/
import Derived.Test.YtefjnfeckenmkaaGreatDoorRows
import Derived.Test.YtefjnfeckenmkaaGreatDoorN0
import Derived.WalkKit
import Derived.WalkSpells
import Derived.Lib.Mul64
import Derived.Laws.Bits64b
import Derived.Laws.Externs
import Derived.Deep.RegionHeld3
import Derived.Deep.QuietTactic
import Derived.BigQuiet
import Derived.BigRegion
import Derived.Laws.Tables
namespace Go.Proofs.YtefjnfeckenmkaaGreatDoor
set_option maxHeartbeats 1000000
open Go.RowKit Num
theorem hide {p : Prop} (h : p) : Hid p := h
theorem add64 (x y c : Nat) (hc : c ≤ 1) (w : World) :
  (callFunc 95 #[.int .u64 x, .int .u64 y, .int .u64 c]).run Tryz.prog w =
   .ok (.value (.tuple #[.int .u64 (((x + y + c) % 18446744073709551616 : Nat) : Int), .int .u64 (((x + y + c) / 18446744073709551616 : Nat) : Int)])) w := by
 rw [run_callFunc_extern Tryz.func95 (by kernel_rfl) (by kernel_rfl) (by kernel_rfl) (e := add64Entry) (by kernel_rfl), run_add64 x y c (by omega) (by omega) (by omega) (by omega)]
 simp only [Result.andThen]
 congr 5 <;> omega
def sub64E : Array Value → Sem Value := fun args => do
 let (x, y, b) ← Extern.MathBitsCarry.three "Sub64" args
 pure (Extern.MathBitsCarry.pair ((x + Extern.MathBitsCarry.m64 - y - b) % Extern.MathBitsCarry.m64) (if x < y + b then 1 else 0))
theorem run_sub64E {P : Program} (x y b : Nat) (hb : b ≤ 1) (w : World) :
  (sub64E #[.int .u64 x, .int .u64 y, .int .u64 b]).run P w =
   .ok (.tuple #[.int .u64 (((x + 18446744073709551616 - y - b) % 18446744073709551616 : Nat) : Int), .int .u64 ((if x < y + b then 1 else 0 : Nat) : Int)]) w := by
 have : b = 0 ∨ b = 1 := by omega
 rcases this with rfl | rfl <;> rfl
theorem sub64 (x y b : Nat) (hb : b ≤ 1) (w : World) :
  (callFunc 121 #[.int .u64 x, .int .u64 y, .int .u64 b]).run Tryz.prog w =
   .ok (.value (.tuple #[.int .u64 (((x + 18446744073709551616 - y - b) % 18446744073709551616 : Nat) : Int), .int .u64 ((if x < y + b then 1 else 0 : Nat) : Int)])) w := by
 rw [run_callFunc_extern Tryz.func121 (by kernel_rfl) (by kernel_rfl) (by kernel_rfl) (e := sub64E) (by kernel_rfl), run_sub64E x y b hb]
 rfl
namespace M64
theorem maskN (a : Nat) (ha : a < 18446744073709551616) : bits .and .u64 (a : Int) 4294967295 = ((a % 4294967296 : Nat) : Int) := by
 have h := bits_and_u64_nat a 4294967295 ha (by omega)
 have e : a &&& 4294967295 = a % 4294967296 := Nat.and_two_pow_sub_one_eq_mod a 32
 rw [e] at h
 exact h
theorem divN (a : Nat) : (a : Int) / 4294967296 = ((a / 4294967296 : Nat) : Int) := by omega
theorem mulN (a b : Nat) : (a : Int) * (b : Int) = ((a * b : Nat) : Int) := (Int.natCast_mul a b).symm
theorem addN (a b : Nat) : (a : Int) + (b : Int) = ((a + b : Nat) : Int) := (Int.natCast_add a b).symm
theorem wrapN (a : Nat) (ha : a < 18446744073709551616) : IntKind.u64.wrap (a : Int) = (a : Int) := by rw [IntKind.wrap_u64]; omega
theorem wrapM (a : Nat) : IntKind.u64.wrap (a : Int) = ((a % 18446744073709551616 : Nat) : Int) := by rw [IntKind.wrap_u64]; omega
end M64
theorem mul64 (x y : Nat) (hx : x < 18446744073709551616) (hy : y < 18446744073709551616) (w : World) :
  Calls Tryz.prog 129 #[.int .u64 x, .int .u64 y] w fun e w' => e = .returned (.tuple #[.int .u64 ((x * y / 18446744073709551616 : Nat) : Int), .int .u64 ((x * y % 18446744073709551616 : Nat) : Int)]) ∧ w' = w := by
 obtain ⟨bd, bt, bw, hhi⟩ := Lib.mul64_hi x y hx hy
 have ba := Lib.half_mul_le (a := x / 4294967296) (b := y / 4294967296) (by omega) (by omega)
 have bb := Lib.half_mul_le (a := x / 4294967296) (b := y % 4294967296) (by omega) (by omega)
 have bc := Lib.half_mul_le (a := x % 4294967296) (b := y / 4294967296) (by omega) (by omega)
 have ba' : x / 4294967296 * (y / 4294967296) < 18446744073709551616 := by omega
 have bb' : x / 4294967296 * (y % 4294967296) < 18446744073709551616 := by omega
 have bc' : x % 4294967296 * (y / 4294967296) < 18446744073709551616 := by omega
 have bh1 : x / 4294967296 * (y / 4294967296) + (x / 4294967296 * (y % 4294967296) + x % 4294967296 * (y % 4294967296) / 4294967296) / 4294967296 < 18446744073709551616 := by omega
 have bh : x / 4294967296 * (y / 4294967296) + (x / 4294967296 * (y % 4294967296) + x % 4294967296 * (y % 4294967296) / 4294967296) / 4294967296 + ((x / 4294967296 * (y % 4294967296) + x % 4294967296 * (y % 4294967296) / 4294967296) % 4294967296 + x % 4294967296 * (y / 4294967296)) / 4294967296 < 18446744073709551616 := by omega
 go_enter Tryz.func129, Tryz.ntmps129
 go_wp2
 simp only [M64.maskN x hx, M64.maskN y hy, M64.divN, M64.mulN, M64.addN, M64.wrapN _ bd, M64.wrapN _ bb', M64.wrapN _ bt, M64.maskN _ bt, M64.wrapN _ bc', M64.wrapN _ bw, M64.wrapN _ ba', M64.wrapN _ bh1, M64.wrapN _ bh, M64.wrapM (x * y)]
 rw [hhi]
 go_ret2
 exact ⟨rfl, rfl⟩
theorem ret_two {a b c d : Int} (h : a = b) (h' : c = d) : Ending.returned (.tuple #[.int .u64 a, .int .u64 c]) = .returned (.tuple #[.int .u64 b, .int .u64 d]) := by rw [h, h']
theorem add64z (x y : Nat) (w : World) :
  (callFunc 95 #[.int .u64 x, .int .u64 y, .int .u64 0]).run Tryz.prog w =
   .ok (.value (.tuple #[.int .u64 (((x + y) % 18446744073709551616 : Nat) : Int), .int .u64 (((x + y) / 18446744073709551616 : Nat) : Int)])) w :=
 add64 x y 0 (by omega) w
theorem step_any (a b c d : Nat) (ha : a < 18446744073709551616) (hb : b < 18446744073709551616) (hc : c < 18446744073709551616) (hd : d < 18446744073709551616) (w : World) :
  Calls Tryz.prog 137 #[.int .u64 a, .int .u64 b, .int .u64 c, .int .u64 d] w fun e w' => e = .returned (.tuple #[.int .u64 (((a * b + c + d) / 18446744073709551616 : Nat) : Int), .int .u64 (((a * b + c + d) % 18446744073709551616 : Nat) : Int)]) ∧ w' = w := by
 have C := hide (mul64 a b ha hb w)
 have hp : a * b ≤ 18446744073709551615 * 18446744073709551615 := Nat.mul_le_mul (by omega) (by omega)
 generalize a * b = p at *
 obtain ⟨lo, hlo⟩ : ∃ lo, lo = p % 18446744073709551616 := ⟨_, rfl⟩
 obtain ⟨hi, hhi⟩ : ∃ hi, hi = p / 18446744073709551616 := ⟨_, rfl⟩
 obtain ⟨l1, hl1⟩ : ∃ l1, l1 = (lo + c) % 18446744073709551616 := ⟨_, rfl⟩
 obtain ⟨c1, hc1⟩ : ∃ c1, c1 = (lo + c) / 18446744073709551616 := ⟨_, rfl⟩
 obtain ⟨l2, hl2⟩ : ∃ l2, l2 = (l1 + d) % 18446744073709551616 := ⟨_, rfl⟩
 obtain ⟨c2, hc2⟩ : ∃ c2, c2 = (l1 + d) / 18446744073709551616 := ⟨_, rfl⟩
 have A1 := fun w => add64z lo c w
 have A2 := fun w => add64z l1 d w
 rw [← hl1, ← hc1] at A1
 rw [← hl2, ← hc2] at A2
 rw [← hlo, ← hhi] at C
 have b1 : hi + c1 < 18446744073709551616 := by omega
 have b2 : hi + c1 + c2 < 18446744073709551616 := by omega
 have E1 : Hid (hi + c1 + c2 = (p + c + d) / 18446744073709551616) := by show hi + c1 + c2 = _; omega
 have E2 : Hid (l2 = (p + c + d) % 18446744073709551616) := by show l2 = _; omega
 clear hlo hhi hl1 hc1 hl2 hc2 hp
 go_enter Tryz.func137, Tryz.ntmps137
 go_wp2_with fail
 refine C.out.mono ?_
 rintro e w' ⟨rfl, rfl⟩
 clear C
 go_wp2
 go_ret2
 rw [← E1.out, ← E2.out]
 exact ⟨ret_two (by omega) rfl, rfl⟩
end Go.Proofs.YtefjnfeckenmkaaGreatDoor

namespace Go.Proofs.YtefjnfeckenmkaaGreatDoor
open Go.RowKit Num
def cl (k : IntKind) (l : List Nat) : Array Value := (l.map fun n : Nat => Value.int k (n : Int)).toArray
def Row (w : World) (b : Nat) (t : TypeId) (k : IntKind) (l : List Nat) : Prop := w.heap[b]? = some (.cells (cl k l) t (0, 0))
theorem cl_size (k : IntKind) (l : List Nat) : (cl k l).size = l.length := by simp [cl]
theorem cl_get (k : IntKind) (l : List Nat) (i : Nat) (h : i < l.length) : (cl k l)[i]? = some (.int k (l[i] : Nat)) := by
 simp [cl, h]
theorem Row.cell {w : World} {b : Nat} {t : TypeId} {k : IntKind} {l : List Nat} (h : Row w b t k l) (i : Nat) (hi : i < l.length) : w.cell? ⟨b, i, none⟩ = some (.int k (l[i] : Nat)) := by
 rw [cell_of_row w b i _ t _ h, cl_get k l i hi]
theorem Row.lt {w : World} {b : Nat} {t : TypeId} {k : IntKind} {l : List Nat} (h : Row w b t k l) : b < w.heap.size := lt_of_block h
theorem Row.free {w : World} {b : Nat} {t : TypeId} {k : IntKind} {l : List Nat} (h : Row w b t k l) (i : Nat) : w.frozen? ⟨b, i, none⟩ = false := by
 unfold Row at h
 simp [World.frozen?, h]
theorem Row.set {w : World} {b : Nat} {t : TypeId} {k : IntKind} {l : List Nat} (h : Row w b t k l) (i x : Nat) : Row (w.setCell ⟨b, i, none⟩ (.int k (x : Nat))) b t k (l.set i x) := by
 have e := setCell_eq_setRow w b i (cl k l) t (0, 0) (.int k (x : Nat)) h
 unfold Row
 rw [e, setRow_heap w b _ _ t (0, 0) h]
 congr 2
 simp [cl, List.map_set]
theorem Row.other {w : World} {b : Nat} {t : TypeId} {k : IntKind} {l : List Nat} (h : Row w b t k l) {p : Addr} (hp : b ≠ p.block) (v : Value) : Row (w.setCell p v) b t k l := by
 unfold Row
 rw [Below.heap_setCell w p v b hp]
 exact h
theorem Row.drew {w : World} {b : Nat} {t : TypeId} {k : IntKind} {l : List Nat} (h : Row w b t k l) : Row w.drew b t k l := h
theorem Row.alloc {w : World} {b : Nat} {t : TypeId} {k : IntKind} {l : List Nat} (h : Row w b t k l) (o : Obj) : Row (w.alloc o) b t k l := by
 unfold Row
 rw [Below.heap_alloc w o b h.lt]
 exact h
theorem Row.below {w w' : World} {B b : Nat} {t : TypeId} {k : IntKind} {l : List Nat} (h : Row w b t k l) (hb : Below B w w') (hB : b < B) : Row w' b t k l := by
 unfold Row
 rw [hb.block b hB]
 exact h
theorem Row.new (w : World) (t : TypeId) (k : IntKind) (l : List Nat) : Row (w.alloc (.cells (cl k l) t)) w.heap.size t k l := by
 show (w.heap.push _)[w.heap.size]? = _
 simp
theorem Row.mk {w : World} {c : Array Value} {t : TypeId} {k : IntKind} {l : List Nat} {b : Nat} (hb : b = w.heap.size) (hc : c = cl k l) : Row (w.alloc (.cells c t)) b t k l := by
 subst hb hc
 exact Row.new w t k l
theorem Row.off {w : World} {b : Nat} {t : TypeId} {k : IntKind} {l : List Nat} (h : Row w b t k l) {g o : Nat} {v : Value} (hp : b ≠ g) : Row (w.setCell ⟨g, o, none⟩ v) b t k l := h.other hp v
theorem put_below {B : Nat} {a w : World} (h : Below B a w) {g o : Nat} {v : Value} (hp : B ≤ g) : Below B a (w.setCell ⟨g, o, none⟩ v) := h.setCell hp v
theorem new_below {B : Nat} {a w : World} (h : Below B a w) (hB : B ≤ a.heap.size) {o : Obj} : Below B a (w.alloc o) := h.alloc (Nat.le_trans hB h.size) o
theorem int_eq {k : IntKind} {a b : Int} (h : a = b) : Value.int k a = .int k b := by rw [h]
def arr (n : Nat) : Value := .agg (cl .u64 (digs K 4 n))
theorem arr_open (n : Nat) : ∃ a b c d : Nat, digs K 4 n = [a, b, c, d] ∧ arr n = .agg #[.int .u64 a, .int .u64 b, .int .u64 c, .int .u64 d] := ⟨_, _, _, _, rfl, rfl⟩
theorem Row.four {w : World} {g : Nat} {t : TypeId} {k : IntKind} {a b c d : Nat} (h : Row w g t k [a, b, c, d]) :
  w.cell? ⟨g, 0, none⟩ = some (.int k a) ∧ w.cell? ⟨g, 1, none⟩ = some (.int k b) ∧ w.cell? ⟨g, 2, none⟩ = some (.int k c) ∧ w.cell? ⟨g, 3, none⟩ = some (.int k d) :=
 ⟨h.cell 0 (by simp), h.cell 1 (by simp), h.cell 2 (by simp), h.cell 3 (by simp)⟩
theorem Row.frees {w : World} {g : Nat} {t : TypeId} {k : IntKind} {l : List Nat} (h : Row w g t k l) :
  w.frozen? ⟨g, 0, none⟩ = false ∧ w.frozen? ⟨g, 1, none⟩ = false ∧ w.frozen? ⟨g, 2, none⟩ = false ∧ w.frozen? ⟨g, 3, none⟩ = false :=
 ⟨h.free 0, h.free 1, h.free 2, h.free 3⟩
theorem Row.dig {w : World} {b : Nat} {t : TypeId} {k : IntKind} {B m n : Nat} (h : Row w b t k (digs B m n)) (i : Nat) (hi : i < m) : w.cell? ⟨b, i, none⟩ = some (.int k (n / B ^ i % B : Nat)) := by
 rw [h.cell i (by rw [digs_length]; exact hi), digs_get]
end Go.Proofs.YtefjnfeckenmkaaGreatDoor

namespace Go.Proofs.YtefjnfeckenmkaaGreatDoor
set_option maxHeartbeats 1000000
open Go.RowKit Num
theorem carry_le (a b i : Nat) : (a % K ^ i + b % K ^ i) / K ^ i ≤ 1 := by
 have hp : 0 < K ^ i := Nat.pow_pos (by decide)
 have h1 := Nat.mod_lt a hp
 have h2 := Nat.mod_lt b hp
 have : (a % K ^ i + b % K ^ i) / K ^ i < 2 := by
  rw [Nat.div_lt_iff_lt_mul hp]; omega
 omega
theorem sum_any (a b : Nat) (w : World) :
  Calls Tryz.prog 122 #[arr a, arr b] w fun e w' => e = .returned (.tuple #[arr ((a % K ^ 4 + b % K ^ 4) % K ^ 4), .int .u64 ((a % K ^ 4 + b % K ^ 4) / K ^ 4 : Nat)]) ∧ Below w.heap.size w w' := by
 obtain ⟨a0, a1, a2, a3, ea, ea'⟩ := arr_open a
 obtain ⟨b0, b1, b2, b3, eb, eb'⟩ := arr_open b
 have EA := hide ea
 have EB := hide eb
 rw [ea', eb']
 clear ea eb ea' eb'
 go_enter Tryz.func122, Tryz.ntmps122
 go_wp2
 go_loopw [7, 9] (fun c i wr => ∃ k : Nat, k ≤ 4 ∧ i = .int .i64 k ∧ c = .int .u64 ((a % K ^ k + b % K ^ k) / K ^ k : Nat) ∧ wr.heap.size = w.heap.size + 4 ∧ Row wr w.heap.size 35 .u64 (digs K 4 a) ∧ Row wr (w.heap.size + 1) 35 .u64 (digs K 4 b) ∧ Row wr (w.heap.size + 1 + 1) 35 .u64 (digs K 4 0) ∧ Row wr (w.heap.size + 1 + 1 + 1) 35 .u64 (digs K 4 ((a % K ^ k + b % K ^ k) % K ^ k)) ∧ Below w.heap.size w wr) (fun _ i _ => 4 - (intOf i).toNat)
 case atStart =>
  refine ⟨0, by omega, rfl, by simp [Nat.mod_one], ?_, ?_, ?_, ?_, ?_, ?_⟩
  ·simp
  ·rw [EA.out]; repeat (first | (refine Row.mk ?_ rfl; simp; done) | refine Row.alloc ?_ _)
  ·rw [EB.out]; repeat (first | (refine Row.mk ?_ rfl; simp; done) | refine Row.alloc ?_ _)
  ·repeat (first | (refine Row.mk ?_ rfl; simp; done) | refine Row.alloc ?_ _)
  ·simp only [Nat.pow_zero, Nat.mod_one]; repeat (first | (refine Row.mk ?_ rfl; simp; done) | refine Row.alloc ?_ _)
  ·exact ((((Below.refl _ w).alloc (Nat.le_refl _) _).alloc (by simp) _).alloc (by simp; omega) _).alloc (by simp; omega) _
 case round =>
  obtain ⟨k, hk, rfl, rfl, hsz, ra, rb, rr, ro, hbel⟩ := hrel
  by_cases hlt : k < 4
  ·have ca := ra.dig k hlt
   have cb := rb.dig k hlt
   have co := ro.dig k hlt
   have hA := hide (add_step K a b k (by decide))
   have hcl := carry_le a b k
   have hc1 := hide (carry_le a b (k + 1))
   obtain ⟨c, hc⟩ : ∃ c, c = (a % K ^ k + b % K ^ k) / K ^ k := ⟨_, rfl⟩
   obtain ⟨x, hx⟩ : ∃ x, x = a / K ^ k % K := ⟨_, rfl⟩
   obtain ⟨y, hy⟩ : ∃ y, y = b / K ^ k % K := ⟨_, rfl⟩
   obtain ⟨z, hz⟩ : ∃ z, z = (a % K ^ k + b % K ^ k) % K ^ k / K ^ k % K := ⟨_, rfl⟩
   rw [← hx] at ca
   rw [← hy] at cb
   rw [← hz] at co
   rw [← hc] at hcl ⊢
   rw [← hc, ← hx, ← hy] at hA
   have fo := ro.free k
   have A := fun w => add64 x y c hcl w
   have hk0 : (0 : Int) ≤ (k : Int) := by omega
   have hk1 : (k : Int) < 4 := by omega
   obtain ⟨s, hs⟩ : ∃ s, s = (x + y + c) % 18446744073709551616 := ⟨_, rfl⟩
   obtain ⟨d, hd⟩ : ∃ d, d = (x + y + c) / 18446744073709551616 := ⟨_, rfl⟩
   rw [← hs, ← hd] at A
   have HS := hide hs
   have HD := hide hd
   have HC := hide hc
   have hro := hide ro
   have hra := hide ra
   have hrb := hide rb
   have hrr := hide rr
   clear hs hd hc hx hy hz ra rb rr ro
   go_wp2
   go_region
   go_wp2
   go_roundw
   case rel =>
    refine ⟨k + 1, by omega, int_eq (by omega), ?_, by simp; omega, (hra.out.off (by omega)).drew, (hrb.out.off (by omega)).drew, (hrr.out.off (by omega)).drew, ?_, (put_below hbel (by omega)).drew⟩
    ·rw [hA.out.2, HD.out]
    ·rw [hA.out.1, ← digs_push K 4 _ k _ (Nat.mod_lt _ (Nat.pow_pos (by decide))) hlt (Nat.mod_lt _ (by decide)), ← HS.out]
     exact (hro.out.set k s).drew
   case measure => simp [intOf]; omega
  ·have hk4 : k = 4 := by omega
   subst hk4
   obtain ⟨r0, r1, r2, r3, er, er'⟩ := arr_open ((a % K ^ 4 + b % K ^ 4) % K ^ 4)
   have ER := hide er'
   rw [er] at ro
   obtain ⟨c0, c1, c2, c3⟩ := ro.four
   obtain ⟨d0, d1, d2, d3⟩ := rr.four
   obtain ⟨f0, f1, f2, f3⟩ := rr.frees
   clear er er' ro rr ra rb
   obtain ⟨c, hc⟩ : ∃ c, c = (a % K ^ 4 + b % K ^ 4) / K ^ 4 := ⟨_, rfl⟩
   rw [← hc]
   have HC := hide hc
   clear hc
   go_wp2
   refine bodyPost_ret (v := .tuple #[.agg #[.int .u64 r0, .int .u64 r1, .int .u64 r2, .int .u64 r3], .int .u64 c]) (by simp [results, Tryz.results122, go_sem, d0, d1, d2, d3]) rfl ⟨by rw [ER.out, HC.out], ?_⟩
   exact put_below (put_below (put_below (put_below hbel (by omega)) (by omega)) (by omega)) (by omega)
theorem bor_le (a b i : Nat) : bor K a b i ≤ 1 := by
 unfold bor
 split <;> omega
theorem difference_any (a b : Nat) (w : World) :
  Calls Tryz.prog 87 #[arr a, arr b] w fun e w' => e = .returned (.tuple #[arr ((a % K ^ 4 + K ^ 4 - b % K ^ 4) % K ^ 4), .int .u64 (bor K a b 4 : Nat)]) ∧ Below w.heap.size w w' := by
 obtain ⟨a0, a1, a2, a3, ea, ea'⟩ := arr_open a
 obtain ⟨b0, b1, b2, b3, eb, eb'⟩ := arr_open b
 have EA := hide ea
 have EB := hide eb
 rw [ea', eb']
 clear ea eb ea' eb'
 go_enter Tryz.func87, Tryz.ntmps87
 go_wp2
 go_loopw [7, 9] (fun c i wr => ∃ k : Nat, k ≤ 4 ∧ i = .int .i64 k ∧ c = .int .u64 (bor K a b k : Nat) ∧ wr.heap.size = w.heap.size + 4 ∧ Row wr w.heap.size 35 .u64 (digs K 4 a) ∧ Row wr (w.heap.size + 1) 35 .u64 (digs K 4 b) ∧ Row wr (w.heap.size + 1 + 1) 35 .u64 (digs K 4 0) ∧ Row wr (w.heap.size + 1 + 1 + 1) 35 .u64 (digs K 4 ((a % K ^ k + K ^ k - b % K ^ k) % K ^ k)) ∧ Below w.heap.size w wr) (fun _ i _ => 4 - (intOf i).toNat)
 case atStart =>
  refine ⟨0, by omega, rfl, by simp [bor, Nat.mod_one], ?_, ?_, ?_, ?_, ?_, ?_⟩
  ·simp
  ·rw [EA.out]; repeat (first | (refine Row.mk ?_ rfl; simp; done) | refine Row.alloc ?_ _)
  ·rw [EB.out]; repeat (first | (refine Row.mk ?_ rfl; simp; done) | refine Row.alloc ?_ _)
  ·repeat (first | (refine Row.mk ?_ rfl; simp; done) | refine Row.alloc ?_ _)
  ·simp only [Nat.pow_zero, Nat.mod_one]; repeat (first | (refine Row.mk ?_ rfl; simp; done) | refine Row.alloc ?_ _)
  ·exact ((((Below.refl _ w).alloc (Nat.le_refl _) _).alloc (by simp) _).alloc (by simp; omega) _).alloc (by simp; omega) _
 case round =>
  obtain ⟨k, hk, rfl, rfl, hsz, ra, rb, rr, ro, hbel⟩ := hrel
  by_cases hlt : k < 4
  ·have ca := ra.dig k hlt
   have cb := rb.dig k hlt
   have co := ro.dig k hlt
   have hA := hide (sub_step K a b k (by decide))
   have hcl := bor_le a b k
   have hc1 := hide (bor_le a b (k + 1))
   obtain ⟨c, hc⟩ : ∃ c, c = bor K a b k := ⟨_, rfl⟩
   obtain ⟨x, hx⟩ : ∃ x, x = a / K ^ k % K := ⟨_, rfl⟩
   obtain ⟨y, hy⟩ : ∃ y, y = b / K ^ k % K := ⟨_, rfl⟩
   obtain ⟨z, hz⟩ : ∃ z, z = (a % K ^ k + K ^ k - b % K ^ k) % K ^ k / K ^ k % K := ⟨_, rfl⟩
   rw [← hx] at ca
   rw [← hy] at cb
   rw [← hz] at co
   rw [← hc] at hcl ⊢
   rw [← hc, ← hx, ← hy] at hA
   have fo := ro.free k
   have A := fun w => sub64 x y c hcl w
   have hk0 : (0 : Int) ≤ (k : Int) := by omega
   have hk1 : (k : Int) < 4 := by omega
   obtain ⟨s, hs⟩ : ∃ s, s = (x + 18446744073709551616 - y - c) % 18446744073709551616 := ⟨_, rfl⟩
   obtain ⟨d, hd⟩ : ∃ d : Nat, d = if x < y + c then 1 else 0 := ⟨_, rfl⟩
   rw [← hs, ← hd] at A
   have HS := hide hs
   have HD := hide hd
   have HC := hide hc
   have hro := hide ro
   have hra := hide ra
   have hrb := hide rb
   have hrr := hide rr
   clear hs hd hc hx hy hz ra rb rr ro
   go_wp2
   go_region
   go_wp2
   go_roundw
   case rel =>
    refine ⟨k + 1, by omega, int_eq (by omega), ?_, by simp; omega, (hra.out.off (by omega)).drew, (hrb.out.off (by omega)).drew, (hrr.out.off (by omega)).drew, ?_, (put_below hbel (by omega)).drew⟩
    ·rw [hA.out.2, HD.out]
    ·rw [hA.out.1, ← digs_push K 4 _ k _ (Nat.mod_lt _ (Nat.pow_pos (by decide))) hlt (Nat.mod_lt _ (by decide)), ← HS.out]
     exact (hro.out.set k s).drew
   case measure => simp [intOf]; omega
  ·have hk4 : k = 4 := by omega
   subst hk4
   obtain ⟨r0, r1, r2, r3, er, er'⟩ := arr_open ((a % K ^ 4 + K ^ 4 - b % K ^ 4) % K ^ 4)
   have ER := hide er'
   rw [er] at ro
   obtain ⟨c0, c1, c2, c3⟩ := ro.four
   obtain ⟨d0, d1, d2, d3⟩ := rr.four
   obtain ⟨f0, f1, f2, f3⟩ := rr.frees
   clear er er' ro rr ra rb
   obtain ⟨c, hc⟩ : ∃ c, c = bor K a b 4 := ⟨_, rfl⟩
   rw [← hc]
   have HC := hide hc
   clear hc
   go_wp2
   refine bodyPost_ret (v := .tuple #[.agg #[.int .u64 r0, .int .u64 r1, .int .u64 r2, .int .u64 r3], .int .u64 c]) (by simp [results, Tryz.results87, go_sem, d0, d1, d2, d3]) rfl ⟨by rw [ER.out, HC.out], ?_⟩
   exact put_below (put_below (put_below (put_below hbel (by omega)) (by omega)) (by omega)) (by omega)
end Go.Proofs.YtefjnfeckenmkaaGreatDoor

namespace Go.Proofs.YtefjnfeckenmkaaGreatDoor
set_option maxHeartbeats 1000000
open Go.RowKit Num
set_option linter.unusedSimpArgs false
theorem sum_of (a b : Nat) (ha : a < K ^ 4) (hb : b < K ^ 4) (w : World) :
  Calls Tryz.prog 122 #[arr a, arr b] w fun e w' => e = .returned (.tuple #[arr ((a + b) % K ^ 4), .int .u64 ((a + b) / K ^ 4 : Nat)]) ∧ Below w.heap.size w w' := by
 have h := sum_any a b w
 rwa [Nat.mod_eq_of_lt ha, Nat.mod_eq_of_lt hb] at h
theorem difference_of (a b : Nat) (ha : a < K ^ 4) (hb : b < K ^ 4) (w : World) :
  Calls Tryz.prog 87 #[arr a, arr b] w fun e w' => e = .returned (.tuple #[arr ((a + K ^ 4 - b) % K ^ 4), .int .u64 ((if a < b then 1 else 0 : Nat) : Int)]) ∧ Below w.heap.size w w' := by
 have h := difference_any a b w
 unfold bor at h
 rwa [Nat.mod_eq_of_lt ha, Nat.mod_eq_of_lt hb] at h
def At (w : World) (g n : Nat) : Prop := ∀ i : Nat, i < 4 → w.cell? ⟨g, i, none⟩ = some (.int .u64 (n / K ^ i % K : Nat))
theorem At.four {w : World} {g n a b c d : Nat} (h : At w g n) (e : digs K 4 n = [a, b, c, d]) :
  w.cell? ⟨g, 0, none⟩ = some (.int .u64 a) ∧ w.cell? ⟨g, 1, none⟩ = some (.int .u64 b) ∧ w.cell? ⟨g, 2, none⟩ = some (.int .u64 c) ∧ w.cell? ⟨g, 3, none⟩ = some (.int .u64 d) := by
 have key : ∀ i (hi : i < 4), n / K ^ i % K = (digs K 4 n)[i]'(by rw [digs_length]; exact hi) := fun i hi => (digs_get K 4 n i _).symm
 refine ⟨?_, ?_, ?_, ?_⟩
 ·rw [h 0 (by omega), key 0 (by omega)]; simp [e]
 ·rw [h 1 (by omega), key 1 (by omega)]; simp [e]
 ·rw [h 2 (by omega), key 2 (by omega)]; simp [e]
 ·rw [h 3 (by omega), key 3 (by omega)]; simp [e]
structure Vars (w : World) : Prop where
 big : 9 ≤ w.heap.size
 p : At w 1 P
 r : At w 5 eighth
 m : At w 6 rootI
 i : At w 2 (P - 2)
theorem At.below {w w' : World} {B g n : Nat} (h : At w g n) (hb : Below B w w') (hg : g < B) : At w' g n := fun i hi => by
 rw [hb.cell (p := ⟨g, i, none⟩) hg]
 exact h i hi
theorem Vars.below {w w' : World} {B : Nat} (h : Vars w) (hb : Below B w w') (hB : 9 ≤ B) : Vars w' :=
 ⟨Nat.le_trans h.big hb.size, h.p.below hb (by omega), h.r.below hb (by omega), h.m.below hb (by omega), h.i.below hb (by omega)⟩
theorem least_any (v : Nat) (hv : v < P + P) (w : World) (V : Vars w) :
  Calls Tryz.prog 123 #[arr v] w fun e w' => e = .returned (arr (v % P)) ∧ Below w.heap.size w w' := by
 have hb := V.big
 have h0 : 1 < w.heap.size := by omega
 have hy0 : ¬ (0 = w.heap.size) := by omega
 have hx0 : ¬ (w.heap.size = 0) := by omega
 have hv0 : 0 < w.heap.size := by omega
 have hy1 : ¬ (1 = w.heap.size) := by omega
 have hx1 : ¬ (w.heap.size = 1) := by omega
 have hv1 : 1 < w.heap.size := by omega
 have hy2 : ¬ (2 = w.heap.size) := by omega
 have hx2 : ¬ (w.heap.size = 2) := by omega
 have hv2 : 2 < w.heap.size := by omega
 have hy3 : ¬ (3 = w.heap.size) := by omega
 have hx3 : ¬ (w.heap.size = 3) := by omega
 have hv3 : 3 < w.heap.size := by omega
 have hy4 : ¬ (4 = w.heap.size) := by omega
 have hx4 : ¬ (w.heap.size = 4) := by omega
 have hv4 : 4 < w.heap.size := by omega
 have hy5 : ¬ (5 = w.heap.size) := by omega
 have hx5 : ¬ (w.heap.size = 5) := by omega
 have hv5 : 5 < w.heap.size := by omega
 have hy6 : ¬ (6 = w.heap.size) := by omega
 have hx6 : ¬ (w.heap.size = 6) := by omega
 have hv6 : 6 < w.heap.size := by omega
 have hy7 : ¬ (7 = w.heap.size) := by omega
 have hx7 : ¬ (w.heap.size = 7) := by omega
 have hv7 : 7 < w.heap.size := by omega
 have hy8 : ¬ (8 = w.heap.size) := by omega
 have hx8 : ¬ (w.heap.size = 8) := by omega
 have hv8 : 8 < w.heap.size := by omega
 have hn0 : ¬ (1 = w.heap.size) := by omega
 obtain ⟨a0, a1, a2, a3, ea, ea'⟩ := arr_open v
 obtain ⟨p0, p1, p2, p3, ep, ep'⟩ := arr_open P
 obtain ⟨d0, d1, d2, d3, ed, ed'⟩ := arr_open ((v + K ^ 4 - P) % K ^ 4)
 have C := fun w => difference_of v P (Nat.lt_trans hv P_two) P_lt w
 rw [ea', ep', ed'] at C
 obtain ⟨g0, g1, g2, g3⟩ := V.p.four ep
 rw [ea']
 have hP4 := P_two
 have HE : Hid (arr (v % P) = if v < P then .agg #[.int .u64 a0, .int .u64 a1, .int .u64 a2, .int .u64 a3] else .agg #[.int .u64 d0, .int .u64 d1, .int .u64 d2, .int .u64 d3]) := by
  show _ = _
  rw [least_of v hv]
  split
  ·exact ea'
  ·rename_i hlt
   have e : (v + K ^ 4 - P) % K ^ 4 = v - P := by
    rw [Nat.mod_eq_sub_mod (by omega), Nat.mod_eq_of_lt (by omega)]; omega
   rw [← ed', e]
 have C' := hide C
 clear C ea ea' ep ep' ed ed' hP4 V
 go_enter Tryz.func123, Tryz.ntmps123
 go_wp2_with fail
 refine (C'.out _).mono ?_
 rintro e w' ⟨rfl, hbel⟩
 have r1 : Row w' w.heap.size 35 .u64 [a0, a1, a2, a3] := Row.below (by repeat (first | (refine Row.mk ?_ rfl; simp; done) | refine Row.alloc ?_ _)) hbel (by simp; omega)
 have r2 : Row w' (w.heap.size + 1) 37 .u64 [0, 0, 0, 0] := Row.below (by repeat (first | (refine Row.mk ?_ rfl; simp; done) | refine Row.alloc ?_ _)) hbel (by simp)
 have hsz : w.heap.size + 2 ≤ w'.heap.size := by have := hbel.size; simp at this; omega
 have hB : Below w.heap.size w w' := (((Below.refl _ w).alloc (Nat.le_refl _) _).alloc (by simp) _).trans (hbel.mono (by simp; omega))
 have hn1 : w.heap.size < w'.heap.size := by omega
 have hn2 : w.heap.size + 1 < w'.heap.size := by omega
 obtain ⟨c0, c1, c2, c3⟩ := r1.four
 obtain ⟨z0, z1, z2, z3⟩ := r2.four
 have f := fun i => r2.free i
 clear C' g0 g1 g2 g3 hbel r1 r2
 by_cases hlt : v < P
 ·rw [if_pos hlt]
  go_wp2
  refine bodyPost_ret (v := .agg #[.int .u64 a0, .int .u64 a1, .int .u64 a2, .int .u64 a3]) (by simp [results, Tryz.results123, go_sem, z0, z1, z2, z3, hn1, hn2]) rfl ⟨by rw [HE.out, if_pos hlt], ?_⟩
  repeat (first | refine put_below ?_ (by omega) | refine new_below ?_ (Nat.le_refl _) | exact hB)
 ·rw [if_neg hlt]
  go_wp2
  refine bodyPost_ret (v := .agg #[.int .u64 d0, .int .u64 d1, .int .u64 d2, .int .u64 d3]) (by simp [results, Tryz.results123, go_sem, z0, z1, z2, z3, hn1, hn2]) rfl ⟨by rw [HE.out, if_neg hlt], ?_⟩
  repeat (first | refine put_below ?_ (by omega) | refine new_below ?_ (Nat.le_refl _) | exact hB)
end Go.Proofs.YtefjnfeckenmkaaGreatDoor

namespace Go.Proofs.YtefjnfeckenmkaaGreatDoor
open Go.RowKit Num
theorem run_eq_loop {Q : Program} (w : World) (d e n : Nat) (k k' : IntKind) (l m : List Nat) (hl : l.length = n) (hm : m.length = n)
    (he : Q.underlying e = some (.int k')) (hp : ∀ (c : Array Value) (i : Nat) (v : Value) (w : World), c[i]? = some v → (part e c i).run Q w = .ok v w) :
    ∀ (c s : Nat), s + c = n → (forIn (List.range' s c) ((none, ()) : Option Bool × Unit) fun i _ => do
            let a ← part e (cl k l) i
            let b ← part e (cl k m) i
            let r ← Op.equalIn (d + 1) e a b
            if (!r) = true then pure (ForInStep.done (some false, ())) else pure (ForInStep.yield (none, ())) : Sem (Option Bool × Unit)).run Q w
      = .ok (if l.drop s = m.drop s then (none, ()) else (some false, ())) w
  | 0, s, h => by
    rw [List.drop_of_length_le (by omega), List.drop_of_length_le (by omega)]
    simp
  | c + 1, s, h => by
    have h1 : s < l.length := by omega
    have h2 : s < m.length := by omega
    rw [List.range'_succ, List.forIn_cons]
    simp only [Sem.run_bind, hp _ s _ w (cl_get k l s h1), hp _ s _ w (cl_get k m s h2), Result.andThen_ok, run_equalIn_int w d e k k' _ _ he]
    have key : (l.drop s = m.drop s) ↔ (l[s] = m[s] ∧ l.drop (s + 1) = m.drop (s + 1)) := by
      rw [List.drop_eq_getElem_cons h1, List.drop_eq_getElem_cons h2, List.cons.injEq]
    by_cases hx : l[s] = m[s]
    · have e1 : (((l[s] : Nat) : Int) == ((m[s] : Nat) : Int)) = true := by rw [hx]; simp
      simp only [e1, Bool.not_true, Bool.false_eq_true, if_false, Sem.run_pure, Result.andThen_ok]
      rw [run_eq_loop w d e n k k' l m hl hm he hp c (s + 1) (by omega)]
      by_cases hd : l.drop (s + 1) = m.drop (s + 1)
      · rw [if_pos hd, if_pos (key.2 ⟨hx, hd⟩)]
      · rw [if_neg hd, if_neg (fun h => hd (key.1 h).2)]
    · have e1 : (((l[s] : Nat) : Int) == ((m[s] : Nat) : Int)) = false := by
        simp; omega
      simp only [e1, Bool.not_false, if_true, Sem.run_pure, Result.andThen_ok]
      rw [if_neg (fun h => hx (key.1 h).1)]
theorem run_eq_array {Q : Program} (w : World) (d t e n : Nat) (k k' : IntKind) (l m : List Nat) (hl : l.length = n) (hm : m.length = n)
  (ht : Q.underlying t = some (.array n e)) (he : Q.underlying e = some (.int k')) (hs : ∀ w, (sizeOf e).run Q w = .ok 1 w) (hp : ∀ (c : Array Value) (i : Nat) (v : Value) (w : World), c[i]? = some v → (part e c i).run Q w = .ok v w) :
  (Op.equalIn (d + 2) t (.agg (cl k l)) (.agg (cl k m))).run Q w = .ok (decide (l = m)) w := by
 rw [Op.equalIn]
 simp only [Sem.run_bind, run_underlying ht, Result.andThen_ok, hs, Std.Legacy.Range.forIn_eq_forIn_range', Std.Legacy.Range.size, Nat.mul_one]
 rw [show (n - 0 + 1 - 1) / 1 = n by omega, run_eq_loop w d e n k k' l m hl hm he hp n 0 (by omega)]
 simp only [List.drop_zero, Result.andThen_ok]
 by_cases h : l = m
 ·simp [h]
 ·simp [h]
theorem eq23 (w : World) (l m : List Nat) (hl : l.length = 4) (hm : m.length = 4) : (Op.equalIn 10000 35 (.agg (cl .u64 l)) (.agg (cl .u64 m))).run Tryz.prog w = .ok (decide (l = m)) w :=
 run_eq_array w 9998 35 34 4 .u64 .u64 l m hl hm (by kernel_rfl) (by kernel_rfl) (fun _ => by simp [go_sem]) (fun c i v w h => by simp [go_sem, part, h])
end Go.Proofs.YtefjnfeckenmkaaGreatDoor

namespace Go.Proofs.YtefjnfeckenmkaaGreatDoor
set_option maxHeartbeats 2000000
open Go.RowKit Num
theorem Small_any (n : Nat) (hn : n < 4294967296) (w : World) :
  Calls Tryz.prog 70 #[.int .u32 n] w fun e w' => e = .returned (arr n) ∧ Below w.heap.size w w' := by
 have e : arr n = .agg #[.int .u64 n, .int .u64 0, .int .u64 0, .int .u64 0] := by
  show Value.agg #[.int .u64 (n % 18446744073709551616 : Nat), .int .u64 (n / 18446744073709551616 % 18446744073709551616 : Nat), .int .u64 (n / 18446744073709551616 / 18446744073709551616 % 18446744073709551616 : Nat), .int .u64 (n / 18446744073709551616 / 18446744073709551616 / 18446744073709551616 % 18446744073709551616 : Nat)] = _
  rw [show n % 18446744073709551616 = n by omega, show n / 18446744073709551616 = 0 by omega]
  rfl
 have E := hide e
 clear e
 go_enter Tryz.func70, Tryz.ntmps70
 go_wp2
 refine bodyPost_ret (v := .agg #[.int .u64 n, .int .u64 0, .int .u64 0, .int .u64 0]) (by simp [results, Tryz.results70, go_sem]) rfl ⟨by rw [E.out], ?_⟩
 repeat (first | exact Below.refl _ _ | refine new_below ?_ (Nat.le_refl _) | refine put_below ?_ (by omega))
theorem Odd_any (n : Nat) (w : World) :
  Calls Tryz.prog 54 #[arr n] w fun e w' => e = .returned (.bool (decide (n % 2 = 1))) ∧ Below w.heap.size w w' := by
 obtain ⟨a0, a1, a2, a3, ea, ea'⟩ := arr_open n
 have h0 : a0 = n % K := by have := congrArg (·[0]?) ea; simpa [digs] using this.symm
 have hb : bits .and .u64 (a0 : Int) 1 = ((n % 2 : Nat) : Int) := by
  have h1 := bits_and_u64_nat a0 1 (by rw [h0]; exact Nat.mod_lt _ (by decide)) (by omega)
  rw [Nat.and_one_is_mod] at h1
  have : a0 % 2 = n % 2 := by rw [h0, show K = 18446744073709551616 from rfl]; omega
  rw [this] at h1
  exact h1
 rw [ea']
 clear ea ea' h0
 go_enter Tryz.func54, Tryz.ntmps54
 go_wp2
 go_ret
 refine ⟨?_, ?_⟩
 ·congr 2
  rcases Nat.mod_two_eq_zero_or_one n with h | h <;> simp [h] <;> omega
 ·repeat (first | exact Below.refl _ _ | refine new_below ?_ (Nat.le_refl _) | refine put_below ?_ (by omega))
theorem Same_any (a b : Nat) (ha : a < K ^ 4) (hb : b < K ^ 4) (w : World) :
  Calls Tryz.prog 69 #[arr a, arr b] w fun e w' => e = .returned (.bool (decide (a = b))) ∧ Below w.heap.size w w' := by
 obtain ⟨a0, a1, a2, a3, ea, ea'⟩ := arr_open a
 obtain ⟨b0, b1, b2, b3, eb, eb'⟩ := arr_open b
 have hE : ∀ w, (Op.equalIn 10000 35 (.agg #[.int .u64 a0, .int .u64 a1, .int .u64 a2, .int .u64 a3]) (.agg #[.int .u64 b0, .int .u64 b1, .int .u64 b2, .int .u64 b3])).run Tryz.prog w = .ok (decide (a = b)) w := fun w => by
  have h := eq23 w [a0, a1, a2, a3] [b0, b1, b2, b3] rfl rfl
  have e : ([a0, a1, a2, a3] = [b0, b1, b2, b3]) ↔ a = b := by
   rw [← ea, ← eb]
   refine ⟨fun h => ?_, fun h => by rw [h]⟩
   have := congrArg (num K) h
   rwa [num_digs, num_digs, Nat.mod_eq_of_lt ha, Nat.mod_eq_of_lt hb] at this
  rw [decide_eq_decide.2 e] at h
  exact h
 rw [ea', eb']
 clear ea' eb' ea eb
 go_enter Tryz.func69, Tryz.ntmps69
 go_wp2
 go_ret
 refine ⟨rfl, ?_⟩
 repeat (first | exact Below.refl _ _ | refine new_below ?_ (Nat.le_refl _) | refine put_below ?_ (by omega))
theorem Add_any (a b : Nat) (ha : a < P) (hb : b < P) (w : World) (V : Vars w) :
  Calls Tryz.prog 89 #[arr a, arr b] w fun e w' => e = .returned (arr (addP a b)) ∧ Below w.heap.size w w' := by
 have hV := V.big
 have hP := P_two
 have C1 := fun w => sum_of a b (Nat.lt_trans ha P_lt) (Nat.lt_trans hb P_lt) w
 have e1 : (a + b) % K ^ 4 = a + b := Nat.mod_eq_of_lt (by omega)
 rw [e1] at C1
 have C2 := fun w V => least_any (a + b) (by omega) w V
 obtain ⟨a0, a1, a2, a3, ea, ea'⟩ := arr_open a
 obtain ⟨b0, b1, b2, b3, eb, eb'⟩ := arr_open b
 obtain ⟨s0, s1, s2, s3, es, es'⟩ := arr_open (a + b)
 obtain ⟨r0, r1, r2, r3, er, er'⟩ := arr_open ((a + b) % P)
 rw [ea', eb', es'] at C1
 rw [es', er'] at C2
 have ER := hide er'
 rw [ea', eb']
 have VV := hide V
 have C1' := hide C1
 have C2' := hide C2
 generalize (a + b) / K ^ 4 = c at C1'
 clear C1 C2 ea ea' eb eb' es es' er er' V e1 hP ha hb
 go_enter Tryz.func89, Tryz.ntmps89
 go_wp2_with fail
 refine (C1'.out _).mono ?_
 rintro e w1 ⟨rfl, hb1⟩
 have q1 : Row w1 (w.heap.size + 1 + 1) 37 .u64 [0, 0, 0, 0] := Row.below (by repeat (first | (refine Row.mk ?_ rfl; simp; done) | refine Row.alloc ?_ _)) hb1 (by simp)
 have hB1 : Below w.heap.size w w1 := (show Below w.heap.size w _ by repeat (first | exact Below.refl _ _ | refine new_below ?_ (Nat.le_refl _))).trans (hb1.mono (by simp; omega))
 have hs1 : w.heap.size + 1 + 1 < w1.heap.size := q1.lt
 clear hb1 C1'
 go_wp2_with fail
 refine (C2'.out _ (VV.out.below (new_below hB1 (Nat.le_refl _)) hV)).mono ?_
 rintro e w2 ⟨rfl, hb2⟩
 have q2 : Row w2 (w.heap.size + 1 + 1) 37 .u64 [0, 0, 0, 0] := Row.below (q1.alloc _) hb2 (by simp; omega)
 have hB2 : Below w.heap.size w w2 := (new_below hB1 (Nat.le_refl _)).trans (hb2.mono (by simp; omega))
 obtain ⟨z0, z1, z2, z3⟩ := q2.four
 have f := fun i => q2.free i
 clear hb2 C2' hB1 q1 q2
 go_wp2
 refine bodyPost_ret (v := .agg #[.int .u64 r0, .int .u64 r1, .int .u64 r2, .int .u64 r3]) (by simp [results, Tryz.results89, go_sem, z0, z1, z2, z3]) rfl ⟨by unfold addP; rw [ER.out], ?_⟩
 repeat (first | refine put_below ?_ (by omega) | refine new_below ?_ (Nat.le_refl _) | exact hB2)
end Go.Proofs.YtefjnfeckenmkaaGreatDoor

namespace Go.Proofs.YtefjnfeckenmkaaGreatDoor
set_option maxHeartbeats 2000000
open Go.RowKit Num
theorem Sub_any (a b : Nat) (ha : a < P) (hb : b < P) (w : World) (V : Vars w) :
  Calls Tryz.prog 88 #[arr a, arr b] w fun e w' => e = .returned (arr (subP a b)) ∧ Below w.heap.size w w' := by
 have hV := V.big
 have hP := P_two
 have hP4 := P_lt
 have h0 : 1 < w.heap.size := by omega
 have hy0 : ¬ (0 = w.heap.size) := by omega
 have hx0 : ¬ (w.heap.size = 0) := by omega
 have hv0 : 0 < w.heap.size := by omega
 have hy1 : ¬ (1 = w.heap.size) := by omega
 have hx1 : ¬ (w.heap.size = 1) := by omega
 have hv1 : 1 < w.heap.size := by omega
 have hy2 : ¬ (2 = w.heap.size) := by omega
 have hx2 : ¬ (w.heap.size = 2) := by omega
 have hv2 : 2 < w.heap.size := by omega
 have hy3 : ¬ (3 = w.heap.size) := by omega
 have hx3 : ¬ (w.heap.size = 3) := by omega
 have hv3 : 3 < w.heap.size := by omega
 have hy4 : ¬ (4 = w.heap.size) := by omega
 have hx4 : ¬ (w.heap.size = 4) := by omega
 have hv4 : 4 < w.heap.size := by omega
 have hy5 : ¬ (5 = w.heap.size) := by omega
 have hx5 : ¬ (w.heap.size = 5) := by omega
 have hv5 : 5 < w.heap.size := by omega
 have hy6 : ¬ (6 = w.heap.size) := by omega
 have hx6 : ¬ (w.heap.size = 6) := by omega
 have hv6 : 6 < w.heap.size := by omega
 have hy7 : ¬ (7 = w.heap.size) := by omega
 have hx7 : ¬ (w.heap.size = 7) := by omega
 have hv7 : 7 < w.heap.size := by omega
 have hy8 : ¬ (8 = w.heap.size) := by omega
 have hx8 : ¬ (w.heap.size = 8) := by omega
 have hv8 : 8 < w.heap.size := by omega
 have C1 := fun w => difference_of a b (Nat.lt_trans ha P_lt) (Nat.lt_trans hb P_lt) w
 have C2 := fun w => sum_of ((a + K ^ 4 - b) % K ^ 4) P (Nat.mod_lt _ (by decide)) P_lt w
 have hR := subP_of a b ha hb
 obtain ⟨a0, a1, a2, a3, ea, ea'⟩ := arr_open a
 obtain ⟨b0, b1, b2, b3, eb, eb'⟩ := arr_open b
 obtain ⟨p0, p1, p2, p3, ep, ep'⟩ := arr_open P
 obtain ⟨s0, s1, s2, s3, es, es'⟩ := arr_open ((a + K ^ 4 - b) % K ^ 4)
 rw [ea', eb', es'] at C1
 obtain ⟨g0, g1, g2, g3⟩ := V.p.four ep
 rw [ea', eb']
 have C1' := hide C1
 by_cases hlt : a < b
 ·rw [if_pos hlt] at hR C1'
  have e1 : (a + K ^ 4 - b) % K ^ 4 = a + K ^ 4 - b := Nat.mod_eq_of_lt (by omega)
  have e2 : ((a + K ^ 4 - b) % K ^ 4 + P) % K ^ 4 = subP a b := by
   rw [e1, hR, Nat.mod_eq_sub_mod (by omega), Nat.mod_eq_of_lt (by omega)]; omega
  rw [e2, es', ep'] at C2
  obtain ⟨r0, r1, r2, r3, er, er'⟩ := arr_open (subP a b)
  rw [er'] at C2
  have ER := hide er'
  have C2' := hide C2
  generalize ((a + K ^ 4 - b) % K ^ 4 + P) / K ^ 4 = c at C2'
  clear C1 C2 ea ea' eb eb' es es' ep ep' er er' V e1 e2 hP hP4 ha hb hR
  go_enter Tryz.func88, Tryz.ntmps88
  go_wp2_with fail
  refine (C1'.out _).mono ?_
  rintro e w1 ⟨rfl, hb1⟩
  have q1 : Row w1 (w.heap.size + 1 + 1) 37 .u64 [0, 0, 0, 0] := Row.below (by repeat (first | (refine Row.mk ?_ rfl; simp; done) | refine Row.alloc ?_ _)) hb1 (by simp)
  have hB1 : Below w.heap.size w w1 := (show Below w.heap.size w _ by repeat (first | exact Below.refl _ _ | refine new_below ?_ (Nat.le_refl _))).trans (hb1.mono (by simp; omega))
  have hs1 : w.heap.size + 1 + 1 < w1.heap.size := q1.lt
  have h01 : 1 < w1.heap.size := by omega
  have g0' := (hB1.cell (p := ⟨1, 0, none⟩) h0).trans g0
  have g1' := (hB1.cell (p := ⟨1, 1, none⟩) h0).trans g1
  have g2' := (hB1.cell (p := ⟨1, 2, none⟩) h0).trans g2
  have g3' := (hB1.cell (p := ⟨1, 3, none⟩) h0).trans g3
  clear hb1 C1' g0 g1 g2 g3
  go_wp2_with fail
  refine (C2'.out _).mono ?_
  rintro e w2 ⟨rfl, hb2⟩
  have q2 : Row w2 (w.heap.size + 1 + 1) 37 .u64 [0, 0, 0, 0] := Row.below (q1.alloc _) hb2 (by simp; omega)
  have q3 : Row w2 w1.heap.size 35 .u64 [s0, s1, s2, s3] := Row.below (Row.mk rfl rfl) hb2 (by simp)
  have hB2 : Below w.heap.size w w2 := (new_below hB1 (Nat.le_refl _)).trans (hb2.mono (by simp; omega))
  obtain ⟨z0, z1, z2, z3⟩ := q2.four
  have f := fun i => q2.free i
  obtain ⟨y0, y1, y2, y3⟩ := q3.four
  have f' := fun i => q3.free i
  clear hb2 C2' hB1 q1 q2 q3 g0' g1' g2' g3'
  go_wp2
  refine bodyPost_ret (v := .agg #[.int .u64 r0, .int .u64 r1, .int .u64 r2, .int .u64 r3]) (by simp [results, Tryz.results88, go_sem, z0, z1, z2, z3]) rfl ⟨by rw [ER.out], ?_⟩
  repeat (first | refine put_below ?_ (by omega) | refine new_below ?_ (Nat.le_refl _) | exact hB2)
 ·rw [if_neg hlt] at hR C1'
  have e1 : (a + K ^ 4 - b) % K ^ 4 = subP a b := by
   rw [hR, Nat.mod_eq_sub_mod (by omega), Nat.mod_eq_of_lt (by omega)]; omega
  rw [e1] at es'
  have ER := hide es'
  clear C1 C2 ea ea' eb eb' es es' ep ep' V e1 hP hP4 ha hb hR
  go_enter Tryz.func88, Tryz.ntmps88
  go_wp2_with fail
  refine (C1'.out _).mono ?_
  rintro e w1 ⟨rfl, hb1⟩
  have q1 : Row w1 (w.heap.size + 1 + 1) 37 .u64 [0, 0, 0, 0] := Row.below (by repeat (first | (refine Row.mk ?_ rfl; simp; done) | refine Row.alloc ?_ _)) hb1 (by simp)
  have hB1 : Below w.heap.size w w1 := (show Below w.heap.size w _ by repeat (first | exact Below.refl _ _ | refine new_below ?_ (Nat.le_refl _))).trans (hb1.mono (by simp; omega))
  have hs1 : w.heap.size + 1 + 1 < w1.heap.size := q1.lt
  obtain ⟨z0, z1, z2, z3⟩ := q1.four
  have f := fun i => q1.free i
  clear hb1 C1' g0 g1 g2 g3 q1
  go_wp2
  refine bodyPost_ret (v := .agg #[.int .u64 s0, .int .u64 s1, .int .u64 s2, .int .u64 s3]) (by simp [results, Tryz.results88, go_sem, z0, z1, z2, z3, hs1]) rfl ⟨by rw [ER.out], ?_⟩
  repeat (first | refine put_below ?_ (by omega) | refine new_below ?_ (Nat.le_refl _) | exact hB1)
theorem Neg_any (a : Nat) (ha : a < P) (w : World) (V : Vars w) :
  Calls Tryz.prog 71 #[arr a] w fun e w' => e = .returned (arr (negP a)) ∧ Below w.heap.size w w' := by
 have hV := V.big
 have C1 := fun w V => Sub_any 0 a P_pos ha w V
 rw [negP_sub] at C1
 obtain ⟨a0, a1, a2, a3, ea, ea'⟩ := arr_open a
 obtain ⟨r0, r1, r2, r3, er, er'⟩ := arr_open (negP a)
 have ez : arr 0 = .agg #[.int .u64 0, .int .u64 0, .int .u64 0, .int .u64 0] := rfl
 rw [ea', ez, er'] at C1
 rw [ea']
 have ER := hide er'
 have C1' := hide C1
 have VV := hide V
 clear C1 ea ea' er er' V ez
 go_enter Tryz.func71, Tryz.ntmps71
 go_wp2_with fail
 refine (C1'.out _ (VV.out.below (show Below w.heap.size w _ by repeat (first | exact Below.refl _ _ | refine new_below ?_ (Nat.le_refl _))) hV)).mono ?_
 rintro e w1 ⟨rfl, hb1⟩
 have q1 : Row w1 (w.heap.size + 1) 37 .u64 [0, 0, 0, 0] := Row.below (by repeat (first | (refine Row.mk ?_ rfl; simp; done) | refine Row.alloc ?_ _)) hb1 (by simp)
 have hB1 : Below w.heap.size w w1 := (show Below w.heap.size w _ by repeat (first | exact Below.refl _ _ | refine new_below ?_ (Nat.le_refl _))).trans (hb1.mono (by simp; omega))
 obtain ⟨z0, z1, z2, z3⟩ := q1.four
 have f := fun i => q1.free i
 clear hb1 C1' q1
 go_wp2
 refine bodyPost_ret (v := .agg #[.int .u64 r0, .int .u64 r1, .int .u64 r2, .int .u64 r3]) (by simp [results, Tryz.results71, go_sem, z0, z1, z2, z3]) rfl ⟨by rw [ER.out], ?_⟩
 repeat (first | refine put_below ?_ (by omega) | refine new_below ?_ (Nat.le_refl _) | exact hB1)
end Go.Proofs.YtefjnfeckenmkaaGreatDoor
