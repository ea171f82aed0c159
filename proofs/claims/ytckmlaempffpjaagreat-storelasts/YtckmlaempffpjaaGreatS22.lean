/-
 The laws' small functions.
-/
import Derived.Test.YtckmlaempffpjaaGreatGL
namespace Go.Proofs.YtckmlaempffpjaaGreat
open Go.RowKit

def stc (l : List ByteArray) : Array Value := (l.map Value.string).toArray
theorem stc_size (l : List ByteArray) : (stc l).size = l.length := by simp [stc]
theorem stc_get (l : List ByteArray) (i : Nat) (h : i < l.length) : (stc l)[i]? = some (.string (atR l i)) := by simp [stc, atR, h]
theorem stc_put (l : List ByteArray) (i : Nat) (s : ByteArray) : (stc l).setIfInBounds i (.string s) = stc (l.set i s) := by
 apply Array.ext'
 simp [stc, List.map_set]
theorem stc_one (l : List ByteArray) : (stc l).all (·.oneCell') = true := all_oneCell_toArray fun v hv => by
 obtain ⟨u, _, rfl⟩ := List.mem_map.1 hv
 rfl
theorem by8_of {n : Nat} (h : n < 256) : iN .u8 n = by8 (UInt8.ofNat n) := by
 unfold by8
 rw [UInt8.toNat_ofNat', Nat.mod_eq_of_lt h]
section
variable {ρ : Operand → Value} {x y : Operand} {w : World} {dst : Option Tmp} {ty : TypeId} {pos : String} {aft : Array Edge} {gd : Option (Nat × Bool)}
theorem run_addr16 {q i : Nat} (hx : ρ x = .pointer (some ⟨q, 0, none⟩)) (hy : ρ y = iN .i64 i) (hi : i < 16) : (execOp ρ ⟨dst, .indexAddr 48 x y, ty, pos, aft, gd⟩).run Tryz.prog w = .ok (.value (.pointer (some ⟨q, i, none⟩))) w := by
 simp only [execOp, hx, hy, iN]
 go_simp
 omega
theorem run_addr16u {q i : Nat} (hx : ρ x = .pointer (some ⟨q, 0, none⟩)) (hy : ρ y = iN .u8 i) (hi : i < 16) : (execOp ρ ⟨dst, .indexAddr 48 x y, ty, pos, aft, gd⟩).run Tryz.prog w = .ok (.value (.pointer (some ⟨q, i, none⟩))) w := by
 simp only [execOp, hx, hy, iN]
 go_simp
 omega
theorem run_addr3b {q o i : Nat} (hx : ρ x = .pointer (some ⟨q, o, none⟩)) (hy : ρ y = iN .i64 i) (hi : i < 3) : (execOp ρ ⟨dst, .indexAddr 49 x y, ty, pos, aft, gd⟩).run Tryz.prog w = .ok (.value (.pointer (some ⟨q, o + i, none⟩))) w := by
 simp only [execOp, hx, hy, iN]
 go_simp
 omega
theorem run_build2 {u v : UInt8} (hx : ρ x = by8 u) (hy : ρ y = by8 v) : (execOp ρ ⟨dst, .buildSlice 62 2 #[(0, x), (1, y)], ty, pos, aft, gd⟩).run Tryz.prog w = .ok (.value (.slice (some ⟨w.heap.size, 0, none⟩) 2 2)) (w.alloc (.cells (bc [u, v]) 5)) := by
 simp only [by8, iN] at hx hy
 simp only [execOp]
 go_simp
 rfl
theorem run_remb {P : Program} {a n : Nat} {T T2 : TypeId} {k : IntKind} (hx : ρ x = iN k a) (hy : ρ y = iN k n) (hn : n ≠ 0) : (execOp ρ ⟨dst, .binOp .rem T x y T2, ty, pos, aft, gd⟩).run P w = .ok (.value (iN k (a % n))) w := run_rem (k := k) (a := a) (b := n) hx hy hn
end
set_option linter.unusedVariables false in
set_option maxRecDepth 100000 in
set_option maxHeartbeats 2000000 in
theorem row_any (a b : ByteArray) (w : World) :
  Calls Tryz.prog 21 #[.string a, .string b] w fun e w' => e = .returned (rwv ⟨a, b⟩) ∧ Below w.heap.size w w' := by
 have H0 := HA.start w
 go_enter Tryz.func21, Tryz.ntmps21
 refine wp_seq ?_
 refine wl_region ?_
 refine wl_make (c := #[.string ({ data := #[] }), .string ({ data := #[] })]) H0 64 (by kernel_rfl) (by kernel_rfl) ?_
 intro q1 w2 (h3 : HA (bs w) [(q1, 64, #[.string ({ data := #[] }), .string ({ data := #[] })])] w2)
 refine wl_nil ?_
 refine then_at (F := ⟨(.string a :: .string b :: un :: un :: pt q1 :: List.replicate 3 un).toArray, []⟩) (by kernel_rfl) ?_
 refine wp_seq ?_
 refine wl_region ?_
 refine zwv (.string a) ?_
 refine zwv (.string b) ?_
 refine zwv (.agg #[.string a, .string b]) ?_
 refine wl_fill (c' := #[.string a, .string b]) h3 0 rfl (by kernel_rfl) (by kernel_rfl) (by kernel_rfl) rfl (by kernel_rfl) (by kernel_rfl) ?_
 intro w4 (h5 : HA (bs w) [(q1, 64, #[.string a, .string b])] w4)
 refine wl_nil ?_
 refine then_at (F := ⟨(.string a :: .string b :: un :: un :: pt q1 :: .string a :: .string b :: .agg #[.string a, .string b] :: List.replicate 0 un).toArray, []⟩) (by kernel_rfl) ?_
 refine wp_ret ?_
 repeat first | refine then_ret ?_ | refine block_ret ?_
 exact bodyPost_ret (v := rwv ⟨a, b⟩) (res_cell (p := 4) (by kernel_rfl) (by kernel_rfl) (h5.get 0 rfl) Tryz.underlying64 rfl (by kernel_rfl)) rfl ⟨rfl, h5.old.old⟩
set_option linter.unusedVariables false in
set_option maxRecDepth 100000 in
set_option maxHeartbeats 2000000 in
theorem name_any {k : Nat} (hk : k < 16) (w : World) :
  Calls Tryz.prog 50 #[iN .i64 k] w fun e w' => e = .returned (.string (nmR k)) ∧ Below w.heap.size w w' := by
 have H0 := HA.start w
 go_enter Tryz.func50, Tryz.ntmps50
 refine wp_seq ?_
 refine wl_region ?_
 refine zwv (.string ({ data := #[] })) ?_
 refine wl_nil ?_
 refine then_at (F := ⟨(iN .i64 k :: un :: .string ({ data := #[] }) :: List.replicate 5 un).toArray, []⟩) (by kernel_rfl) ?_
 refine wp_seq ?_
 refine wl_region ?_
 refine zwv (iN .i64 k) ?_
 refine zwx (iN .i64 (97 + k)) (run_add (k := .i64) (a := 97) (b := k) (by kernel_rfl) (by kernel_rfl) (by first | omega | (simp only [top]; omega))) ?_
 refine zwx (iN .u8 (97 + k)) (run_conv .u8 Tryz.underlying3 Tryz.underlying5 (by kernel_rfl) (by simp only [top]; omega)) ?_
 refine wl_mks (n := 2) (m := 2) (c := bc [114, UInt8.ofNat (97 + k)]) H0 5 (by kernel_rfl) (run_build2 (u := 114) (v := UInt8.ofNat (97 + k)) (by kernel_rfl) ((by kernel_rfl : _ = iN .u8 (97 + k)).trans (by8_of (by omega)))) ?_
 intro q1 w2 (h3 : HA (bs w) [(q1, 5, bc [114, UInt8.ofNat (97 + k)])] w2)
 refine zwx (.string (nmR k)) (((run_textg (m := 2) (c := 2) (l := [114, UInt8.ofNat (97 + k)]) (by kernel_rfl) (h3.get 0 rfl) (by simp)).trans (by rfl))) ?_
 refine zwv (.string (nmR k)) ?_
 refine wl_nil ?_
 refine then_at (F := ⟨(iN .i64 k :: un :: .string (nmR k) :: iN .i64 k :: iN .i64 (97 + k) :: iN .u8 (97 + k) :: .slice (some ⟨q1, 0, none⟩) 2 2 :: .string (nmR k) :: List.replicate 0 un).toArray, []⟩) (by kernel_rfl) ?_
 refine wp_ret ?_
 repeat first | refine then_ret ?_ | refine block_ret ?_
 exact bodyPost_ret (v := .string (nmR k)) (by kernel_rfl) rfl ⟨rfl, h3.old.old⟩
end Go.Proofs.YtckmlaempffpjaaGreat
