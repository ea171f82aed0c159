/-
  Operations of this seat.
-/
import Derived.Test.YthljhhhjdajfhaaMA
namespace Go.Proofs.Ythljhhhjdajfhaa
open Go.RowKit

/-- the box -/
def boxL : List UInt8 := [99, 124, 119, 123, 242, 107, 111, 197, 48, 1, 103, 43, 254, 215, 171, 118, 202, 130, 201, 125, 250, 89, 71, 240, 173, 212, 162, 175, 156, 164, 114, 192, 183, 253, 147, 38, 54, 63, 247, 204, 52, 165, 229, 241, 113, 216, 49, 21, 4, 199, 35, 195, 24, 150, 5, 154, 7, 18, 128, 226, 235, 39, 178, 117, 9, 131, 44, 26, 27, 110, 90, 160, 82, 59, 214, 179, 41, 227, 47, 132, 83, 209, 0, 237, 32, 252, 177, 91, 106, 203, 190, 57, 74, 76, 88, 207, 208, 239, 170, 251, 67, 77, 51, 133, 69, 249, 2, 127, 80, 60, 159, 168, 81, 163, 64, 143, 146, 157, 56, 245, 188, 182, 218, 33, 16, 255, 243, 210, 205, 12, 19, 236, 95, 151, 68, 23, 196, 167, 126, 61, 100, 93, 25, 115, 96, 129, 79, 220, 34, 42, 144, 136, 70, 238, 184, 20, 222, 94, 11, 219, 224, 50, 58, 10, 73, 6, 36, 92, 194, 211, 172, 98, 145, 149, 228, 121, 231, 200, 55, 109, 141, 213, 78, 169, 108, 86, 244, 234, 101, 122, 174, 8, 186, 120, 37, 46, 28, 166, 180, 198, 232, 221, 116, 31, 75, 189, 139, 138, 112, 62, 181, 102, 72, 3, 246, 14, 97, 53, 87, 185, 134, 193, 29, 158, 225, 248, 152, 17, 105, 217, 142, 148, 155, 30, 135, 233, 206, 85, 40, 223, 140, 161, 137, 13, 191, 230, 66, 104, 65, 153, 45, 15, 176, 84, 187, 22]
theorem boxL_len : boxL.length = 256 := by kernel_rfl
/-- a block's four words -/
structure Q4 where
  a : BitVec 32
  b : BitVec 32
  c : BitVec 32
  d : BitVec 32
def qc (q : Q4) : Array Value := wc .u32 [q.a, q.b, q.c, q.d]
theorem qc_size (q : Q4) : (qc q).size = 4 := rfl
theorem one_qc (q : Q4) : (qc q).all (·.oneCell') = true := one_wc .u32 _
theorem info40 (q : Q4) : (Try.prog.info? 40).map (·.size) = some (qc q).size := by rw [qc_size]; kernel_rfl
/-- the box, and the words of the keys -/
def cc (l : List (BitVec 32)) : Array Value := (boxL.map by8 ++ l.map fun x => bv .u32 x).toArray
theorem cc_size (l : List (BitVec 32)) : (cc l).size = 256 + l.length := by
  unfold cc
  rw [List.size_toArray, List.length_append, List.length_map, List.length_map, boxL_len]
theorem cc_box (l : List (BitVec 32)) (i : Nat) (h : i < 256) : (cc l)[i]? = some (by8 (boxL.getD i 0)) := by
  unfold cc
  have h2 : i < boxL.length := by rw [boxL_len]; exact h
  rw [List.getElem?_toArray, List.getElem?_append_left (by rw [List.length_map]; exact h2), List.getElem?_map, List.getD_eq_getElem?_getD, List.getElem?_eq_getElem h2]
  rfl
theorem cc_word (l : List (BitVec 32)) (i : Nat) (h : i < l.length) : (cc l)[256 + i]? = some (bv .u32 (l.getD i 0)) := by
  unfold cc
  rw [List.getElem?_toArray, List.getElem?_append_right (by rw [List.length_map, boxL_len]; omega), List.length_map, boxL_len, show 256 + i - 256 = i by omega, List.getElem?_map, List.getD_eq_getElem?_getD, List.getElem?_eq_getElem h]
  rfl
def rk (l : List (BitVec 32)) (i : Nat) : Q4 := ⟨l.getD (4 * i) 0, l.getD (4 * i + 1) 0, l.getD (4 * i + 2) 0, l.getD (4 * i + 3) 0⟩
section
variable {ρ : Operand → Value} {x y z u : Operand} {w : World} {dst : Option Tmp} {T T2 ty : TypeId} {pos : String} {aft : Array Edge} {gd : Option (Nat × Bool)} {q : Nat} {k : IntKind} {c : Array Value}
theorem run_mulv {n : Nat} {a b : BitVec n} {P : Program} (hk : WK k n) (hx : ρ x = bv k a) (hy : ρ y = bv k b) : (execOp ρ ⟨dst, .binOp .mul T x y T2, ty, pos, aft, gd⟩).run P w = .ok (.value (bv k (a * b))) w := by
  cases hk
  · have h := u32n (a.toNat * b.toNat)
    simp only [execOp, hx, hy, bv, iN, BitVec.toNat_mul]
    simpa [binOp, go_sem] using h
  · have h := u64n (a.toNat * b.toNat)
    simp only [execOp, hx, hy, bv, iN, BitVec.toNat_mul]
    simpa [binOp, go_sem] using h
theorem run_andb {a b : UInt8} (hx : ρ x = by8 a) (hy : ρ y = by8 b) : (execOp ρ ⟨dst, .binOp .and T x y T2, ty, pos, aft, gd⟩).run Try.prog w = .ok (.value (by8 (a &&& b))) w := by
  have h := run_and8 (P := Try.prog) (w := w) (dst := dst) (T := T) (T2 := T2) (ty := ty) (pos := pos) (aft := aft) (gd := gd) hx hy a.toNat_lt b.toNat_lt
  unfold by8; rw [UInt8.toNat_and]; exact h
theorem run_shrb {k2 : IntKind} {a : UInt8} {m : Nat} (hx : ρ x = by8 a) (hy : ρ y = iN k2 m) (hm : m ≤ 8) : (execOp ρ ⟨dst, .binOp .shr T x y T2, ty, pos, aft, gd⟩).run Try.prog w = .ok (.value (by8 (UInt8.ofNat (a.toNat / 2 ^ m)))) w := by
  have h := run_shr (P := Try.prog) (w := w) (dst := dst) (T := T) (T2 := T2) (ty := ty) (pos := pos) (aft := aft) (gd := gd) (k := .u8) (k2 := k2) hx hy hm
  unfold by8; rw [UInt8.toNat_ofNat', Nat.mod_eq_of_lt (Nat.lt_of_le_of_lt (Nat.div_le_self _ _) a.toNat_lt)]; exact h
theorem run_shlb {k2 : IntKind} {a : UInt8} {m : Nat} (hx : ρ x = by8 a) (hy : ρ y = iN k2 m) (hm : m ≤ 8) : (execOp ρ ⟨dst, .binOp .shl T x y T2, ty, pos, aft, gd⟩).run Try.prog w = .ok (.value (by8 (UInt8.ofNat (a.toNat * 2 ^ m)))) w := by
  have h8 : ∀ n : Nat, IntKind.u8.wrap (n : Int) = ((n % 256 : Nat) : Int) := fun n => by simp [IntKind.wrap, IntKind.bits, IntKind.signed]
  simp only [execOp, hx, hy, by8, iN, UInt8.toNat_ofNat']
  have h := h8 (a.toNat * 2 ^ m)
  have e : m ≤ IntKind.u8.bits := hm
  simpa [binOp, go_sem, e] using h
theorem run_idx {s : ByteArray} {a : Nat} (hx : ρ x = .string s) (hy : ρ y = iN k a) (ha : a < s.size) : (execOp ρ ⟨dst, .index 9 x y, ty, pos, aft, gd⟩).run Try.prog w = .ok (.value (by8 ((bl s).getD a 0))) w := by
  have e : s[a]? = some ((bl s).getD a 0) := by
    rw [List.getD_eq_getElem?_getD, List.getElem?_eq_getElem (by rw [bl_len]; exact ha)]
    exact getElem?_pos s a ha
  simp only [execOp, hx, hy, iN]
  simp [go_sem, Instr.index, run_underlying Try.underlying9, asIntOf, e]
  rfl
theorem run_cut2 {s : ByteArray} {a b : Nat} (hx : ρ x = .string s) (hz : ρ z = iN .i64 a) (hy : ρ y = iN .i64 b) (ha : a ≤ b) (hb : b ≤ s.size) : (execOp ρ ⟨dst, .slice 9 x (some z) (some y) none, ty, pos, aft, gd⟩).run Try.prog w = .ok (.value (.string (s.extract a b))) w := by
  simp only [execOp, hx, Option.map, hy, hz, iN]
  go_simp
theorem run_nil (hx : ρ x = .pointer (some ⟨q, 0, none⟩)) : (execOp ρ ⟨dst, .nilCheck x, ty, pos, aft, gd⟩).run Try.prog w = .ok (.value (.pointer (some ⟨q, 0, none⟩))) w := by
  simp only [execOp, hx]
  go_simp
theorem run_addr_k {P : Program} {n o m a : Nat} {e : TypeId} (hT : P.underlying T = some (.array n e)) (hs : ∀ w, (sizeOf e).run P w = .ok m w) (hx : ρ x = .pointer (some ⟨q, o, none⟩)) (hy : ρ y = iN k a) (ha : a < n) : (execOp ρ ⟨dst, .indexAddr T x y, ty, pos, aft, gd⟩).run P w = .ok (.value (.pointer (some ⟨q, o + a * m, none⟩))) w := by
  simp only [execOp, hx, hy, iN]
  simp [go_sem, hT, hs, ha]
theorem run_part {o : Nat} {t : TypeId} {c' : Array Value} {D : TypeDesc} (hx : ρ x = .pointer (some ⟨q, o, none⟩)) (h : Blk w q t c) (hc : ∀ j v, c'[j]? = some v → c[o + j]? = some v) (hu : Try.prog.underlying T = some D) (hd : D.isRow = true) (hi : (Try.prog.info? T).map (·.size) = some c'.size) :
    (execOp ρ ⟨dst, .load T x, ty, pos, aft, gd⟩).run Try.prog w = .ok (.value (.agg c')) w := by
  have hr : w.rangeAt q o c'.toList := fun j v hv => by
    rw [h.cell (o + j)]
    exact hc j v (by rw [← Array.getElem?_toList]; exact hv)
  simp only [execOp, hx, Instr.loadAt, Instr.sureAddr, Sem.run_bind, Sem.run_pure, Result.andThen_ok, run_loadVar_mid w q o T c'.toList D hr hu hd (by rw [Array.length_toList]; exact hi)]
theorem cc_rk (l : List (BitVec 32)) (i : Nat) (hl : l.length = 60) (hi : i < 15) : ∀ j v, (qc (rk l i))[j]? = some v → (cc l)[256 + i * 4 + j]? = some v := by
  intro j v h
  have hj : j < 4 := by have := (Array.getElem?_eq_some_iff.1 h).1; exact this
  rw [show 256 + i * 4 + j = 256 + (4 * i + j) by omega, cc_word l _ (by omega), ← h]
  unfold qc rk
  rw [wc_get _ _ _ hj]
  rcases j with _ | _ | _ | _ | j <;> first | rfl | omega
theorem run_rk {t : TypeId} (l : List (BitVec 32)) (i : Nat) (hl : l.length = 60) (hi : i < 15) (hx : ρ x = .pointer (some ⟨q, 256 + i * 4, none⟩)) (h : Blk w q t (cc l)) :
    (execOp ρ ⟨dst, .load 40 x, ty, pos, aft, gd⟩).run Try.prog w = .ok (.value (.agg (qc (rk l i)))) w := run_part hx h (cc_rk l i hl hi) Try.underlying40 rfl (info40 _)
theorem run_alloc40 : (execOp ρ ⟨dst, .alloc 40, ty, pos, aft, gd⟩).run Try.prog w = .ok (.value (.pointer (some ⟨w.heap.size, 0, none⟩))) (w.alloc (.cells (qc ⟨0, 0, 0, 0⟩) 40)) := by kernel_rfl
theorem run_alloc37 : (execOp ρ ⟨dst, .alloc 37, ty, pos, aft, gd⟩).run Try.prog w = .ok (.value (.pointer (some ⟨w.heap.size, 0, none⟩))) (w.alloc (.cells (bc (List.replicate 16 0)) 37)) := by kernel_rfl
theorem run_alloc46 : (execOp ρ ⟨dst, .alloc 46, ty, pos, aft, gd⟩).run Try.prog w = .ok (.value (.pointer (some ⟨w.heap.size, 0, none⟩))) (w.alloc (.cells (bc (List.replicate 256 0)) 46)) := by kernel_rfl
theorem run_alloc50 : (execOp ρ ⟨dst, .alloc 50, ty, pos, aft, gd⟩).run Try.prog w = .ok (.value (.pointer (some ⟨w.heap.size, 0, none⟩))) (w.alloc (.cells (bc (List.replicate 240 0)) 50)) := by kernel_rfl
theorem run_alloc49 : (execOp ρ ⟨dst, .alloc 49, ty, pos, aft, gd⟩).run Try.prog w = .ok (.value (.pointer (some ⟨w.heap.size, 0, none⟩))) (w.alloc (.cells (bc (List.replicate 4 0)) 49)) := by kernel_rfl
theorem run_alloc56 : (execOp ρ ⟨dst, .alloc 56, ty, pos, aft, gd⟩).run Try.prog w = .ok (.value (.pointer (some ⟨w.heap.size, 0, none⟩))) (w.alloc (.cells (bc (List.replicate 32 0)) 56)) := by kernel_rfl
theorem run_alloc60 : (execOp ρ ⟨dst, .alloc 60, ty, pos, aft, gd⟩).run Try.prog w = .ok (.value (.pointer (some ⟨w.heap.size, 0, none⟩))) (w.alloc (.cells (wc .u32 (List.replicate 60 (0 : BitVec 32))) 60)) := by kernel_rfl
theorem run_box40 (hx : ρ x = .agg c) : (execOp ρ ⟨dst, .box 40 x, ty, pos, aft, gd⟩).run Try.prog w = .ok (.value (.pointer (some ⟨w.heap.size, 0, none⟩))) (w.alloc (.cells c 40)) := by
  simp only [execOp, hx]
  go_simp
theorem run_box46 (hx : ρ x = .agg c) : (execOp ρ ⟨dst, .box 46 x, ty, pos, aft, gd⟩).run Try.prog w = .ok (.value (.pointer (some ⟨w.heap.size, 0, none⟩))) (w.alloc (.cells c 46)) := by
  simp only [execOp, hx]
  go_simp
theorem run_box37 (hx : ρ x = .agg c) : (execOp ρ ⟨dst, .box 37 x, ty, pos, aft, gd⟩).run Try.prog w = .ok (.value (.pointer (some ⟨w.heap.size, 0, none⟩))) (w.alloc (.cells c 37)) := by
  simp only [execOp, hx]
  go_simp
theorem run_box50 (hx : ρ x = .agg c) : (execOp ρ ⟨dst, .box 50 x, ty, pos, aft, gd⟩).run Try.prog w = .ok (.value (.pointer (some ⟨w.heap.size, 0, none⟩))) (w.alloc (.cells c 50)) := by
  simp only [execOp, hx]
  go_simp
theorem run_box29 (hx : ρ x = .agg c) : (execOp ρ ⟨dst, .box 29 x, ty, pos, aft, gd⟩).run Try.prog w = .ok (.value (.pointer (some ⟨w.heap.size, 0, none⟩))) (w.alloc (.cells c 29)) := by
  simp only [execOp, hx]
  go_simp
theorem run_box59 (hx : ρ x = .agg c) : (execOp ρ ⟨dst, .box 59 x, ty, pos, aft, gd⟩).run Try.prog w = .ok (.value (.pointer (some ⟨w.heap.size, 0, none⟩))) (w.alloc (.cells c 59)) := by
  simp only [execOp, hx]
  go_simp
theorem run_cutA37 (hx : ρ x = .pointer (some ⟨q, 0, none⟩)) : (execOp ρ ⟨dst, .slice 37 x none none none, ty, pos, aft, gd⟩).run Try.prog w = .ok (.value (.slice (some ⟨q, 0, none⟩) 16 16)) w := by
  simp only [execOp, hx]
  go_simp
theorem run_cutA56 (hx : ρ x = .pointer (some ⟨q, 0, none⟩)) : (execOp ρ ⟨dst, .slice 56 x none none none, ty, pos, aft, gd⟩).run Try.prog w = .ok (.value (.slice (some ⟨q, 0, none⟩) 32 32)) w := by
  simp only [execOp, hx]
  go_simp
end
theorem info37 (l : List UInt8) (h : l.length = 16) : (Try.prog.info? 37).map (·.size) = some (bc l).size := by rw [bc_size, h]; kernel_rfl
theorem info46 (l : List UInt8) (h : l.length = 256) : (Try.prog.info? 46).map (·.size) = some (bc l).size := by rw [bc_size, h]; kernel_rfl
theorem info50 (l : List UInt8) (h : l.length = 240) : (Try.prog.info? 50).map (·.size) = some (bc l).size := by rw [bc_size, h]; kernel_rfl
theorem info49 (l : List UInt8) (h : l.length = 4) : (Try.prog.info? 49).map (·.size) = some (bc l).size := by rw [bc_size, h]; kernel_rfl
theorem info56 (l : List UInt8) (h : l.length = 32) : (Try.prog.info? 56).map (·.size) = some (bc l).size := by rw [bc_size, h]; kernel_rfl
theorem info29 (l : List UInt8) (h : l.length = 2) : (Try.prog.info? 29).map (·.size) = some (bc l).size := by rw [bc_size, h]; kernel_rfl
theorem info60 (l : List (BitVec 32)) (h : l.length = 60) : (Try.prog.info? 60).map (·.size) = some (wc .u32 l).size := by rw [wc_size, h]; kernel_rfl
section
variable {ρ : Operand → Value} {x y z u : Operand} {w : World} {dst : Option Tmp} {T T2 ty : TypeId} {pos : String} {aft : Array Edge} {gd : Option (Nat × Bool)} {q : Nat} {k : IntKind} {c : Array Value}
theorem run_build40 {a b d e : BitVec 32} (h0 : ρ x = bv .u32 a) (h1 : ρ y = bv .u32 b) (h2 : ρ z = bv .u32 d) (h3 : ρ u = bv .u32 e) : (execOp ρ ⟨dst, .build 40 #[(0, x), (1, y), (2, z), (3, u)], ty, pos, aft, gd⟩).run Try.prog w = .ok (.value (.agg (qc ⟨a, b, d, e⟩))) w := by
  simp only [execOp]
  go_simp
  rfl
theorem run_build66 {a b d e : BitVec 32} (h0 : ρ x = bv .u32 a) (h1 : ρ y = bv .u32 b) (h2 : ρ z = bv .u32 d) (h3 : ρ u = bv .u32 e) : (execOp ρ ⟨dst, .build 66 #[(0, x), (1, y), (2, z), (3, u)], ty, pos, aft, gd⟩).run Try.prog w = .ok (.value (.agg (qc ⟨a, b, d, e⟩))) w := by
  simp only [execOp]
  go_simp
  rfl
theorem run_build49 {a b d e : UInt8} (h0 : ρ x = by8 a) (h1 : ρ y = by8 b) (h2 : ρ z = by8 d) (h3 : ρ u = by8 e) : (execOp ρ ⟨dst, .build 49 #[(0, x), (1, y), (2, z), (3, u)], ty, pos, aft, gd⟩).run Try.prog w = .ok (.value (.agg (bc [a, b, d, e]))) w := by
  simp only [execOp]
  go_simp
  rfl
theorem run_index66 {c : Array Value} {i : Nat} {v : Value} (hx : ρ x = .agg c) (hy : ρ y = iN .i64 i) (hi : i < 4) (hv : c[i]? = some v) : (execOp ρ ⟨dst, .index 66 x y, ty, pos, aft, gd⟩).run Try.prog w = .ok (.value v) w := by
  simp only [execOp, hx, hy, iN]
  simp [go_sem, Instr.index, run_underlying Try.underlying66, asIntOf, Try.sizeOf38, Try.isAgg38, hv]
  omega
end
section
variable {ops : Array Oper} {Q : Exit → Act → World → Prop} {a : Act} {w w0 : World} {L : List (Nat × TypeId × Array Value)} {rest : List Oper} {dst : Option Tmp} {ty ty' : TypeId} {pos : String} {aft : Array Edge} {gd : Option (Nat × Bool)} {x y : Operand} {s : ByteArray}
/-- a call that answers a new block's address -/
theorem wl_callnew {f : FuncId} {xs : Array Operand} {ats : Array TypeId} {t : TypeId} {c : Array Value} (H : HA w0 L w) (hw : Region.wanted ⟨dst, .call { callee := .value (.func f), args := xs, argTypes := ats }, ty, pos, aft, gd⟩ (yielded ops a.tmps) = true)
    (hr : ∀ args w, (callFunc f args).run Try.prog w = .ok (.enter f args) w) (args : Array Value) (ha : #[] ++ xs.map a.eval ++ #[] = args) (hc : Calls Try.prog f args w fun e w' => ∃ q, e = .returned (.pointer (some ⟨q, 0, none⟩)) ∧ w.heap.size ≤ q ∧ Blk w' q t c ∧ Below w.heap.size w w')
    (h : ∀ q w', HA w0 ((q, t, c) :: L) w' → WL Try.prog ops Q rest (a.put dst (.pointer (some ⟨q, 0, none⟩))) w') : WL Try.prog ops Q (⟨dst, .call { callee := .value (.func f), args := xs, argTypes := ats }, ty, pos, aft, gd⟩ :: rest) a w := by
  refine ⟨?_⟩
  unfold wpList
  rw [if_pos hw]
  refine .inl ?_
  unfold Oper.wp
  rw [execOp_call_go, ha, hr]
  refine hc.mono ?_
  rintro e w' ⟨q, rfl, hq, hB, hb⟩
  have h1 := H.keep _ _ hb
  refine (h q w' ⟨h1.old, fun x hx => ?_, fun x hx => ?_, ?_⟩).out
  · rcases List.mem_cons.1 hx with rfl | hx
    · exact hB
    · exact h1.blk x hx
  · rcases List.mem_cons.1 hx with rfl | hx
    · exact Nat.le_trans H.size hq
    · exact h1.own x hx
  · rw [List.map_cons, List.nodup_cons]
    refine ⟨fun hm => ?_, h1.nd⟩
    obtain ⟨x, hx, e⟩ := List.mem_map.1 hm
    have := (H.blk x hx).lt
    simp at e
    omega
/-- a text's bytes as a slice of one's own -/
theorem HA.bytes (h : HA w0 L w) (s : ByteArray) : ∃ m, HA w0 ((w.heap.size, 5, bc (bl s ++ List.replicate m 0)) :: L) (Lib.bytesWorld w 5 s) := by
  have hb : Below w.heap.size w (Lib.bytesWorld w 5 s) := ⟨rfl, rfl, rfl, by rw [Lib.bytesWorld_size]; omega, fun k hk => Lib.bytesWorld_at_old w 5 s k hk⟩
  have h1 := h.keep _ _ hb
  refine ⟨grownCap w s.size 0 5 - s.size, h1.old, fun x hx => ?_, fun x hx => ?_, ?_⟩
  · rcases List.mem_cons.1 hx with rfl | hx
    · have e : Lib.bytesCells w 5 s = bc (bl s ++ List.replicate (grownCap w s.size 0 5 - s.size) 0) := by
        unfold Lib.bytesCells bc bl by8 iN
        apply Array.toList_inj.1
        simp
      have hn := Lib.bytesWorld_at_new w 5 s
      rw [e] at hn
      exact ⟨_, hn, .inr (Nat.le_refl _)⟩
    · exact h1.blk x hx
  · rcases List.mem_cons.1 hx with rfl | hx
    · exact h.size
    · exact h1.own x hx
  · rw [List.map_cons, List.nodup_cons]
    refine ⟨fun hm => ?_, h1.nd⟩
    obtain ⟨x, hx, e⟩ := List.mem_map.1 hm
    have := (h.blk x hx).lt
    simp at e
    omega
theorem wl_bytes (H : HA w0 L w) (hw : Region.wanted ⟨dst, .convert 9 31 x, ty, pos, aft, gd⟩ (yielded ops a.tmps) = true) (hx : a.eval x = .string s)
    (h : ∀ q cp m w', HA w0 ((q, 5, bc (bl s ++ List.replicate m 0)) :: L) w' → WL Try.prog ops Q rest (a.put dst (.slice (some ⟨q, 0, none⟩) s.size cp)) w') : WL Try.prog ops Q (⟨dst, .convert 9 31 x, ty, pos, aft, gd⟩ :: rest) a w := by
  obtain ⟨m, hm⟩ := H.bytes s
  refine ⟨?_⟩
  unfold wpList
  rw [if_pos hw]
  refine .inl ?_
  unfold Oper.wp
  have e : (execOp a.eval ⟨dst, .convert 9 31 x, ty, pos, aft, gd⟩).run Try.prog w = .ok (.value (.slice (some ⟨w.heap.size, 0, none⟩) s.size (grownCap w s.size 0 5))) (Lib.bytesWorld w 5 s) := by
    simp only [execOp, hx, Sem.run_bind, Lib.run_convert_string_bytes w 9 31 5 s Try.underlying9 Try.underlying31 Try.underlying5, Result.andThen_ok, Sem.run_pure]
  rw [e]
  exact (h _ _ _ _ hm).out
end
/-! changes of a whole block, or of a part of it, in a drawn region -/
section
variable {ops : Array Oper} {Q : Exit → Act → World → Prop} {F : (Nat → Nat) → Act} {i i0 j q : Nat} {dst : Option Tmp} {T ty : TypeId} {pos : String} {aft : Array Edge} {gd : Option (Nat × Bool)}
  {w0 : World} {L : List (Nat × TypeId × Array Value)} {t : TypeId} {c : Array Value} {pre : Nat → List Nat}
theorem gq_part {x y : Operand} {c0 c1 : Array Value} {off : Nat} (hL : L[j]? = some (q, t, c0)) (hoff : off + c1.size ≤ c0.size) (hc : (c0.toList.take off ++ c1.toList ++ c0.toList.drop (off + c1.size)).toArray = c) (hz : (Try.prog.info? T).map (·.size) = some c1.size) (h1 : c1.all (·.oneCell') = true) (he : ahead aft (pre i0) = true)
    (hw : ∀ g, Region.wanted ⟨dst, .store T x y, ty, pos, aft, gd⟩ (yielded ops (F g).tmps) = true) (hp : ∀ g, (F g).put dst undef = F g) (hx : ∀ g, (F g).eval x = .pointer (some ⟨q, off, none⟩)) (hy : ∀ g, (F g).eval y = .agg c1) :
    OpGhost Try.prog .any ops Q (GQ w0 L pre i0 j q t c) F i0 ⟨dst, .store T x y, ty, pos, aft, gd⟩ :=
  OpGhost.skips (W := fun _ w => w.setCells q off c1.toList) hw hp (fun g d w h hd ha => by
    have hH := h.held
    rw [if_neg (by rw [hd]; decide)] at hH
    have hb : Blk w q t c0 := hH.get j hL
    have hth : w.there q off c1.size := fun j hj => ⟨by rw [hb.cell (off + j)]; simp; omega, hb.free (off + j) (by omega)⟩
    have e : (execOp (F g).eval ⟨dst, .store T x y, ty, pos, aft, gd⟩).run Try.prog w = .ok .skip (w.setCells q off c1.toList) := by
      simp only [execOp, hx, hy, Instr.storeAt, Instr.sureAddr, Sem.run_bind, Sem.run_pure, Result.andThen_ok, run_storeVar_mid w q off T c1 hth hz h1]
    refine ⟨e, ?_, h.seen.up (ahead_ok he ha)⟩
    rw [up_at, if_pos rfl]
    have := hH.part j hL (o := off) (vs := c1.toList) (by rw [Array.length_toList]; exact hoff)
    rw [Array.length_toList, hc] at this
    exact this)
theorem gq_fill {x y : Operand} {c0 : Array Value} (hL : L[j]? = some (q, t, c0)) (hs : c.size = c0.size) (hz : (Try.prog.info? T).map (·.size) = some c.size) (h1 : c.all (·.oneCell') = true) (he : ahead aft (pre i0) = true)
    (hw : ∀ g, Region.wanted ⟨dst, .store T x y, ty, pos, aft, gd⟩ (yielded ops (F g).tmps) = true) (hp : ∀ g, (F g).put dst undef = F g) (hx : ∀ g, (F g).eval x = .pointer (some ⟨q, 0, none⟩)) (hy : ∀ g, (F g).eval y = .agg c) :
    OpGhost Try.prog .any ops Q (GQ w0 L pre i0 j q t c) F i0 ⟨dst, .store T x y, ty, pos, aft, gd⟩ :=
  OpGhost.skips (W := fun _ w => w.setCells q 0 c.toList) hw hp (fun g d w h hd ha => by
    have hH := h.held
    rw [if_neg (by rw [hd]; decide)] at hH
    refine ⟨run_store_blk (hx g) (hy g) (hH.get j hL) hs hz h1, ?_, h.seen.up (ahead_ok he ha)⟩
    rw [up_at, if_pos rfl]
    exact hH.fill j hL hs)
/-- a call of a value -/
theorem gq_callv {f : FuncId} {x : Operand} {xs : Array Operand} {ats : Array TypeId} {v : Value} (hi : i ≠ i0) (he : ahead aft (pre i) = true)
    (hw : ∀ g, Region.wanted ⟨dst, .call { callee := .value x, args := xs, argTypes := ats }, ty, pos, aft, gd⟩ (yielded ops (F g).tmps) = true) (hp : ∀ g, (F g).put dst v = F g)
    (hr : ∀ args w, (callFunc f args).run Try.prog w = .ok (.enter f args) w) (hx : ∀ g, (F g).eval x = .func (.func f) #[] #[]) (args : Array Value) (ha : ∀ g, #[] ++ xs.map (F g).eval ++ #[] = args)
    (hc : ∀ w, Below w0.heap.size w0 w → Calls Try.prog f args w fun e w' => e = .returned v ∧ Below w.heap.size w w') :
    OpGhost Try.prog .any ops Q (GQ w0 L pre i0 j q t c) F i ⟨dst, .call { callee := .value x, args := xs, argTypes := ats }, ty, pos, aft, gd⟩ :=
  OpGhost.call (v := fun _ => v) (args := fun _ => args) hw hp (fun g _ => run_callv hr (hx g) (ha g)) (fun _ _ w hS h' => (hc w hS.held.old).mono fun _ _ h => ⟨h.1, hS.keep hi (ahead_ok he h') h.2⟩)
end
/-! rows that are filled from the front -/
theorem padb_put (l : List UInt8) (m m' i : Nat) (x : UInt8) (h : l.length = i) (hm : m = m' + 1) : (bc (l ++ List.replicate m 0)).setIfInBounds i (.int .u8 (x.toNat : Int)) = bc ((l ++ [x]) ++ List.replicate m' 0) := by
  subst hm h
  unfold bc
  rw [List.setIfInBounds_toArray]
  congr 1
  rw [List.map_append, List.set_append_right _ _ (by simp), List.length_map, Nat.sub_self, List.replicate_succ, List.map_cons, List.set_cons_zero, List.map_append, List.map_append, List.append_assoc]
  rfl
theorem bc_put (l : List UInt8) (i : Nat) (x : UInt8) : (bc l).setIfInBounds i (.int .u8 (x.toNat : Int)) = bc (l.set i x) := by
  unfold bc
  rw [List.setIfInBounds_toArray, List.map_set]
  rfl
theorem padw_put (l : List (BitVec 32)) (m m' i : Nat) (x : BitVec 32) (h : l.length = i) (hm : m = m' + 1) : (wc .u32 (l ++ List.replicate m 0)).setIfInBounds i (.int .u32 (x.toNat : Int)) = wc .u32 ((l ++ [x]) ++ List.replicate m' 0) := by
  subst hm h
  unfold wc
  rw [List.setIfInBounds_toArray]
  congr 1
  rw [List.map_append, List.set_append_right _ _ (by simp), List.length_map, Nat.sub_self, List.replicate_succ, List.map_cons, List.set_cons_zero, List.map_append, List.map_append, List.append_assoc]
  rfl
theorem padw_get (l : List (BitVec 32)) (m i : Nat) (h : i < l.length) : (wc .u32 (l ++ List.replicate m 0))[i]? = some (bv .u32 (l.getD i 0)) := by
  rw [wc_get _ _ _ (by rw [List.length_append]; omega), List.getD_eq_getElem?_getD, List.getElem?_append_left h, List.getD_eq_getElem?_getD]
theorem padb_get (l : List UInt8) (m i : Nat) (h : i < l.length) : (bc (l ++ List.replicate m 0))[i]? = some (by8 (l.getD i 0)) := by
  rw [bc_get _ _ (by rw [List.length_append]; omega), List.getD_eq_getElem?_getD, List.getElem?_append_left h, List.getD_eq_getElem?_getD]
end Go.Proofs.Ythljhhhjdajfhaa
