/-
  Texts, bytes, and what field's calls answer.
-/
import Derived.Test.YtpaendmdcdeemaaDoorBytes
import Derived.Test.YtpaendmdcdeemaaDoorEl
import Derived.Test.YtpaendmdcdeemaaDoorOps
import Derived.Deep.OwnRows
namespace Go.Proofs.YtpaendmdcdeemaaDoor
open Go.RowKit Num

theorem Same_yes (a b : Nat) (ha : a < P) (hb : b < P) (h : a = b) (w : World) :
    Calls Tryd.prog 40 #[arr a, arr b] w fun e w' => e = .returned (.bool true) ∧ Below w.heap.size w w' := by
  have h1 := Same_any a b (Nat.lt_trans ha P_lt) (Nat.lt_trans hb P_lt) w
  rw [decide_eq_true h] at h1
  exact h1
theorem Same_no (a b : Nat) (ha : a < P) (hb : b < P) (h : a ≠ b) (w : World) :
    Calls Tryd.prog 40 #[arr a, arr b] w fun e w' => e = .returned (.bool false) ∧ Below w.heap.size w w' := by
  have h1 := Same_any a b (Nat.lt_trans ha P_lt) (Nat.lt_trans hb P_lt) w
  rw [decide_eq_false h] at h1
  exact h1
theorem Odd_yes (a : Nat) (h : a % 2 = 1) (w : World) :
    Calls Tryd.prog 49 #[arr a] w fun e w' => e = .returned (.bool true) ∧ Below w.heap.size w w' := by
  have h1 := Odd_any a w
  rw [decide_eq_true h] at h1
  exact h1
theorem Odd_no (a : Nat) (h : a % 2 = 0) (w : World) :
    Calls Tryd.prog 49 #[arr a] w fun e w' => e = .returned (.bool false) ∧ Below w.heap.size w w' := by
  have h1 := Odd_any a w
  rw [decide_eq_false (by omega)] at h1
  exact h1
theorem info41 : (Tryd.prog.info? 41).map (·.size) = some 32 := by kernel_rfl
theorem run_eqb {ρ : Operand → Value} {x y : Operand} (p q : Bool) {w : World} {dst : Option Tmp} {ty : TypeId} {pos : String} {aft : Array Edge} {gd : Option (Nat × Bool)} (hx : ρ x = .bool p) (hy : ρ y = .bool q) :
    (execOp ρ ⟨dst, .binOp .eql 4 x y 4, ty, pos, aft, gd⟩).run Tryd.prog w = .ok (.value (.bool (p == q))) w := by
  simp only [execOp, hx, hy]
  cases p <;> cases q <;> go_simp
theorem run_neb {ρ : Operand → Value} {x y : Operand} (p q : Bool) {w : World} {dst : Option Tmp} {ty : TypeId} {pos : String} {aft : Array Edge} {gd : Option (Nat × Bool)} (hx : ρ x = .bool p) (hy : ρ y = .bool q) :
    (execOp ρ ⟨dst, .binOp .neq 4 x y 4, ty, pos, aft, gd⟩).run Tryd.prog w = .ok (.value (.bool (p != q))) w := by
  simp only [execOp, hx, hy]
  cases p <;> cases q <;> go_simp
/-- bytes that are nought, and a block of them -/
def zs (n : Nat) : ByteArray := ⟨(List.replicate n 0).toArray⟩
def zr (n : Nat) : Array Value := madeCells #[.int .u8 0] n
def ZB (n : Nat) (w : World) (b : Nat) : Prop := Blk w b 5 (zr n)
theorem run_make (n : Nat) (hn : n ≤ 1000) (w : World) : (Instr.makeSlice 60 (.int .i64 (n : Int)) (.int .i64 (n : Int))).run Tryd.prog w = .ok (.slice (some ⟨w.heap.size, 0, none⟩) n n) (w.alloc (.cells (zr n) 5)) :=
  run_make_row' 60 5 (.int .u8 0) 1 Tryd.underlying60 info5 rfl .i64 .i64 n (by omega) (by omega) w
theorem zr_get (n j : Nat) (h : j < n) : (zr n)[j]? = some (.int .u8 0) := by
  unfold zr madeCells
  simp [h, Nat.mod_one]
theorem run_zeros (n : Nat) (w : World) (b : Nat) (h : ZB n w b) : (convert 60 9 (.slice (some ⟨b, 0, none⟩) n n)).run Tryd.prog w = .ok (.string (zs n)) w := by
  have hc : ∀ j (hj : j < (List.replicate n (0 : UInt8)).length), w.cell? ((⟨b, 0, none⟩ : Addr).add j) = some (.int .u8 (((List.replicate n (0 : UInt8))[j]).toNat : Int)) := fun j hj => by
    have hj' : j < n := by simpa using hj
    have hadd : (⟨b, 0, none⟩ : Addr).add j = ⟨b, j, none⟩ := by unfold Addr.add; split <;> simp_all
    rw [hadd, Blk.cell h j, zr_get n j hj', List.getElem_replicate]
    rfl
  have := run_convert_bytes_back (P := Tryd.prog) w 60 9 5 ⟨b, 0, none⟩ n (List.replicate n 0) Tryd.underlying60 Tryd.underlying5 Tryd.underlying9 hc
  rw [List.length_replicate] at this
  exact this
section
variable {ρ : Operand → Value} {x y : Operand} {w : World} {dst : Option Tmp} {T T2 ty : TypeId} {pos : String} {aft : Array Edge} {gd : Option (Nat × Bool)}
theorem run_mk (n : Nat) (hn : n ≤ 1000) (hx : ρ x = .int .i64 (n : Int)) (hy : ρ y = .int .i64 (n : Int)) :
    (execOp ρ ⟨dst, .makeSlice 60 x y, ty, pos, aft, gd⟩).run Tryd.prog w = .ok (.value (.slice (some ⟨w.heap.size, 0, none⟩) n n)) (w.alloc (.cells (zr n) 5)) := by
  simp only [execOp, hx, hy, Sem.run_bind, run_make n hn w, Result.andThen_ok, Sem.run_pure]
theorem run_noughts {q : Nat} (n : Nat) (hx : ρ x = .slice (some ⟨q, 0, none⟩) n n) (h : Blk w q 5 (zr n)) :
    (execOp ρ ⟨dst, .convert 60 9 x, ty, pos, aft, gd⟩).run Tryd.prog w = .ok (.value (.string (zs n))) w := by
  simp only [execOp, hx, Sem.run_bind, run_zeros n w q h, Result.andThen_ok, Sem.run_pure]
theorem run_text {q n : Nat} {c : Array Value} (l : List UInt8) (hx : ρ x = .slice (some ⟨q, 0, none⟩) n n) (h : Blk w q 5 c) (hc : c = (cs l).toArray) (hn : n = l.length) :
    (execOp ρ ⟨dst, .convert 60 9 x, ty, pos, aft, gd⟩).run Tryd.prog w = .ok (.value (.string ⟨l.toArray⟩)) w := by
  subst hc hn
  have hcell : ∀ j (hj : j < l.length), w.cell? ((⟨q, 0, none⟩ : Addr).add j) = some (.int .u8 ((l[j]).toNat : Int)) := fun j hj => by
    have hadd : (⟨q, 0, none⟩ : Addr).add j = ⟨q, j, none⟩ := by unfold Addr.add; split <;> simp_all
    rw [hadd, h.cell j]
    simp [cs, List.getElem?_eq_getElem hj]
  have := run_convert_bytes_back (P := Tryd.prog) w 60 9 5 ⟨q, 0, none⟩ l.length l Tryd.underlying60 Tryd.underlying5 Tryd.underlying9 hcell
  simp only [execOp, hx, Sem.run_bind, this, Result.andThen_ok, Sem.run_pure]
end

/-- k bytes 255, then noughts -/
def ff (k : Nat) : Array Value := (List.replicate k (iN .u8 255) ++ List.replicate (32 - k) (iN .u8 0)).toArray
theorem ff_put (k : Nat) (hk : k < 32) : (ff k).setIfInBounds k (.int .u8 255) = ff (k + 1) := by
  unfold ff
  rw [List.setIfInBounds_toArray]
  congr 1
  rw [List.set_append_right _ _ (by simp)]
  have e : 32 - k = (32 - (k + 1)) + 1 := by omega
  rw [List.length_replicate, Nat.sub_self, e, List.replicate_succ, List.set_cons_zero, List.replicate_succ', List.append_assoc]
  rfl
theorem ff_size (k : Nat) (hk : k ≤ 32) : (ff k).size = 32 := by simp [ff]; omega
/-- a byte, 30 bytes 255, a byte -/
def endsL (f l : UInt8) : List UInt8 := f :: (List.replicate 30 255 ++ [l])
theorem ff_ends (f l : UInt8) : ((ff 32).setIfInBounds 0 (iN .u8 f.toNat)).setIfInBounds 31 (iN .u8 l.toNat) = (cs (endsL f l)).toArray := by kernel_rfl
def anyP (l : List UInt8) : Nat := num 256 (l.map (·.toNat)) % 2 ^ 255 % P

theorem cs_set (l : List UInt8) (i : Nat) (z : UInt8) : (cs l).toArray.setIfInBounds i (.int .u8 (z.toNat : Int)) = (cs (l.set i z)).toArray := by
  simp [cs, List.map_set]

/-- the highest bit is struck -/
theorem top_struck (l : List UInt8) (hl : l.length = 32) (z : UInt8) (hz : z.toNat = (l[31]'(by omega)).toNat % 128) :
    num 256 ((l.set 31 z).map (·.toNat)) = num 256 (l.map (·.toNat)) % 2 ^ 255 := by
  have hlm : (l.map (·.toNat)).length = 32 := by rw [List.length_map, hl]
  have h1 := num_set 256 (l.map (·.toNat)) 31 z.toNat (by omega)
  have h2 := num_take 256 (l.map (·.toNat)) 31 (by omega)
  rw [List.take_of_length_le (by omega)] at h2
  have h3 := num_lt 256 ((l.map (·.toNat)).take 31) (fun x hx => by
    have := List.mem_of_mem_take hx
    simp only [List.mem_map] at this
    obtain ⟨u, _, rfl⟩ := this
    exact UInt8.toNat_lt u)
  rw [List.length_take, hlm] at h3
  have e1 : (l.map (·.toNat))[31]'(by omega) = (l[31]'(by omega)).toNat := by simp
  rw [e1] at h1 h2
  rw [List.map_set]
  have hx : (l[31]'(by omega)).toNat < 256 := UInt8.toNat_lt _
  generalize (l[31]'(by omega)).toNat = x at *
  generalize num 256 (l.map (·.toNat)) = N at *
  generalize num 256 ((l.map (·.toNat)).take 31) = low at *
  generalize num 256 ((l.map (·.toNat)).set 31 z.toNat) = M at *
  rw [hz] at h1
  have e2 : (256 : Nat) ^ 31 = 452312848583266388373324160190187140051835877600158453279131187530910662656 := by decide
  have e3 : (2 : Nat) ^ 255 = 57896044618658097711785492504343953926634992332820282019728792003956564819968 := by decide
  have e4 : min 31 32 = 31 := rfl
  rw [e4, e2] at h3
  rw [e2] at h1 h2
  rw [e3]
  omega

theorem low_byte (l : List UInt8) (hl : l.length = 32) : num 256 (l.map (·.toNat)) % 256 = (l[0]'(by omega)).toNat := by
  match l, hl with
  | u :: r, _ =>
    have := UInt8.toNat_lt u
    simp only [List.map_cons, num, List.getElem_cons_zero]
    omega

/-- what is beyond P -/
theorem beyond (m : Nat) (h1 : m < 2 ^ 255) (h2 : ¬ m < P) : m % P = m % 256 - 237 ∧ 237 ≤ m % 256 := by
  have e3 : (2 : Nat) ^ 255 = 57896044618658097711785492504343953926634992332820282019728792003956564819968 := by decide
  have eP : P = 57896044618658097711785492504343953926634992332820282019728792003956564819949 := rfl
  rw [e3] at h1
  rw [Nat.mod_eq_sub_mod (by omega), Nat.mod_eq_of_lt (by omega)]
  rw [eP] at h2 ⊢
  omega

theorem anyP_lt (l : List UInt8) : anyP l < P := Nat.mod_lt _ P_pos
theorem bytesOf_size (n : Nat) : (bytesOf n).size = 32 := by
  show (les 32 n).toArray.size = 32
  simp [les_length]
theorem bts_bytesOf (n : Nat) : bts (bytesOf n) = digs 256 32 n := by
  unfold bts bytesOf les
  show List.map _ (List.map UInt8.ofNat (digs 256 32 n)).toArray.toList = _
  rw [List.toList_toArray, List.map_map]
  have : ∀ x ∈ digs 256 32 n, ((fun u : UInt8 => u.toNat) ∘ UInt8.ofNat) x = id x := fun x hx => by
    have := digs_lt 256 (by decide) 32 n x hx
    show (UInt8.ofNat x).toNat = x
    rw [UInt8.toNat_ofNat']; omega
  rw [List.map_congr_left this, List.map_id]
theorem of_bytesOf (n : Nat) (h : n < P) : ofP (bytesOf n) = some n := by
  have e : numS (bytesOf n) = n := by
    unfold numS
    rw [bts_bytesOf, num_digs]
    exact Nat.mod_eq_of_lt (Nat.lt_trans h (by decide))
  unfold ofP
  rw [e]
  exact if_pos ⟨bytesOf_size n, h⟩
theorem bytesOf_num (s : ByteArray) (h : s.size = 32) : bytesOf (numS s) = s := by
  have h1 : digs 256 32 (numS s) = bts s := digs_num 256 (bts s) (bts_lt s) 32 (by rw [bts_length, h])
  unfold bytesOf les
  rw [h1]
  unfold bts
  rw [List.map_map]
  have : ((fun u : UInt8 => UInt8.ofNat u.toNat)) = id := by funext u; simp
  show (⟨(List.map (fun u : UInt8 => UInt8.ofNat u.toNat) s.data.toList).toArray⟩ : ByteArray) = s
  rw [this, List.map_id]
theorem ofP_some {s : ByteArray} {n : Nat} (h : ofP s = some n) : n < P ∧ bytesOf n = s := by
  unfold ofP at h
  split at h
  · rename_i hc
    have e := Option.some.inj h
    rw [← e]
    exact ⟨hc.2, bytesOf_num s hc.1⟩
  · cases h

end Go.Proofs.YtpaendmdcdeemaaDoor
