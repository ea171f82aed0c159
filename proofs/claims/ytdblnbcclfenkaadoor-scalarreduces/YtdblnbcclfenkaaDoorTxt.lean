/-
  Texts as numbers; bytes as cells.
-/
import Derived.Test.YtdblnbcclfenkaaDoorGen2
import Derived.Lib.AppendStr
import Derived.Deep.OwnRows
namespace Go.Proofs.YtdblnbcclfenkaaDoor
open Go.RowKit Num

/-- a text's bytes as numbers -/
def bts (s : ByteArray) : List Nat := s.data.toList.map (·.toNat)
def numS (s : ByteArray) : Nat := num 256 (bts s)
theorem bts_length (s : ByteArray) : (bts s).length = s.size := by
  unfold bts
  rw [List.length_map, Array.length_toList]; rfl
theorem bts_get (s : ByteArray) (j : Nat) (h : j < s.size) (h' : j < (bts s).length) : (bts s)[j] = (s[j]'h).toNat := by
  have : (bts s)[j]? = some (s[j]'h).toNat := by
    unfold bts
    rw [List.getElem?_map, Array.getElem?_toList, Array.getElem?_eq_getElem h]
    rfl
  rw [List.getElem?_eq_getElem h'] at this
  exact Option.some.inj this
theorem bts_lt (s : ByteArray) : ∀ x ∈ bts s, x < 256 := by
  unfold bts
  intro x hx
  simp only [List.mem_map] at hx
  obtain ⟨u, _, rfl⟩ := hx
  exact UInt8.toNat_lt u

theorem info5 : (Tryd.prog.info? 5).map (fun i => (i.zero, i.size, i.bytes)) = some (some (.int .u8 0), 1, 1) := by kernel_rfl

/-- bytes as cells -/
def cs (l : List UInt8) : List Value := l.map fun c => Value.int .u8 c.toNat
theorem cs_length (l : List UInt8) : (cs l).length = l.length := by simp [cs]
theorem cs_append (l r : List UInt8) : cs (l ++ r) = cs l ++ cs r := by simp [cs]

/-- the value v owns the bytes l -/
def Owns (w : World) (B : Nat) (v : Value) (l : List UInt8) : Prop := w.ownsRow B 5 1 v l.length (cs l)

theorem Owns.str {w : World} {B : Nat} {v : Value} {l : List UInt8} (h : Owns w B v l) (hl : 0 < l.length) : (convert 31 9 v).run Tryd.prog w = .ok (.string ⟨l.toArray⟩) w := by
  unfold Owns at h
  rcases h.2 with ⟨rfl, h0⟩ | ⟨g, cap, cur, rfl, _⟩
  · omega
  · refine run_convert_bytes_back (P := Tryd.prog) w 31 9 5 ⟨g, 0, none⟩ cap l Tryd.underlying31 Tryd.underlying5 Tryd.underlying9 (fun j hj => ?_)
    exact h.cells (g := g) rfl j _ (by simp [cs, List.getElem?_eq_getElem hj])

theorem news_one (w : World) (x : Value) : ∀ j u, [x][j]? = some u → (w.alloc (.cells #[x] 5)).cell? ((⟨w.heap.size, 0, none⟩ : Addr).add j) = some u := by
  intro j u h
  match j, h with
  | 0, h => simp at h; subst h; simp [Addr.add]
theorem one_one (k : IntKind) (x : Int) : ∀ u ∈ [Value.int k x], u.oneCell' = true := by
  intro u h
  simp at h
  subst h
  rfl
/-- one byte more is owned -/
theorem push_byte {w1 : World} {B : Nat} {o : Value} {l : List UInt8} {c : UInt8} {x : Int} (hx : x = (c.toNat : Int)) (h : w1.ownsRow B 5 1 o (l.length + 1) (cs l ++ [.int .u8 x])) : Owns w1 B o (l ++ [c]) := by
  unfold Owns
  rw [cs_append, List.length_append, List.length_singleton]
  subst hx
  exact h
/-- and nothing old has turned -/
theorem push_below {w wr w1 : World} {B : Nat} {o : Value} {l : List UInt8} {x : Obj} (hb : Below B w wr) (hB : B ≤ w.heap.size) (hown : Owns wr B o l) (hg : (wr.alloc x).grownBy w1 o.ownBlock) : Below B w w1 := by
  have hs := hb.size
  refine (hb.alloc (by omega) x).grown hg (by simp; omega) (fun k hk => ?_)
  exact (World.ownsRow.lt hown k hk).1

/-- a number's bytes, the lowest first -/
def les (k n : Nat) : List UInt8 := (digs 256 k n).map UInt8.ofNat
def bytesOf (n : Nat) : ByteArray := ⟨(les 32 n).toArray⟩
theorem les_length (k n : Nat) : (les k n).length = k := by unfold les; rw [List.length_map, digs_length]
theorem les_snoc (k n : Nat) : les (k + 1) n = les k n ++ [UInt8.ofNat (n / 256 ^ k % 256)] := by
  unfold les
  rw [digs_snoc, List.map_append]
  rfl

/-- bytes that are nought, and a block of them -/
def zs (n : Nat) : ByteArray := ⟨(List.replicate n 0).toArray⟩
def zr (n : Nat) : Array Value := madeCells #[.int .u8 0] n
def ZB (n : Nat) (w : World) (b : Nat) : Prop := w.heap[b]? = some (.cells (zr n) 5 (0, 0))
theorem ZB.below {n : Nat} {w w' : World} {b : Nat} (h : ZB n w b) (hb : Below w.heap.size w w') : ZB n w' b := by
  unfold ZB
  rw [hb.block b (lt_of_block h)]
  exact h
theorem ZB.new (n : Nat) (w : World) : ZB n (w.alloc (.cells (zr n) 5)) w.heap.size := by
  show (w.heap.push _)[w.heap.size]? = _
  simp
theorem run_make (n : Nat) (hn : n ≤ 1000) (w : World) : (Instr.makeSlice 31 (.int .i64 (n : Int)) (.int .i64 (n : Int))).run Tryd.prog w = .ok (.slice (some ⟨w.heap.size, 0, none⟩) n n) (w.alloc (.cells (zr n) 5)) :=
  run_make_row' 31 5 (.int .u8 0) 1 Tryd.underlying31 info5 rfl .i64 .i64 n (by omega) (by omega) w
theorem zr_get (n j : Nat) (h : j < n) : (zr n)[j]? = some (.int .u8 0) := by
  unfold zr madeCells
  simp [h, Nat.mod_one]
theorem run_zeros (n : Nat) (w : World) (b : Nat) (h : ZB n w b) : (convert 31 9 (.slice (some ⟨b, 0, none⟩) n n)).run Tryd.prog w = .ok (.string (zs n)) w := by
  have hc : ∀ j (hj : j < (List.replicate n (0 : UInt8)).length), w.cell? ((⟨b, 0, none⟩ : Addr).add j) = some (.int .u8 (((List.replicate n (0 : UInt8))[j]).toNat : Int)) := fun j hj => by
    have hj' : j < n := by simpa using hj
    have hadd : (⟨b, 0, none⟩ : Addr).add j = ⟨b, j, none⟩ := by unfold Addr.add; split <;> simp_all
    rw [hadd, cell_of_row w b j _ 5 _ h, zr_get n j hj', List.getElem_replicate]
    rfl
  have := run_convert_bytes_back (P := Tryd.prog) w 31 9 5 ⟨b, 0, none⟩ n (List.replicate n 0) Tryd.underlying31 Tryd.underlying5 Tryd.underlying9 hc
  rw [List.length_replicate] at this
  exact this
section
variable {ρ : Operand → Value} {x y : Operand} {w : World} {dst : Option Tmp} {T T2 ty : TypeId} {pos : String} {aft : Array Edge} {gd : Option (Nat × Bool)}
theorem run_mk (n : Nat) (hn : n ≤ 1000) (hx : ρ x = .int .i64 (n : Int)) (hy : ρ y = .int .i64 (n : Int)) :
    (execOp ρ ⟨dst, .makeSlice 31 x y, ty, pos, aft, gd⟩).run Tryd.prog w = .ok (.value (.slice (some ⟨w.heap.size, 0, none⟩) n n)) (w.alloc (.cells (zr n) 5)) := by
  simp only [execOp, hx, hy, Sem.run_bind, run_make n hn w, Result.andThen_ok, Sem.run_pure]
theorem run_noughts {q : Nat} (n : Nat) (hx : ρ x = .slice (some ⟨q, 0, none⟩) n n) (h : Blk w q 5 (zr n)) :
    (execOp ρ ⟨dst, .convert 31 9 x, ty, pos, aft, gd⟩).run Tryd.prog w = .ok (.value (.string (zs n))) w := by
  simp only [execOp, hx, Sem.run_bind, run_zeros n w q h, Result.andThen_ok, Sem.run_pure]
theorem run_text {q n : Nat} {c : Array Value} (l : List UInt8) (hx : ρ x = .slice (some ⟨q, 0, none⟩) n n) (h : Blk w q 5 c) (hc : c = (cs l).toArray) (hn : n = l.length) :
    (execOp ρ ⟨dst, .convert 31 9 x, ty, pos, aft, gd⟩).run Tryd.prog w = .ok (.value (.string ⟨l.toArray⟩)) w := by
  subst hc hn
  have hcell : ∀ j (hj : j < l.length), w.cell? ((⟨q, 0, none⟩ : Addr).add j) = some (.int .u8 ((l[j]).toNat : Int)) := fun j hj => by
    have hadd : (⟨q, 0, none⟩ : Addr).add j = ⟨q, j, none⟩ := by unfold Addr.add; split <;> simp_all
    rw [hadd, h.cell j]
    simp [cs, List.getElem?_eq_getElem hj]
  have := run_convert_bytes_back (P := Tryd.prog) w 31 9 5 ⟨q, 0, none⟩ l.length l Tryd.underlying31 Tryd.underlying5 Tryd.underlying9 hcell
  simp only [execOp, hx, Sem.run_bind, this, Result.andThen_ok, Sem.run_pure]
end

/-- a byte of a text -/
def sb (s : ByteArray) (i : Nat) : Nat := numS s / 256 ^ i % 256
theorem sb_lt (s : ByteArray) (i : Nat) : sb s i < 256 := Nat.mod_lt _ (by decide)
theorem sb_get (s : ByteArray) (i : Nat) (h : i < s.size) : (s.get i h).toNat = sb s i := by
  unfold sb numS
  have hl : (bts s).length = s.size := bts_length s
  have h1 : digs 256 (bts s).length (num 256 (bts s)) = bts s := digs_num 256 (bts s) (bts_lt s) _ rfl
  have h2 := digs_get 256 (bts s).length (num 256 (bts s)) i (by rw [digs_length]; omega)
  rw [← h2]
  simp only [h1]
  simp [bts]
  rfl
theorem run_sidx {ρ : Operand → Value} {x y : Operand} {s : ByteArray} {a : Nat} {w : World} {dst : Option Tmp} {ty : TypeId} {pos : String} {aft : Array Edge} {gd : Option (Nat × Bool)} (hx : ρ x = .string s) (hy : ρ y = iN .i64 a) (ha : a < s.size) :
    (execOp ρ ⟨dst, .index 9 x y, ty, pos, aft, gd⟩).run Tryd.prog w = .ok (.value (iN .u8 (sb s a))) w := by
  rw [← sb_get s a ha]
  exact run_index_str Tryd.underlying9 hx hy ha
theorem bytesOf_size (n : Nat) : (bytesOf n).size = 32 := by
  show (les 32 n).toArray.size = 32
  simp [les_length]
theorem bts_bytesOf (n : Nat) : bts (bytesOf n) = digs 256 32 n := by
  unfold bts bytesOf les
  show List.map _ (List.map UInt8.ofNat (digs 256 32 n)).toArray.toList = _
  rw [List.toList_toArray, List.map_map]
  have : ∀ x ∈ digs 256 32 n, ((fun u : UInt8 => u.toNat) ∘ UInt8.ofNat) x = id x := fun x hx => by
    have := digs_lt 256 (by decide) 32 n x hx
    show (UInt8.ofNat x).toNat = x
    rw [UInt8.toNat_ofNat']; omega
  rw [List.map_congr_left this, List.map_id]
theorem bytesOf_num (s : ByteArray) (h : s.size = 32) : bytesOf (numS s) = s := by
  have h1 : digs 256 32 (numS s) = bts s := digs_num 256 (bts s) (bts_lt s) 32 (by rw [bts_length, h])
  unfold bytesOf les
  rw [h1]
  unfold bts
  rw [List.map_map]
  have : ((fun u : UInt8 => UInt8.ofNat u.toNat)) = id := by funext u; simp
  show (⟨(List.map (fun u : UInt8 => UInt8.ofNat u.toNat) s.data.toList).toArray⟩ : ByteArray) = s
  rw [this, List.map_id]
theorem run_len {ρ : Operand → Value} {x : Operand} {s : ByteArray} {w : World} {dst : Option Tmp} {ty : TypeId} {pos : String} {aft : Array Edge} {gd : Option (Nat × Bool)} (hx : ρ x = .string s) :
    (execOp ρ ⟨dst, .call { callee := .builtin .len, args := #[x], argTypes := #[9] }, ty, pos, aft, gd⟩).run Tryd.prog w = .ok (.value (iN .i64 s.size)) w := by
  simp only [execOp, iN]
  go_simp
theorem run_geq0 {ρ : Operand → Value} {x y : Operand} {w : World} {dst : Option Tmp} {T T2 ty : TypeId} {pos : String} {aft : Array Edge} {gd : Option (Nat × Bool)} {P : Program} {k : IntKind} {a b : Int} (hx : ρ x = .int k a) (hy : ρ y = .int k b) (t : Bool) (ht : decide (b ≤ a) = t) :
    (execOp ρ ⟨dst, .binOp .geq T x y T2, ty, pos, aft, gd⟩).run P w = .ok (.value (.bool t)) w := by
  subst ht
  simp only [execOp, hx, hy]
  simp [binOp, go_sem]
/-- a counter that goes down to below nought -/
def dnv : Nat → Value
  | 0 => .int .i64 (-1)
  | j + 1 => iN .i64 j
theorem run_dec {ρ : Operand → Value} {x y : Operand} {w : World} {dst : Option Tmp} {T T2 ty : TypeId} {pos : String} {aft : Array Edge} {gd : Option (Nat × Bool)} {P : Program} {j : Nat} (hj : j < 1000) (hx : ρ x = iN .i64 j) (hy : ρ y = iN .i64 1) :
    (execOp ρ ⟨dst, .binOp .sub T x y T2, ty, pos, aft, gd⟩).run P w = .ok (.value (dnv j)) w := by
  cases j with
  | zero =>
    simp only [execOp, hx, hy, iN, dnv]
    simp [binOp, go_sem, IntKind.wrap, IntKind.bits, IntKind.signed]
  | succ j =>
    have h := run_sub (ρ := ρ) (x := x) (y := y) (w := w) (dst := dst) (T := T) (T2 := T2) (ty := ty) (pos := pos) (aft := aft) (gd := gd) (P := P) (k := .i64) (a := j + 1) (b := 1) hx hy (by omega) (by simp only [top]; omega)
    exact h

theorem run_conv8 {ρ : Operand → Value} {x : Operand} {a : Nat} {w : World} {dst : Option Tmp} {T T2 ty : TypeId} {pos : String} {aft : Array Edge} {gd : Option (Nat × Bool)} {P : Program} {k : IntKind} (hT : P.underlying T = some (.int k)) (hT2 : P.underlying T2 = some (.int .u8)) (hx : ρ x = iN k a) :
    (execOp ρ ⟨dst, .convert T T2 x, ty, pos, aft, gd⟩).run P w = .ok (.value (iN .u8 (a % 256))) w := by
  simp only [execOp, hx, iN]
  have h : IntKind.u8.wrap (a : Int) = ((a % 256 : Nat) : Int) := by rw [IntKind.wrap_u8']; omega
  simpa [go_sem, hT, hT2] using h
theorem numS_bytesOf (n : Nat) (h : n < 256 ^ 32) : numS (bytesOf n) = n := by
  unfold numS
  rw [bts_bytesOf, num_digs]
  exact Nat.mod_eq_of_lt h
theorem numS_lt (s : ByteArray) : numS s < 256 ^ s.size := by
  have h := num_lt 256 (bts s) (bts_lt s)
  rwa [bts_length] at h
end Go.Proofs.YtdblnbcclfenkaaDoor
