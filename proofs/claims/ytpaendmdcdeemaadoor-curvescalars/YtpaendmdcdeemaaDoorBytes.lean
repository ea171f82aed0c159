/-
  Bytes: the 32 bytes of an element.
-/
import Derived.Test.YtpaendmdcdeemaaDoorOf
import Derived.Lib.AppendStr
namespace Go.Proofs.YtpaendmdcdeemaaDoor
open Go.RowKit Num

theorem info5 : (Tryd.prog.info? 5).map (fun i => (i.zero, i.size, i.bytes)) = some (some (.int .u8 0), 1, 1) := by kernel_rfl

/-- bytes as cells -/
def cs (l : List UInt8) : List Value := l.map fun c => Value.int .u8 c.toNat
theorem cs_length (l : List UInt8) : (cs l).length = l.length := by simp [cs]
theorem cs_append (l r : List UInt8) : cs (l ++ r) = cs l ++ cs r := by simp [cs]

/-- the value v owns the bytes l -/
def Owns (w : World) (B : Nat) (v : Value) (l : List UInt8) : Prop := w.ownsRow B 5 1 v l.length (cs l)

theorem Owns.str {w : World} {B : Nat} {v : Value} {l : List UInt8} (h : Owns w B v l) (hl : 0 < l.length) : (convert 60 9 v).run Tryd.prog w = .ok (.string ⟨l.toArray⟩) w := by
  unfold Owns at h
  rcases h.2 with ⟨rfl, h0⟩ | ⟨g, cap, cur, rfl, _⟩
  · omega
  · refine run_convert_bytes_back (P := Tryd.prog) w 60 9 5 ⟨g, 0, none⟩ cap l Tryd.underlying60 Tryd.underlying5 Tryd.underlying9 (fun j hj => ?_)
    exact h.cells (g := g) rfl j _ (by simp [cs, List.getElem?_eq_getElem hj])

theorem news_one (w : World) (x : Value) : ∀ j u, [x][j]? = some u → (w.alloc (.cells #[x] 5)).cell? ((⟨w.heap.size, 0, none⟩ : Addr).add j) = some u := by
  intro j u h
  match j, h with
  | 0, h => simp at h; subst h; simp [Addr.add]
theorem one_one (k : IntKind) (x : Int) : ∀ u ∈ [Value.int k x], u.oneCell' = true := by
  intro u h
  simp at h
  subst h
  rfl
/-- one byte more is owned -/
theorem push_byte {w1 : World} {B : Nat} {o : Value} {l : List UInt8} {c : UInt8} {x : Int} (hx : x = (c.toNat : Int)) (h : w1.ownsRow B 5 1 o (l.length + 1) (cs l ++ [.int .u8 x])) : Owns w1 B o (l ++ [c]) := by
  unfold Owns
  rw [cs_append, List.length_append, List.length_singleton]
  subst hx
  exact h
/-- and nothing old has turned -/
theorem push_below {w wr w1 : World} {B : Nat} {o : Value} {l : List UInt8} {x : Obj} (hb : Below B w wr) (hB : B ≤ w.heap.size) (hown : Owns wr B o l) (hg : (wr.alloc x).grownBy w1 o.ownBlock) : Below B w w1 := by
  have hs := hb.size
  refine (hb.alloc (by omega) x).grown hg (by simp; omega) (fun k hk => ?_)
  exact (World.ownsRow.lt hown k hk).1

/-- a number's bytes, the lowest first -/
def les (k n : Nat) : List UInt8 := (digs 256 k n).map UInt8.ofNat
def bytesOf (n : Nat) : ByteArray := ⟨(les 32 n).toArray⟩
theorem les_length (k n : Nat) : (les k n).length = k := by unfold les; rw [List.length_map, digs_length]
theorem les_snoc (k n : Nat) : les (k + 1) n = les k n ++ [UInt8.ofNat (n / 256 ^ k % 256)] := by
  unfold les
  rw [digs_snoc, List.map_append]
  rfl

set_option maxRecDepth 20000 in
set_option maxHeartbeats 2000000 in
theorem Bytes_any (n : Nat) (w : World) :
    Calls Tryd.prog 48 #[arr n] w fun e w' => e = .returned (.string (bytesOf n)) ∧ Below w.heap.size w w' := by
  obtain ⟨i0, hi, hz0, hz1, hz2⟩ := info_parts info5
  obtain ⟨a0, a1, a2, a3, ea, ea'⟩ := arr_open n
  have EA := hide ea
  rw [ea']
  clear ea ea'
  go_enter Tryd.func48, Tryd.ntmps48
  go_wp2_with (at_make; refine wpList_make_own _ rfl (.const (.int .i64 0)) (.const (.int .i64 32)) 60 rfl (w.heap.size + 1) 5 i0 (.int .u8 0) 1 Tryd.underlying60 hi hz0 hz1 .i64 .i64 _ 32 rfl rfl (by omega) (by rw [hz2]; omega) (by unfold maxLen; omega) (by simp) ?_; intro w1 hown1 hg1)
  have RA : Row (w.alloc (.cells #[.int .u64 a0, .int .u64 a1, .int .u64 a2, .int .u64 a3] 25)) w.heap.size 25 .u64 (digs K 4 n) := by rw [EA.out]; exact Row.mk rfl rfl
  have hsz0 : (w.alloc (.cells #[.int .u64 a0, .int .u64 a1, .int .u64 a2, .int .u64 a3] 25)).heap.size = w.heap.size + 1 := by simp
  have L : Below (w.heap.size + 1) (w.alloc (.cells #[.int .u64 a0, .int .u64 a1, .int .u64 a2, .int .u64 a3] 25)) w1 := (Below.refl _ _).grown hg1 (by simp) (fun k h => by cases h)
  have hBw : Below w.heap.size w (w.alloc (.cells #[.int .u64 a0, .int .u64 a1, .int .u64 a2, .int .u64 a3] 25)) := new_below (Below.refl _ w) (Nat.le_refl _)
  generalize w.alloc (.cells #[.int .u64 a0, .int .u64 a1, .int .u64 a2, .int .u64 a3] 25) = wa at *
  have O : Owns w1 (w.heap.size + 1) (.slice (some ⟨w.heap.size + 1, 0, none⟩) 0 32) (les 0 n) := by rw [hsz0] at hown1; exact hown1
  clear hown1 hg1
  go_loopw [3, 6] (fun o i wr => ∃ k : Nat, k ≤ 32 ∧ i = .int .i64 k ∧ Owns wr (w.heap.size + 1) o (les k n) ∧ Below (w.heap.size + 1) wa wr) (fun _ i _ => 32 - (intOf i).toNat)
  case atStart => exact ⟨0, by omega, rfl, O, L⟩
  case round =>
    clear O L
    obtain ⟨k, hk, rfl, hown, hbel⟩ := hrel
    have hwr := hbel.size
    by_cases hlt : k < 32
    · have co := (RA.below hbel (by omega)).dig (k / 8) (by omega)
      have hby := hide (byte_of n k)
      have hsn := hide (les_snoc k n)
      have hll := les_length k n
      obtain ⟨q, hq⟩ : ∃ q, q = k / 8 := ⟨_, rfl⟩
      obtain ⟨r, hr⟩ : ∃ r, r = 8 * (k % 8) := ⟨_, rfl⟩
      rw [← hq, ← hr] at hby
      rw [← hq] at co
      generalize n / K ^ q % K = z at *
      obtain ⟨c, hc⟩ : ∃ c, c = UInt8.ofNat (n / 256 ^ k % 256) := ⟨_, rfl⟩
      rw [← hc] at hsn
      have hcn : c.toNat = z / 2 ^ r % 256 := by
        rw [hc, hby.out, UInt8.toNat_ofNat']
        omega
      have hk0 : (0 : Int) ≤ (k : Int) := by omega
      have hq1 : (q : Int) < 4 := by omega
      have hq0 : (0 : Int) ≤ (q : Int) := by omega
      have hdiv : (k : Int) / 8 = (q : Int) := by omega
      have hmod : (8 : Int) * ((k : Int) % 8) = (r : Int) := by omega
      have hr1 : (r : Int) < 64 := by omega
      have hr0 : (0 : Int) ≤ (r : Int) := by omega
      have hsh : (z : Int) / 2 ^ r % 256 = (c.toNat : Int) := by
        rw [hcn, Int.natCast_emod, Int.natCast_ediv, Int.natCast_pow]; rfl
      generalize les k n = acc at *
      have HQ := hide hq
      have HR := hide hr
      clear hq hr hc hcn
      go_wp2_with (at_builtin; refine wpList_append_own _ rfl (.tmp 9) (.tmp 20) 60 rfl (w.heap.size + 1) 5 i0 (.int .u8 0) 1 1 Tryd.underlying60 hi hz0 hz1 hz2 rfl (by decide) _ acc.length (cs acc) rfl (World.ownsRow.alloc hown _) ⟨wr.heap.size, 0, none⟩ 1 1 [.int .u8 (c.toNat : Int)] rfl rfl (news_one _ _) (one_one _ _) (by unfold maxLen; omega) (by omega) (by simp; omega) ?_; intro v3 w3 hown3 hg3 hn3)
      have P1 := push_byte rfl hown3
      have P2 := push_below hbel (by omega) hown hg3
      rw [← hsn.out] at P1
      clear hown3 hg3 hn3 hown hbel
      go_wp2
      go_roundw
      case rel => exact ⟨k + 1, by omega, int_eq (by omega), P1, P2⟩
      case measure => simp [intOf]; omega
    · have hk4 : k = 32 := by omega
      subst hk4
      have HS := hown.str (by rw [les_length]; omega)
      have hB := hBw.trans (hbel.mono (by omega))
      go_wp2
      go_ret
      exact ⟨rfl, hB⟩
end Go.Proofs.YtpaendmdcdeemaaDoor
