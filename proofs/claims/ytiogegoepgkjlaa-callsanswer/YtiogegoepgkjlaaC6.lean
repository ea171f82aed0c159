/-
  DecodeCall.
-/
import Derived.Test.YtiogegoepgkjlaaC5
namespace Go.Proofs.Ytiogegoepgkjlaa
open Go.RowKit

/-- what is read of texts -/
def txs : Nat → List UInt8 → List ByteArray → List ByteArray × List UInt8
  | 0, us, ss => (ss, us)
  | n + 1, us, ss => txs n (Rs.nxt 16384 us).2.2 (ss ++ [(Rs.nxt 16384 us).1])
theorem txs_z (us : List UInt8) (ss : List ByteArray) : txs 0 us ss = (ss, us) := rfl
theorem txs_s (n : Nat) (us : List UInt8) (ss : List ByteArray) : txs (n + 1) us ss = txs n (Rs.nxt 16384 us).2.2 (ss ++ [(Rs.nxt 16384 us).1]) := rfl
theorem dvs_len : ∀ (n : Nat) (us : List UInt8) (ds : List Mb), (dvs n us ds).1.length = ds.length + n
  | 0, _, _ => rfl
  | n + 1, us, ds => by rw [dvs_s, dvs_len n, List.length_append, List.length_singleton]; omega
theorem lisR_len (s : ByteArray) : (lisR s).ds.length ≤ 1000000 := by
  unfold lisR rdL
  rw [dvs_len]
  have := nxn_lt1 (Rs.nxt 16384 (Rs.nxn 4 (Rs.nxn 1 (bl s)).2.2).2.2).2.2
  simp only [List.length_nil]
  omega
/-- the list of a call or an answer, at most so long -/
theorem lis_bk {s : ByteArray} {l : Li} (h : lisR s = l) : l.ds.length ≤ 1000000 := h ▸ lisR_len s
/-- what is read of a call, its kind known -/
def rdK (k : Nat) (bs : List UInt8) : Ca × List UInt8 :=
  bif decide (k = 1) then (⟨((k : Nat) : Int), (((Rs.nxn 1 bs).1 : Nat) : Int), 0, ⟨0, 0, { data := #[] }, [], { data := #[] }⟩, ⟨0, 0, { data := #[] }, { data := #[] }, 0, { data := #[] }, { data := #[] }, 0, { data := #[] }⟩, [], 0, 0, 0, { data := #[] }, 0, { data := #[] }⟩, (Rs.nxn 1 bs).2.2) else bif decide (k = 2) then (⟨((k : Nat) : Int), (((Rs.nxn 1 bs).1 : Nat) : Int), (((Rs.nxn 1 (Rs.nxn 1 bs).2.2).1 : Nat) : Int), ⟨0, 0, { data := #[] }, [], { data := #[] }⟩, ⟨0, 0, { data := #[] }, { data := #[] }, 0, { data := #[] }, { data := #[] }, 0, { data := #[] }⟩, [], 0, 0, 0, { data := #[] }, 0, { data := #[] }⟩, (Rs.nxn 1 (Rs.nxn 1 bs).2.2).2.2) else bif decide (k = 3) then (⟨((k : Nat) : Int), 0, 0, (lisR (Rs.nxt 16384 bs).1), ⟨0, 0, { data := #[] }, { data := #[] }, 0, { data := #[] }, { data := #[] }, 0, { data := #[] }⟩, [], 0, 0, 0, { data := #[] }, 0, { data := #[] }⟩, (Rs.nxt 16384 bs).2.2) else bif decide (k = 4) then (⟨((k : Nat) : Int), 0, 0, ⟨0, 0, { data := #[] }, [], { data := #[] }⟩, (decA (Rs.nxt 16384 bs).1).1, (txs (Rs.nxn 1 (Rs.nxn 4 (Rs.nxt 16384 bs).2.2).2.2).1 (Rs.nxn 1 (Rs.nxn 4 (Rs.nxt 16384 bs).2.2).2.2).2.2 []).1, 0, 0, 0, { data := #[] }, (((Rs.nxn 4 (Rs.nxt 16384 bs).2.2).1 : Nat) : Int), { data := #[] }⟩, (txs (Rs.nxn 1 (Rs.nxn 4 (Rs.nxt 16384 bs).2.2).2.2).1 (Rs.nxn 1 (Rs.nxn 4 (Rs.nxt 16384 bs).2.2).2.2).2.2 []).2) else bif decide (k = 5) then (⟨((k : Nat) : Int), 0, 0, ⟨0, 0, { data := #[] }, [], { data := #[] }⟩, ⟨0, 0, { data := #[] }, { data := #[] }, 0, { data := #[] }, { data := #[] }, 0, { data := #[] }⟩, [], (((Rs.nxn 1 bs).1 : Nat) : Int), (Rs.nxn 8 (Rs.nxn 1 bs).2.2).1, 0, { data := #[] }, 0, (Rs.nxt 16384 (Rs.nxn 8 (Rs.nxn 1 bs).2.2).2.2).1⟩, (Rs.nxt 16384 (Rs.nxn 8 (Rs.nxn 1 bs).2.2).2.2).2.2) else bif decide (k = 6) then (⟨((k : Nat) : Int), 0, 0, ⟨0, 0, { data := #[] }, [], { data := #[] }⟩, ⟨0, 0, { data := #[] }, { data := #[] }, 0, { data := #[] }, { data := #[] }, 0, { data := #[] }⟩, [], 0, 0, (Rs.nxn 8 bs).1, { data := #[] }, 0, { data := #[] }⟩, (Rs.nxn 8 bs).2.2) else bif decide (k = 7) then (⟨((k : Nat) : Int), 0, 0, ⟨0, 0, { data := #[] }, [], { data := #[] }⟩, ⟨0, 0, { data := #[] }, { data := #[] }, 0, { data := #[] }, { data := #[] }, 0, { data := #[] }⟩, [], 0, 0, (Rs.nxn 8 bs).1, { data := #[] }, 0, { data := #[] }⟩, (Rs.nxn 8 bs).2.2) else bif decide (k = 8) then (⟨((k : Nat) : Int), 0, 0, ⟨0, 0, { data := #[] }, [], { data := #[] }⟩, ⟨0, 0, { data := #[] }, { data := #[] }, 0, { data := #[] }, { data := #[] }, 0, { data := #[] }⟩, [], 0, 0, 0, (Rs.nxt 16384 bs).1, (((Rs.nxn 1 (Rs.nxt 16384 bs).2.2).1 : Nat) : Int), (Rs.nxt 16384 (Rs.nxn 1 (Rs.nxt 16384 bs).2.2).2.2).1⟩, (Rs.nxt 16384 (Rs.nxn 1 (Rs.nxt 16384 bs).2.2).2.2).2.2) else bif decide (k = 9) then (⟨((k : Nat) : Int), 0, 0, ⟨0, 0, { data := #[] }, [], { data := #[] }⟩, ⟨0, 0, { data := #[] }, { data := #[] }, 0, { data := #[] }, { data := #[] }, 0, { data := #[] }⟩, [], 0, 0, 0, (Rs.nxt 16384 bs).1, (((Rs.nxn 1 (Rs.nxt 16384 bs).2.2).1 : Nat) : Int), { data := #[] }⟩, (Rs.nxn 1 (Rs.nxt 16384 bs).2.2).2.2) else (⟨((k : Nat) : Int), 0, 0, ⟨0, 0, { data := #[] }, [], { data := #[] }⟩, ⟨0, 0, { data := #[] }, { data := #[] }, 0, { data := #[] }, { data := #[] }, 0, { data := #[] }⟩, [], 0, 0, 0, { data := #[] }, 0, { data := #[] }⟩, bs)
/-- what a call's bytes may be -/
def rdC (bs : List UInt8) : Nat × Ca × List UInt8 := ((Rs.nxn 8 bs).1, rdK (Rs.nxn 1 (Rs.nxn 8 bs).2.2).1 (Rs.nxn 1 (Rs.nxn 8 bs).2.2).2.2)
def decC (s : ByteArray) : Nat × Ca × Nat := bif decide ((encC (rdC (bl s)).1 (rdC (bl s)).2.1).2 = 0) && decide ((encC (rdC (bl s)).1 (rdC (bl s)).2.1).1 = s) then ((rdC (bl s)).1, (rdC (bl s)).2.1, 0) else (0, ca0, 4)
theorem decC_y {s y : ByteArray} {id e : Nat} {c : Ca} {r : List UInt8} (hrd : rdC (bl s) = (id, c, r)) (hE : encC id c = (y, e)) (h1 : decide (e = 0) = true) (h2 : decide (y = s) = true) : decC s = (id, c, 0) := by
  unfold decC
  rw [hrd]
  show (bif decide ((encC id c).2 = 0) && decide ((encC id c).1 = s) then (id, c, 0) else (0, ca0, 4)) = _
  rw [hE]
  show (bif decide (e = 0) && decide (y = s) then (id, c, 0) else (0, ca0, 4)) = _
  rw [h1, h2]
  rfl
theorem decC_n {s y : ByteArray} {id e : Nat} {c : Ca} {r : List UInt8} (hrd : rdC (bl s) = (id, c, r)) (hE : encC id c = (y, e)) (h : (decide (e = 0) && decide (y = s)) = false) : decC s = (0, ca0, 4) := by
  unfold decC
  rw [hrd]
  show (bif decide ((encC id c).2 = 0) && decide ((encC id c).1 = s) then (id, c, 0) else (0, ca0, 4)) = _
  rw [hE]
  show (bif decide (e = 0) && decide (y = s) then (id, c, 0) else (0, ca0, 4)) = _
  rw [h]
  rfl
theorem perm_nil (Lr F : BL) : (Lr ++ F).Perm (F ++ (Lr ++ [])) := by
  rw [List.append_nil]
  exact List.perm_append_comm
theorem af_1 {a b : Bool} (h : a = false) : (a && b) = false := by rw [h]; rfl
theorem af_2 {a b : Bool} (h : b = false) : (a && b) = false := by rw [h, Bool.and_false]
/-- results: a slot, a variable, a slot -/
theorem res3 {P : Program} {w : World} {fn : Func} {p r r2 : Tmp} {t ty : TypeId} {ts : Array Value} {q : Nat} {c : Array Value} {D : TypeDesc} {v v2 : Value} (hf : fn.results = #[.tmp r, .cell p ty, .tmp r2]) (hv : ts.getD r undef = v) (ht : ts.getD p undef = .pointer (some ⟨q, 0, none⟩)) (h : Blk w q t c) (hu : P.underlying ty = some D) (hd : D.isRow = true) (hi : (P.info? ty).map (·.size) = some c.size) (hv2 : ts.getD r2 undef = v2) :
    (results fn ts).run P w = .ok (.tuple #[v, .agg c, v2]) w := by
  have := run_loadVar_mid (P := P) w q 0 ty c.toList D h.range hu hd (by simpa using hi)
  have ht2 : ts[p]?.getD undef = .pointer (some ⟨q, 0, none⟩) := by simpa using ht
  have hv3 : ts[r]?.getD undef = v := by simpa using hv
  have hv4 : ts[r2]?.getD undef = v2 := by simpa using hv2
  simp [results, hf, Result.andThen_ok, asAddr, ht2, hv3, hv4, this]
theorem rdK_1 {k : Nat} {bs : List UInt8} (k1 : decide (k = 1) = true) : rdK k bs = (⟨((k : Nat) : Int), (((Rs.nxn 1 bs).1 : Nat) : Int), 0, ⟨0, 0, { data := #[] }, [], { data := #[] }⟩, ⟨0, 0, { data := #[] }, { data := #[] }, 0, { data := #[] }, { data := #[] }, 0, { data := #[] }⟩, [], 0, 0, 0, { data := #[] }, 0, { data := #[] }⟩, (Rs.nxn 1 bs).2.2) := by
  unfold rdK
  rw [k1]
  rfl
theorem rdK_2 {k : Nat} {bs : List UInt8} (k1 : decide (k = 1) = false) (k2 : decide (k = 2) = true) : rdK k bs = (⟨((k : Nat) : Int), (((Rs.nxn 1 bs).1 : Nat) : Int), (((Rs.nxn 1 (Rs.nxn 1 bs).2.2).1 : Nat) : Int), ⟨0, 0, { data := #[] }, [], { data := #[] }⟩, ⟨0, 0, { data := #[] }, { data := #[] }, 0, { data := #[] }, { data := #[] }, 0, { data := #[] }⟩, [], 0, 0, 0, { data := #[] }, 0, { data := #[] }⟩, (Rs.nxn 1 (Rs.nxn 1 bs).2.2).2.2) := by
  unfold rdK
  rw [k1, k2]
  rfl
theorem rdK_3 {k : Nat} {bs : List UInt8} (k1 : decide (k = 1) = false) (k2 : decide (k = 2) = false) (k3 : decide (k = 3) = true) : rdK k bs = (⟨((k : Nat) : Int), 0, 0, (lisR (Rs.nxt 16384 bs).1), ⟨0, 0, { data := #[] }, { data := #[] }, 0, { data := #[] }, { data := #[] }, 0, { data := #[] }⟩, [], 0, 0, 0, { data := #[] }, 0, { data := #[] }⟩, (Rs.nxt 16384 bs).2.2) := by
  unfold rdK
  rw [k1, k2, k3]
  rfl
theorem rdK_4 {k : Nat} {bs : List UInt8} (k1 : decide (k = 1) = false) (k2 : decide (k = 2) = false) (k3 : decide (k = 3) = false) (k4 : decide (k = 4) = true) : rdK k bs = (⟨((k : Nat) : Int), 0, 0, ⟨0, 0, { data := #[] }, [], { data := #[] }⟩, (decA (Rs.nxt 16384 bs).1).1, (txs (Rs.nxn 1 (Rs.nxn 4 (Rs.nxt 16384 bs).2.2).2.2).1 (Rs.nxn 1 (Rs.nxn 4 (Rs.nxt 16384 bs).2.2).2.2).2.2 []).1, 0, 0, 0, { data := #[] }, (((Rs.nxn 4 (Rs.nxt 16384 bs).2.2).1 : Nat) : Int), { data := #[] }⟩, (txs (Rs.nxn 1 (Rs.nxn 4 (Rs.nxt 16384 bs).2.2).2.2).1 (Rs.nxn 1 (Rs.nxn 4 (Rs.nxt 16384 bs).2.2).2.2).2.2 []).2) := by
  unfold rdK
  rw [k1, k2, k3, k4]
  rfl
theorem rdK_5 {k : Nat} {bs : List UInt8} (k1 : decide (k = 1) = false) (k2 : decide (k = 2) = false) (k3 : decide (k = 3) = false) (k4 : decide (k = 4) = false) (k5 : decide (k = 5) = true) : rdK k bs = (⟨((k : Nat) : Int), 0, 0, ⟨0, 0, { data := #[] }, [], { data := #[] }⟩, ⟨0, 0, { data := #[] }, { data := #[] }, 0, { data := #[] }, { data := #[] }, 0, { data := #[] }⟩, [], (((Rs.nxn 1 bs).1 : Nat) : Int), (Rs.nxn 8 (Rs.nxn 1 bs).2.2).1, 0, { data := #[] }, 0, (Rs.nxt 16384 (Rs.nxn 8 (Rs.nxn 1 bs).2.2).2.2).1⟩, (Rs.nxt 16384 (Rs.nxn 8 (Rs.nxn 1 bs).2.2).2.2).2.2) := by
  unfold rdK
  rw [k1, k2, k3, k4, k5]
  rfl
theorem rdK_6 {k : Nat} {bs : List UInt8} (k1 : decide (k = 1) = false) (k2 : decide (k = 2) = false) (k3 : decide (k = 3) = false) (k4 : decide (k = 4) = false) (k5 : decide (k = 5) = false) (k6 : decide (k = 6) = true) : rdK k bs = (⟨((k : Nat) : Int), 0, 0, ⟨0, 0, { data := #[] }, [], { data := #[] }⟩, ⟨0, 0, { data := #[] }, { data := #[] }, 0, { data := #[] }, { data := #[] }, 0, { data := #[] }⟩, [], 0, 0, (Rs.nxn 8 bs).1, { data := #[] }, 0, { data := #[] }⟩, (Rs.nxn 8 bs).2.2) := by
  unfold rdK
  rw [k1, k2, k3, k4, k5, k6]
  rfl
theorem rdK_7 {k : Nat} {bs : List UInt8} (k1 : decide (k = 1) = false) (k2 : decide (k = 2) = false) (k3 : decide (k = 3) = false) (k4 : decide (k = 4) = false) (k5 : decide (k = 5) = false) (k6 : decide (k = 6) = false) (k7 : decide (k = 7) = true) : rdK k bs = (⟨((k : Nat) : Int), 0, 0, ⟨0, 0, { data := #[] }, [], { data := #[] }⟩, ⟨0, 0, { data := #[] }, { data := #[] }, 0, { data := #[] }, { data := #[] }, 0, { data := #[] }⟩, [], 0, 0, (Rs.nxn 8 bs).1, { data := #[] }, 0, { data := #[] }⟩, (Rs.nxn 8 bs).2.2) := by
  unfold rdK
  rw [k1, k2, k3, k4, k5, k6, k7]
  rfl
theorem rdK_8 {k : Nat} {bs : List UInt8} (k1 : decide (k = 1) = false) (k2 : decide (k = 2) = false) (k3 : decide (k = 3) = false) (k4 : decide (k = 4) = false) (k5 : decide (k = 5) = false) (k6 : decide (k = 6) = false) (k7 : decide (k = 7) = false) (k8 : decide (k = 8) = true) : rdK k bs = (⟨((k : Nat) : Int), 0, 0, ⟨0, 0, { data := #[] }, [], { data := #[] }⟩, ⟨0, 0, { data := #[] }, { data := #[] }, 0, { data := #[] }, { data := #[] }, 0, { data := #[] }⟩, [], 0, 0, 0, (Rs.nxt 16384 bs).1, (((Rs.nxn 1 (Rs.nxt 16384 bs).2.2).1 : Nat) : Int), (Rs.nxt 16384 (Rs.nxn 1 (Rs.nxt 16384 bs).2.2).2.2).1⟩, (Rs.nxt 16384 (Rs.nxn 1 (Rs.nxt 16384 bs).2.2).2.2).2.2) := by
  unfold rdK
  rw [k1, k2, k3, k4, k5, k6, k7, k8]
  rfl
theorem rdK_9 {k : Nat} {bs : List UInt8} (k1 : decide (k = 1) = false) (k2 : decide (k = 2) = false) (k3 : decide (k = 3) = false) (k4 : decide (k = 4) = false) (k5 : decide (k = 5) = false) (k6 : decide (k = 6) = false) (k7 : decide (k = 7) = false) (k8 : decide (k = 8) = false) (k9 : decide (k = 9) = true) : rdK k bs = (⟨((k : Nat) : Int), 0, 0, ⟨0, 0, { data := #[] }, [], { data := #[] }⟩, ⟨0, 0, { data := #[] }, { data := #[] }, 0, { data := #[] }, { data := #[] }, 0, { data := #[] }⟩, [], 0, 0, 0, (Rs.nxt 16384 bs).1, (((Rs.nxn 1 (Rs.nxt 16384 bs).2.2).1 : Nat) : Int), { data := #[] }⟩, (Rs.nxn 1 (Rs.nxt 16384 bs).2.2).2.2) := by
  unfold rdK
  rw [k1, k2, k3, k4, k5, k6, k7, k8, k9]
  rfl
theorem rdK_0 {k : Nat} {bs : List UInt8} (k1 : decide (k = 1) = false) (k2 : decide (k = 2) = false) (k3 : decide (k = 3) = false) (k4 : decide (k = 4) = false) (k5 : decide (k = 5) = false) (k6 : decide (k = 6) = false) (k7 : decide (k = 7) = false) (k8 : decide (k = 8) = false) (k9 : decide (k = 9) = false) : rdK k bs = (⟨((k : Nat) : Int), 0, 0, ⟨0, 0, { data := #[] }, [], { data := #[] }⟩, ⟨0, 0, { data := #[] }, { data := #[] }, 0, { data := #[] }, { data := #[] }, 0, { data := #[] }⟩, [], 0, 0, 0, { data := #[] }, 0, { data := #[] }⟩, bs) := by
  unfold rdK
  rw [k1, k2, k3, k4, k5, k6, k7, k8, k9]
  rfl
end Go.Proofs.Ytiogegoepgkjlaa
