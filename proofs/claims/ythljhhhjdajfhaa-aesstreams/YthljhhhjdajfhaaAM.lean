/-
  What is reckoned.
-/
import Derived.Test.YthljhhhjdajfhaaAO
namespace Go.Proofs.Ythljhhhjdajfhaa
open Go.RowKit

def rlW (x : BitVec 32) (k : Nat) : BitVec 32 := x <<< k ||| x >>> (32 - k)
def wo (a b c d : UInt8) : BitVec 32 := BitVec.ofNat 32 a.toNat <<< 24 ||| BitVec.ofNat 32 b.toNat <<< 16 ||| BitVec.ofNat 32 c.toNat <<< 8 ||| BitVec.ofNat 32 d.toNat
def B3 (x : BitVec 32) : UInt8 := UInt8.ofNat (x >>> 24).toNat
def B2 (x : BitVec 32) : UInt8 := UInt8.ofNat (x >>> 16).toNat
def B1 (x : BitVec 32) : UInt8 := UInt8.ofNat (x >>> 8).toNat
def B0 (x : BitVec 32) : UInt8 := UInt8.ofNat x.toNat
def bx (u : UInt8) : UInt8 := boxL.getD u.toNat 0
def bxW (a b c d : BitVec 32) : BitVec 32 := wo (bx (B3 a)) (bx (B2 b)) (bx (B1 c)) (bx (B0 d))
def twc (x : BitVec 32) : BitVec 32 := (x &&& 2139062143#32) <<< 1 ^^^ (x >>> 7 &&& 16843009#32) * 27#32
def mixW (x : BitVec 32) : BitVec 32 := twc x ^^^ rlW (x ^^^ twc x) 8 ^^^ rlW x 16 ^^^ rlW x 24
def addQ (x y : Q4) : Q4 := ⟨x.a ^^^ y.a, x.b ^^^ y.b, x.c ^^^ y.c, x.d ^^^ y.d⟩
def trnQ (q : Q4) : Q4 := ⟨bxW q.a q.b q.c q.d, bxW q.b q.c q.d q.a, bxW q.c q.d q.a q.b, bxW q.d q.a q.b q.c⟩
def mixQ (q : Q4) : Q4 := ⟨mixW q.a, mixW q.b, mixW q.c, mixW q.d⟩
def encR (kw : List (BitVec 32)) (q : Q4) : Nat → Q4
  | 0 => addQ q (rk kw 0)
  | k + 1 => addQ (if k < 13 then mixQ (trnQ (encR kw q k)) else trnQ (encR kw q k)) (rk kw (k + 1))
theorem encR_mix (kw : List (BitVec 32)) (q : Q4) (k : Nat) (h : k < 13) : encR kw q (k + 1) = addQ (mixQ (trnQ (encR kw q k))) (rk kw (k + 1)) := by rw [encR, if_pos h]
theorem encR_last (kw : List (BitVec 32)) (q : Q4) (k : Nat) (h : ¬ k < 13) : encR kw q (k + 1) = addQ (trnQ (encR kw q k)) (rk kw (k + 1)) := by rw [encR, if_neg h]
def wS (s : ByteArray) : BitVec 32 := wo ((bl s).getD 0 0) ((bl s).getD 1 0) ((bl s).getD 2 0) ((bl s).getD 3 0)
def colS (s : ByteArray) : Q4 := ⟨wS (s.extract 0 4), wS (s.extract 4 8), wS (s.extract 8 12), wS (s.extract 12 16)⟩
def fst8 (key : ByteArray) : Nat → List (BitVec 32)
  | 0 => []
  | i + 1 => fst8 key i ++ [wS (key.extract (4 * i) (4 * i + 4))]
theorem fst8_len (key : ByteArray) : ∀ i, (fst8 key i).length = i
  | 0 => rfl
  | i + 1 => by rw [fst8, List.length_append, fst8_len key i]; rfl
def tW (l : List (BitVec 32)) (i : Nat) : BitVec 32 :=
  if i % 8 = 0 then bxW (rlW (l.getD (i - 1) 0) 8) (rlW (l.getD (i - 1) 0) 8) (rlW (l.getD (i - 1) 0) 8) (rlW (l.getD (i - 1) 0) 8)
  else if i % 8 = 4 then bxW (l.getD (i - 1) 0) (l.getD (i - 1) 0) (l.getD (i - 1) 0) (l.getD (i - 1) 0) else l.getD (i - 1) 0
def mW (i : Nat) : BitVec 32 := if i % 8 = 0 then 1#32 <<< (24 + i / 8 - 1) else 0#32
def sch (key : ByteArray) : Nat → List (BitVec 32)
  | 0 => fst8 key 8
  | n + 1 => sch key n ++ [(sch key n).getD (8 + n - 8) 0 ^^^ tW (sch key n) (8 + n) ^^^ mW (8 + n)]
theorem sch_len (key : ByteArray) : ∀ n, (sch key n).length = 8 + n
  | 0 => fst8_len key 8
  | n + 1 => by rw [sch, List.length_append, sch_len key n]; rfl
def kwS (key : ByteArray) : List (BitVec 32) := sch key 52
theorem kwS_len (key : ByteArray) : (kwS key).length = 60 := sch_len key 52
def outQ (q : Q4) : Nat → List UInt8
  | 0 => []
  | k + 1 => outQ q k ++ [B3 ([q.a, q.b, q.c, q.d].getD k 0)] ++ [B2 ([q.a, q.b, q.c, q.d].getD k 0)] ++ [B1 ([q.a, q.b, q.c, q.d].getD k 0)] ++ [B0 ([q.a, q.b, q.c, q.d].getD k 0)]
theorem outQ_len (q : Q4) : ∀ k, (outQ q k).length = 4 * k
  | 0 => rfl
  | k + 1 => by rw [outQ]; simp only [List.length_append, List.length_singleton, outQ_len q k]; omega
def encQ (kw : List (BitVec 32)) (q : Q4) : Q4 := encR kw q 14
/-- a block, enciphered -/
def blkP (kw : List (BitVec 32)) (q : Q4) : List UInt8 := outQ (encQ kw q) 4
theorem blkP_len (kw : List (BitVec 32)) (q : Q4) : (blkP kw q).length = 16 := outQ_len _ 4
def blkS (key block : ByteArray) : ByteArray := ⟨(blkP (kwS key) (colS block)).toArray⟩
/-- counters -/
def cq (c : Q4) : Nat → Q4
  | 0 => c
  | k + 1 => ⟨(cq c k).a, (cq c k).b, (cq c k).c, (cq c k).d + 1#32⟩
/-- a row of bytes whose first n are added to a stream's -/
def xk (st : Nat → UInt8) (l : List UInt8) : Nat → List UInt8
  | 0 => l
  | n + 1 => (xk st l n).set n ((xk st l n).getD n 0 ^^^ st n)
theorem xk_len (st : Nat → UInt8) (l : List UInt8) : ∀ n, (xk st l n).length = l.length
  | 0 => rfl
  | n + 1 => by rw [xk, List.length_set, xk_len st l n]
theorem xk_get (st : Nat → UInt8) (l : List UInt8) : ∀ n j, j < l.length → (xk st l n).getD j 0 = if j < n then l.getD j 0 ^^^ st j else l.getD j 0
  | 0, j, _ => by rw [if_neg (by omega)]; rfl
  | n + 1, j, hj => by
    have h := xk_get st l n
    rw [xk, List.getD_eq_getElem?_getD]
    by_cases e : n = j
    · subst e
      rw [List.getElem?_set_self (by rw [xk_len]; exact hj), Option.getD_some, h n hj, if_neg (by omega), if_pos (by omega)]
    · rw [List.getElem?_set_ne e, ← List.getD_eq_getElem?_getD, h j hj]
      by_cases e2 : j < n
      · rw [if_pos e2, if_pos (by omega)]
      · rw [if_neg e2, if_neg (by omega)]
def nz : ByteArray := ⟨#[0, 0, 0, 0]⟩
def stS (key nonce : ByteArray) (j : Nat) : UInt8 := (blkP (kwS key) (cq (colS (nonce ++ nz)) (j / 16))).getD (j % 16) 0
def ctrL (key nonce text : ByteArray) : List UInt8 := xk (stS key nonce) (bl text) text.size
def ctrS (key nonce text : ByteArray) : ByteArray := ⟨(ctrL key nonce text).toArray⟩
end Go.Proofs.Ythljhhhjdajfhaa
