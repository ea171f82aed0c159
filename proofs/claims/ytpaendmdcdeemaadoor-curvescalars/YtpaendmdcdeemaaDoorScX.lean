/-
  scalar, in the curve's seat: Word El Sum.
-/
import Derived.Test.YtpaendmdcdeemaaDoorCuH
import Derived.Laws.IdiomCopy
import Derived.Lib.AppendStr
import Derived.Deep.OwnRows
import Derived.RangeFuncNested
import Derived.RangeFuncBound
import Derived.RangeFuncCalls
import Derived.RangeFuncLeaves
import Derived.Shelf.Abstract
import Derived.Shelf.RegionOpen
import Derived.OwnWalkIn
import Derived.TacticsInMore
import Derived.LoopNIn
import Derived.LoopIn
namespace Go.Proofs.YtpaendmdcdeemaaDoor.Sc
open Go.RowKit Num

set_option maxHeartbeats 1000000 in
theorem step_any (a b c d : Nat) (ha : a < 18446744073709551616) (hb : b < 18446744073709551616) (hc : c < 18446744073709551616) (hd : d < 18446744073709551616) (w : World) :
    Calls Tryd.prog 105 #[.int .u64 a, .int .u64 b, .int .u64 c, .int .u64 d] w fun e w' => e = .returned (.tuple #[.int .u64 (((a * b + c + d) / 18446744073709551616 : Nat) : Int), .int .u64 (((a * b + c + d) % 18446744073709551616 : Nat) : Int)]) ∧ w' = w := by
  have C := hide (mul64 a b ha hb w)
  have hp : a * b ≤ 18446744073709551615 * 18446744073709551615 := Nat.mul_le_mul (by omega) (by omega)
  generalize a * b = p at *
  obtain ⟨lo, hlo⟩ : ∃ lo, lo = p % 18446744073709551616 := ⟨_, rfl⟩
  obtain ⟨hi, hhi⟩ : ∃ hi, hi = p / 18446744073709551616 := ⟨_, rfl⟩
  obtain ⟨l1, hl1⟩ : ∃ l1, l1 = (lo + c) % 18446744073709551616 := ⟨_, rfl⟩
  obtain ⟨c1, hc1⟩ : ∃ c1, c1 = (lo + c) / 18446744073709551616 := ⟨_, rfl⟩
  obtain ⟨l2, hl2⟩ : ∃ l2, l2 = (l1 + d) % 18446744073709551616 := ⟨_, rfl⟩
  obtain ⟨c2, hc2⟩ : ∃ c2, c2 = (l1 + d) / 18446744073709551616 := ⟨_, rfl⟩
  have A1 := fun w => add64z lo c w
  have A2 := fun w => add64z l1 d w
  rw [← hl1, ← hc1] at A1
  rw [← hl2, ← hc2] at A2
  rw [← hlo, ← hhi] at C
  have b1 : hi + c1 < 18446744073709551616 := by omega
  have b2 : hi + c1 + c2 < 18446744073709551616 := by omega
  have E1 : Hid (hi + c1 + c2 = (p + c + d) / 18446744073709551616) := by show hi + c1 + c2 = _; omega
  have E2 : Hid (l2 = (p + c + d) % 18446744073709551616) := by show l2 = _; omega
  clear hlo hhi hl1 hc1 hl2 hc2 hp
  go_enter Tryd.func105, Tryd.ntmps105
  go_wp2_with fail
  refine C.out.mono ?_
  rintro e w' ⟨rfl, rfl⟩
  clear C
  go_wp2
  go_ret2
  rw [← E1.out, ← E2.out]
  exact ⟨ret_two (by omega) rfl, rfl⟩
theorem info34 : (Tryd.prog.info? 95).map (·.size) = some 4 := by kernel_rfl
theorem run_alloc34 {ρ : Operand → Value} {w : World} {dst : Option Tmp} {ty : TypeId} {pos : String} {aft : Array Edge} {gd : Option (Nat × Bool)} :
    (execOp ρ ⟨dst, .alloc 95, ty, pos, aft, gd⟩).run Tryd.prog w = .ok (.value (.pointer (some ⟨w.heap.size, 0, none⟩))) (w.alloc (.cells (el 0) 95)) := by
  simp only [execOp]
  go_simp
  rfl

theorem sure_load {ops : Array Oper} {Q : Exit → Act → World → Prop} {S : World → Prop} {F : Act} {dst : Option Tmp} {x : Operand} {ty : TypeId} {pos : String} {aft : Array Edge} {gd : Option (Nat × Bool)} {q n : Nat}
    (hw : Region.wanted ⟨dst, .load 95 x, ty, pos, aft, gd⟩ (yielded ops F.tmps) = true) (hp : F.put dst (arr n) = F) (hx : F.eval x = .pointer (some ⟨q, 0, none⟩)) (hS : ∀ w, S w → Blk w q 95 (el n)) :
    OpSure Tryd.prog ops Q S F ⟨dst, .load 95 x, ty, pos, aft, gd⟩ := OpSure.take hw hp (fun w h => run_load_blk hx (hS w h) Tryd.underlying95 rfl info34)
section
variable {ops : Array Oper} {Q : Exit → Act → World → Prop} {F : (Nat → Nat) → Act} {md : Region.Mode} {i : Nat} {dst : Option Tmp} {ty ty' : TypeId} {pos : String} {aft : Array Edge} {gd : Option (Nat × Bool)}
  {w0 : World} {L : List (Nat × TypeId × Array Value)} {B : Nat} {k a0 t0 : Nat} {t : TypeId} {z : Array Value} {val : Nat → Array Value}
end
section
variable {ops : Array Oper} {Q : Exit → Act → World → Prop} {F : (Nat → Nat) → Act} {md : Region.Mode} {i : Nat} {dst : Option Tmp} {ty ty' : TypeId} {pos : String} {aft : Array Edge} {gd : Option (Nat × Bool)}
  {w0 : World} {L M : List (Nat × TypeId × Array Value)}
end
theorem run_box34 {ρ : Operand → Value} {x : Operand} {c : Array Value} {w : World} {dst : Option Tmp} {ty : TypeId} {pos : String} {aft : Array Edge} {gd : Option (Nat × Bool)} (hx : ρ x = .agg c) :
    (execOp ρ ⟨dst, .box 95 x, ty, pos, aft, gd⟩).run Tryd.prog w = .ok (.value (.pointer (some ⟨w.heap.size, 0, none⟩))) (w.alloc (.cells c 95)) := by
  simp only [execOp, hx]
  go_simp
set_option maxHeartbeats 1000000 in
theorem sum_any (a b : Nat) (w : World) :
    Calls Tryd.prog 74 #[arr a, arr b] w fun e w' => e = .returned (.tuple #[arr ((a % K ^ 4 + b % K ^ 4) % K ^ 4), .int .u64 ((a % K ^ 4 + b % K ^ 4) / K ^ 4 : Nat)]) ∧ Below w.heap.size w w' := by
  obtain ⟨a0, a1, a2, a3, ea, ea'⟩ := arr_open a
  obtain ⟨b0, b1, b2, b3, eb, eb'⟩ := arr_open b
  have EA := hide ea
  have EB := hide eb
  rw [ea', eb']
  clear ea eb ea' eb'
  go_enter Tryd.func74, Tryd.ntmps74
  go_wp2
  go_loopw [7, 9] (fun c i wr => ∃ k : Nat, k ≤ 4 ∧ i = .int .i64 k ∧ c = .int .u64 ((a % K ^ k + b % K ^ k) / K ^ k : Nat) ∧ wr.heap.size = w.heap.size + 4 ∧ Row wr w.heap.size 95 .u64 (digs K 4 a) ∧ Row wr (w.heap.size + 1) 95 .u64 (digs K 4 b) ∧ Row wr (w.heap.size + 1 + 1) 95 .u64 (digs K 4 0) ∧ Row wr (w.heap.size + 1 + 1 + 1) 95 .u64 (digs K 4 ((a % K ^ k + b % K ^ k) % K ^ k)) ∧ Below w.heap.size w wr) (fun _ i _ => 4 - (intOf i).toNat)
  case atStart =>
    refine ⟨0, by omega, rfl, by simp [Nat.mod_one], ?_, ?_, ?_, ?_, ?_, ?_⟩
    · simp
    · rw [EA.out]; repeat (first | (refine Row.mk ?_ rfl; simp; done) | refine Row.alloc ?_ _)
    · rw [EB.out]; repeat (first | (refine Row.mk ?_ rfl; simp; done) | refine Row.alloc ?_ _)
    · repeat (first | (refine Row.mk ?_ rfl; simp; done) | refine Row.alloc ?_ _)
    · simp only [Nat.pow_zero, Nat.mod_one]; repeat (first | (refine Row.mk ?_ rfl; simp; done) | refine Row.alloc ?_ _)
    · exact ((((Below.refl _ w).alloc (Nat.le_refl _) _).alloc (by simp) _).alloc (by simp; omega) _).alloc (by simp; omega) _
  case round =>
    obtain ⟨k, hk, rfl, rfl, hsz, ra, rb, rr, ro, hbel⟩ := hrel
    by_cases hlt : k < 4
    · have ca := ra.dig k hlt
      have cb := rb.dig k hlt
      have co := ro.dig k hlt
      have hA := hide (add_step K a b k (by decide))
      have hcl := carry_le a b k
      have hc1 := hide (carry_le a b (k + 1))
      obtain ⟨c, hc⟩ : ∃ c, c = (a % K ^ k + b % K ^ k) / K ^ k := ⟨_, rfl⟩
      obtain ⟨x, hx⟩ : ∃ x, x = a / K ^ k % K := ⟨_, rfl⟩
      obtain ⟨y, hy⟩ : ∃ y, y = b / K ^ k % K := ⟨_, rfl⟩
      obtain ⟨z, hz⟩ : ∃ z, z = (a % K ^ k + b % K ^ k) % K ^ k / K ^ k % K := ⟨_, rfl⟩
      rw [← hx] at ca
      rw [← hy] at cb
      rw [← hz] at co
      rw [← hc] at hcl ⊢
      rw [← hc, ← hx, ← hy] at hA
      have fo := ro.free k
      have A := fun w => add64 x y c hcl w
      have hk0 : (0 : Int) ≤ (k : Int) := by omega
      have hk1 : (k : Int) < 4 := by omega
      obtain ⟨s, hs⟩ : ∃ s, s = (x + y + c) % 18446744073709551616 := ⟨_, rfl⟩
      obtain ⟨d, hd⟩ : ∃ d, d = (x + y + c) / 18446744073709551616 := ⟨_, rfl⟩
      rw [← hs, ← hd] at A
      have HS := hide hs
      have HD := hide hd
      have HC := hide hc
      have hro := hide ro
      have hra := hide ra
      have hrb := hide rb
      have hrr := hide rr
      clear hs hd hc hx hy hz ra rb rr ro
      go_wp2
      go_region
      go_wp2
      go_roundw
      case rel =>
        refine ⟨k + 1, by omega, int_eq (by omega), ?_, by simp; omega, (hra.out.off (by omega)).drew, (hrb.out.off (by omega)).drew, (hrr.out.off (by omega)).drew, ?_, (put_below hbel (by omega)).drew⟩
        · rw [hA.out.2, HD.out]
        · rw [hA.out.1, ← digs_push K 4 _ k _ (Nat.mod_lt _ (Nat.pow_pos (by decide))) hlt (Nat.mod_lt _ (by decide)), ← HS.out]
          exact (hro.out.set k s).drew
      case measure => simp [intOf]; omega
    · have hk4 : k = 4 := by omega
      subst hk4
      obtain ⟨r0, r1, r2, r3, er, er'⟩ := arr_open ((a % K ^ 4 + b % K ^ 4) % K ^ 4)
      have ER := hide er'
      rw [er] at ro
      obtain ⟨c0, c1, c2, c3⟩ := ro.four
      obtain ⟨d0, d1, d2, d3⟩ := rr.four
      obtain ⟨f0, f1, f2, f3⟩ := rr.frees
      clear er er' ro rr ra rb
      obtain ⟨c, hc⟩ : ∃ c, c = (a % K ^ 4 + b % K ^ 4) / K ^ 4 := ⟨_, rfl⟩
      rw [← hc]
      have HC := hide hc
      clear hc
      go_wp2
      refine bodyPost_ret (v := .tuple #[.agg #[.int .u64 r0, .int .u64 r1, .int .u64 r2, .int .u64 r3], .int .u64 c]) (by simp [results, Tryd.results74, go_sem, d0, d1, d2, d3]) rfl ⟨by rw [ER.out, HC.out], ?_⟩
      exact put_below (put_below (put_below (put_below hbel (by omega)) (by omega)) (by omega)) (by omega)
set_option maxHeartbeats 1000000 in
theorem difference_any (a b : Nat) (w : World) :
    Calls Tryd.prog 112 #[arr a, arr b] w fun e w' => e = .returned (.tuple #[arr ((a % K ^ 4 + K ^ 4 - b % K ^ 4) % K ^ 4), .int .u64 (bor K a b 4 : Nat)]) ∧ Below w.heap.size w w' := by
  obtain ⟨a0, a1, a2, a3, ea, ea'⟩ := arr_open a
  obtain ⟨b0, b1, b2, b3, eb, eb'⟩ := arr_open b
  have EA := hide ea
  have EB := hide eb
  rw [ea', eb']
  clear ea eb ea' eb'
  go_enter Tryd.func112, Tryd.ntmps112
  go_wp2
  go_loopw [7, 9] (fun c i wr => ∃ k : Nat, k ≤ 4 ∧ i = .int .i64 k ∧ c = .int .u64 (bor K a b k : Nat) ∧ wr.heap.size = w.heap.size + 4 ∧ Row wr w.heap.size 95 .u64 (digs K 4 a) ∧ Row wr (w.heap.size + 1) 95 .u64 (digs K 4 b) ∧ Row wr (w.heap.size + 1 + 1) 95 .u64 (digs K 4 0) ∧ Row wr (w.heap.size + 1 + 1 + 1) 95 .u64 (digs K 4 ((a % K ^ k + K ^ k - b % K ^ k) % K ^ k)) ∧ Below w.heap.size w wr) (fun _ i _ => 4 - (intOf i).toNat)
  case atStart =>
    refine ⟨0, by omega, rfl, by simp [bor, Nat.mod_one], ?_, ?_, ?_, ?_, ?_, ?_⟩
    · simp
    · rw [EA.out]; repeat (first | (refine Row.mk ?_ rfl; simp; done) | refine Row.alloc ?_ _)
    · rw [EB.out]; repeat (first | (refine Row.mk ?_ rfl; simp; done) | refine Row.alloc ?_ _)
    · repeat (first | (refine Row.mk ?_ rfl; simp; done) | refine Row.alloc ?_ _)
    · simp only [Nat.pow_zero, Nat.mod_one]; repeat (first | (refine Row.mk ?_ rfl; simp; done) | refine Row.alloc ?_ _)
    · exact ((((Below.refl _ w).alloc (Nat.le_refl _) _).alloc (by simp) _).alloc (by simp; omega) _).alloc (by simp; omega) _
  case round =>
    obtain ⟨k, hk, rfl, rfl, hsz, ra, rb, rr, ro, hbel⟩ := hrel
    by_cases hlt : k < 4
    · have ca := ra.dig k hlt
      have cb := rb.dig k hlt
      have co := ro.dig k hlt
      have hA := hide (sub_step K a b k (by decide))
      have hcl := bor_le a b k
      have hc1 := hide (bor_le a b (k + 1))
      obtain ⟨c, hc⟩ : ∃ c, c = bor K a b k := ⟨_, rfl⟩
      obtain ⟨x, hx⟩ : ∃ x, x = a / K ^ k % K := ⟨_, rfl⟩
      obtain ⟨y, hy⟩ : ∃ y, y = b / K ^ k % K := ⟨_, rfl⟩
      obtain ⟨z, hz⟩ : ∃ z, z = (a % K ^ k + K ^ k - b % K ^ k) % K ^ k / K ^ k % K := ⟨_, rfl⟩
      rw [← hx] at ca
      rw [← hy] at cb
      rw [← hz] at co
      rw [← hc] at hcl ⊢
      rw [← hc, ← hx, ← hy] at hA
      have fo := ro.free k
      have A := fun w => sub64 x y c hcl w
      have hk0 : (0 : Int) ≤ (k : Int) := by omega
      have hk1 : (k : Int) < 4 := by omega
      obtain ⟨s, hs⟩ : ∃ s, s = (x + 18446744073709551616 - y - c) % 18446744073709551616 := ⟨_, rfl⟩
      obtain ⟨d, hd⟩ : ∃ d : Nat, d = if x < y + c then 1 else 0 := ⟨_, rfl⟩
      rw [← hs, ← hd] at A
      have HS := hide hs
      have HD := hide hd
      have HC := hide hc
      have hro := hide ro
      have hra := hide ra
      have hrb := hide rb
      have hrr := hide rr
      clear hs hd hc hx hy hz ra rb rr ro
      go_wp2
      go_region
      go_wp2
      go_roundw
      case rel =>
        refine ⟨k + 1, by omega, int_eq (by omega), ?_, by simp; omega, (hra.out.off (by omega)).drew, (hrb.out.off (by omega)).drew, (hrr.out.off (by omega)).drew, ?_, (put_below hbel (by omega)).drew⟩
        · rw [hA.out.2, HD.out]
        · rw [hA.out.1, ← digs_push K 4 _ k _ (Nat.mod_lt _ (Nat.pow_pos (by decide))) hlt (Nat.mod_lt _ (by decide)), ← HS.out]
          exact (hro.out.set k s).drew
      case measure => simp [intOf]; omega
    · have hk4 : k = 4 := by omega
      subst hk4
      obtain ⟨r0, r1, r2, r3, er, er'⟩ := arr_open ((a % K ^ 4 + K ^ 4 - b % K ^ 4) % K ^ 4)
      have ER := hide er'
      rw [er] at ro
      obtain ⟨c0, c1, c2, c3⟩ := ro.four
      obtain ⟨d0, d1, d2, d3⟩ := rr.four
      obtain ⟨f0, f1, f2, f3⟩ := rr.frees
      clear er er' ro rr ra rb
      obtain ⟨c, hc⟩ : ∃ c, c = bor K a b 4 := ⟨_, rfl⟩
      rw [← hc]
      have HC := hide hc
      clear hc
      go_wp2
      refine bodyPost_ret (v := .tuple #[.agg #[.int .u64 r0, .int .u64 r1, .int .u64 r2, .int .u64 r3], .int .u64 c]) (by simp [results, Tryd.results112, go_sem, d0, d1, d2, d3]) rfl ⟨by rw [ER.out, HC.out], ?_⟩
      exact put_below (put_below (put_below (put_below hbel (by omega)) (by omega)) (by omega)) (by omega)
end Go.Proofs.YtpaendmdcdeemaaDoor.Sc

namespace Go.Proofs.YtpaendmdcdeemaaDoor.Sc
open Go.RowKit Num

section
variable {ops : Array Oper} {Q : Exit → Act → World → Prop} {F : (Nat → Nat) → Act} {md : Region.Mode} {i i0 j q : Nat} {dst : Option Tmp} {T ty : TypeId} {pos : String} {aft : Array Edge} {gd : Option (Nat × Bool)}
  {w0 : World} {L : List (Nat × TypeId × Array Value)} {t : TypeId} {c : Array Value}
theorem gp_put {x y : Operand} {k : IntKind} {z : Int} {c0 : Array Value} {off : Nat} (hL : L[j]? = some (q, t, c0)) (hoff : off < c0.size) (hc : c0.setIfInBounds off (.int k z) = c) (hs : ∀ w, (sizeOf T).run Tryd.prog w = .ok 1 w)
    (hw : ∀ g, Region.wanted ⟨dst, .store T x y, ty, pos, aft, gd⟩ (yielded ops (F g).tmps) = true) (hp : ∀ g, (F g).put dst undef = F g) (hx : ∀ g, (F g).eval x = .pointer (some ⟨q, off, none⟩)) (hy : ∀ g, (F g).eval y = .int k z) :
    OpGhost Tryd.prog md ops Q (GP w0 L i0 j q t c) F i0 ⟨dst, .store T x y, ty, pos, aft, gd⟩ :=
  OpGhost.skips (W := fun _ w => w.setCell ⟨q, off, none⟩ (.int k z)) hw hp (fun g d w h hd _ => by
    unfold GP at h ⊢
    rw [hd, if_neg (by decide)] at h
    rw [up_at, if_pos rfl]
    refine ⟨run_store1 hs (hx g) (hy g) (by rw [(h.get j hL).cell off]; simp [hoff]) ((h.get j hL).free off hoff), ?_⟩
    have := h.put j hL off (.int k z)
    rw [hc] at this
    exact this)
end
/-- a loop whose measure gets less -/
theorem rounds_more {P : Program} {Q : Exit → Act → World → Prop} {c : Code} : ∀ (n : Nat) (a : Act) (w : World), Code.rounds P c Q n a w → Code.rounds P c Q (n + 1) a w
  | 0, _, _, h => h.elim
  | n + 1, a, w, h => by
    rw [rounds_succ] at h ⊢
    exact Code.wp_mono (fun e a w he => by cases e <;> first | exact rounds_more n a w he | exact he) h
theorem rounds_le {P : Program} {Q : Exit → Act → World → Prop} {c : Code} {n m : Nat} (h : n ≤ m) {a : Act} {w : World} (hr : Code.rounds P c Q n a w) : Code.rounds P c Q m a w := by
  induction h with
  | refl => exact hr
  | step _ ih => exact rounds_more _ _ _ ih
theorem wp_while {P : Program} {Q : Exit → Act → World → Prop} {c : Code} (I : Nat → Act → World → Prop) (m : Nat) {a : Act} {w : World} (h0 : I m a w)
    (round : ∀ m a w, I m a w → c.wp P (Exit.then (fun a' w' => ∃ m', m' < m ∧ I m' a' w') Q) a w) : (Code.loop c).wp P Q a w := by
  have key : ∀ m a w, I m a w → Code.rounds P c Q (m + 1) a w := by
    intro m
    induction m using Nat.strongRecOn with
    | ind m ih =>
      intro a w hI
      rw [rounds_succ]
      refine Code.wp_mono (fun e a w he => ?_) (round m a w hI)
      cases e with
      | normal =>
        obtain ⟨m', hm, h'⟩ := he
        exact rounds_le hm (ih m' hm a w h')
      | _ => exact he
  exact wp_loop_rounds (m + 1) (key m a w h0)
/-- number i0 fills block q, which number i1 has read -/
structure GF (w0 : World) (L : List (Nat × TypeId × Array Value)) (i0 i1 j q : Nat) (t : TypeId) (c : Array Value) (g : Nat → Nat) (d : Nat → Bool) (w : World) : Prop where
  held : HA w0 (if d i0 = true then L.set j (q, t, c) else L) w
  seen : d i0 = true → d i1 = true
section
variable {ops : Array Oper} {Q : Exit → Act → World → Prop} {F : (Nat → Nat) → Act} {i i0 i1 j q : Nat} {dst : Option Tmp} {T ty : TypeId} {pos : String} {aft : Array Edge} {gd : Option (Nat × Bool)}
  {w0 : World} {L : List (Nat × TypeId × Array Value)} {t : TypeId} {c : Array Value}
theorem GF.keep {g : Nat → Nat} {d : Nat → Bool} {w w' : World} (h : GF w0 L i0 i1 j q t c g d w) (hi : i ≠ i0) (hb : Below w.heap.size w w') : GF w0 L i0 i1 j q t c g (up d i true) w' :=
  ⟨by rw [up_ne _ _ (Ne.symm hi)]; exact h.held.keep _ _ hb, fun h0 => by
    rw [up_ne _ _ (Ne.symm hi)] at h0
    by_cases hii : i1 = i
    · rw [hii]; exact up_at _ _ _
    · rw [up_ne _ _ hii]; exact h.seen h0⟩
theorem gf_plain {o : Oper} {v : Value} (hi : i ≠ i0) (hw : ∀ g, Region.wanted o (yielded ops (F g).tmps) = true) (hp : ∀ g, (F g).put o.dst v = F g)
    (hr : ∀ g w, (execOp (F g).eval o).run Tryd.prog w = .ok (.value v) w) : OpGhost Tryd.prog .any ops Q (GF w0 L i0 i1 j q t c) F i o :=
  OpGhost.take (v := fun _ => v) hw hp (fun g _ w h _ => ⟨hr g w, h.keep hi (Below.refl _ w)⟩)
/-- the load that comes ahead of the filling -/
theorem gf_load {x : Operand} {D : TypeDesc} {e : Nat × TypeId × Array Value} (m : Nat) (hm : L[m]? = some e) (hi : i1 ≠ i0)
    (hw : ∀ g, Region.wanted ⟨dst, .load T x, ty, pos, aft, gd⟩ (yielded ops (F g).tmps) = true) (hp : ∀ g, (F g).put dst (.agg e.2.2) = F g) (hx : ∀ g, (F g).eval x = .pointer (some ⟨e.1, 0, none⟩))
    (hu : Tryd.prog.underlying T = some D) (hd : D.isRow = true) (hz : (Tryd.prog.info? T).map (·.size) = some e.2.2.size) :
    OpGhost Tryd.prog .any ops Q (GF w0 L i0 i1 j q t c) F i1 ⟨dst, .load T x, ty, pos, aft, gd⟩ := fun g d w h hdi _ => by
  rw [if_pos (hw g)]
  unfold Oper.wp
  have h0 : d i0 = false := by
    cases h0 : d i0 with
    | false => rfl
    | true => rw [h.seen h0] at hdi; cases hdi
  have hH := h.held
  rw [h0, if_neg (by decide)] at hH
  rw [run_load_blk (hx g) (hH.get m hm) hu hd hz]
  exact ⟨g i1, by rw [up_self]; exact hp g, by rw [up_self]; exact h.keep hi (Below.refl _ w)⟩
/-- a load from another block -/
theorem gf_load2 {x : Operand} {D : TypeDesc} {e : Nat × TypeId × Array Value} (m : Nat) (hjm : j ≠ m) (hm : L[m]? = some e) (hi : i ≠ i0)
    (hw : ∀ g, Region.wanted ⟨dst, .load T x, ty, pos, aft, gd⟩ (yielded ops (F g).tmps) = true) (hp : ∀ g, (F g).put dst (.agg e.2.2) = F g) (hx : ∀ g, (F g).eval x = .pointer (some ⟨e.1, 0, none⟩))
    (hu : Tryd.prog.underlying T = some D) (hd : D.isRow = true) (hz : (Tryd.prog.info? T).map (·.size) = some e.2.2.size) :
    OpGhost Tryd.prog .any ops Q (GF w0 L i0 i1 j q t c) F i ⟨dst, .load T x, ty, pos, aft, gd⟩ :=
  OpGhost.take (v := fun _ => .agg e.2.2) hw hp (fun g d w h _ => by
    have hB : Blk w e.1 e.2.1 e.2.2 := by
      have hH := h.held
      split at hH
      · exact hH.get m (by rw [List.getElem?_set_ne hjm]; exact hm)
      · exact hH.get m hm
    exact ⟨run_load_blk (hx g) hB hu hd hz, h.keep hi (Below.refl _ w)⟩)
theorem gf_call {f : FuncId} {xs : Array Operand} {ats : Array TypeId} {v : Value} (hi : i ≠ i0)
    (hw : ∀ g, Region.wanted ⟨dst, .call { callee := .value (.func f), args := xs, argTypes := ats }, ty, pos, aft, gd⟩ (yielded ops (F g).tmps) = true) (hp : ∀ g, (F g).put dst v = F g)
    (hr : ∀ args w, (callFunc f args).run Tryd.prog w = .ok (.enter f args) w) (args : Array Value) (ha : ∀ g, #[] ++ xs.map (F g).eval ++ #[] = args)
    (hc : ∀ w, Calls Tryd.prog f args w fun e w' => e = .returned v ∧ Below w.heap.size w w') :
    OpGhost Tryd.prog .any ops Q (GF w0 L i0 i1 j q t c) F i ⟨dst, .call { callee := .value (.func f), args := xs, argTypes := ats }, ty, pos, aft, gd⟩ :=
  OpGhost.call (v := fun _ => v) (args := fun _ => args) hw hp (fun g w => by rw [execOp_call_go, ha g]; exact hr _ w) (fun _ _ w hS _ => (hc w).mono fun _ _ h => ⟨h.1, hS.keep hi h.2⟩)
theorem gf_fill {x y : Operand} {c0 : Array Value} (hL : L[j]? = some (q, t, c0)) (hs : c.size = c0.size) (hw : ∀ g, Region.wanted ⟨dst, .store T x y, ty, pos, aft, gd⟩ (yielded ops (F g).tmps) = true) (hp : ∀ g, (F g).put dst undef = F g)
    (hx : ∀ g, (F g).eval x = .pointer (some ⟨q, 0, none⟩)) (hy : ∀ g, (F g).eval y = .agg c) (hz : (Tryd.prog.info? T).map (·.size) = some c.size) (h1 : c.all (·.oneCell') = true) (hi : i1 ≠ i0)
    (he : (aft.any fun e => Region.binds .any e && e.on == i1) = true) :
    OpGhost Tryd.prog .any ops Q (GF w0 L i0 i1 j q t c) F i0 ⟨dst, .store T x y, ty, pos, aft, gd⟩ :=
  OpGhost.skips (W := fun _ w => w.setCells q 0 c.toList) hw hp (fun g d w h hd haft => by
    obtain ⟨m, hm, h3⟩ := Array.any_eq_true.1 he
    rw [Bool.and_eq_true, beq_iff_eq] at h3
    have ha : d i1 = true := by rw [← h3.2]; exact haft _ (Array.getElem_mem hm) h3.1
    have hH := h.held
    rw [hd, if_neg (by decide)] at hH
    exact ⟨run_store_blk (hx g) (hy g) (hH.get j hL) hs hz h1, by rw [up_at, if_pos rfl]; exact hH.fill j hL hs, fun _ => by rw [up_ne _ _ hi]; exact ha⟩)
theorem GF.start {g : Nat → Nat} {d : Nat → Bool} {w : World} (h : HA w0 L w) (hd : d i0 = false) : GF w0 L i0 i1 j q t c g d w := ⟨by rw [hd]; exact h, fun h0 => by rw [hd] at h0; cases h0⟩
end
section
variable {ops : Array Oper} {Q : Exit → Act → World → Prop} {F : (Nat → Nat) → Act} {i i0 i1 j q : Nat} {dst : Option Tmp} {T ty : TypeId} {pos : String} {aft : Array Edge} {gd : Option (Nat × Bool)}
  {w0 : World} {L : List (Nat × TypeId × Array Value)} {t : TypeId} {c : Array Value}
/-- the cell that is read ahead of the put -/
theorem gf_cell {x : Operand} {v : Value} {e : Nat × TypeId × Array Value} (m : Nat) (hm : L[m]? = some e) (hi : i1 ≠ i0) (off : Nat) (hv : e.2.2[off]? = some v) (hg : ∀ w, (isAgg T).run Tryd.prog w = .ok false w)
    (hw : ∀ g, Region.wanted ⟨dst, .load T x, ty, pos, aft, gd⟩ (yielded ops (F g).tmps) = true) (hp : ∀ g, (F g).put dst v = F g) (hx : ∀ g, (F g).eval x = .pointer (some ⟨e.1, off, none⟩)) :
    OpGhost Tryd.prog .any ops Q (GF w0 L i0 i1 j q t c) F i1 ⟨dst, .load T x, ty, pos, aft, gd⟩ := fun g d w h hdi _ => by
  rw [if_pos (hw g)]
  unfold Oper.wp
  have h0 : d i0 = false := by
    cases h0 : d i0 with
    | false => rfl
    | true => rw [h.seen h0] at hdi; cases hdi
  have hH := h.held
  rw [h0, if_neg (by decide)] at hH
  rw [run_load1 hg (hx g) (((hH.get m hm).cell off).trans hv)]
  exact ⟨g i1, by rw [up_self]; exact hp g, by rw [up_self]; exact h.keep hi (Below.refl _ w)⟩
theorem gf_cell2 {x : Operand} {v : Value} {e : Nat × TypeId × Array Value} (m : Nat) (hjm : j ≠ m) (hm : L[m]? = some e) (hi : i ≠ i0) (off : Nat) (hv : e.2.2[off]? = some v) (hg : ∀ w, (isAgg T).run Tryd.prog w = .ok false w)
    (hw : ∀ g, Region.wanted ⟨dst, .load T x, ty, pos, aft, gd⟩ (yielded ops (F g).tmps) = true) (hp : ∀ g, (F g).put dst v = F g) (hx : ∀ g, (F g).eval x = .pointer (some ⟨e.1, off, none⟩)) :
    OpGhost Tryd.prog .any ops Q (GF w0 L i0 i1 j q t c) F i ⟨dst, .load T x, ty, pos, aft, gd⟩ :=
  OpGhost.take (v := fun _ => v) hw hp (fun g d w h _ => by
    have hB : Blk w e.1 e.2.1 e.2.2 := by
      have hH := h.held
      split at hH
      · exact hH.get m (by rw [List.getElem?_set_ne hjm]; exact hm)
      · exact hH.get m hm
    exact ⟨run_load1 hg (hx g) ((hB.cell off).trans hv), h.keep hi (Below.refl _ w)⟩)
theorem gf_put {x y : Operand} {k : IntKind} {z : Int} {c0 : Array Value} {off : Nat} (hL : L[j]? = some (q, t, c0)) (hoff : off < c0.size) (hc : c0.setIfInBounds off (.int k z) = c) (hs : ∀ w, (sizeOf T).run Tryd.prog w = .ok 1 w)
    (hw : ∀ g, Region.wanted ⟨dst, .store T x y, ty, pos, aft, gd⟩ (yielded ops (F g).tmps) = true) (hp : ∀ g, (F g).put dst undef = F g) (hx : ∀ g, (F g).eval x = .pointer (some ⟨q, off, none⟩)) (hy : ∀ g, (F g).eval y = .int k z) (hi : i1 ≠ i0)
    (he : (aft.any fun e => Region.binds .any e && e.on == i1) = true) :
    OpGhost Tryd.prog .any ops Q (GF w0 L i0 i1 j q t c) F i0 ⟨dst, .store T x y, ty, pos, aft, gd⟩ :=
  OpGhost.skips (W := fun _ w => w.setCell ⟨q, off, none⟩ (.int k z)) hw hp (fun g d w h hd haft => by
    obtain ⟨m, hm, h3⟩ := Array.any_eq_true.1 he
    rw [Bool.and_eq_true, beq_iff_eq] at h3
    have ha : d i1 = true := by rw [← h3.2]; exact haft _ (Array.getElem_mem hm) h3.1
    have hH := h.held
    rw [hd, if_neg (by decide)] at hH
    refine ⟨run_store1 hs (hx g) (hy g) (by rw [(hH.get j hL).cell off]; simp [hoff]) ((hH.get j hL).free off hoff), ?_, fun _ => by rw [up_ne _ _ hi]; exact ha⟩
    rw [up_at, if_pos rfl]
    have := hH.put j hL off (.int k z)
    rw [hc] at this
    exact this)
end
theorem el_sz (n m : Nat) : (el n).size = (el m).size := rfl
theorem el_get (n j : Nat) (hj : j < 4) : (el n)[j]? = some (iN .u64 (n / K ^ j % K)) := by
  unfold el
  rw [cl_get .u64 _ j (by rw [digs_length]; exact hj), digs_get]
  rfl
theorem el_mod (n : Nat) : el (n % K ^ 4) = el n := by
  unfold el
  rw [digs_mod K 4 (n % K ^ 4) n (by decide) (Nat.mod_mod _ _)]
/-- eight words -/
def el8 (n : Nat) : Array Value := cl .u64 (digs K 8 n)
def arr8 (n : Nat) : Value := .agg (el8 n)
theorem el8_size (n : Nat) : (el8 n).size = 8 := rfl
theorem el8_get (n j : Nat) (hj : j < 8) : (el8 n)[j]? = some (iN .u64 (n / K ^ j % K)) := by
  unfold el8
  rw [cl_get .u64 _ j (by rw [digs_length]; exact hj), digs_get]
  rfl
theorem el8_put (n j x n' : Nat) (h : (digs K 8 n).set j x = digs K 8 n') : (el8 n).setIfInBounds j (.int .u64 (x : Int)) = el8 n' := by
  unfold el8
  rw [← h]
  simp [cl, List.map_set]
theorem el_put (n j x n' : Nat) (h : (digs K 4 n).set j x = digs K 4 n') : (el n).setIfInBounds j (.int .u64 (x : Int)) = el n' := by
  unfold el
  rw [← h]
  simp [cl, List.map_set]
theorem info61 : (Tryd.prog.info? 126).map (·.size) = some 8 := by kernel_rfl
theorem info32 : (Tryd.prog.info? 22).map (·.size) = some 1 := by kernel_rfl
theorem run_alloc61 {ρ : Operand → Value} {w : World} {dst : Option Tmp} {ty : TypeId} {pos : String} {aft : Array Edge} {gd : Option (Nat × Bool)} :
    (execOp ρ ⟨dst, .alloc 126, ty, pos, aft, gd⟩).run Tryd.prog w = .ok (.value (.pointer (some ⟨w.heap.size, 0, none⟩))) (w.alloc (.cells (el8 0) 126)) := by
  simp only [execOp]
  go_simp
  rfl
section
variable {ρ : Operand → Value} {x : Operand} {w : World} {dst : Option Tmp} {ty : TypeId} {pos : String} {aft : Array Edge} {gd : Option (Nat × Bool)} {q : Nat}
theorem run_slice34 (hx : ρ x = .pointer (some ⟨q, 0, none⟩)) : (execOp ρ ⟨dst, .slice 95 x none none none, ty, pos, aft, gd⟩).run Tryd.prog w = .ok (.value (.slice (some ⟨q, 0, none⟩) 4 4)) w := by
  simp only [execOp, hx]
  go_simp
theorem run_slice61h {y : Operand} (hx : ρ x = .pointer (some ⟨q, 0, none⟩)) (hy : ρ y = .int .i64 4) : (execOp ρ ⟨dst, .slice 126 x (some y) none none, ty, pos, aft, gd⟩).run Tryd.prog w = .ok (.value (.slice (some ⟨q, 4, none⟩) 4 4)) w := by
  simp only [execOp, hx, Option.map, hy]
  go_simp
theorem run_slice61l {y : Operand} (hx : ρ x = .pointer (some ⟨q, 0, none⟩)) (hy : ρ y = .int .i64 4) : (execOp ρ ⟨dst, .slice 126 x none (some y) none, ty, pos, aft, gd⟩).run Tryd.prog w = .ok (.value (.slice (some ⟨q, 0, none⟩) 4 8)) w := by
  simp only [execOp, hx, Option.map, hy]
  go_simp
/-- four words of eight are copied -/
theorem run_copy4 {y : Operand} {p o n : Nat} {t t' : TypeId} {c c' : Array Value} (hx : ρ x = .slice (some ⟨p, 0, none⟩) 4 4) (hy : ρ y = .slice (some ⟨q, o, none⟩) 4 n) (h : Blk w p t c) (hs : c.size = 4) (h' : Blk w q t' c') (d : Array Value) (hd : d.size = 4)
    (hc : ∀ j, j < 4 → c'[o + j]? = d[j]?) (h1 : d.all (·.oneCell') = true) : (execOp ρ ⟨dst, .call { callee := .builtin .copy, args := #[x, y], argTypes := #[128, 128] }, ty, pos, aft, gd⟩).run Tryd.prog w = .ok (.value (iN .i64 4)) (w.setCells p 0 d.toList) := by
  have e := run_copy_cells (P := Tryd.prog) w 128 128 ty 22 p 0 4 4 ⟨q, o, none⟩ 4 n d.toList Tryd.underlying128 info32 (by simp [hd]) (fun j v hv => by
    have hj : j < 4 := by have := (List.getElem?_eq_some_iff.1 hv).1; simp [hd] at this; exact this
    have hadd : (⟨q, o, none⟩ : Addr).add j = ⟨q, o + j, none⟩ := by unfold Addr.add; split <;> simp_all
    rw [hadd, h'.cell (o + j), hc j hj]
    simpa using hv) (fun j hj => by rw [Nat.zero_add, h.cell j]; simp at hj ⊢; omega) (fun j hj => by rw [Nat.zero_add]; exact h.free j (by simp at hj; omega)) (fun v hv => by
    have := Array.all_eq_true_iff_forall_mem.1 h1 v (by simpa using hv)
    exact this)
  simp only [execOp, iN]
  go_simp
end
section
variable {ops : Array Oper} {Q : Exit → Act → World → Prop} {F : (Nat → Nat) → Act} {i i0 j q : Nat} {dst : Option Tmp} {T ty : TypeId} {pos : String} {aft : Array Edge} {gd : Option (Nat × Bool)}
  {w0 : World} {L : List (Nat × TypeId × Array Value)} {t : TypeId} {c : Array Value}
theorem gp_copy {x y : Operand} {o n m : Nat} {c0 : Array Value} {e : Nat × TypeId × Array Value} (hL : L[j]? = some (q, t, c0)) (hs : c0.size = 4) (hm : L[m]? = some e) (hd : c.size = 4) (hc : ∀ k, k < 4 → e.2.2[o + k]? = c[k]?) (h1 : c.all (·.oneCell') = true)
    (hw : ∀ g, Region.wanted ⟨dst, .call { callee := .builtin .copy, args := #[x, y], argTypes := #[128, 128] }, ty, pos, aft, gd⟩ (yielded ops (F g).tmps) = true) (hp : ∀ g (m : Nat), (F g).put dst (iN .i64 4) = F (up g i0 m))
    (hx : ∀ g, (F g).eval x = .slice (some ⟨q, 0, none⟩) 4 4) (hy : ∀ g, (F g).eval y = .slice (some ⟨e.1, o, none⟩) 4 n) :
    OpGhost Tryd.prog .any ops Q (GP w0 L i0 j q t c) F i0 ⟨dst, .call { callee := .builtin .copy, args := #[x, y], argTypes := #[128, 128] }, ty, pos, aft, gd⟩ :=
  OpGhost.act (v := fun _ _ => iN .i64 4) (n := fun _ _ => 0) (W := fun _ w => w.setCells q 0 c.toList) hw (fun g _ => hp g 0) (fun g d w h hd0 _ => by
    have hG := h
    unfold GP at h
    rw [hd0, if_neg (by decide)] at h
    refine ⟨run_copy4 (hx g) (hy g) (h.get j hL) hs (h.get m hm) c hd hc h1, ?_⟩
    unfold GP
    rw [up_at, if_pos rfl]
    exact h.fill j hL (by rw [hd, hs]))
/-- two blocks are filled, by numbers i0 and i1 -/
def G2 (w0 : World) (L : List (Nat × TypeId × Array Value)) (i0 j0 : Nat) (x0 : Nat × TypeId × Array Value) (i1 j1 : Nat) (x1 : Nat × TypeId × Array Value) (_ : Nat → Nat) (d : Nat → Bool) (w : World) : Prop :=
  HA w0 (if d i1 = true then (if d i0 = true then L.set j0 x0 else L).set j1 x1 else (if d i0 = true then L.set j0 x0 else L)) w
variable {j0 i1 j1 : Nat} {x0 x1 : Nat × TypeId × Array Value}
theorem G2.keep {g : Nat → Nat} {d : Nat → Bool} {w : World} (h : G2 w0 L i0 j0 x0 i1 j1 x1 g d w) (hi : i ≠ i0) (hi1 : i ≠ i1) : G2 w0 L i0 j0 x0 i1 j1 x1 g (up d i true) w := by
  unfold G2
  rw [up_ne _ _ (Ne.symm hi), up_ne _ _ (Ne.symm hi1)]
  exact h
theorem G2.get {g : Nat → Nat} {d : Nat → Bool} {w : World} (h : G2 w0 L i0 j0 x0 i1 j1 x1 g d w) (m : Nat) (hm : j0 ≠ m) (hm1 : j1 ≠ m) {x : Nat × TypeId × Array Value} (hx : L[m]? = some x) : Blk w x.1 x.2.1 x.2.2 := by
  unfold G2 at h
  refine h.get m ?_
  split <;> split <;> simp only [List.getElem?_set_ne hm, List.getElem?_set_ne hm1, hx]
theorem g2_load {x : Operand} {D : TypeDesc} {e : Nat × TypeId × Array Value} (m : Nat) (hm : L[m]? = some e) (h0 : j0 ≠ m) (h1 : j1 ≠ m) (hi : i ≠ i0) (hi1 : i ≠ i1)
    (hw : ∀ g, Region.wanted ⟨dst, .load T x, ty, pos, aft, gd⟩ (yielded ops (F g).tmps) = true) (hp : ∀ g, (F g).put dst (.agg e.2.2) = F g) (hx : ∀ g, (F g).eval x = .pointer (some ⟨e.1, 0, none⟩))
    (hu : Tryd.prog.underlying T = some D) (hd : D.isRow = true) (hz : (Tryd.prog.info? T).map (·.size) = some e.2.2.size) :
    OpGhost Tryd.prog .any ops Q (G2 w0 L i0 j0 x0 i1 j1 x1) F i ⟨dst, .load T x, ty, pos, aft, gd⟩ :=
  OpGhost.take (v := fun _ => .agg e.2.2) hw hp (fun g _ _ h _ => ⟨run_load_blk (hx g) (h.get m h0 h1 hm) hu hd hz, h.keep hi hi1⟩)
theorem g2_fill0 {x y : Operand} {c0 : Array Value} (hL : L[j0]? = some (x0.1, x0.2.1, c0)) (hs : x0.2.2.size = c0.size) (hj : j1 ≠ j0) (hii : i1 ≠ i0) (hw : ∀ g, Region.wanted ⟨dst, .store T x y, ty, pos, aft, gd⟩ (yielded ops (F g).tmps) = true) (hp : ∀ g, (F g).put dst undef = F g)
    (hx : ∀ g, (F g).eval x = .pointer (some ⟨x0.1, 0, none⟩)) (hy : ∀ g, (F g).eval y = .agg x0.2.2) (hz : (Tryd.prog.info? T).map (·.size) = some x0.2.2.size) (h1 : x0.2.2.all (·.oneCell') = true) :
    OpGhost Tryd.prog .any ops Q (G2 w0 L i0 j0 x0 i1 j1 x1) F i0 ⟨dst, .store T x y, ty, pos, aft, gd⟩ :=
  OpGhost.skips (W := fun _ w => w.setCells x0.1 0 x0.2.2.toList) hw hp (fun g d w h hd _ => by
    unfold G2 at h ⊢
    have e0 : (if d i0 = true then L.set j0 x0 else L) = L := if_neg (by rw [hd]; decide)
    rw [e0] at h
    rw [up_at, if_pos rfl, up_ne _ _ hii]
    by_cases h2 : d i1 = true
    · rw [if_pos h2] at h ⊢
      have hL2 : (L.set j1 x1)[j0]? = some (x0.1, x0.2.1, c0) := by rw [List.getElem?_set_ne hj]; exact hL
      refine ⟨run_store_blk (hx g) (hy g) (h.get (x := (x0.1, x0.2.1, c0)) j0 hL2) hs hz h1, ?_⟩
      rw [List.set_comm _ _ (Ne.symm hj)]
      exact h.fill j0 hL2 hs
    · rw [if_neg h2] at h ⊢
      exact ⟨run_store_blk (hx g) (hy g) (h.get (x := (x0.1, x0.2.1, c0)) j0 hL) hs hz h1, h.fill j0 hL hs⟩)
theorem g2_fill1 {x y : Operand} {c0 : Array Value} (hL : L[j1]? = some (x1.1, x1.2.1, c0)) (hs : x1.2.2.size = c0.size) (hj : j0 ≠ j1) (hii : i0 ≠ i1) (hw : ∀ g, Region.wanted ⟨dst, .store T x y, ty, pos, aft, gd⟩ (yielded ops (F g).tmps) = true) (hp : ∀ g, (F g).put dst undef = F g)
    (hx : ∀ g, (F g).eval x = .pointer (some ⟨x1.1, 0, none⟩)) (hy : ∀ g, (F g).eval y = .agg x1.2.2) (hz : (Tryd.prog.info? T).map (·.size) = some x1.2.2.size) (h1 : x1.2.2.all (·.oneCell') = true) :
    OpGhost Tryd.prog .any ops Q (G2 w0 L i0 j0 x0 i1 j1 x1) F i1 ⟨dst, .store T x y, ty, pos, aft, gd⟩ :=
  OpGhost.skips (W := fun _ w => w.setCells x1.1 0 x1.2.2.toList) hw hp (fun g d w h hd _ => by
    unfold G2 at h ⊢
    rw [if_neg (by rw [hd]; decide)] at h
    rw [up_at, if_pos rfl, up_ne _ _ hii]
    have hL2 : (if d i0 = true then L.set j0 x0 else L)[j1]? = some (x1.1, x1.2.1, c0) := by
      split
      · rw [List.getElem?_set_ne hj]; exact hL
      · exact hL
    exact ⟨run_store_blk (hx g) (hy g) (h.get (x := (x1.1, x1.2.1, c0)) j1 hL2) hs hz h1, h.fill j1 hL2 hs⟩)
theorem G2.start {g : Nat → Nat} {d : Nat → Bool} {w : World} (h : HA w0 L w) (hd : d i0 = false) (hd1 : d i1 = false) : G2 w0 L i0 j0 x0 i1 j1 x1 g d w := by
  unfold G2
  rw [hd, hd1]
  exact h
end
set_option linter.unusedSimpArgs false in
theorem res_two {fn : Func} {p r : Tmp} {t t' ty : TypeId} {ts : Array Value} {w : World} {q s : Nat} {c c' : Array Value} {D : TypeDesc} {P : Program} (hf : fn.results = #[.cell p ty, .cell r ty]) (ht : ts.getD p undef = .pointer (some ⟨q, 0, none⟩)) (hv : ts.getD r undef = .pointer (some ⟨s, 0, none⟩)) (h : Blk w q t c) (h' : Blk w s t' c')
    (hu : P.underlying ty = some D) (hd : D.isRow = true) (hi : (P.info? ty).map (·.size) = some c.size) (hi' : (P.info? ty).map (·.size) = some c'.size) :
    (results fn ts).run P w = .ok (.tuple #[.agg c, .agg c']) w := by
  have e := run_loadVar_mid (P := P) w q 0 ty c.toList D h.range hu hd (by simpa using hi)
  have e' := run_loadVar_mid (P := P) w s 0 ty c'.toList D h'.range hu hd (by simpa using hi')
  have ht2 : ts[p]?.getD undef = .pointer (some ⟨q, 0, none⟩) := by simpa using ht
  have hv2 : ts[r]?.getD undef = .pointer (some ⟨s, 0, none⟩) := by simpa using hv
  simp [results, hf, Sem.run_bind, Sem.run_pure, Result.andThen_ok, asAddr, ht2, hv2, e, e']
end Go.Proofs.YtpaendmdcdeemaaDoor.Sc

namespace Go.Proofs.YtpaendmdcdeemaaDoor.Sc
open Go.RowKit Num

theorem step_below (a b c d : Nat) (ha : a < 18446744073709551616) (hb : b < 18446744073709551616) (hc : c < 18446744073709551616) (hd : d < 18446744073709551616) (w : World) :
    Calls Tryd.prog 105 #[iN .u64 a, iN .u64 b, iN .u64 c, iN .u64 d] w fun e w' => e = .returned (.tuple #[iN .u64 ((a * b + c + d) / 18446744073709551616), iN .u64 ((a * b + c + d) % 18446744073709551616)]) ∧ Below w.heap.size w w' :=
  (step_any a b c d ha hb hc hd w).mono fun e w' h => ⟨h.1, by rw [h.2]; exact Below.refl _ w⟩
theorem low_row (a b k : Nat) (hb : b < K ^ 4) : a % K ^ k * b < K ^ (k + 4) := by
  rw [Nat.pow_add]
  exact Nat.mul_lt_mul'' (Nat.mod_lt _ (Nat.pow_pos (by decide))) hb
theorem mul_start (a b k : Nat) : a % K ^ k * b + 0 * K ^ (k + 0) = a % K ^ k * b + (a / K ^ k % K) * (b % K ^ 0) * K ^ k := by
  rw [Nat.zero_mul, Nat.pow_zero, Nat.mod_one, Nat.mul_zero, Nat.zero_mul]
theorem high_words (n : Nat) : ∀ k, k < 4 → (el8 n)[4 + k]? = (el (n / K ^ 4))[k]? := fun k hk => by
  rw [el8_get n (4 + k) (by omega), el_get _ k hk, Nat.pow_add, Nat.div_div_eq_div_mul]
theorem low_words (n : Nat) : ∀ k, k < 4 → (el8 n)[0 + k]? = (el n)[k]? := fun k hk => by
  rw [Nat.zero_add, el8_get n k (by omega), el_get _ k hk]

set_option linter.unusedVariables false in
set_option maxRecDepth 100000 in
set_option maxHeartbeats 2000000 in
theorem product_any (a b : Nat) (ha : a < K ^ 4) (hb : b < K ^ 4) (w : World) :
    Calls Tryd.prog 76 #[arr a, arr b] w fun e w' => e = .returned (.tuple #[arr (a * b / K ^ 4), arr (a * b)]) ∧ Below w.heap.size w w' := by
  have H0 := HA.start w
  go_enter Tryd.func76, Tryd.ntmps76
  refine wp_seq ?_
  -- region 0
  refine wl_region ?_
  refine wl_make H0 95 (by kernel_rfl) (run_box34 (c := el a) (by kernel_rfl)) ?_
  intro q1 w2 h3
  refine wl_make h3 95 (by kernel_rfl) (run_box34 (c := el b) (by kernel_rfl)) ?_
  intro q4 w5 h6
  refine wl_make h6 95 (by kernel_rfl) run_alloc34 ?_
  intro q7 w8 h9
  refine wl_make h9 95 (by kernel_rfl) run_alloc34 ?_
  intro q10 w11 h12
  refine wl_nil ?_
  refine then_at (F := ⟨(arr a :: arr b :: pt q1 :: pt q4 :: pt q7 :: pt q10 :: List.replicate 46 un).toArray, []⟩) (by kernel_rfl) ?_
  refine wp_seq ?_
  -- region 1
  refine wl_region ?_
  refine wl_make h12 126 (by kernel_rfl) run_alloc61 ?_
  intro q13 w14 h15
  refine wl_nil ?_
  refine then_at (F := ⟨(arr a :: arr b :: pt q1 :: pt q4 :: pt q7 :: pt q10 :: pt q13 :: List.replicate 45 un).toArray, []⟩) (by kernel_rfl) ?_
  refine wp_seq ?_
  refine wp_seq ?_
  -- region 2
  refine wl_region ?_
  refine wl_val (iN .i64 0) (by kernel_rfl) (by kernel_rfl) ?_
  refine wl_nil ?_
  refine then_at (F := ⟨(arr a :: arr b :: pt q1 :: pt q4 :: pt q7 :: pt q10 :: pt q13 :: un :: un :: un :: un :: un :: iN .i64 0 :: List.replicate 39 un).toArray, []⟩) (by kernel_rfl) ?_
  refine wp_block ?_
  refine wp_count (fun k A w' => ∃ u16 : Nat → Value, A = ⟨(arr a :: arr b :: pt q1 :: pt q4 :: pt q7 :: pt q10 :: pt q13 :: u16 7 :: u16 8 :: u16 9 :: un :: un :: iN .i64 k :: u16 13 :: u16 14 :: u16 15 :: u16 16 :: u16 17 :: u16 18 :: u16 19 :: u16 20 :: u16 21 :: u16 22 :: u16 23 :: u16 24 :: u16 25 :: u16 26 :: u16 27 :: u16 28 :: u16 29 :: u16 30 :: u16 31 :: u16 32 :: u16 33 :: u16 34 :: u16 35 :: u16 36 :: u16 37 :: u16 38 :: u16 39 :: u16 40 :: u16 41 :: u16 42 :: u16 43 :: List.replicate 8 un).toArray, []⟩ ∧ HA w [(q13, 126, el8 (a % K ^ k * b)), (q10, 95, el 0), (q7, 95, el 0), (q4, 95, el b), (q1, 95, el a)] w') 4 ?_ ?_ ?_
  · exact ⟨fun ii => (([(7, undef), (8, undef), (9, undef), (13, undef), (14, undef), (15, undef), (16, undef), (17, undef), (18, undef), (19, undef), (20, undef), (21, undef), (22, undef), (23, undef), (24, undef), (25, undef), (26, undef), (27, undef), (28, undef), (29, undef), (30, undef), (31, undef), (32, undef), (33, undef), (34, undef), (35, undef), (36, undef), (37, undef), (38, undef), (39, undef), (40, undef), (41, undef), (42, undef), (43, undef)] : List (Nat × Value)).find? (·.1 == ii)).elim undef (·.2), by kernel_rfl, (by rw [Nat.pow_zero, Nat.mod_one, Nat.zero_mul]; exact h15)⟩
  · rintro k hk _ w17 ⟨u16, rfl, h18⟩
    have hlow0 := low_row a b k hb
    refine wp_seq ?_
    -- region 3
    refine wl_region ?_
    refine wl_val (.bool true) (by kernel_rfl) (run_lss (k := .i64) (a := k) (b := 4) (by kernel_rfl) (by kernel_rfl) true (decide_eq_true hk)) ?_
    refine wl_nil ?_
    refine then_at (F := ⟨(arr a :: arr b :: pt q1 :: pt q4 :: pt q7 :: pt q10 :: pt q13 :: u16 7 :: u16 8 :: u16 9 :: un :: un :: iN .i64 k :: .bool true :: u16 14 :: u16 15 :: u16 16 :: u16 17 :: u16 18 :: u16 19 :: u16 20 :: u16 21 :: u16 22 :: u16 23 :: u16 24 :: u16 25 :: u16 26 :: u16 27 :: u16 28 :: u16 29 :: u16 30 :: u16 31 :: u16 32 :: u16 33 :: u16 34 :: u16 35 :: u16 36 :: u16 37 :: u16 38 :: u16 39 :: u16 40 :: u16 41 :: u16 42 :: u16 43 :: List.replicate 8 un).toArray, []⟩) (by kernel_rfl) ?_
    refine wp_seq ?_
    refine wp_cond_true (by kernel_rfl) ?_
    refine wp_skip ?_
    refine then_at (F := ⟨(arr a :: arr b :: pt q1 :: pt q4 :: pt q7 :: pt q10 :: pt q13 :: u16 7 :: u16 8 :: u16 9 :: un :: un :: iN .i64 k :: .bool true :: u16 14 :: u16 15 :: u16 16 :: u16 17 :: u16 18 :: u16 19 :: u16 20 :: u16 21 :: u16 22 :: u16 23 :: u16 24 :: u16 25 :: u16 26 :: u16 27 :: u16 28 :: u16 29 :: u16 30 :: u16 31 :: u16 32 :: u16 33 :: u16 34 :: u16 35 :: u16 36 :: u16 37 :: u16 38 :: u16 39 :: u16 40 :: u16 41 :: u16 42 :: u16 43 :: List.replicate 8 un).toArray, []⟩) (by kernel_rfl) ?_
    refine wp_seq ?_
    refine wp_block ?_
    refine wp_seq ?_
    -- region 4
    refine wl_region ?_
    refine wl_val (iN .i64 k) (by kernel_rfl) (by kernel_rfl) ?_
    refine wl_val (iN .i64 k) (by kernel_rfl) (by kernel_rfl) ?_
    refine wl_nil ?_
    refine then_at (F := ⟨(arr a :: arr b :: pt q1 :: pt q4 :: pt q7 :: pt q10 :: pt q13 :: iN .i64 k :: u16 8 :: u16 9 :: un :: un :: iN .i64 k :: .bool true :: iN .i64 k :: u16 15 :: u16 16 :: u16 17 :: u16 18 :: u16 19 :: u16 20 :: u16 21 :: u16 22 :: u16 23 :: u16 24 :: u16 25 :: u16 26 :: u16 27 :: u16 28 :: u16 29 :: u16 30 :: u16 31 :: u16 32 :: u16 33 :: u16 34 :: u16 35 :: u16 36 :: u16 37 :: u16 38 :: u16 39 :: u16 40 :: u16 41 :: u16 42 :: u16 43 :: List.replicate 8 un).toArray, []⟩) (by kernel_rfl) ?_
    refine wp_seq ?_
    -- region 5
    refine wl_region ?_
    refine wl_val (iN .u64 0) (by kernel_rfl) (by kernel_rfl) ?_
    refine wl_nil ?_
    refine then_at (F := ⟨(arr a :: arr b :: pt q1 :: pt q4 :: pt q7 :: pt q10 :: pt q13 :: iN .i64 k :: iN .u64 0 :: u16 9 :: un :: un :: iN .i64 k :: .bool true :: iN .i64 k :: u16 15 :: u16 16 :: u16 17 :: u16 18 :: u16 19 :: u16 20 :: u16 21 :: u16 22 :: u16 23 :: u16 24 :: u16 25 :: u16 26 :: u16 27 :: u16 28 :: u16 29 :: u16 30 :: u16 31 :: u16 32 :: u16 33 :: u16 34 :: u16 35 :: u16 36 :: u16 37 :: u16 38 :: u16 39 :: u16 40 :: u16 41 :: u16 42 :: u16 43 :: List.replicate 8 un).toArray, []⟩) (by kernel_rfl) ?_
    refine wp_seq ?_
    refine wp_seq ?_
    -- region 6
    refine wl_region ?_
    refine wl_val (iN .i64 0) (by kernel_rfl) (by kernel_rfl) ?_
    refine wl_nil ?_
    refine then_at (F := ⟨(arr a :: arr b :: pt q1 :: pt q4 :: pt q7 :: pt q10 :: pt q13 :: iN .i64 k :: iN .u64 0 :: u16 9 :: un :: un :: iN .i64 k :: .bool true :: iN .i64 k :: iN .i64 0 :: u16 16 :: u16 17 :: u16 18 :: u16 19 :: u16 20 :: u16 21 :: u16 22 :: u16 23 :: u16 24 :: u16 25 :: u16 26 :: u16 27 :: u16 28 :: u16 29 :: u16 30 :: u16 31 :: u16 32 :: u16 33 :: u16 34 :: u16 35 :: u16 36 :: u16 37 :: u16 38 :: u16 39 :: u16 40 :: u16 41 :: u16 42 :: u16 43 :: List.replicate 8 un).toArray, []⟩) (by kernel_rfl) ?_
    refine wp_block ?_
    refine wp_while (fun mq A w' => ∃ (m c M : Nat) (u19 : Nat → Value), mq = 4 - m ∧ A = ⟨(arr a :: arr b :: pt q1 :: pt q4 :: pt q7 :: pt q10 :: pt q13 :: iN .i64 k :: iN .u64 c :: u19 9 :: un :: un :: iN .i64 k :: .bool true :: iN .i64 k :: iN .i64 m :: u19 16 :: u19 17 :: u19 18 :: u19 19 :: u19 20 :: u19 21 :: u19 22 :: u19 23 :: u19 24 :: u19 25 :: u19 26 :: u19 27 :: u19 28 :: u19 29 :: u19 30 :: u19 31 :: u19 32 :: u19 33 :: u19 34 :: u19 35 :: u19 36 :: u19 37 :: u19 38 :: u16 39 :: u16 40 :: u16 41 :: u16 42 :: u16 43 :: List.replicate 8 un).toArray, []⟩ ∧ HA w [(q13, 126, el8 M), (q10, 95, el 0), (q7, 95, el 0), (q4, 95, el b), (q1, 95, el a)] w' ∧ m ≤ 4 ∧ c < K ∧ M + c * K ^ (k + m) = a % K ^ k * b + (a / K ^ k % K) * (b % K ^ m) * K ^ k ∧ M < K ^ (k + 4)) 4 ?_ ?_
    · exact ⟨0, 0, a % K ^ k * b, fun ii => (([(9, u16 9), (16, u16 16), (17, u16 17), (18, u16 18), (19, u16 19), (20, u16 20), (21, u16 21), (22, u16 22), (23, u16 23), (24, u16 24), (25, u16 25), (26, u16 26), (27, u16 27), (28, u16 28), (29, u16 29), (30, u16 30), (31, u16 31), (32, u16 32), (33, u16 33), (34, u16 34), (35, u16 35), (36, u16 36), (37, u16 37), (38, u16 38)] : List (Nat × Value)).find? (·.1 == ii)).elim undef (·.2), rfl, by kernel_rfl, h18, by omega, by decide, mul_start a b k, hlow0⟩
    rintro _ _ w20 ⟨m, c, M, u19, rfl, rfl, h21, hm4, hc, hM, hlow⟩
    refine wp_seq ?_
    by_cases hlm : m < 4
    · obtain ⟨M', e1, e2, e3, e4⟩ := mul_step K M c (a % K ^ k * b) (a / K ^ k % K) b m k (by decide) hM hlow hlm hk (Nat.mod_lt _ (by decide)) hc
      -- region 7
      refine wl_region ?_
      refine wl_val (.bool true) (by kernel_rfl) (run_lss (k := .i64) (a := m) (b := 4) (by kernel_rfl) (by kernel_rfl) true (decide_eq_true hlm)) ?_
      refine wl_nil ?_
      refine then_at (F := ⟨(arr a :: arr b :: pt q1 :: pt q4 :: pt q7 :: pt q10 :: pt q13 :: iN .i64 k :: iN .u64 c :: u19 9 :: un :: un :: iN .i64 k :: .bool true :: iN .i64 k :: iN .i64 m :: .bool true :: u19 17 :: u19 18 :: u19 19 :: u19 20 :: u19 21 :: u19 22 :: u19 23 :: u19 24 :: u19 25 :: u19 26 :: u19 27 :: u19 28 :: u19 29 :: u19 30 :: u19 31 :: u19 32 :: u19 33 :: u19 34 :: u19 35 :: u19 36 :: u19 37 :: u19 38 :: u16 39 :: u16 40 :: u16 41 :: u16 42 :: u16 43 :: List.replicate 8 un).toArray, []⟩) (by kernel_rfl) ?_
      refine wp_seq ?_
      refine wp_cond_true (by kernel_rfl) ?_
      refine wp_skip ?_
      refine then_at (F := ⟨(arr a :: arr b :: pt q1 :: pt q4 :: pt q7 :: pt q10 :: pt q13 :: iN .i64 k :: iN .u64 c :: u19 9 :: un :: un :: iN .i64 k :: .bool true :: iN .i64 k :: iN .i64 m :: .bool true :: u19 17 :: u19 18 :: u19 19 :: u19 20 :: u19 21 :: u19 22 :: u19 23 :: u19 24 :: u19 25 :: u19 26 :: u19 27 :: u19 28 :: u19 29 :: u19 30 :: u19 31 :: u19 32 :: u19 33 :: u19 34 :: u19 35 :: u19 36 :: u19 37 :: u19 38 :: u16 39 :: u16 40 :: u16 41 :: u16 42 :: u16 43 :: List.replicate 8 un).toArray, []⟩) (by kernel_rfl) ?_
      refine wp_seq ?_
      refine wp_block ?_
      refine wp_seq ?_
      -- region 8
      refine wl_region ?_
      refine wl_val (iN .i64 m) (by kernel_rfl) (by kernel_rfl) ?_
      refine wl_val (iN .i64 m) (by kernel_rfl) (by kernel_rfl) ?_
      refine wl_nil ?_
      refine then_at (F := ⟨(arr a :: arr b :: pt q1 :: pt q4 :: pt q7 :: pt q10 :: pt q13 :: iN .i64 k :: iN .u64 c :: iN .i64 m :: un :: un :: iN .i64 k :: .bool true :: iN .i64 k :: iN .i64 m :: .bool true :: iN .i64 m :: u19 18 :: u19 19 :: u19 20 :: u19 21 :: u19 22 :: u19 23 :: u19 24 :: u19 25 :: u19 26 :: u19 27 :: u19 28 :: u19 29 :: u19 30 :: u19 31 :: u19 32 :: u19 33 :: u19 34 :: u19 35 :: u19 36 :: u19 37 :: u19 38 :: u16 39 :: u16 40 :: u16 41 :: u16 42 :: u16 43 :: List.replicate 8 un).toArray, []⟩) (by kernel_rfl) ?_
      -- region 9
      refine wp_region_old [14] (fun _ : Nat → Nat => (⟨(arr a :: arr b :: pt q1 :: pt q4 :: pt q7 :: pt q10 :: pt q13 :: iN .i64 k :: iN .u64 ((a / K ^ k % K * (b / K ^ m % K) + M / K ^ (k + m) % K + c) / 18446744073709551616) :: iN .i64 m :: un :: un :: iN .i64 k :: .bool true :: iN .i64 k :: iN .i64 m :: .bool true :: iN .i64 m :: .tuple #[iN .u64 ((a / K ^ k % K * (b / K ^ m % K) + M / K ^ (k + m) % K + c) / 18446744073709551616), iN .u64 ((a / K ^ k % K * (b / K ^ m % K) + M / K ^ (k + m) % K + c) % 18446744073709551616)] :: iN .i64 k :: iN .i64 m :: iN .i64 (k + m) :: iN .i64 k :: .pointer (some ⟨q1, k, none⟩) :: iN .u64 (a / K ^ k % K) :: iN .i64 m :: .pointer (some ⟨q4, m, none⟩) :: iN .u64 (b / K ^ m % K) :: iN .i64 k :: iN .i64 m :: iN .i64 (k + m) :: .pointer (some ⟨q13, k + m, none⟩) :: iN .u64 (M / K ^ (k + m) % K) :: iN .u64 c :: .tuple #[iN .u64 ((a / K ^ k % K * (b / K ^ m % K) + M / K ^ (k + m) % K + c) / 18446744073709551616), iN .u64 ((a / K ^ k % K * (b / K ^ m % K) + M / K ^ (k + m) % K + c) % 18446744073709551616)] :: iN .u64 ((a / K ^ k % K * (b / K ^ m % K) + M / K ^ (k + m) % K + c) / 18446744073709551616) :: iN .u64 ((a / K ^ k % K * (b / K ^ m % K) + M / K ^ (k + m) % K + c) % 18446744073709551616) :: .pointer (some ⟨q13, k + m, none⟩) :: u19 38 :: u16 39 :: u16 40 :: u16 41 :: u16 42 :: u16 43 :: List.replicate 8 un).toArray, []⟩ : Act)) (GF w [(q13, 126, el8 M), (q10, 95, el 0), (q7, 95, el 0), (q4, 95, el b), (q1, 95, el a)] 21 13 0 q13 126 (el8 M')) [iN .i64 k, iN .i64 m, iN .i64 (k + m), iN .i64 k, .pointer (some ⟨q1, k, none⟩), iN .u64 (a / K ^ k % K), iN .i64 m, .pointer (some ⟨q4, m, none⟩), iN .u64 (b / K ^ m % K), iN .i64 k, iN .i64 m, iN .i64 (k + m), .pointer (some ⟨q13, k + m, none⟩), iN .u64 (M / K ^ (k + m) % K), iN .u64 c, .tuple #[iN .u64 ((a / K ^ k % K * (b / K ^ m % K) + M / K ^ (k + m) % K + c) / 18446744073709551616), iN .u64 ((a / K ^ k % K * (b / K ^ m % K) + M / K ^ (k + m) % K + c) % 18446744073709551616)], .tuple #[iN .u64 ((a / K ^ k % K * (b / K ^ m % K) + M / K ^ (k + m) % K + c) / 18446744073709551616), iN .u64 ((a / K ^ k % K * (b / K ^ m % K) + M / K ^ (k + m) % K + c) % 18446744073709551616)], iN .u64 ((a / K ^ k % K * (b / K ^ m % K) + M / K ^ (k + m) % K + c) / 18446744073709551616), iN .u64 ((a / K ^ k % K * (b / K ^ m % K) + M / K ^ (k + m) % K + c) % 18446744073709551616), iN .u64 ((a / K ^ k % K * (b / K ^ m % K) + M / K ^ (k + m) % K + c) / 18446744073709551616), .pointer (some ⟨q13, k + m, none⟩), undef] (by kernel_rfl) (by kernel_rfl) (by kernel_rfl) (by kernel_rfl) (fun _ _ _ _ h => h) (fun d hd => GF.start h21.drew (hd 21 (by decide))) ?_ ?_
      · refine AllGhost2.cons (by kernel_rfl) (gf_plain (v := iN .i64 k) (by decide) (fun _ => by kernel_rfl) (fun _ => by kernel_rfl) (fun _ _ => (by kernel_rfl))) ?_
        refine AllGhost2.cons (by kernel_rfl) (gf_plain (v := iN .i64 m) (by decide) (fun _ => by kernel_rfl) (fun _ => by kernel_rfl) (fun _ _ => (by kernel_rfl))) ?_
        refine AllGhost2.cons (by kernel_rfl) (gf_plain (v := iN .i64 (k + m)) (by decide) (fun _ => by kernel_rfl) (fun _ => by kernel_rfl) (fun _ _ => (run_add (k := .i64) (a := k) (b := m) (by kernel_rfl) (by kernel_rfl) (by simp only [top]; omega)))) ?_
        refine AllGhost2.cons (by kernel_rfl) (gf_plain (v := iN .i64 k) (by decide) (fun _ => by kernel_rfl) (fun _ => by kernel_rfl) (fun _ _ => (by kernel_rfl))) ?_
        refine AllGhost2.cons (by kernel_rfl) (gf_plain (v := .pointer (some ⟨q1, k, none⟩)) (by decide) (fun _ => by kernel_rfl) (fun _ => by kernel_rfl) (fun _ _ => (run_addr_arr (q := q1) (a := k) Tryd.underlying95 (fun w => Tryd.sizeOf22 w) (by kernel_rfl) (by kernel_rfl) (by omega)))) ?_
        refine AllGhost2.cons (by kernel_rfl) (gf_cell2 (v := iN .u64 (a / K ^ k % K)) 4 (by decide) rfl (by decide) k (el_get a k (by omega)) (fun w => Tryd.isAgg22 w) (fun _ => by kernel_rfl) (fun _ => by kernel_rfl) (fun _ => by kernel_rfl)) ?_
        refine AllGhost2.cons (by kernel_rfl) (gf_plain (v := iN .i64 m) (by decide) (fun _ => by kernel_rfl) (fun _ => by kernel_rfl) (fun _ _ => (by kernel_rfl))) ?_
        refine AllGhost2.cons (by kernel_rfl) (gf_plain (v := .pointer (some ⟨q4, m, none⟩)) (by decide) (fun _ => by kernel_rfl) (fun _ => by kernel_rfl) (fun _ _ => (run_addr_arr (q := q4) (a := m) Tryd.underlying95 (fun w => Tryd.sizeOf22 w) (by kernel_rfl) (by kernel_rfl) (by omega)))) ?_
        refine AllGhost2.cons (by kernel_rfl) (gf_cell2 (v := iN .u64 (b / K ^ m % K)) 3 (by decide) rfl (by decide) m (el_get b m (by omega)) (fun w => Tryd.isAgg22 w) (fun _ => by kernel_rfl) (fun _ => by kernel_rfl) (fun _ => by kernel_rfl)) ?_
        refine AllGhost2.cons (by kernel_rfl) (gf_plain (v := iN .i64 k) (by decide) (fun _ => by kernel_rfl) (fun _ => by kernel_rfl) (fun _ _ => (by kernel_rfl))) ?_
        refine AllGhost2.cons (by kernel_rfl) (gf_plain (v := iN .i64 m) (by decide) (fun _ => by kernel_rfl) (fun _ => by kernel_rfl) (fun _ _ => (by kernel_rfl))) ?_
        refine AllGhost2.cons (by kernel_rfl) (gf_plain (v := iN .i64 (k + m)) (by decide) (fun _ => by kernel_rfl) (fun _ => by kernel_rfl) (fun _ _ => (run_add (k := .i64) (a := k) (b := m) (by kernel_rfl) (by kernel_rfl) (by simp only [top]; omega)))) ?_
        refine AllGhost2.cons (by kernel_rfl) (gf_plain (v := .pointer (some ⟨q13, k + m, none⟩)) (by decide) (fun _ => by kernel_rfl) (fun _ => by kernel_rfl) (fun _ _ => (run_addr_arr (q := q13) (a := k + m) Tryd.underlying126 (fun w => Tryd.sizeOf22 w) (by kernel_rfl) (by kernel_rfl) (by omega)))) ?_
        refine AllGhost2.cons (by kernel_rfl) (gf_cell (v := iN .u64 (M / K ^ (k + m) % K)) 0 rfl (by decide) (k + m) (el8_get M (k + m) (by omega)) (fun w => Tryd.isAgg22 w) (fun _ => by kernel_rfl) (fun _ => by kernel_rfl) (fun _ => by kernel_rfl)) ?_
        refine AllGhost2.was (by kernel_rfl) (fun _ => by kernel_rfl) (fun _ _ w h => h.keep (by decide) (Below.refl _ w)) ?_
        refine AllGhost2.cons (by kernel_rfl) (gf_call (v := .tuple #[iN .u64 ((a / K ^ k % K * (b / K ^ m % K) + M / K ^ (k + m) % K + c) / 18446744073709551616), iN .u64 ((a / K ^ k % K * (b / K ^ m % K) + M / K ^ (k + m) % K + c) % 18446744073709551616)]) (by decide) (fun _ => by kernel_rfl) (fun _ => by kernel_rfl) enter105 #[iN .u64 (a / K ^ k % K), iN .u64 (b / K ^ m % K), iN .u64 (M / K ^ (k + m) % K), iN .u64 c] (fun _ => by kernel_rfl) (fun w' => step_below _ _ _ _ (Nat.mod_lt _ (by decide)) (Nat.mod_lt _ (by decide)) (Nat.mod_lt _ (by decide)) hc w')) ?_
        refine AllGhost2.cons (by kernel_rfl) (gf_plain (v := .tuple #[iN .u64 ((a / K ^ k % K * (b / K ^ m % K) + M / K ^ (k + m) % K + c) / 18446744073709551616), iN .u64 ((a / K ^ k % K * (b / K ^ m % K) + M / K ^ (k + m) % K + c) % 18446744073709551616)]) (by decide) (fun _ => by kernel_rfl) (fun _ => by kernel_rfl) (fun _ _ => (by kernel_rfl))) ?_
        refine AllGhost2.cons (by kernel_rfl) (gf_plain (v := iN .u64 ((a / K ^ k % K * (b / K ^ m % K) + M / K ^ (k + m) % K + c) / 18446744073709551616)) (by decide) (fun _ => by kernel_rfl) (fun _ => by kernel_rfl) (fun _ _ => (by kernel_rfl))) ?_
        refine AllGhost2.cons (by kernel_rfl) (gf_plain (v := iN .u64 ((a / K ^ k % K * (b / K ^ m % K) + M / K ^ (k + m) % K + c) % 18446744073709551616)) (by decide) (fun _ => by kernel_rfl) (fun _ => by kernel_rfl) (fun _ _ => (by kernel_rfl))) ?_
        refine AllGhost2.cons (by kernel_rfl) (gf_plain (v := iN .u64 ((a / K ^ k % K * (b / K ^ m % K) + M / K ^ (k + m) % K + c) / 18446744073709551616)) (by decide) (fun _ => by kernel_rfl) (fun _ => by kernel_rfl) (fun _ _ => (by kernel_rfl))) ?_
        refine AllGhost2.cons (by kernel_rfl) (gf_plain (v := .pointer (some ⟨q13, k + m, none⟩)) (by decide) (fun _ => by kernel_rfl) (fun _ => by kernel_rfl) (fun _ _ => (run_addr_arr (q := q13) (a := k + m) Tryd.underlying126 (fun w => Tryd.sizeOf22 w) (by kernel_rfl) (by kernel_rfl) (by omega)))) ?_
        refine AllGhost2.cons (by kernel_rfl) (gf_put (k := .u64) (z := (((a / K ^ k % K * (b / K ^ m % K) + M / K ^ (k + m) % K + c) % 18446744073709551616 : Nat) : Int)) (off := k + m) rfl (by rw [el8_size]; omega) (el8_put _ _ _ _ e1) (fun w => Tryd.sizeOf22 w) (fun _ => by kernel_rfl) (fun _ => by kernel_rfl) (fun _ => by kernel_rfl) (fun _ => by kernel_rfl) (by decide) (by kernel_rfl)) ?_
        exact AllGhost2.nil
      intro _ w22 g23
      have h24 : HA w [(q13, 126, el8 M'), (q10, 95, el 0), (q7, 95, el 0), (q4, 95, el b), (q1, 95, el a)] w22 := g23.held
      clear g23
      refine block_normal ?_
      refine then_at (F := ⟨(arr a :: arr b :: pt q1 :: pt q4 :: pt q7 :: pt q10 :: pt q13 :: iN .i64 k :: iN .u64 ((a / K ^ k % K * (b / K ^ m % K) + M / K ^ (k + m) % K + c) / 18446744073709551616) :: iN .i64 m :: un :: un :: iN .i64 k :: .bool true :: iN .i64 k :: iN .i64 m :: .bool true :: iN .i64 m :: .tuple #[iN .u64 ((a / K ^ k % K * (b / K ^ m % K) + M / K ^ (k + m) % K + c) / 18446744073709551616), iN .u64 ((a / K ^ k % K * (b / K ^ m % K) + M / K ^ (k + m) % K + c) % 18446744073709551616)] :: iN .i64 k :: iN .i64 m :: iN .i64 (k + m) :: iN .i64 k :: .pointer (some ⟨q1, k, none⟩) :: iN .u64 (a / K ^ k % K) :: iN .i64 m :: .pointer (some ⟨q4, m, none⟩) :: iN .u64 (b / K ^ m % K) :: iN .i64 k :: iN .i64 m :: iN .i64 (k + m) :: .pointer (some ⟨q13, k + m, none⟩) :: iN .u64 (M / K ^ (k + m) % K) :: iN .u64 c :: .tuple #[iN .u64 ((a / K ^ k % K * (b / K ^ m % K) + M / K ^ (k + m) % K + c) / 18446744073709551616), iN .u64 ((a / K ^ k % K * (b / K ^ m % K) + M / K ^ (k + m) % K + c) % 18446744073709551616)] :: iN .u64 ((a / K ^ k % K * (b / K ^ m % K) + M / K ^ (k + m) % K + c) / 18446744073709551616) :: iN .u64 ((a / K ^ k % K * (b / K ^ m % K) + M / K ^ (k + m) % K + c) % 18446744073709551616) :: .pointer (some ⟨q13, k + m, none⟩) :: u19 38 :: u16 39 :: u16 40 :: u16 41 :: u16 42 :: u16 43 :: List.replicate 8 un).toArray, []⟩) (by kernel_rfl) ?_
      -- region 10
      refine wl_region ?_
      refine wl_val (iN .i64 (m + 1)) (by kernel_rfl) (run_add (k := .i64) (a := m) (b := 1) (by kernel_rfl) (by kernel_rfl) (by simp only [top]; omega)) ?_
      refine wl_val (iN .i64 (m + 1)) (by kernel_rfl) (by kernel_rfl) ?_
      refine wl_nil ?_
      exact then_I ⟨4 - (m + 1), by omega, m + 1, (a / K ^ k % K * (b / K ^ m % K) + M / K ^ (k + m) % K + c) / 18446744073709551616, M', fun ii => (([(9, iN .i64 m), (16, .bool true), (17, iN .i64 m), (18, .tuple #[iN .u64 ((a / K ^ k % K * (b / K ^ m % K) + M / K ^ (k + m) % K + c) / 18446744073709551616), iN .u64 ((a / K ^ k % K * (b / K ^ m % K) + M / K ^ (k + m) % K + c) % 18446744073709551616)]), (19, iN .i64 k), (20, iN .i64 m), (21, iN .i64 (k + m)), (22, iN .i64 k), (23, .pointer (some ⟨q1, k, none⟩)), (24, iN .u64 (a / K ^ k % K)), (25, iN .i64 m), (26, .pointer (some ⟨q4, m, none⟩)), (27, iN .u64 (b / K ^ m % K)), (28, iN .i64 k), (29, iN .i64 m), (30, iN .i64 (k + m)), (31, .pointer (some ⟨q13, k + m, none⟩)), (32, iN .u64 (M / K ^ (k + m) % K)), (33, iN .u64 c), (34, .tuple #[iN .u64 ((a / K ^ k % K * (b / K ^ m % K) + M / K ^ (k + m) % K + c) / 18446744073709551616), iN .u64 ((a / K ^ k % K * (b / K ^ m % K) + M / K ^ (k + m) % K + c) % 18446744073709551616)]), (35, iN .u64 ((a / K ^ k % K * (b / K ^ m % K) + M / K ^ (k + m) % K + c) / 18446744073709551616)), (36, iN .u64 ((a / K ^ k % K * (b / K ^ m % K) + M / K ^ (k + m) % K + c) % 18446744073709551616)), (37, .pointer (some ⟨q13, k + m, none⟩)), (38, iN .i64 (m + 1))] : List (Nat × Value)).find? (·.1 == ii)).elim undef (·.2), rfl, by kernel_rfl, h24, by omega, e4, e2, e3⟩
    · obtain rfl : m = 4 := by omega
      have hR := mul_row K M c a b k (by decide) hb hM hlow hk hc
      -- region 7
      refine wl_region ?_
      refine wl_val (.bool false) (by kernel_rfl) (run_lss (k := .i64) (a := 4) (b := 4) (by kernel_rfl) (by kernel_rfl) false (by decide)) ?_
      refine wl_nil ?_
      refine then_at (F := ⟨(arr a :: arr b :: pt q1 :: pt q4 :: pt q7 :: pt q10 :: pt q13 :: iN .i64 k :: iN .u64 c :: u19 9 :: un :: un :: iN .i64 k :: .bool true :: iN .i64 k :: iN .i64 4 :: .bool false :: u19 17 :: u19 18 :: u19 19 :: u19 20 :: u19 21 :: u19 22 :: u19 23 :: u19 24 :: u19 25 :: u19 26 :: u19 27 :: u19 28 :: u19 29 :: u19 30 :: u19 31 :: u19 32 :: u19 33 :: u19 34 :: u19 35 :: u19 36 :: u19 37 :: u19 38 :: u16 39 :: u16 40 :: u16 41 :: u16 42 :: u16 43 :: List.replicate 8 un).toArray, []⟩) (by kernel_rfl) ?_
      refine wp_seq ?_
      refine wp_cond_false (by kernel_rfl) ?_
      refine wp_exit ?_
      repeat first | refine then_exit ?_ | refine block_exit ?_ | refine block_exit_ne (by decide) ?_
      refine then_at (F := ⟨(arr a :: arr b :: pt q1 :: pt q4 :: pt q7 :: pt q10 :: pt q13 :: iN .i64 k :: iN .u64 c :: u19 9 :: un :: un :: iN .i64 k :: .bool true :: iN .i64 k :: iN .i64 4 :: .bool false :: u19 17 :: u19 18 :: u19 19 :: u19 20 :: u19 21 :: u19 22 :: u19 23 :: u19 24 :: u19 25 :: u19 26 :: u19 27 :: u19 28 :: u19 29 :: u19 30 :: u19 31 :: u19 32 :: u19 33 :: u19 34 :: u19 35 :: u19 36 :: u19 37 :: u19 38 :: u16 39 :: u16 40 :: u16 41 :: u16 42 :: u16 43 :: List.replicate 8 un).toArray, []⟩) (by kernel_rfl) ?_
      -- region 11
      refine wl_region ?_
      refine wl_val (iN .i64 k) (by kernel_rfl) (by kernel_rfl) ?_
      refine wl_val (iN .i64 (k + 4)) (by kernel_rfl) (run_add (k := .i64) (a := k) (b := 4) (by kernel_rfl) (by kernel_rfl) (by simp only [top]; omega)) ?_
      refine wl_val (iN .u64 c) (by kernel_rfl) (by kernel_rfl) ?_
      refine wl_val (.pointer (some ⟨q13, k + 4, none⟩)) (by kernel_rfl) (run_addr_arr (q := q13) (a := k + 4) Tryd.underlying126 (fun w => Tryd.sizeOf22 w) (by kernel_rfl) (by kernel_rfl) (by omega)) ?_
      refine wl_put (k := .u64) (z := ((c : Nat) : Int)) h21 0 rfl (k + 4) (by rw [el8_size]; omega) (by kernel_rfl) (fun w => Tryd.sizeOf22 w) (by kernel_rfl) (by kernel_rfl) ?_
      intro w25 h26
      have h27 : HA w [(q13, 126, el8 (a % K ^ (k + 1) * b)), (q10, 95, el 0), (q7, 95, el 0), (q4, 95, el b), (q1, 95, el a)] w25 := (by rw [← el8_put _ _ _ _ hR.1]; exact h26)
      clear h26
      refine wl_nil ?_
      refine block_normal ?_
      refine then_at (F := ⟨(arr a :: arr b :: pt q1 :: pt q4 :: pt q7 :: pt q10 :: pt q13 :: iN .i64 k :: iN .u64 c :: u19 9 :: un :: un :: iN .i64 k :: .bool true :: iN .i64 k :: iN .i64 4 :: .bool false :: u19 17 :: u19 18 :: u19 19 :: u19 20 :: u19 21 :: u19 22 :: u19 23 :: u19 24 :: u19 25 :: u19 26 :: u19 27 :: u19 28 :: u19 29 :: u19 30 :: u19 31 :: u19 32 :: u19 33 :: u19 34 :: u19 35 :: u19 36 :: u19 37 :: u19 38 :: iN .i64 k :: iN .i64 (k + 4) :: iN .u64 c :: .pointer (some ⟨q13, k + 4, none⟩) :: u16 43 :: List.replicate 8 un).toArray, []⟩) (by kernel_rfl) ?_
      -- region 12
      refine wl_region ?_
      refine wl_val (iN .i64 (k + 1)) (by kernel_rfl) (run_add (k := .i64) (a := k) (b := 1) (by kernel_rfl) (by kernel_rfl) (by simp only [top]; omega)) ?_
      refine wl_val (iN .i64 (k + 1)) (by kernel_rfl) (by kernel_rfl) ?_
      refine wl_nil ?_
      exact then_I ⟨fun ii => (([(7, iN .i64 k), (8, iN .u64 c), (9, u19 9), (13, .bool true), (14, iN .i64 k), (15, iN .i64 4), (16, .bool false), (17, u19 17), (18, u19 18), (19, u19 19), (20, u19 20), (21, u19 21), (22, u19 22), (23, u19 23), (24, u19 24), (25, u19 25), (26, u19 26), (27, u19 27), (28, u19 28), (29, u19 29), (30, u19 30), (31, u19 31), (32, u19 32), (33, u19 33), (34, u19 34), (35, u19 35), (36, u19 36), (37, u19 37), (38, u19 38), (39, iN .i64 k), (40, iN .i64 (k + 4)), (41, iN .u64 c), (42, .pointer (some ⟨q13, k + 4, none⟩)), (43, iN .i64 (k + 1))] : List (Nat × Value)).find? (·.1 == ii)).elim undef (·.2), by kernel_rfl, h27⟩
  · rintro _ w28 ⟨u16, rfl, h29⟩
    refine wp_seq ?_
    -- region 3
    refine wl_region ?_
    refine wl_val (.bool false) (by kernel_rfl) (run_lss (k := .i64) (a := 4) (b := 4) (by kernel_rfl) (by kernel_rfl) false (by decide)) ?_
    refine wl_nil ?_
    refine then_at (F := ⟨(arr a :: arr b :: pt q1 :: pt q4 :: pt q7 :: pt q10 :: pt q13 :: u16 7 :: u16 8 :: u16 9 :: un :: un :: iN .i64 4 :: .bool false :: u16 14 :: u16 15 :: u16 16 :: u16 17 :: u16 18 :: u16 19 :: u16 20 :: u16 21 :: u16 22 :: u16 23 :: u16 24 :: u16 25 :: u16 26 :: u16 27 :: u16 28 :: u16 29 :: u16 30 :: u16 31 :: u16 32 :: u16 33 :: u16 34 :: u16 35 :: u16 36 :: u16 37 :: u16 38 :: u16 39 :: u16 40 :: u16 41 :: u16 42 :: u16 43 :: List.replicate 8 un).toArray, []⟩) (by kernel_rfl) ?_
    refine wp_seq ?_
    refine wp_cond_false (by kernel_rfl) ?_
    refine wp_exit ?_
    repeat first | refine then_exit ?_ | refine block_exit ?_ | refine block_exit_ne (by decide) ?_
    have h30 : HA w [(q13, 126, el8 (a * b)), (q10, 95, el 0), (q7, 95, el 0), (q4, 95, el b), (q1, 95, el a)] w28 := by have e4 := Nat.mod_eq_of_lt ha; rw [e4] at h29; exact h29
    refine then_at (F := ⟨(arr a :: arr b :: pt q1 :: pt q4 :: pt q7 :: pt q10 :: pt q13 :: u16 7 :: u16 8 :: u16 9 :: un :: un :: iN .i64 4 :: .bool false :: u16 14 :: u16 15 :: u16 16 :: u16 17 :: u16 18 :: u16 19 :: u16 20 :: u16 21 :: u16 22 :: u16 23 :: u16 24 :: u16 25 :: u16 26 :: u16 27 :: u16 28 :: u16 29 :: u16 30 :: u16 31 :: u16 32 :: u16 33 :: u16 34 :: u16 35 :: u16 36 :: u16 37 :: u16 38 :: u16 39 :: u16 40 :: u16 41 :: u16 42 :: u16 43 :: List.replicate 8 un).toArray, []⟩) (by kernel_rfl) ?_
    refine wp_seq ?_
    -- region 13
    refine wl_region ?_
    refine wl_make h30 95 (by kernel_rfl) run_alloc34 ?_
    intro q31 w32 h33
    refine wl_make h33 95 (by kernel_rfl) run_alloc34 ?_
    intro q34 w35 h36
    refine wl_nil ?_
    refine then_at (F := ⟨(arr a :: arr b :: pt q1 :: pt q4 :: pt q7 :: pt q10 :: pt q13 :: u16 7 :: u16 8 :: u16 9 :: pt q31 :: pt q34 :: iN .i64 4 :: .bool false :: u16 14 :: u16 15 :: u16 16 :: u16 17 :: u16 18 :: u16 19 :: u16 20 :: u16 21 :: u16 22 :: u16 23 :: u16 24 :: u16 25 :: u16 26 :: u16 27 :: u16 28 :: u16 29 :: u16 30 :: u16 31 :: u16 32 :: u16 33 :: u16 34 :: u16 35 :: u16 36 :: u16 37 :: u16 38 :: u16 39 :: u16 40 :: u16 41 :: u16 42 :: u16 43 :: List.replicate 8 un).toArray, []⟩) (by kernel_rfl) ?_
    refine wp_seq ?_
    -- region 14
    refine wp_region_ghost (fun _ : Nat → Nat => (⟨(arr a :: arr b :: pt q1 :: pt q4 :: pt q7 :: pt q10 :: pt q13 :: u16 7 :: u16 8 :: u16 9 :: pt q31 :: pt q34 :: iN .i64 4 :: .bool false :: u16 14 :: u16 15 :: u16 16 :: u16 17 :: u16 18 :: u16 19 :: u16 20 :: u16 21 :: u16 22 :: u16 23 :: u16 24 :: u16 25 :: u16 26 :: u16 27 :: u16 28 :: u16 29 :: u16 30 :: u16 31 :: u16 32 :: u16 33 :: u16 34 :: u16 35 :: u16 36 :: u16 37 :: u16 38 :: u16 39 :: u16 40 :: u16 41 :: u16 42 :: u16 43 :: .slice (some ⟨q31, 0, none⟩) 4 4 :: .slice (some ⟨q13, 4, none⟩) 4 4 :: iN .i64 4 :: List.replicate 5 un).toArray, []⟩ : Act)) (GP w [(q34, 95, el 0), (q31, 95, el 0), (q13, 126, el8 (a * b)), (q10, 95, el 0), (q7, 95, el 0), (q4, 95, el b), (q1, 95, el a)] 2 1 q31 95 (el (a * b / K ^ 4))) [.slice (some ⟨q31, 0, none⟩) 4 4, .slice (some ⟨q13, 4, none⟩) 4 4, iN .i64 4] (by kernel_rfl) (by kernel_rfl) (by kernel_rfl) (by kernel_rfl) (fun _ _ _ _ h => h) (fun d hd => GP.start h36.drew (hd 2 (by decide))) ?_ ?_
    · refine AllGhost.cons (gp_plain (v := .slice (some ⟨q31, 0, none⟩) 4 4) (by decide) (fun _ => by kernel_rfl) (fun _ => by kernel_rfl) (fun _ _ => (run_slice34 (q := q31) (by kernel_rfl)))) ?_
      refine AllGhost.cons (gp_plain (v := .slice (some ⟨q13, 4, none⟩) 4 4) (by decide) (fun _ => by kernel_rfl) (fun _ => by kernel_rfl) (fun _ _ => (run_slice61h (q := q13) (by kernel_rfl) (by kernel_rfl)))) ?_
      refine AllGhost.cons (gp_copy (o := 4) (n := 4) (m := 2) rfl rfl rfl rfl (high_words (a * b)) (one_cl _ _) (fun _ => by kernel_rfl) (fun _ _ => by kernel_rfl) (fun _ => by kernel_rfl) (fun _ => by kernel_rfl)) ?_
      exact AllGhost.nil
    intro _ w37 g38
    have h39 : HA w [(q34, 95, el 0), (q31, 95, el (a * b / K ^ 4)), (q13, 126, el8 (a * b)), (q10, 95, el 0), (q7, 95, el 0), (q4, 95, el b), (q1, 95, el a)] w37 := g38
    clear g38
    refine then_at (F := ⟨(arr a :: arr b :: pt q1 :: pt q4 :: pt q7 :: pt q10 :: pt q13 :: u16 7 :: u16 8 :: u16 9 :: pt q31 :: pt q34 :: iN .i64 4 :: .bool false :: u16 14 :: u16 15 :: u16 16 :: u16 17 :: u16 18 :: u16 19 :: u16 20 :: u16 21 :: u16 22 :: u16 23 :: u16 24 :: u16 25 :: u16 26 :: u16 27 :: u16 28 :: u16 29 :: u16 30 :: u16 31 :: u16 32 :: u16 33 :: u16 34 :: u16 35 :: u16 36 :: u16 37 :: u16 38 :: u16 39 :: u16 40 :: u16 41 :: u16 42 :: u16 43 :: .slice (some ⟨q31, 0, none⟩) 4 4 :: .slice (some ⟨q13, 4, none⟩) 4 4 :: iN .i64 4 :: List.replicate 5 un).toArray, []⟩) (by kernel_rfl) ?_
    refine wp_seq ?_
    -- region 15
    refine wp_region_ghost (fun _ : Nat → Nat => (⟨(arr a :: arr b :: pt q1 :: pt q4 :: pt q7 :: pt q10 :: pt q13 :: u16 7 :: u16 8 :: u16 9 :: pt q31 :: pt q34 :: iN .i64 4 :: .bool false :: u16 14 :: u16 15 :: u16 16 :: u16 17 :: u16 18 :: u16 19 :: u16 20 :: u16 21 :: u16 22 :: u16 23 :: u16 24 :: u16 25 :: u16 26 :: u16 27 :: u16 28 :: u16 29 :: u16 30 :: u16 31 :: u16 32 :: u16 33 :: u16 34 :: u16 35 :: u16 36 :: u16 37 :: u16 38 :: u16 39 :: u16 40 :: u16 41 :: u16 42 :: u16 43 :: .slice (some ⟨q31, 0, none⟩) 4 4 :: .slice (some ⟨q13, 4, none⟩) 4 4 :: iN .i64 4 :: .slice (some ⟨q34, 0, none⟩) 4 4 :: .slice (some ⟨q13, 0, none⟩) 4 8 :: iN .i64 4 :: List.replicate 2 un).toArray, []⟩ : Act)) (GP w [(q34, 95, el 0), (q31, 95, el (a * b / K ^ 4)), (q13, 126, el8 (a * b)), (q10, 95, el 0), (q7, 95, el 0), (q4, 95, el b), (q1, 95, el a)] 2 0 q34 95 (el (a * b))) [.slice (some ⟨q34, 0, none⟩) 4 4, .slice (some ⟨q13, 0, none⟩) 4 8, iN .i64 4] (by kernel_rfl) (by kernel_rfl) (by kernel_rfl) (by kernel_rfl) (fun _ _ _ _ h => h) (fun d hd => GP.start h39.drew (hd 2 (by decide))) ?_ ?_
    · refine AllGhost.cons (gp_plain (v := .slice (some ⟨q34, 0, none⟩) 4 4) (by decide) (fun _ => by kernel_rfl) (fun _ => by kernel_rfl) (fun _ _ => (run_slice34 (q := q34) (by kernel_rfl)))) ?_
      refine AllGhost.cons (gp_plain (v := .slice (some ⟨q13, 0, none⟩) 4 8) (by decide) (fun _ => by kernel_rfl) (fun _ => by kernel_rfl) (fun _ _ => (run_slice61l (q := q13) (by kernel_rfl) (by kernel_rfl)))) ?_
      refine AllGhost.cons (gp_copy (o := 0) (n := 8) (m := 2) rfl rfl rfl rfl (low_words (a * b)) (one_cl _ _) (fun _ => by kernel_rfl) (fun _ _ => by kernel_rfl) (fun _ => by kernel_rfl) (fun _ => by kernel_rfl)) ?_
      exact AllGhost.nil
    intro _ w40 g41
    have h42 : HA w [(q34, 95, el (a * b)), (q31, 95, el (a * b / K ^ 4)), (q13, 126, el8 (a * b)), (q10, 95, el 0), (q7, 95, el 0), (q4, 95, el b), (q1, 95, el a)] w40 := g41
    clear g41
    refine then_at (F := ⟨(arr a :: arr b :: pt q1 :: pt q4 :: pt q7 :: pt q10 :: pt q13 :: u16 7 :: u16 8 :: u16 9 :: pt q31 :: pt q34 :: iN .i64 4 :: .bool false :: u16 14 :: u16 15 :: u16 16 :: u16 17 :: u16 18 :: u16 19 :: u16 20 :: u16 21 :: u16 22 :: u16 23 :: u16 24 :: u16 25 :: u16 26 :: u16 27 :: u16 28 :: u16 29 :: u16 30 :: u16 31 :: u16 32 :: u16 33 :: u16 34 :: u16 35 :: u16 36 :: u16 37 :: u16 38 :: u16 39 :: u16 40 :: u16 41 :: u16 42 :: u16 43 :: .slice (some ⟨q31, 0, none⟩) 4 4 :: .slice (some ⟨q13, 4, none⟩) 4 4 :: iN .i64 4 :: .slice (some ⟨q34, 0, none⟩) 4 4 :: .slice (some ⟨q13, 0, none⟩) 4 8 :: iN .i64 4 :: List.replicate 2 un).toArray, []⟩) (by kernel_rfl) ?_
    refine wp_seq ?_
    -- region 16
    refine wp_region_ghost (fun _ : Nat → Nat => (⟨(arr a :: arr b :: pt q1 :: pt q4 :: pt q7 :: pt q10 :: pt q13 :: u16 7 :: u16 8 :: u16 9 :: pt q31 :: pt q34 :: iN .i64 4 :: .bool false :: u16 14 :: u16 15 :: u16 16 :: u16 17 :: u16 18 :: u16 19 :: u16 20 :: u16 21 :: u16 22 :: u16 23 :: u16 24 :: u16 25 :: u16 26 :: u16 27 :: u16 28 :: u16 29 :: u16 30 :: u16 31 :: u16 32 :: u16 33 :: u16 34 :: u16 35 :: u16 36 :: u16 37 :: u16 38 :: u16 39 :: u16 40 :: u16 41 :: u16 42 :: u16 43 :: .slice (some ⟨q31, 0, none⟩) 4 4 :: .slice (some ⟨q13, 4, none⟩) 4 4 :: iN .i64 4 :: .slice (some ⟨q34, 0, none⟩) 4 4 :: .slice (some ⟨q13, 0, none⟩) 4 8 :: iN .i64 4 :: arr (a * b / K ^ 4) :: arr (a * b) :: List.replicate 0 un).toArray, []⟩ : Act)) (G2 w [(q34, 95, el (a * b)), (q31, 95, el (a * b / K ^ 4)), (q13, 126, el8 (a * b)), (q10, 95, el 0), (q7, 95, el 0), (q4, 95, el b), (q1, 95, el a)] 2 4 (q7, 95, el (a * b / K ^ 4)) 3 3 (q10, 95, el (a * b))) [arr (a * b / K ^ 4), arr (a * b), undef, undef] (by kernel_rfl) (by kernel_rfl) (by kernel_rfl) (by kernel_rfl) (fun _ _ _ _ h => h) (fun d hd => G2.start h42.drew (hd 2 (by decide)) (hd 3 (by decide))) ?_ ?_
    · refine AllGhost.cons (g2_load 1 rfl (by decide) (by decide) (by decide) (by decide) (fun _ => by kernel_rfl) (fun _ => by kernel_rfl) (fun _ => by kernel_rfl) Tryd.underlying95 rfl info34) ?_
      refine AllGhost.cons (g2_load 0 rfl (by decide) (by decide) (by decide) (by decide) (fun _ => by kernel_rfl) (fun _ => by kernel_rfl) (fun _ => by kernel_rfl) Tryd.underlying95 rfl info34) ?_
      refine AllGhost.cons (g2_fill0 rfl (el_sz _ _) (by decide) (by decide) (fun _ => by kernel_rfl) (fun _ => by kernel_rfl) (fun _ => by kernel_rfl) (fun _ => by kernel_rfl) info34 (one_cl _ _)) ?_
      refine AllGhost.cons (g2_fill1 rfl (el_sz _ _) (by decide) (by decide) (fun _ => by kernel_rfl) (fun _ => by kernel_rfl) (fun _ => by kernel_rfl) (fun _ => by kernel_rfl) info34 (one_cl _ _)) ?_
      exact AllGhost.nil
    intro _ w43 g44
    have h45 : HA w [(q34, 95, el (a * b)), (q31, 95, el (a * b / K ^ 4)), (q13, 126, el8 (a * b)), (q10, 95, el (a * b)), (q7, 95, el (a * b / K ^ 4)), (q4, 95, el b), (q1, 95, el a)] w43 := g44
    clear g44
    refine then_at (F := ⟨(arr a :: arr b :: pt q1 :: pt q4 :: pt q7 :: pt q10 :: pt q13 :: u16 7 :: u16 8 :: u16 9 :: pt q31 :: pt q34 :: iN .i64 4 :: .bool false :: u16 14 :: u16 15 :: u16 16 :: u16 17 :: u16 18 :: u16 19 :: u16 20 :: u16 21 :: u16 22 :: u16 23 :: u16 24 :: u16 25 :: u16 26 :: u16 27 :: u16 28 :: u16 29 :: u16 30 :: u16 31 :: u16 32 :: u16 33 :: u16 34 :: u16 35 :: u16 36 :: u16 37 :: u16 38 :: u16 39 :: u16 40 :: u16 41 :: u16 42 :: u16 43 :: .slice (some ⟨q31, 0, none⟩) 4 4 :: .slice (some ⟨q13, 4, none⟩) 4 4 :: iN .i64 4 :: .slice (some ⟨q34, 0, none⟩) 4 4 :: .slice (some ⟨q13, 0, none⟩) 4 8 :: iN .i64 4 :: arr (a * b / K ^ 4) :: arr (a * b) :: List.replicate 0 un).toArray, []⟩) (by kernel_rfl) ?_
    refine wp_ret ?_
    repeat first | refine then_ret ?_ | refine block_ret ?_
    exact bodyPost_ret (v := .tuple #[arr (a * b / K ^ 4), arr (a * b)]) (res_two (p := 4) (r := 5) (by kernel_rfl) (by kernel_rfl) (by kernel_rfl) (h45.get 4 rfl) (h45.get 3 rfl) Tryd.underlying95 rfl info34 info34) rfl ⟨rfl, h45.old⟩
end Go.Proofs.YtpaendmdcdeemaaDoor.Sc

namespace Go.Proofs.YtpaendmdcdeemaaDoor.Sc
open Go.RowKit Num

section
variable {ρ : Operand → Value} {x y : Operand} {w : World} {dst : Option Tmp} {T T2 ty : TypeId} {pos : String} {aft : Array Edge} {gd : Option (Nat × Bool)}
end

/-- a byte of a text -/
def sb (s : ByteArray) (i : Nat) : Nat := numS s / 256 ^ i % 256
theorem sb_lt (s : ByteArray) (i : Nat) : sb s i < 256 := Nat.mod_lt _ (by decide)
theorem sb_get (s : ByteArray) (i : Nat) (h : i < s.size) : (s.get i h).toNat = sb s i := by
  unfold sb numS
  have hl : (bts s).length = s.size := bts_length s
  have h1 : digs 256 (bts s).length (num 256 (bts s)) = bts s := digs_num 256 (bts s) (bts_lt s) _ rfl
  have h2 := digs_get 256 (bts s).length (num 256 (bts s)) i (by rw [digs_length]; omega)
  rw [← h2]
  simp only [h1]
  simp [bts]
  rfl
theorem run_sidx {ρ : Operand → Value} {x y : Operand} {s : ByteArray} {a : Nat} {w : World} {dst : Option Tmp} {ty : TypeId} {pos : String} {aft : Array Edge} {gd : Option (Nat × Bool)} (hx : ρ x = .string s) (hy : ρ y = iN .i64 a) (ha : a < s.size) :
    (execOp ρ ⟨dst, .index 9 x y, ty, pos, aft, gd⟩).run Tryd.prog w = .ok (.value (iN .u8 (sb s a))) w := by
  rw [← sb_get s a ha]
  exact run_index_str Tryd.underlying9 hx hy ha
theorem numS_bytesOf (n : Nat) (h : n < 256 ^ 32) : numS (bytesOf n) = n := by
  unfold numS
  rw [bts_bytesOf, num_digs]
  exact Nat.mod_eq_of_lt h
theorem numS_lt (s : ByteArray) : numS s < 256 ^ s.size := by
  have h := num_lt 256 (bts s) (bts_lt s)
  rwa [bts_length] at h
theorem sb_shl64 (s : ByteArray) (k : Nat) : sb s k * 2 ^ (8 * (k % 8)) < 18446744073709551616 := by
  have h1 : 2 ^ (8 * (k % 8)) ≤ 2 ^ 56 := Nat.pow_le_pow_right (by decide) (by omega)
  have h2 : (2 : Nat) ^ 56 = 72057594037927936 := by decide
  have h3 := Nat.mul_le_mul (show sb s k ≤ 255 by have := sb_lt s k; omega) h1
  omega
theorem or_low (z x r : Nat) (hz : z < 2 ^ r) : z ||| x * 2 ^ r = z + x * 2 ^ r := by
  rw [Nat.or_comm, Nat.mul_comm, ← Nat.two_pow_add_eq_or_of_lt hz, Nat.add_comm]
theorem word_put (s : ByteArray) (k : Nat) (hk : k < 32) : (digs K 4 (numS s % 256 ^ k)).set (k / 8) (numS s % 256 ^ k / K ^ (k / 8) % K ||| sb s k * 2 ^ (8 * (k % 8))) = digs K 4 (numS s % 256 ^ (k + 1)) := by
  have h := byte_put (numS s % 256 ^ k) k (sb s k) (Nat.mod_lt _ (Nat.pow_pos (by decide))) hk (sb_lt s k)
  rw [or_low _ _ _ h.2, h.1, mod_step 256 (numS s) k]
  rfl

set_option linter.unusedVariables false in
set_option maxRecDepth 100000 in
set_option maxHeartbeats 2000000 in
theorem words_any (s : ByteArray) (hs : s.size ≤ 32) (w : World) :
    Calls Tryd.prog 100 #[.string s] w fun e w' => e = .returned (arr (numS s)) ∧ Below w.heap.size w w' := by
  have H0 := HA.start w
  go_enter Tryd.func100, Tryd.ntmps100
  refine wp_seq ?_
  -- region 0
  refine wl_region ?_
  refine wl_make H0 95 (by kernel_rfl) run_alloc34 ?_
  intro q1 w2 h3
  refine wl_nil ?_
  refine then_at (F := ⟨(.string s :: un :: pt q1 :: List.replicate 23 un).toArray, []⟩) (by kernel_rfl) ?_
  refine wp_seq ?_
  -- region 1
  refine wl_region ?_
  refine wl_make h3 95 (by kernel_rfl) run_alloc34 ?_
  intro q4 w5 h6
  refine wl_nil ?_
  refine then_at (F := ⟨(.string s :: un :: pt q1 :: pt q4 :: List.replicate 22 un).toArray, []⟩) (by kernel_rfl) ?_
  refine wp_seq ?_
  refine wp_seq ?_
  -- region 2
  refine wl_region ?_
  refine wl_val (.string s) (by kernel_rfl) (by kernel_rfl) ?_
  refine wl_val (iN .i64 s.size) (by kernel_rfl) (run_len (s := s) (by kernel_rfl)) ?_
  refine wl_val (iN .i64 0) (by kernel_rfl) (by kernel_rfl) ?_
  refine wl_nil ?_
  refine then_at (F := ⟨(.string s :: un :: pt q1 :: pt q4 :: un :: .string s :: iN .i64 s.size :: iN .i64 0 :: List.replicate 18 un).toArray, []⟩) (by kernel_rfl) ?_
  refine wp_block ?_
  refine wp_count (fun k A w' => ∃ u7 : Nat → Value, A = ⟨(.string s :: un :: pt q1 :: pt q4 :: u7 4 :: .string s :: iN .i64 s.size :: iN .i64 k :: u7 8 :: u7 9 :: u7 10 :: u7 11 :: u7 12 :: u7 13 :: u7 14 :: u7 15 :: u7 16 :: u7 17 :: u7 18 :: u7 19 :: u7 20 :: u7 21 :: u7 22 :: u7 23 :: u7 24 :: List.replicate 1 un).toArray, []⟩ ∧ HA w [(q4, 95, el (numS s % 256 ^ k)), (q1, 95, el 0)] w') s.size ?_ ?_ ?_
  · exact ⟨fun ii => (([(4, undef), (8, undef), (9, undef), (10, undef), (11, undef), (12, undef), (13, undef), (14, undef), (15, undef), (16, undef), (17, undef), (18, undef), (19, undef), (20, undef), (21, undef), (22, undef), (23, undef), (24, undef)] : List (Nat × Value)).find? (·.1 == ii)).elim undef (·.2), by kernel_rfl, (by rw [Nat.pow_zero, Nat.mod_one]; exact h6)⟩
  · rintro k hk _ w8 ⟨u7, rfl, h9⟩
    refine wp_seq ?_
    -- region 3
    refine wl_region ?_
    refine wl_val (.bool true) (by kernel_rfl) (run_lss (k := .i64) (a := k) (b := s.size) (by kernel_rfl) (by kernel_rfl) true (decide_eq_true hk)) ?_
    refine wl_nil ?_
    refine then_at (F := ⟨(.string s :: un :: pt q1 :: pt q4 :: u7 4 :: .string s :: iN .i64 s.size :: iN .i64 k :: .bool true :: u7 9 :: u7 10 :: u7 11 :: u7 12 :: u7 13 :: u7 14 :: u7 15 :: u7 16 :: u7 17 :: u7 18 :: u7 19 :: u7 20 :: u7 21 :: u7 22 :: u7 23 :: u7 24 :: List.replicate 1 un).toArray, []⟩) (by kernel_rfl) ?_
    refine wp_seq ?_
    refine wp_cond_true (by kernel_rfl) ?_
    refine wp_skip ?_
    refine then_at (F := ⟨(.string s :: un :: pt q1 :: pt q4 :: u7 4 :: .string s :: iN .i64 s.size :: iN .i64 k :: .bool true :: u7 9 :: u7 10 :: u7 11 :: u7 12 :: u7 13 :: u7 14 :: u7 15 :: u7 16 :: u7 17 :: u7 18 :: u7 19 :: u7 20 :: u7 21 :: u7 22 :: u7 23 :: u7 24 :: List.replicate 1 un).toArray, []⟩) (by kernel_rfl) ?_
    refine wp_seq ?_
    refine wp_block ?_
    refine wp_seq ?_
    -- region 4
    refine wl_region ?_
    refine wl_val (iN .i64 k) (by kernel_rfl) (by kernel_rfl) ?_
    refine wl_val (iN .i64 k) (by kernel_rfl) (by kernel_rfl) ?_
    refine wl_nil ?_
    refine then_at (F := ⟨(.string s :: un :: pt q1 :: pt q4 :: iN .i64 k :: .string s :: iN .i64 s.size :: iN .i64 k :: .bool true :: iN .i64 k :: u7 10 :: u7 11 :: u7 12 :: u7 13 :: u7 14 :: u7 15 :: u7 16 :: u7 17 :: u7 18 :: u7 19 :: u7 20 :: u7 21 :: u7 22 :: u7 23 :: u7 24 :: List.replicate 1 un).toArray, []⟩) (by kernel_rfl) ?_
    -- region 5
    refine wp_region_ghost (fun _ : Nat → Nat => (⟨(.string s :: un :: pt q1 :: pt q4 :: iN .i64 k :: .string s :: iN .i64 s.size :: iN .i64 k :: .bool true :: iN .i64 k :: iN .i64 k :: iN .i64 (k / 8) :: .pointer (some ⟨q4, k / 8, none⟩) :: iN .u64 ((numS s % 256 ^ k) / K ^ (k / 8) % K) :: .string s :: iN .i64 k :: iN .u8 (sb s k) :: iN .u64 (sb s k) :: iN .i64 k :: iN .i64 (k % 8) :: iN .i64 (8 * (k % 8)) :: iN .u64 ((sb s k) * 2 ^ (8 * (k % 8))) :: iN .u64 (((numS s % 256 ^ k) / K ^ (k / 8) % K) ||| ((sb s k) * 2 ^ (8 * (k % 8)))) :: .pointer (some ⟨q4, k / 8, none⟩) :: u7 24 :: List.replicate 1 un).toArray, []⟩ : Act)) (GF w [(q4, 95, el (numS s % 256 ^ k)), (q1, 95, el 0)] 14 3 0 q4 95 (el (numS s % 256 ^ (k + 1)))) [iN .i64 k, iN .i64 (k / 8), .pointer (some ⟨q4, k / 8, none⟩), iN .u64 ((numS s % 256 ^ k) / K ^ (k / 8) % K), .string s, iN .i64 k, iN .u8 (sb s k), iN .u64 (sb s k), iN .i64 k, iN .i64 (k % 8), iN .i64 (8 * (k % 8)), iN .u64 ((sb s k) * 2 ^ (8 * (k % 8))), iN .u64 (((numS s % 256 ^ k) / K ^ (k / 8) % K) ||| ((sb s k) * 2 ^ (8 * (k % 8)))), .pointer (some ⟨q4, k / 8, none⟩), undef] (by kernel_rfl) (by kernel_rfl) (by kernel_rfl) (by kernel_rfl) (fun _ _ _ _ h => h) (fun d hd => GF.start h9.drew (hd 14 (by decide))) ?_ ?_
    · refine AllGhost.cons (gf_plain (v := iN .i64 k) (by decide) (fun _ => by kernel_rfl) (fun _ => by kernel_rfl) (fun _ _ => (by kernel_rfl))) ?_
      refine AllGhost.cons (gf_plain (v := iN .i64 (k / 8)) (by decide) (fun _ => by kernel_rfl) (fun _ => by kernel_rfl) (fun _ _ => (run_quo (k := .i64) (a := k) (b := 8) (by kernel_rfl) (by kernel_rfl) (by omega) (by simp only [top]; omega)))) ?_
      refine AllGhost.cons (gf_plain (v := .pointer (some ⟨q4, k / 8, none⟩)) (by decide) (fun _ => by kernel_rfl) (fun _ => by kernel_rfl) (fun _ _ => (run_addr_arr (q := q4) (a := k / 8) Tryd.underlying95 (fun w => Tryd.sizeOf22 w) (by kernel_rfl) (by kernel_rfl) (by omega)))) ?_
      refine AllGhost.cons (gf_cell (v := iN .u64 ((numS s % 256 ^ k) / K ^ (k / 8) % K)) 0 rfl (by decide) (k / 8) (el_get (numS s % 256 ^ k) (k / 8) (by omega)) (fun w => Tryd.isAgg22 w) (fun _ => by kernel_rfl) (fun _ => by kernel_rfl) (fun _ => by kernel_rfl)) ?_
      refine AllGhost.cons (gf_plain (v := .string s) (by decide) (fun _ => by kernel_rfl) (fun _ => by kernel_rfl) (fun _ _ => (by kernel_rfl))) ?_
      refine AllGhost.cons (gf_plain (v := iN .i64 k) (by decide) (fun _ => by kernel_rfl) (fun _ => by kernel_rfl) (fun _ _ => (by kernel_rfl))) ?_
      refine AllGhost.cons (gf_plain (v := iN .u8 (sb s k)) (by decide) (fun _ => by kernel_rfl) (fun _ => by kernel_rfl) (fun _ _ => (run_sidx (s := s) (a := k) (by kernel_rfl) (by kernel_rfl) hk))) ?_
      refine AllGhost.cons (gf_plain (v := iN .u64 (sb s k)) (by decide) (fun _ => by kernel_rfl) (fun _ => by kernel_rfl) (fun _ _ => (run_conv (k := .u8) (a := sb s k) .u64 Tryd.underlying5 Tryd.underlying22 (by kernel_rfl) (Nat.lt_trans (sb_lt s _) (by decide))))) ?_
      refine AllGhost.cons (gf_plain (v := iN .i64 k) (by decide) (fun _ => by kernel_rfl) (fun _ => by kernel_rfl) (fun _ _ => (by kernel_rfl))) ?_
      refine AllGhost.cons (gf_plain (v := iN .i64 (k % 8)) (by decide) (fun _ => by kernel_rfl) (fun _ => by kernel_rfl) (fun _ _ => (run_rem (k := .i64) (a := k) (b := 8) (by kernel_rfl) (by kernel_rfl) (by omega)))) ?_
      refine AllGhost.cons (gf_plain (v := iN .i64 (8 * (k % 8))) (by decide) (fun _ => by kernel_rfl) (fun _ => by kernel_rfl) (fun _ _ => (run_mul (k := .i64) (a := 8) (b := k % 8) (by kernel_rfl) (by kernel_rfl) (by simp only [top]; omega)))) ?_
      refine AllGhost.cons (gf_plain (v := iN .u64 ((sb s k) * 2 ^ (8 * (k % 8)))) (by decide) (fun _ => by kernel_rfl) (fun _ => by kernel_rfl) (fun _ _ => (run_shl (k2 := .i64) (k := .u64) (a := sb s k) (b := 8 * (k % 8)) (by kernel_rfl) (by kernel_rfl) (by show 8 * (k % 8) ≤ 64; omega) (sb_shl64 s k)))) ?_
      refine AllGhost.cons (gf_plain (v := iN .u64 (((numS s % 256 ^ k) / K ^ (k / 8) % K) ||| ((sb s k) * 2 ^ (8 * (k % 8))))) (by decide) (fun _ => by kernel_rfl) (fun _ => by kernel_rfl) (fun _ _ => (run_or64 (a := (numS s % 256 ^ k) / K ^ (k / 8) % K) (b := (sb s k) * 2 ^ (8 * (k % 8))) (by kernel_rfl) (by kernel_rfl) (Nat.mod_lt _ (by decide)) (sb_shl64 s k)))) ?_
      refine AllGhost.cons (gf_plain (v := .pointer (some ⟨q4, k / 8, none⟩)) (by decide) (fun _ => by kernel_rfl) (fun _ => by kernel_rfl) (fun _ _ => (run_addr_arr (q := q4) (a := k / 8) Tryd.underlying95 (fun w => Tryd.sizeOf22 w) (by kernel_rfl) (by kernel_rfl) (by omega)))) ?_
      refine AllGhost.cons (gf_put (k := .u64) (z := ((((numS s % 256 ^ k) / K ^ (k / 8) % K) ||| ((sb s k) * 2 ^ (8 * (k % 8))) : Nat) : Int)) (off := k / 8) rfl (by rw [el_size]; omega) (el_put _ _ _ _ (word_put s k (by omega))) (fun w => Tryd.sizeOf22 w) (fun _ => by kernel_rfl) (fun _ => by kernel_rfl) (fun _ => by kernel_rfl) (fun _ => by kernel_rfl) (by decide) (by kernel_rfl)) ?_
      exact AllGhost.nil
    intro _ w10 g11
    have h12 : HA w [(q4, 95, el (numS s % 256 ^ (k + 1))), (q1, 95, el 0)] w10 := g11.held
    clear g11
    refine block_normal ?_
    refine then_at (F := ⟨(.string s :: un :: pt q1 :: pt q4 :: iN .i64 k :: .string s :: iN .i64 s.size :: iN .i64 k :: .bool true :: iN .i64 k :: iN .i64 k :: iN .i64 (k / 8) :: .pointer (some ⟨q4, k / 8, none⟩) :: iN .u64 ((numS s % 256 ^ k) / K ^ (k / 8) % K) :: .string s :: iN .i64 k :: iN .u8 (sb s k) :: iN .u64 (sb s k) :: iN .i64 k :: iN .i64 (k % 8) :: iN .i64 (8 * (k % 8)) :: iN .u64 ((sb s k) * 2 ^ (8 * (k % 8))) :: iN .u64 (((numS s % 256 ^ k) / K ^ (k / 8) % K) ||| ((sb s k) * 2 ^ (8 * (k % 8)))) :: .pointer (some ⟨q4, k / 8, none⟩) :: u7 24 :: List.replicate 1 un).toArray, []⟩) (by kernel_rfl) ?_
    -- region 6
    refine wl_region ?_
    refine wl_val (iN .i64 (k + 1)) (by kernel_rfl) (run_add (k := .i64) (a := k) (b := 1) (by kernel_rfl) (by kernel_rfl) (by simp only [top]; omega)) ?_
    refine wl_val (iN .i64 (k + 1)) (by kernel_rfl) (by kernel_rfl) ?_
    refine wl_nil ?_
    exact then_I ⟨fun ii => (([(4, iN .i64 k), (8, .bool true), (9, iN .i64 k), (10, iN .i64 k), (11, iN .i64 (k / 8)), (12, .pointer (some ⟨q4, k / 8, none⟩)), (13, iN .u64 ((numS s % 256 ^ k) / K ^ (k / 8) % K)), (14, .string s), (15, iN .i64 k), (16, iN .u8 (sb s k)), (17, iN .u64 (sb s k)), (18, iN .i64 k), (19, iN .i64 (k % 8)), (20, iN .i64 (8 * (k % 8))), (21, iN .u64 ((sb s k) * 2 ^ (8 * (k % 8)))), (22, iN .u64 (((numS s % 256 ^ k) / K ^ (k / 8) % K) ||| ((sb s k) * 2 ^ (8 * (k % 8))))), (23, .pointer (some ⟨q4, k / 8, none⟩)), (24, iN .i64 (k + 1))] : List (Nat × Value)).find? (·.1 == ii)).elim undef (·.2), by kernel_rfl, h12⟩
  · rintro _ w13 ⟨u7, rfl, h14⟩
    refine wp_seq ?_
    -- region 3
    refine wl_region ?_
    refine wl_val (.bool false) (by kernel_rfl) (run_lss (k := .i64) (a := s.size) (b := s.size) (by kernel_rfl) (by kernel_rfl) false (decide_eq_false (Nat.lt_irrefl _))) ?_
    refine wl_nil ?_
    refine then_at (F := ⟨(.string s :: un :: pt q1 :: pt q4 :: u7 4 :: .string s :: iN .i64 s.size :: iN .i64 s.size :: .bool false :: u7 9 :: u7 10 :: u7 11 :: u7 12 :: u7 13 :: u7 14 :: u7 15 :: u7 16 :: u7 17 :: u7 18 :: u7 19 :: u7 20 :: u7 21 :: u7 22 :: u7 23 :: u7 24 :: List.replicate 1 un).toArray, []⟩) (by kernel_rfl) ?_
    refine wp_seq ?_
    refine wp_cond_false (by kernel_rfl) ?_
    refine wp_exit ?_
    repeat first | refine then_exit ?_ | refine block_exit ?_ | refine block_exit_ne (by decide) ?_
    have h15 : HA w [(q4, 95, el (numS s)), (q1, 95, el 0)] w13 := by have e4 := Nat.mod_eq_of_lt (numS_lt s); rw [e4] at h14; exact h14
    refine then_at (F := ⟨(.string s :: un :: pt q1 :: pt q4 :: u7 4 :: .string s :: iN .i64 s.size :: iN .i64 s.size :: .bool false :: u7 9 :: u7 10 :: u7 11 :: u7 12 :: u7 13 :: u7 14 :: u7 15 :: u7 16 :: u7 17 :: u7 18 :: u7 19 :: u7 20 :: u7 21 :: u7 22 :: u7 23 :: u7 24 :: List.replicate 1 un).toArray, []⟩) (by kernel_rfl) ?_
    refine wp_seq ?_
    -- region 7
    refine wl_region ?_
    refine wl_load h15 0 rfl (by kernel_rfl) (by kernel_rfl) Tryd.underlying95 rfl info34 ?_
    refine wl_fill (c' := el (numS s)) h15 1 rfl (by kernel_rfl) (by kernel_rfl) (by kernel_rfl) (el_sz _ _) info34 (one_cl _ _) ?_
    intro w16 (h17 : HA w [(q4, 95, el (numS s)), (q1, 95, el (numS s))] w16)
    refine wl_nil ?_
    refine then_at (F := ⟨(.string s :: un :: pt q1 :: pt q4 :: u7 4 :: .string s :: iN .i64 s.size :: iN .i64 s.size :: .bool false :: u7 9 :: u7 10 :: u7 11 :: u7 12 :: u7 13 :: u7 14 :: u7 15 :: u7 16 :: u7 17 :: u7 18 :: u7 19 :: u7 20 :: u7 21 :: u7 22 :: u7 23 :: u7 24 :: arr (numS s) :: List.replicate 0 un).toArray, []⟩) (by kernel_rfl) ?_
    refine wp_ret ?_
    repeat first | refine then_ret ?_ | refine block_ret ?_
    exact bodyPost_ret (v := arr (numS s)) (res_cell (p := 2) (by kernel_rfl) (by kernel_rfl) (h17.get 1 rfl) Tryd.underlying95 rfl info34) rfl ⟨rfl, h17.old⟩
set_option maxHeartbeats 2000000 in
set_option maxRecDepth 100000 in
theorem Bytes_any (n : Nat) (w : World) :
    Calls Tryd.prog 73 #[arr n] w fun e w' => e = .returned (.string (bytesOf n)) ∧ Below w.heap.size w w' := by
  obtain ⟨i0, hi, hz0, hz1, hz2⟩ := info_parts info5
  obtain ⟨a0, a1, a2, a3, ea, ea'⟩ := arr_open n
  have EA := hide ea
  rw [ea']
  clear ea ea'
  go_enter Tryd.func73, Tryd.ntmps73
  go_wp2_with (at_make; refine wpList_make_own _ rfl (.const (.int .i64 0)) (.const (.int .i64 32)) 60 rfl (w.heap.size + 1) 5 i0 (.int .u8 0) 1 Tryd.underlying60 hi hz0 hz1 .i64 .i64 _ 32 rfl rfl (by omega) (by rw [hz2]; omega) (by unfold maxLen; omega) (by simp) ?_; intro w1 hown1 hg1)
  have RA : Row (w.alloc (.cells #[.int .u64 a0, .int .u64 a1, .int .u64 a2, .int .u64 a3] 95)) w.heap.size 95 .u64 (digs K 4 n) := by rw [EA.out]; exact Row.mk rfl rfl
  have hsz0 : (w.alloc (.cells #[.int .u64 a0, .int .u64 a1, .int .u64 a2, .int .u64 a3] 95)).heap.size = w.heap.size + 1 := by simp
  have L : Below (w.heap.size + 1) (w.alloc (.cells #[.int .u64 a0, .int .u64 a1, .int .u64 a2, .int .u64 a3] 95)) w1 := (Below.refl _ _).grown hg1 (by simp) (fun k h => by cases h)
  have hBw : Below w.heap.size w (w.alloc (.cells #[.int .u64 a0, .int .u64 a1, .int .u64 a2, .int .u64 a3] 95)) := new_below (Below.refl _ w) (Nat.le_refl _)
  generalize w.alloc (.cells #[.int .u64 a0, .int .u64 a1, .int .u64 a2, .int .u64 a3] 95) = wa at *
  have O : Owns w1 (w.heap.size + 1) (.slice (some ⟨w.heap.size + 1, 0, none⟩) 0 32) (les 0 n) := by rw [hsz0] at hown1; exact hown1
  clear hown1 hg1
  go_loopw [3, 6] (fun o i wr => ∃ k : Nat, k ≤ 32 ∧ i = .int .i64 k ∧ Owns wr (w.heap.size + 1) o (les k n) ∧ Below (w.heap.size + 1) wa wr) (fun _ i _ => 32 - (intOf i).toNat)
  case atStart => exact ⟨0, by omega, rfl, O, L⟩
  case round =>
    clear O L
    obtain ⟨k, hk, rfl, hown, hbel⟩ := hrel
    have hwr := hbel.size
    by_cases hlt : k < 32
    · have co := (RA.below hbel (by omega)).dig (k / 8) (by omega)
      have hby := hide (byte_of n k)
      have hsn := hide (les_snoc k n)
      have hll := les_length k n
      obtain ⟨q, hq⟩ : ∃ q, q = k / 8 := ⟨_, rfl⟩
      obtain ⟨r, hr⟩ : ∃ r, r = 8 * (k % 8) := ⟨_, rfl⟩
      rw [← hq, ← hr] at hby
      rw [← hq] at co
      generalize n / K ^ q % K = z at *
      obtain ⟨c, hc⟩ : ∃ c, c = UInt8.ofNat (n / 256 ^ k % 256) := ⟨_, rfl⟩
      rw [← hc] at hsn
      have hcn : c.toNat = z / 2 ^ r % 256 := by
        rw [hc, hby.out, UInt8.toNat_ofNat']
        omega
      have hk0 : (0 : Int) ≤ (k : Int) := by omega
      have hq1 : (q : Int) < 4 := by omega
      have hq0 : (0 : Int) ≤ (q : Int) := by omega
      have hdiv : (k : Int) / 8 = (q : Int) := by omega
      have hmod : (8 : Int) * ((k : Int) % 8) = (r : Int) := by omega
      have hr1 : (r : Int) < 64 := by omega
      have hr0 : (0 : Int) ≤ (r : Int) := by omega
      have hsh : (z : Int) / 2 ^ r % 256 = (c.toNat : Int) := by
        rw [hcn, Int.natCast_emod, Int.natCast_ediv, Int.natCast_pow]; rfl
      generalize les k n = acc at *
      have HQ := hide hq
      have HR := hide hr
      clear hq hr hc hcn
      go_wp2_with (at_builtin; refine wpList_append_own _ rfl (.tmp 9) (.tmp 19) 60 rfl (w.heap.size + 1) 5 i0 (.int .u8 0) 1 1 Tryd.underlying60 hi hz0 hz1 hz2 rfl (by decide) _ acc.length (cs acc) rfl (World.ownsRow.alloc hown _) ⟨wr.heap.size, 0, none⟩ 1 1 [.int .u8 (c.toNat : Int)] rfl rfl (news_one _ _) (one_one _ _) (by unfold maxLen; omega) (by omega) (by simp; omega) ?_; intro v3 w3 hown3 hg3 hn3)
      have P1 := push_byte rfl hown3
      have P2 := push_below hbel (by omega) hown hg3
      rw [← hsn.out] at P1
      clear hown3 hg3 hn3 hown hbel
      go_wp2
      go_roundw
      case rel => exact ⟨k + 1, by omega, int_eq (by omega), P1, P2⟩
      case measure => simp [intOf]; omega
    · have hk4 : k = 32 := by omega
      subst hk4
      have HS := hown.str (by rw [les_length]; omega)
      have hB := hBw.trans (hbel.mono (by omega))
      go_wp2
      go_ret
      exact ⟨rfl, hB⟩
end Go.Proofs.YtpaendmdcdeemaaDoor.Sc

namespace Go.Proofs.YtpaendmdcdeemaaDoor.Sc
open Go.RowKit Num

/-- the order, and what it has above 2^252 -/
def Lq : Nat := 7237005577332262213973186563042994240857116359379907606001950938285454250989
def Ext : Nat := 27742317777372353535851937790883648493
theorem Lq_eq : Lq = 2 ^ 252 + Ext := by decide
theorem Lq_pos : 0 < Lq := by decide
theorem Lq_lt : Lq < K ^ 4 := by decide
theorem Ext_lt : Ext < K ^ 4 := by decide

/-- what goes over to the next word -/
def nx (v low : Nat) : Nat → Nat
  | 0 => low
  | k + 1 => v / K ^ k % K / 2 ^ 32
/-- the words laid so far -/
def rs (v low : Nat) : Nat → Nat
  | 0 => 0
  | k + 1 => rs v low k + (v / K ^ k % K * 2 ^ 32 % 18446744073709551616 ||| nx v low k) * K ^ k
theorem nx_lt (v low k : Nat) (hl : low < 2 ^ 32) : nx v low k < 2 ^ 32 := by
  cases k with
  | zero => exact hl
  | succ k =>
    show v / K ^ k % K / 2 ^ 32 < 2 ^ 32
    have : v / K ^ k % K < 18446744073709551616 := Nat.mod_lt _ (by decide)
    omega
theorem shl_or (x y : Nat) (hy : y < 2 ^ 32) : x * 2 ^ 32 % 18446744073709551616 ||| y = x * 2 ^ 32 % 18446744073709551616 + y := by
  have e : x * 2 ^ 32 % 18446744073709551616 = 2 ^ 32 * (x % 2 ^ 32) := by omega
  rw [e, Nat.two_pow_add_eq_or_of_lt hy]
theorem or_lt (x y : Nat) (hy : y < 2 ^ 32) : (x * 2 ^ 32 % 18446744073709551616 ||| y) < K := by
  rw [shl_or x y hy]
  show _ < 18446744073709551616
  omega
theorem rs_eq (v low : Nat) (hl : low < 2 ^ 32) : ∀ k, rs v low k + nx v low k * K ^ k = v % K ^ k * 2 ^ 32 + low ∧ rs v low k < K ^ k
  | 0 => by simp [rs, nx, Nat.mod_one]
  | k + 1 => by
    obtain ⟨h1, h2⟩ := rs_eq v low hl k
    have h3 := mod_step K v k
    have hp : 0 < K ^ k := Nat.pow_pos (by decide)
    have hn := nx_lt v low k hl
    rw [h3, rs, shl_or _ _ hn]
    show _ + v / K ^ k % K / 2 ^ 32 * K ^ (k + 1) = _ ∧ _
    have hK : K ^ (k + 1) = K * K ^ k := pow_split K k
    rw [hK]
    generalize v / K ^ k % K = x at *
    generalize v % K ^ k = m at *
    generalize rs v low k = r at *
    generalize nx v low k = y at *
    have e : x * 2 ^ 32 = x * 2 ^ 32 % 18446744073709551616 + x / 2 ^ 32 * K := by show _ = _ + x / 2 ^ 32 * 18446744073709551616; omega
    have h4 : x * 2 ^ 32 % 18446744073709551616 + y + 1 ≤ K := by show _ ≤ 18446744073709551616; omega
    generalize K ^ k = p at *
    generalize x * 2 ^ 32 % 18446744073709551616 = d at *
    generalize x / 2 ^ 32 = q at *
    have e2 : x * p * 2 ^ 32 = d * p + q * (K * p) := by rw [Nat.mul_right_comm, e, Nat.add_mul, Nat.mul_assoc]
    refine ⟨?_, ?_⟩
    · rw [Nat.add_mul m, e2, Nat.add_mul]
      omega
    · skip
      have h5 := Nat.mul_le_mul_right p h4
      rw [Nat.add_mul _ 1, Nat.one_mul] at h5
      omega
theorem rs_four (v low : Nat) (hl : low < 2 ^ 32) (hv : v < K ^ 4) : rs v low 4 = (v * 2 ^ 32 + low) % K ^ 4 := by
  obtain ⟨h1, h2⟩ := rs_eq v low hl 4
  rw [Nat.mod_eq_of_lt hv] at h1
  rw [← h1, Nat.add_mul_mod_self_right, Nat.mod_eq_of_lt h2]
theorem top_word (n : Nat) (hn : n < K ^ 4) : (digs K 4 n).set 3 (n / K ^ 3 % K &&& 1152921504606846975) = digs K 4 (n % 2 ^ 252) := by
  have e : n / K ^ 3 % K &&& 1152921504606846975 = n / K ^ 3 % K % 2 ^ 60 := Nat.and_two_pow_sub_one_eq_mod _ 60
  have h3 : n / K ^ 3 < K := by rw [Nat.div_lt_iff_lt_mul (Nat.pow_pos (by decide))]; exact hn
  refine digs_set K 4 n _ 3 _ hn (by decide) ?_ ?_
  · rw [e]
    exact Nat.lt_of_lt_of_le (Nat.mod_lt _ (by decide)) (by decide)
  · rw [e, Nat.mod_eq_of_lt h3]
    have h4 := Nat.mod_add_div n (K ^ 3)
    have h5 : n % 2 ^ 252 = n % K ^ 3 + n / K ^ 3 % 2 ^ 60 * K ^ 3 := by
      have : (2 : Nat) ^ 252 = K ^ 3 * 2 ^ 60 := by decide
      rw [this, Nat.mod_mul, Nat.mul_comm (K ^ 3)]
    rw [h5]
    have h6 : n / K ^ 3 * K ^ 3 = K ^ 3 * (n / K ^ 3) := Nat.mul_comm _ _
    omega
/-- what lies above -/
theorem above_eq (v : Nat) (hv : v < Lq) : v / K ^ 3 % K / 2 ^ 28 = v / 2 ^ 220 ∧ v / 2 ^ 220 < 2 ^ 33 := by
  have h3 : v / K ^ 3 < K := by rw [Nat.div_lt_iff_lt_mul (Nat.pow_pos (by decide))]; exact Nat.lt_trans hv (by decide)
  refine ⟨?_, ?_⟩
  · rw [Nat.mod_eq_of_lt h3, Nat.div_div_eq_div_mul]
    have : K ^ 3 * 2 ^ 28 = 2 ^ 220 := by decide
    rw [this]
  · rw [Nat.div_lt_iff_lt_mul (by decide)]
    exact Nat.lt_trans hv (by decide)
/-- v times 2^32 and the bits, in two -/
theorem moved_parts (v low : Nat) (hl : low < 2 ^ 32) : v * 2 ^ 32 + low = v / 2 ^ 220 * 2 ^ 252 + (v * 2 ^ 32 + low) % 2 ^ 252 := by
  have h := Nat.mod_add_div (v * 2 ^ 32 + low) (2 ^ 252)
  have e : (v * 2 ^ 32 + low) / 2 ^ 252 = v / 2 ^ 220 := by
    have : (2 : Nat) ^ 252 = 2 ^ 32 * 2 ^ 220 := by decide
    rw [this, ← Nat.div_div_eq_div_mul]
    congr 1
    omega
  rw [e] at h
  omega
theorem mod_parts (n r o c a M : Nat) (h1 : n = c + r) (e2 : M * a = c + o) (hr : r < M) (ho : o < M) : (r < o → r + M - o = n % M) ∧ (¬ r < o → r - o = n % M) := by
  refine ⟨fun h => ?_, fun h => ?_⟩
  · have e : n + M = (r + M - o) + M * a := by omega
    rw [← Nat.add_mod_right, e, Nat.add_mul_mod_self_left, Nat.mod_eq_of_lt (by omega)]
  · have e : n = (r - o) + M * a := by omega
    rw [e, Nat.add_mul_mod_self_left, Nat.mod_eq_of_lt (by omega)]
theorem moved_eq (v low r o : Nat) (hl : low < 2 ^ 32) (hv : v < Lq) (hr : r = (v * 2 ^ 32 + low) % 2 ^ 252) (ho : o = Ext * (v / 2 ^ 220)) :
    r < Lq ∧ o < Lq ∧ (r < o → r + Lq - o = (v * 2 ^ 32 + low) % Lq) ∧ (¬ r < o → r - o = (v * 2 ^ 32 + low) % Lq) := by
  have h1 := moved_parts v low hl
  rw [← hr] at h1
  have h2 := (above_eq v hv).2
  generalize v / 2 ^ 220 = a at *
  have hr1 : r < 2 ^ 252 := by rw [hr]; exact Nat.mod_lt _ (by decide)
  have e2 : Lq * a = a * 2 ^ 252 + o := by rw [Lq_eq, ho, Nat.add_mul, Nat.mul_comm (2 ^ 252)]
  have ho1 : o < Lq := by
    have h3 := Nat.mul_le_mul_left Ext (show a ≤ 2 ^ 33 by omega)
    rw [← ho] at h3
    exact Nat.lt_of_le_of_lt h3 (by decide)
  have hr2 : r < Lq := Nat.lt_trans hr1 (by decide)
  exact ⟨hr2, ho1, mod_parts _ r o _ a Lq h1 e2 hr2 ho1⟩
theorem sum_of (a b : Nat) (ha : a < K ^ 4) (hb : b < K ^ 4) (w : World) :
    Calls Tryd.prog 74 #[arr a, arr b] w fun e w' => e = .returned (.tuple #[arr ((a + b) % K ^ 4), iN .u64 ((a + b) / K ^ 4)]) ∧ Below w.heap.size w w' := by
  have h := sum_any a b w
  rwa [Nat.mod_eq_of_lt ha, Nat.mod_eq_of_lt hb] at h
theorem difference_yes (a b : Nat) (ha : a < K ^ 4) (hb : b < K ^ 4) (h : a < b) (w : World) :
    Calls Tryd.prog 112 #[arr a, arr b] w fun e w' => e = .returned (.tuple #[arr ((a + K ^ 4 - b) % K ^ 4), iN .u64 1]) ∧ Below w.heap.size w w' := by
  have h1 := difference_any a b w
  unfold bor at h1
  rwa [Nat.mod_eq_of_lt ha, Nat.mod_eq_of_lt hb, if_pos h] at h1
theorem difference_no (a b : Nat) (ha : a < K ^ 4) (hb : b < K ^ 4) (h : ¬ a < b) (w : World) :
    Calls Tryd.prog 112 #[arr a, arr b] w fun e w' => e = .returned (.tuple #[arr ((a + K ^ 4 - b) % K ^ 4), iN .u64 0]) ∧ Below w.heap.size w w' := by
  have h1 := difference_any a b w
  unfold bor at h1
  rwa [Nat.mod_eq_of_lt ha, Nat.mod_eq_of_lt hb, if_neg h] at h1
/-- the package's variables -/
structure Vars (w : World) : Prop where
  big : 6 ≤ w.heap.size
  x : At w 4 Ext
  l : At w 5 Lq
theorem Vars.below {w w' : World} {B : Nat} (h : Vars w) (hb : Below B w w') (hB : 6 ≤ B) : Vars w' :=
  ⟨Nat.le_trans h.big hb.size, h.x.below hb (by omega), h.l.below hb (by omega)⟩
theorem run_load_at {ρ : Operand → Value} {x : Operand} {g n : Nat} {w : World} {dst : Option Tmp} {ty : TypeId} {pos : String} {aft : Array Edge} {gd : Option (Nat × Bool)} (hx : ρ x = .pointer (some ⟨g, 0, none⟩)) (h : At w g n) :
    (execOp ρ ⟨dst, .load 95 x, ty, pos, aft, gd⟩).run Tryd.prog w = .ok (.value (arr n)) w := by
  have hr : w.rangeAt g 0 (el n).toList := fun j v hv => by
    have hj : j < 4 := by have := (List.getElem?_eq_some_iff.1 hv).1; simpa [el_size] using this
    rw [Nat.zero_add, h j hj]
    have h2 := el_get n j hj
    rw [Array.getElem?_toList] at hv
    rw [h2] at hv
    exact hv
  simp only [execOp, hx, Instr.loadAt, Instr.sureAddr, Sem.run_bind, Sem.run_pure, Result.andThen_ok, run_loadVar_mid w g 0 95 (el n).toList _ hr Tryd.underlying95 rfl (by rw [Array.length_toList]; exact info34)]
  rfl
theorem run_build1 {ρ : Operand → Value} {x : Operand} {a : Nat} {w : World} {dst : Option Tmp} {ty : TypeId} {pos : String} {aft : Array Edge} {gd : Option (Nat × Bool)} (hx : ρ x = iN .u64 a) (ha : a < K) :
    (execOp ρ ⟨dst, .build 95 #[(0, x)], ty, pos, aft, gd⟩).run Tryd.prog w = .ok (.value (arr a)) w := by
  have e : arr a = .agg #[iN .u64 a, iN .u64 0, iN .u64 0, iN .u64 0] := by
    have h : digs K 4 a = [a, 0, 0, 0] := by
      have : a = num K [a, 0, 0, 0] := by simp [num]
      conv => lhs; rw [this]
      refine digs_num K _ (fun x hx => ?_) 4 rfl
      simp at hx
      rcases hx with rfl | rfl
      · exact ha
      · decide
    unfold arr
    rw [h]
    rfl
  rw [e]
  simp only [execOp, iN] at hx ⊢
  simp only [Array.map]
  go_simp
theorem run_index_arr {ρ : Operand → Value} {x y : Operand} {n a : Nat} {w : World} {dst : Option Tmp} {ty : TypeId} {pos : String} {aft : Array Edge} {gd : Option (Nat × Bool)} (hx : ρ x = arr n) (hy : ρ y = iN .i64 a) (ha : a < 4) :
    (execOp ρ ⟨dst, .index 95 x y, ty, pos, aft, gd⟩).run Tryd.prog w = .ok (.value (iN .u64 (n / K ^ a % K))) w := by
  have e := el_get n a ha
  obtain ⟨a0, a1, a2, a3, _, e2⟩ := arr_open n
  have e3 : el n = #[.int .u64 a0, .int .u64 a1, .int .u64 a2, .int .u64 a3] := Value.agg.inj e2
  rw [e2] at hx
  rw [e3] at e
  generalize n / K ^ a % K = z at *
  simp only [execOp, iN] at hx hy e ⊢
  have h4 : a = 0 ∨ a = 1 ∨ a = 2 ∨ a = 3 := by omega
  rcases h4 with rfl | rfl | rfl | rfl <;> (simp at e; rw [← e]; simp only [hx, hy, Instr.index]; go_simp)
set_option linter.unusedSimpArgs false in
theorem run_shlw {ρ : Operand → Value} {x y : Operand} {w : World} {dst : Option Tmp} {T T2 ty : TypeId} {pos : String} {aft : Array Edge} {gd : Option (Nat × Bool)} {a b : Nat} {P : Program} {k2 : IntKind} (hx : ρ x = iN .u64 a) (hy : ρ y = iN k2 b) (hb : b ≤ 64) :
    (execOp ρ ⟨dst, .binOp .shl T x y T2, ty, pos, aft, gd⟩).run P w = .ok (.value (iN .u64 (a * 2 ^ b % 18446744073709551616))) w := by
  have e : min b 64 = b := Nat.min_eq_left hb
  have h : IntKind.u64.wrap ((a : Int) * 2 ^ b) = ((a * 2 ^ b % 18446744073709551616 : Nat) : Int) := by
    rw [show (a : Int) * 2 ^ b = ((a * 2 ^ b : Nat) : Int) by push_cast; rfl, M64.wrapM]
  simp only [execOp, hx, hy, iN]
  simpa [binOp, go_sem, IntKind.bits, e] using h
theorem rs_push (v low k : Nat) (hl : low < 2 ^ 32) (hk : k < 4) : (digs K 4 (rs v low k)).set k (v / K ^ k % K * 2 ^ 32 % 18446744073709551616 ||| nx v low k) = digs K 4 (rs v low (k + 1)) :=
  digs_push K 4 _ k _ (rs_eq v low hl k).2 hk (or_lt _ _ (nx_lt v low k hl))

theorem wrap_less (R O M B : Nat) (ho : O < M) (hM : M < B) (h : R < O) : ((R + B - O) % B + M) % B = R + M - O := by
  rw [Nat.mod_eq_of_lt (show R + B - O < B by omega), show R + B - O + M = (R + M - O) + B by omega, Nat.add_mod_right, Nat.mod_eq_of_lt (by omega)]
set_option linter.unusedVariables false in
set_option maxRecDepth 100000 in
set_option maxHeartbeats 2000000 in
theorem moved_any (v low : Nat) (hv : v < Lq) (hl : low < 2 ^ 32) (w : World) (VV : Vars w) :
    Calls Tryd.prog 103 #[arr v, iN .u32 low] w fun e w' => e = .returned (arr ((v * 2 ^ 32 + low) % Lq)) ∧ Below w.heap.size w w' := by
  have hv4 : v < K ^ 4 := Nat.lt_trans hv Lq_lt
  have hab1 : v / K ^ 3 % K / 2 ^ 28 < K := Nat.lt_of_le_of_lt (Nat.div_le_self _ _) (Nat.mod_lt _ (by decide))
  have hab : v / K ^ 3 % K / 2 ^ 28 < K ^ 4 := Nat.lt_trans hab1 (by decide)
  obtain ⟨R, hRe⟩ : ∃ R, R = (v * 2 ^ 32 + low) % K ^ 4 % 2 ^ 252 := ⟨_, rfl⟩
  obtain ⟨O, hOe⟩ : ∃ O, O = Ext * (v / K ^ 3 % K / 2 ^ 28) := ⟨_, rfl⟩
  have hM := moved_eq v low R O hl hv (by rw [hRe, Nat.mod_mod_of_dvd _ (by decide)]) (by rw [hOe, (above_eq v hv).1])
  have hR : R < K ^ 4 := Nat.lt_trans hM.1 Lq_lt
  have hO : O < K ^ 4 := Nat.lt_trans hM.2.1 Lq_lt
  have hyes : R < O → (((R + K ^ 4 - O) % K ^ 4) + Lq) % K ^ 4 = (v * 2 ^ 32 + low) % Lq := fun h => by
    rw [← hM.2.2.1 h]
    exact wrap_less R O Lq (K ^ 4) hM.2.1 Lq_lt h
  have hno : ¬ R < O → (R + K ^ 4 - O) % K ^ 4 = (v * 2 ^ 32 + low) % Lq := fun h => by
    rw [← hM.2.2.2 h, show R + K ^ 4 - O = (R - O) + K ^ 4 by omega, Nat.add_mod_right, Nat.mod_eq_of_lt (by omega)]
  have H0 := HA.start w
  go_enter Tryd.func103, Tryd.ntmps103
  refine wp_seq ?_
  -- region 0
  refine wl_region ?_
  refine wl_make H0 95 (by kernel_rfl) (run_box34 (c := el v) (by kernel_rfl)) ?_
  intro q1 w2 h3
  refine wl_make h3 95 (by kernel_rfl) run_alloc34 ?_
  intro q4 w5 h6
  refine wl_nil ?_
  refine then_at (F := ⟨(arr v :: iN .u32 low :: pt q1 :: un :: pt q4 :: List.replicate 54 un).toArray, []⟩) (by kernel_rfl) ?_
  refine wp_seq ?_
  -- region 1
  refine wl_region ?_
  refine wl_val (.pointer (some ⟨q1, 3, none⟩)) (by kernel_rfl) (run_addr_arr (q := q1) (a := 3) Tryd.underlying95 (fun w => Tryd.sizeOf22 w) (by kernel_rfl) (by kernel_rfl) (by decide)) ?_
  refine wl_val (iN .u64 (v / K ^ 3 % K)) (by kernel_rfl) (run_load1 (fun w => Tryd.isAgg22 w) (by kernel_rfl) (((h6.get 1 rfl).cell 3).trans (el_get v 3 (by decide)))) ?_
  refine wl_val (iN .u64 ((v / K ^ 3 % K) / 2 ^ 28)) (by kernel_rfl) (run_shr (k2 := .u64) (k := .u64) (a := v / K ^ 3 % K) (b := 28) (by kernel_rfl) (by kernel_rfl) (by decide)) ?_
  refine wl_val (iN .u64 ((v / K ^ 3 % K) / 2 ^ 28)) (by kernel_rfl) (by kernel_rfl) ?_
  refine wl_nil ?_
  refine then_at (F := ⟨(arr v :: iN .u32 low :: pt q1 :: un :: pt q4 :: iN .u64 ((v / K ^ 3 % K) / 2 ^ 28) :: un :: un :: un :: un :: un :: un :: un :: un :: .pointer (some ⟨q1, 3, none⟩) :: iN .u64 (v / K ^ 3 % K) :: iN .u64 ((v / K ^ 3 % K) / 2 ^ 28) :: List.replicate 42 un).toArray, []⟩) (by kernel_rfl) ?_
  refine wp_seq ?_
  -- region 2
  refine wl_region ?_
  refine wl_make h6 95 (by kernel_rfl) run_alloc34 ?_
  intro q7 w8 h9
  refine wl_nil ?_
  refine then_at (F := ⟨(arr v :: iN .u32 low :: pt q1 :: un :: pt q4 :: iN .u64 ((v / K ^ 3 % K) / 2 ^ 28) :: pt q7 :: un :: un :: un :: un :: un :: un :: un :: .pointer (some ⟨q1, 3, none⟩) :: iN .u64 (v / K ^ 3 % K) :: iN .u64 ((v / K ^ 3 % K) / 2 ^ 28) :: List.replicate 42 un).toArray, []⟩) (by kernel_rfl) ?_
  refine wp_seq ?_
  -- region 3
  refine wl_region ?_
  refine wl_val (iN .u32 low) (by kernel_rfl) (by kernel_rfl) ?_
  refine wl_val (iN .u64 low) (by kernel_rfl) (run_conv .u64 Tryd.underlying30 Tryd.underlying22 (by kernel_rfl) (by simp only [top]; omega)) ?_
  refine wl_val (iN .u64 low) (by kernel_rfl) (by kernel_rfl) ?_
  refine wl_nil ?_
  refine then_at (F := ⟨(arr v :: iN .u32 low :: pt q1 :: un :: pt q4 :: iN .u64 ((v / K ^ 3 % K) / 2 ^ 28) :: pt q7 :: iN .u64 low :: un :: un :: un :: un :: un :: un :: .pointer (some ⟨q1, 3, none⟩) :: iN .u64 (v / K ^ 3 % K) :: iN .u64 ((v / K ^ 3 % K) / 2 ^ 28) :: iN .u32 low :: iN .u64 low :: List.replicate 40 un).toArray, []⟩) (by kernel_rfl) ?_
  refine wp_seq ?_
  refine wp_seq ?_
  -- region 4
  refine wl_region ?_
  refine wl_load h9 2 rfl (by kernel_rfl) (by kernel_rfl) Tryd.underlying95 rfl info34 ?_
  refine wl_val (iN .i64 0) (by kernel_rfl) (by kernel_rfl) ?_
  refine wl_nil ?_
  refine then_at (F := ⟨(arr v :: iN .u32 low :: pt q1 :: un :: pt q4 :: iN .u64 ((v / K ^ 3 % K) / 2 ^ 28) :: pt q7 :: iN .u64 low :: un :: un :: un :: un :: un :: un :: .pointer (some ⟨q1, 3, none⟩) :: iN .u64 (v / K ^ 3 % K) :: iN .u64 ((v / K ^ 3 % K) / 2 ^ 28) :: iN .u32 low :: iN .u64 low :: arr v :: iN .i64 0 :: List.replicate 38 un).toArray, []⟩) (by kernel_rfl) ?_
  refine wp_block ?_
  refine wp_count (fun k A w' => ∃ u10 : Nat → Value, A = ⟨(arr v :: iN .u32 low :: pt q1 :: un :: pt q4 :: iN .u64 ((v / K ^ 3 % K) / 2 ^ 28) :: pt q7 :: iN .u64 (nx v low k) :: u10 8 :: u10 9 :: un :: un :: un :: un :: .pointer (some ⟨q1, 3, none⟩) :: iN .u64 (v / K ^ 3 % K) :: iN .u64 ((v / K ^ 3 % K) / 2 ^ 28) :: iN .u32 low :: iN .u64 low :: arr v :: iN .i64 k :: u10 21 :: u10 22 :: u10 23 :: u10 24 :: u10 25 :: u10 26 :: u10 27 :: u10 28 :: u10 29 :: u10 30 :: u10 31 :: u10 32 :: List.replicate 26 un).toArray, []⟩ ∧ HA w [(q7, 95, el (rs v low k)), (q4, 95, el 0), (q1, 95, el v)] w') 4 ?_ ?_ ?_
  · exact ⟨fun ii => (([(8, undef), (9, undef), (21, undef), (22, undef), (23, undef), (24, undef), (25, undef), (26, undef), (27, undef), (28, undef), (29, undef), (30, undef), (31, undef), (32, undef)] : List (Nat × Value)).find? (·.1 == ii)).elim undef (·.2), by kernel_rfl, h9⟩
  · rintro k hk _ w11 ⟨u10, rfl, h12⟩
    refine wp_seq ?_
    -- region 5
    refine wl_region ?_
    refine wl_val (.bool true) (by kernel_rfl) (run_lss (k := .i64) (a := k) (b := 4) (by kernel_rfl) (by kernel_rfl) true (decide_eq_true hk)) ?_
    refine wl_nil ?_
    refine then_at (F := ⟨(arr v :: iN .u32 low :: pt q1 :: un :: pt q4 :: iN .u64 ((v / K ^ 3 % K) / 2 ^ 28) :: pt q7 :: iN .u64 (nx v low k) :: u10 8 :: u10 9 :: un :: un :: un :: un :: .pointer (some ⟨q1, 3, none⟩) :: iN .u64 (v / K ^ 3 % K) :: iN .u64 ((v / K ^ 3 % K) / 2 ^ 28) :: iN .u32 low :: iN .u64 low :: arr v :: iN .i64 k :: .bool true :: u10 22 :: u10 23 :: u10 24 :: u10 25 :: u10 26 :: u10 27 :: u10 28 :: u10 29 :: u10 30 :: u10 31 :: u10 32 :: List.replicate 26 un).toArray, []⟩) (by kernel_rfl) ?_
    refine wp_seq ?_
    refine wp_cond_true (by kernel_rfl) ?_
    refine wp_skip ?_
    refine then_at (F := ⟨(arr v :: iN .u32 low :: pt q1 :: un :: pt q4 :: iN .u64 ((v / K ^ 3 % K) / 2 ^ 28) :: pt q7 :: iN .u64 (nx v low k) :: u10 8 :: u10 9 :: un :: un :: un :: un :: .pointer (some ⟨q1, 3, none⟩) :: iN .u64 (v / K ^ 3 % K) :: iN .u64 ((v / K ^ 3 % K) / 2 ^ 28) :: iN .u32 low :: iN .u64 low :: arr v :: iN .i64 k :: .bool true :: u10 22 :: u10 23 :: u10 24 :: u10 25 :: u10 26 :: u10 27 :: u10 28 :: u10 29 :: u10 30 :: u10 31 :: u10 32 :: List.replicate 26 un).toArray, []⟩) (by kernel_rfl) ?_
    refine wp_seq ?_
    refine wp_block ?_
    refine wp_seq ?_
    -- region 6
    refine wl_region ?_
    refine wl_val (iN .i64 k) (by kernel_rfl) (by kernel_rfl) ?_
    refine wl_val (iN .u64 (v / K ^ k % K)) (by kernel_rfl) (run_index_arr (n := v) (a := k) (by kernel_rfl) (by kernel_rfl) (by omega)) ?_
    refine wl_val (iN .i64 k) (by kernel_rfl) (by kernel_rfl) ?_
    refine wl_val (iN .u64 (v / K ^ k % K)) (by kernel_rfl) (by kernel_rfl) ?_
    refine wl_nil ?_
    refine then_at (F := ⟨(arr v :: iN .u32 low :: pt q1 :: un :: pt q4 :: iN .u64 ((v / K ^ 3 % K) / 2 ^ 28) :: pt q7 :: iN .u64 (nx v low k) :: iN .i64 k :: iN .u64 (v / K ^ k % K) :: un :: un :: un :: un :: .pointer (some ⟨q1, 3, none⟩) :: iN .u64 (v / K ^ 3 % K) :: iN .u64 ((v / K ^ 3 % K) / 2 ^ 28) :: iN .u32 low :: iN .u64 low :: arr v :: iN .i64 k :: .bool true :: iN .i64 k :: iN .u64 (v / K ^ k % K) :: u10 24 :: u10 25 :: u10 26 :: u10 27 :: u10 28 :: u10 29 :: u10 30 :: u10 31 :: u10 32 :: List.replicate 26 un).toArray, []⟩) (by kernel_rfl) ?_
    refine wp_seq ?_
    -- region 7
    refine wl_region ?_
    refine wl_val (iN .i64 k) (by kernel_rfl) (by kernel_rfl) ?_
    refine wl_val (iN .u64 (v / K ^ k % K)) (by kernel_rfl) (by kernel_rfl) ?_
    refine wl_val (iN .u64 ((v / K ^ k % K) * 2 ^ 32 % 18446744073709551616)) (by kernel_rfl) (run_shlw (a := v / K ^ k % K) (b := 32) (k2 := .u64) (by kernel_rfl) (by kernel_rfl) (by decide)) ?_
    refine wl_val (iN .u64 (nx v low k)) (by kernel_rfl) (by kernel_rfl) ?_
    refine wl_val (iN .u64 (((v / K ^ k % K) * 2 ^ 32 % 18446744073709551616) ||| (nx v low k))) (by kernel_rfl) (run_or64 (a := (v / K ^ k % K) * 2 ^ 32 % 18446744073709551616) (b := nx v low k) (by kernel_rfl) (by kernel_rfl) (Nat.mod_lt _ (by decide)) (Nat.lt_trans (nx_lt v low k hl) (by decide))) ?_
    refine wl_val (.pointer (some ⟨q7, k, none⟩)) (by kernel_rfl) (run_addr_arr (q := q7) (a := k) Tryd.underlying95 (fun w => Tryd.sizeOf22 w) (by kernel_rfl) (by kernel_rfl) (by omega)) ?_
    refine wl_put (k := .u64) (z := ((((v / K ^ k % K) * 2 ^ 32 % 18446744073709551616) ||| (nx v low k) : Nat) : Int)) h12 0 rfl k (by rw [el_size]; omega) (by kernel_rfl) (fun w => Tryd.sizeOf22 w) (by kernel_rfl) (by kernel_rfl) ?_
    intro w13 h14
    have h15 : HA w [(q7, 95, el (rs v low (k + 1))), (q4, 95, el 0), (q1, 95, el v)] w13 := (by rw [← el_put _ _ _ _ (rs_push v low k hl hk)]; exact h14)
    clear h14
    refine wl_nil ?_
    refine then_at (F := ⟨(arr v :: iN .u32 low :: pt q1 :: un :: pt q4 :: iN .u64 ((v / K ^ 3 % K) / 2 ^ 28) :: pt q7 :: iN .u64 (nx v low k) :: iN .i64 k :: iN .u64 (v / K ^ k % K) :: un :: un :: un :: un :: .pointer (some ⟨q1, 3, none⟩) :: iN .u64 (v / K ^ 3 % K) :: iN .u64 ((v / K ^ 3 % K) / 2 ^ 28) :: iN .u32 low :: iN .u64 low :: arr v :: iN .i64 k :: .bool true :: iN .i64 k :: iN .u64 (v / K ^ k % K) :: iN .i64 k :: iN .u64 (v / K ^ k % K) :: iN .u64 ((v / K ^ k % K) * 2 ^ 32 % 18446744073709551616) :: iN .u64 (nx v low k) :: iN .u64 (((v / K ^ k % K) * 2 ^ 32 % 18446744073709551616) ||| (nx v low k)) :: .pointer (some ⟨q7, k, none⟩) :: u10 30 :: u10 31 :: u10 32 :: List.replicate 26 un).toArray, []⟩) (by kernel_rfl) ?_
    -- region 8
    refine wl_region ?_
    refine wl_val (iN .u64 (v / K ^ k % K)) (by kernel_rfl) (by kernel_rfl) ?_
    refine wl_val (iN .u64 ((v / K ^ k % K) / 2 ^ 32)) (by kernel_rfl) (run_shr (k2 := .u64) (k := .u64) (a := v / K ^ k % K) (b := 32) (by kernel_rfl) (by kernel_rfl) (by decide)) ?_
    refine wl_val (iN .u64 ((v / K ^ k % K) / 2 ^ 32)) (by kernel_rfl) (by kernel_rfl) ?_
    refine wl_nil ?_
    refine block_normal ?_
    refine then_at (F := ⟨(arr v :: iN .u32 low :: pt q1 :: un :: pt q4 :: iN .u64 ((v / K ^ 3 % K) / 2 ^ 28) :: pt q7 :: iN .u64 ((v / K ^ k % K) / 2 ^ 32) :: iN .i64 k :: iN .u64 (v / K ^ k % K) :: un :: un :: un :: un :: .pointer (some ⟨q1, 3, none⟩) :: iN .u64 (v / K ^ 3 % K) :: iN .u64 ((v / K ^ 3 % K) / 2 ^ 28) :: iN .u32 low :: iN .u64 low :: arr v :: iN .i64 k :: .bool true :: iN .i64 k :: iN .u64 (v / K ^ k % K) :: iN .i64 k :: iN .u64 (v / K ^ k % K) :: iN .u64 ((v / K ^ k % K) * 2 ^ 32 % 18446744073709551616) :: iN .u64 (nx v low k) :: iN .u64 (((v / K ^ k % K) * 2 ^ 32 % 18446744073709551616) ||| (nx v low k)) :: .pointer (some ⟨q7, k, none⟩) :: iN .u64 (v / K ^ k % K) :: iN .u64 ((v / K ^ k % K) / 2 ^ 32) :: u10 32 :: List.replicate 26 un).toArray, []⟩) (by kernel_rfl) ?_
    -- region 9
    refine wl_region ?_
    refine wl_val (iN .i64 (k + 1)) (by kernel_rfl) (run_add (k := .i64) (a := k) (b := 1) (by kernel_rfl) (by kernel_rfl) (by simp only [top]; omega)) ?_
    refine wl_val (iN .i64 (k + 1)) (by kernel_rfl) (by kernel_rfl) ?_
    refine wl_nil ?_
    exact then_I ⟨fun ii => (([(8, iN .i64 k), (9, iN .u64 (v / K ^ k % K)), (21, .bool true), (22, iN .i64 k), (23, iN .u64 (v / K ^ k % K)), (24, iN .i64 k), (25, iN .u64 (v / K ^ k % K)), (26, iN .u64 ((v / K ^ k % K) * 2 ^ 32 % 18446744073709551616)), (27, iN .u64 (nx v low k)), (28, iN .u64 (((v / K ^ k % K) * 2 ^ 32 % 18446744073709551616) ||| (nx v low k))), (29, .pointer (some ⟨q7, k, none⟩)), (30, iN .u64 (v / K ^ k % K)), (31, iN .u64 ((v / K ^ k % K) / 2 ^ 32)), (32, iN .i64 (k + 1))] : List (Nat × Value)).find? (·.1 == ii)).elim undef (·.2), by kernel_rfl, h15⟩
  · rintro _ w16 ⟨u10, rfl, h17⟩
    refine wp_seq ?_
    -- region 5
    refine wl_region ?_
    refine wl_val (.bool false) (by kernel_rfl) (run_lss (k := .i64) (a := 4) (b := 4) (by kernel_rfl) (by kernel_rfl) false (by decide)) ?_
    refine wl_nil ?_
    refine then_at (F := ⟨(arr v :: iN .u32 low :: pt q1 :: un :: pt q4 :: iN .u64 ((v / K ^ 3 % K) / 2 ^ 28) :: pt q7 :: iN .u64 (nx v low 4) :: u10 8 :: u10 9 :: un :: un :: un :: un :: .pointer (some ⟨q1, 3, none⟩) :: iN .u64 (v / K ^ 3 % K) :: iN .u64 ((v / K ^ 3 % K) / 2 ^ 28) :: iN .u32 low :: iN .u64 low :: arr v :: iN .i64 4 :: .bool false :: u10 22 :: u10 23 :: u10 24 :: u10 25 :: u10 26 :: u10 27 :: u10 28 :: u10 29 :: u10 30 :: u10 31 :: u10 32 :: List.replicate 26 un).toArray, []⟩) (by kernel_rfl) ?_
    refine wp_seq ?_
    refine wp_cond_false (by kernel_rfl) ?_
    refine wp_exit ?_
    repeat first | refine then_exit ?_ | refine block_exit ?_ | refine block_exit_ne (by decide) ?_
    have h18 : HA w [(q7, 95, el ((v * 2 ^ 32 + low) % K ^ 4)), (q4, 95, el 0), (q1, 95, el v)] w16 := by rw [← rs_four v low hl hv4]; exact h17
    refine then_at (F := ⟨(arr v :: iN .u32 low :: pt q1 :: un :: pt q4 :: iN .u64 ((v / K ^ 3 % K) / 2 ^ 28) :: pt q7 :: iN .u64 (nx v low 4) :: u10 8 :: u10 9 :: un :: un :: un :: un :: .pointer (some ⟨q1, 3, none⟩) :: iN .u64 (v / K ^ 3 % K) :: iN .u64 ((v / K ^ 3 % K) / 2 ^ 28) :: iN .u32 low :: iN .u64 low :: arr v :: iN .i64 4 :: .bool false :: u10 22 :: u10 23 :: u10 24 :: u10 25 :: u10 26 :: u10 27 :: u10 28 :: u10 29 :: u10 30 :: u10 31 :: u10 32 :: List.replicate 26 un).toArray, []⟩) (by kernel_rfl) ?_
    refine wp_seq ?_
    -- region 10
    refine wl_region ?_
    refine wl_val (.pointer (some ⟨q7, 3, none⟩)) (by kernel_rfl) (run_addr_arr (q := q7) (a := 3) Tryd.underlying95 (fun w => Tryd.sizeOf22 w) (by kernel_rfl) (by kernel_rfl) (by decide)) ?_
    refine wl_val (iN .u64 (((v * 2 ^ 32 + low) % K ^ 4) / K ^ 3 % K)) (by kernel_rfl) (run_load1 (fun w => Tryd.isAgg22 w) (by kernel_rfl) (((h18.get 0 rfl).cell 3).trans (el_get ((v * 2 ^ 32 + low) % K ^ 4) 3 (by decide)))) ?_
    refine wl_val (iN .u64 ((((v * 2 ^ 32 + low) % K ^ 4) / K ^ 3 % K) &&& 1152921504606846975)) (by kernel_rfl) (run_and64 (a := ((v * 2 ^ 32 + low) % K ^ 4) / K ^ 3 % K) (b := 1152921504606846975) (by kernel_rfl) (by kernel_rfl) (Nat.mod_lt _ (by decide)) (by decide)) ?_
    refine wl_val (.pointer (some ⟨q7, 3, none⟩)) (by kernel_rfl) (run_addr_arr (q := q7) (a := 3) Tryd.underlying95 (fun w => Tryd.sizeOf22 w) (by kernel_rfl) (by kernel_rfl) (by decide)) ?_
    refine wl_put (k := .u64) (z := (((((v * 2 ^ 32 + low) % K ^ 4) / K ^ 3 % K) &&& 1152921504606846975 : Nat) : Int)) h18 0 rfl 3 (by rw [el_size]; decide) (by kernel_rfl) (fun w => Tryd.sizeOf22 w) (by kernel_rfl) (by kernel_rfl) ?_
    intro w19 h20
    have h21 : HA w [(q7, 95, el ((v * 2 ^ 32 + low) % K ^ 4 % 2 ^ 252)), (q4, 95, el 0), (q1, 95, el v)] w19 := (by rw [← el_put _ _ _ _ (top_word _ (Nat.mod_lt _ (by decide)))]; exact h20)
    clear h20
    refine wl_nil ?_
    refine then_at (F := ⟨(arr v :: iN .u32 low :: pt q1 :: un :: pt q4 :: iN .u64 ((v / K ^ 3 % K) / 2 ^ 28) :: pt q7 :: iN .u64 (nx v low 4) :: u10 8 :: u10 9 :: un :: un :: un :: un :: .pointer (some ⟨q1, 3, none⟩) :: iN .u64 (v / K ^ 3 % K) :: iN .u64 ((v / K ^ 3 % K) / 2 ^ 28) :: iN .u32 low :: iN .u64 low :: arr v :: iN .i64 4 :: .bool false :: u10 22 :: u10 23 :: u10 24 :: u10 25 :: u10 26 :: u10 27 :: u10 28 :: u10 29 :: u10 30 :: u10 31 :: u10 32 :: .pointer (some ⟨q7, 3, none⟩) :: iN .u64 (((v * 2 ^ 32 + low) % K ^ 4) / K ^ 3 % K) :: iN .u64 ((((v * 2 ^ 32 + low) % K ^ 4) / K ^ 3 % K) &&& 1152921504606846975) :: .pointer (some ⟨q7, 3, none⟩) :: List.replicate 22 un).toArray, []⟩) (by kernel_rfl) ?_
    refine wp_seq ?_
    -- region 11
    refine wl_region ?_
    refine wl_val (arr Ext) (by kernel_rfl) (run_load_at (by kernel_rfl) (VV.below h21.old VV.big).x) ?_
    refine wl_val (iN .u64 ((v / K ^ 3 % K) / 2 ^ 28)) (by kernel_rfl) (by kernel_rfl) ?_
    refine wl_val (arr ((v / K ^ 3 % K) / 2 ^ 28)) (by kernel_rfl) (run_build1 (a := (v / K ^ 3 % K) / 2 ^ 28) (by kernel_rfl) hab1) ?_
    refine wl_call (v := .tuple #[arr (Ext * (v / K ^ 3 % K / 2 ^ 28) / K ^ 4), arr (Ext * (v / K ^ 3 % K / 2 ^ 28))]) h21 (by kernel_rfl) enter76 #[arr Ext, arr ((v / K ^ 3 % K) / 2 ^ 28)] (by kernel_rfl) (product_any Ext (v / K ^ 3 % K / 2 ^ 28) Ext_lt hab w19) ?_
    intro w22 h23
    refine wl_val (.tuple #[arr (Ext * (v / K ^ 3 % K / 2 ^ 28) / K ^ 4), arr (Ext * (v / K ^ 3 % K / 2 ^ 28))]) (by kernel_rfl) (by kernel_rfl) ?_
    refine wl_val (arr (Ext * (v / K ^ 3 % K / 2 ^ 28) / K ^ 4)) (by kernel_rfl) (by kernel_rfl) ?_
    refine wl_val (arr (Ext * (v / K ^ 3 % K / 2 ^ 28))) (by kernel_rfl) (by kernel_rfl) ?_
    refine wl_make h23 95 (by kernel_rfl) run_alloc34 ?_
    intro q24 w25 h26
    refine wl_make h26 95 (by kernel_rfl) run_alloc34 ?_
    intro q27 w28 h29
    refine wl_fill (c' := el (Ext * (v / K ^ 3 % K / 2 ^ 28) / K ^ 4)) h29 1 rfl (by kernel_rfl) (by kernel_rfl) (by kernel_rfl) (el_sz _ _) info34 (one_cl _ _) ?_
    intro w30 (h31 : HA w [(q27, 95, el 0), (q24, 95, el (Ext * (v / K ^ 3 % K / 2 ^ 28) / K ^ 4)), (q7, 95, el ((v * 2 ^ 32 + low) % K ^ 4 % 2 ^ 252)), (q4, 95, el 0), (q1, 95, el v)] w30)
    refine wl_fill (c' := el (Ext * (v / K ^ 3 % K / 2 ^ 28))) h31 0 rfl (by kernel_rfl) (by kernel_rfl) (by kernel_rfl) (el_sz _ _) info34 (one_cl _ _) ?_
    intro w32 (h33 : HA w [(q27, 95, el (Ext * (v / K ^ 3 % K / 2 ^ 28))), (q24, 95, el (Ext * (v / K ^ 3 % K / 2 ^ 28) / K ^ 4)), (q7, 95, el ((v * 2 ^ 32 + low) % K ^ 4 % 2 ^ 252)), (q4, 95, el 0), (q1, 95, el v)] w32)
    refine wl_nil ?_
    have h34 : HA w [(q27, 95, el O), (q24, 95, el (Ext * (v / K ^ 3 % K / 2 ^ 28) / K ^ 4)), (q7, 95, el R), (q4, 95, el 0), (q1, 95, el v)] w32 := by rw [hRe, hOe]; exact h33
    refine then_at (F := ⟨(arr v :: iN .u32 low :: pt q1 :: un :: pt q4 :: iN .u64 ((v / K ^ 3 % K) / 2 ^ 28) :: pt q7 :: iN .u64 (nx v low 4) :: u10 8 :: u10 9 :: pt q24 :: pt q27 :: un :: un :: .pointer (some ⟨q1, 3, none⟩) :: iN .u64 (v / K ^ 3 % K) :: iN .u64 ((v / K ^ 3 % K) / 2 ^ 28) :: iN .u32 low :: iN .u64 low :: arr v :: iN .i64 4 :: .bool false :: u10 22 :: u10 23 :: u10 24 :: u10 25 :: u10 26 :: u10 27 :: u10 28 :: u10 29 :: u10 30 :: u10 31 :: u10 32 :: .pointer (some ⟨q7, 3, none⟩) :: iN .u64 (((v * 2 ^ 32 + low) % K ^ 4) / K ^ 3 % K) :: iN .u64 ((((v * 2 ^ 32 + low) % K ^ 4) / K ^ 3 % K) &&& 1152921504606846975) :: .pointer (some ⟨q7, 3, none⟩) :: .tuple #[arr (Ext * (v / K ^ 3 % K / 2 ^ 28) / K ^ 4), arr (Ext * (v / K ^ 3 % K / 2 ^ 28))] :: arr Ext :: iN .u64 ((v / K ^ 3 % K) / 2 ^ 28) :: arr ((v / K ^ 3 % K) / 2 ^ 28) :: .tuple #[arr (Ext * (v / K ^ 3 % K / 2 ^ 28) / K ^ 4), arr (Ext * (v / K ^ 3 % K / 2 ^ 28))] :: arr (Ext * (v / K ^ 3 % K / 2 ^ 28) / K ^ 4) :: arr (Ext * (v / K ^ 3 % K / 2 ^ 28)) :: List.replicate 15 un).toArray, []⟩) (by kernel_rfl) ?_
    refine wp_seq ?_
    by_cases hlt : R < O
    · -- region 12
      refine wl_region ?_
      refine wl_load h34 2 rfl (by kernel_rfl) (by kernel_rfl) Tryd.underlying95 rfl info34 ?_
      refine wl_load h34 0 rfl (by kernel_rfl) (by kernel_rfl) Tryd.underlying95 rfl info34 ?_
      refine wl_call (v := .tuple #[arr ((R + K ^ 4 - O) % K ^ 4), iN .u64 1]) h34 (by kernel_rfl) enter112 #[arr R, arr O] (by kernel_rfl) (difference_yes R O hR hO hlt w32) ?_
      intro w35 h36
      refine wl_val (.tuple #[arr ((R + K ^ 4 - O) % K ^ 4), iN .u64 1]) (by kernel_rfl) (by kernel_rfl) ?_
      refine wl_val (arr ((R + K ^ 4 - O) % K ^ 4)) (by kernel_rfl) (by kernel_rfl) ?_
      refine wl_val (iN .u64 1) (by kernel_rfl) (by kernel_rfl) ?_
      refine wl_make h36 95 (by kernel_rfl) run_alloc34 ?_
      intro q37 w38 h39
      refine wl_fill (c' := el ((R + K ^ 4 - O) % K ^ 4)) h39 0 rfl (by kernel_rfl) (by kernel_rfl) (by kernel_rfl) (el_sz _ _) info34 (one_cl _ _) ?_
      intro w40 (h41 : HA w [(q37, 95, el ((R + K ^ 4 - O) % K ^ 4)), (q27, 95, el O), (q24, 95, el (Ext * (v / K ^ 3 % K / 2 ^ 28) / K ^ 4)), (q7, 95, el R), (q4, 95, el 0), (q1, 95, el v)] w40)
      refine wl_val (iN .u64 1) (by kernel_rfl) (by kernel_rfl) ?_
      refine wl_nil ?_
      refine then_at (F := ⟨(arr v :: iN .u32 low :: pt q1 :: un :: pt q4 :: iN .u64 ((v / K ^ 3 % K) / 2 ^ 28) :: pt q7 :: iN .u64 (nx v low 4) :: u10 8 :: u10 9 :: pt q24 :: pt q27 :: pt q37 :: iN .u64 1 :: .pointer (some ⟨q1, 3, none⟩) :: iN .u64 (v / K ^ 3 % K) :: iN .u64 ((v / K ^ 3 % K) / 2 ^ 28) :: iN .u32 low :: iN .u64 low :: arr v :: iN .i64 4 :: .bool false :: u10 22 :: u10 23 :: u10 24 :: u10 25 :: u10 26 :: u10 27 :: u10 28 :: u10 29 :: u10 30 :: u10 31 :: u10 32 :: .pointer (some ⟨q7, 3, none⟩) :: iN .u64 (((v * 2 ^ 32 + low) % K ^ 4) / K ^ 3 % K) :: iN .u64 ((((v * 2 ^ 32 + low) % K ^ 4) / K ^ 3 % K) &&& 1152921504606846975) :: .pointer (some ⟨q7, 3, none⟩) :: .tuple #[arr (Ext * (v / K ^ 3 % K / 2 ^ 28) / K ^ 4), arr (Ext * (v / K ^ 3 % K / 2 ^ 28))] :: arr Ext :: iN .u64 ((v / K ^ 3 % K) / 2 ^ 28) :: arr ((v / K ^ 3 % K) / 2 ^ 28) :: .tuple #[arr (Ext * (v / K ^ 3 % K / 2 ^ 28) / K ^ 4), arr (Ext * (v / K ^ 3 % K / 2 ^ 28))] :: arr (Ext * (v / K ^ 3 % K / 2 ^ 28) / K ^ 4) :: arr (Ext * (v / K ^ 3 % K / 2 ^ 28)) :: .tuple #[arr ((R + K ^ 4 - O) % K ^ 4), iN .u64 1] :: arr R :: arr O :: .tuple #[arr ((R + K ^ 4 - O) % K ^ 4), iN .u64 1] :: arr ((R + K ^ 4 - O) % K ^ 4) :: iN .u64 1 :: List.replicate 9 un).toArray, []⟩) (by kernel_rfl) ?_
      refine wp_seq ?_
      refine wp_seq ?_
      -- region 13
      refine wl_region ?_
      refine wl_val (iN .u64 1) (by kernel_rfl) (by kernel_rfl) ?_
      refine wl_val (.bool true) (by kernel_rfl) (run_nei (k := .u64) (a := 1) (b := 0) (by kernel_rfl) (by kernel_rfl) true (by decide)) ?_
      refine wl_nil ?_
      refine then_at (F := ⟨(arr v :: iN .u32 low :: pt q1 :: un :: pt q4 :: iN .u64 ((v / K ^ 3 % K) / 2 ^ 28) :: pt q7 :: iN .u64 (nx v low 4) :: u10 8 :: u10 9 :: pt q24 :: pt q27 :: pt q37 :: iN .u64 1 :: .pointer (some ⟨q1, 3, none⟩) :: iN .u64 (v / K ^ 3 % K) :: iN .u64 ((v / K ^ 3 % K) / 2 ^ 28) :: iN .u32 low :: iN .u64 low :: arr v :: iN .i64 4 :: .bool false :: u10 22 :: u10 23 :: u10 24 :: u10 25 :: u10 26 :: u10 27 :: u10 28 :: u10 29 :: u10 30 :: u10 31 :: u10 32 :: .pointer (some ⟨q7, 3, none⟩) :: iN .u64 (((v * 2 ^ 32 + low) % K ^ 4) / K ^ 3 % K) :: iN .u64 ((((v * 2 ^ 32 + low) % K ^ 4) / K ^ 3 % K) &&& 1152921504606846975) :: .pointer (some ⟨q7, 3, none⟩) :: .tuple #[arr (Ext * (v / K ^ 3 % K / 2 ^ 28) / K ^ 4), arr (Ext * (v / K ^ 3 % K / 2 ^ 28))] :: arr Ext :: iN .u64 ((v / K ^ 3 % K) / 2 ^ 28) :: arr ((v / K ^ 3 % K) / 2 ^ 28) :: .tuple #[arr (Ext * (v / K ^ 3 % K / 2 ^ 28) / K ^ 4), arr (Ext * (v / K ^ 3 % K / 2 ^ 28))] :: arr (Ext * (v / K ^ 3 % K / 2 ^ 28) / K ^ 4) :: arr (Ext * (v / K ^ 3 % K / 2 ^ 28)) :: .tuple #[arr ((R + K ^ 4 - O) % K ^ 4), iN .u64 1] :: arr R :: arr O :: .tuple #[arr ((R + K ^ 4 - O) % K ^ 4), iN .u64 1] :: arr ((R + K ^ 4 - O) % K ^ 4) :: iN .u64 1 :: iN .u64 1 :: .bool true :: List.replicate 7 un).toArray, []⟩) (by kernel_rfl) ?_
      refine wp_cond_true (by kernel_rfl) ?_
      -- region 14
      refine wl_region ?_
      refine wl_load h41 0 rfl (by kernel_rfl) (by kernel_rfl) Tryd.underlying95 rfl info34 ?_
      refine wl_val (arr Lq) (by kernel_rfl) (run_load_at (by kernel_rfl) (VV.below h41.old VV.big).l) ?_
      refine wl_call (v := .tuple #[arr ((((R + K ^ 4 - O) % K ^ 4) + Lq) % K ^ 4), iN .u64 ((((R + K ^ 4 - O) % K ^ 4) + Lq) / K ^ 4)]) h41 (by kernel_rfl) enter74 #[arr ((R + K ^ 4 - O) % K ^ 4), arr Lq] (by kernel_rfl) (sum_of _ Lq (Nat.mod_lt _ (by decide)) Lq_lt w40) ?_
      intro w42 h43
      refine wl_val (.tuple #[arr ((((R + K ^ 4 - O) % K ^ 4) + Lq) % K ^ 4), iN .u64 ((((R + K ^ 4 - O) % K ^ 4) + Lq) / K ^ 4)]) (by kernel_rfl) (by kernel_rfl) ?_
      refine wl_val (arr ((((R + K ^ 4 - O) % K ^ 4) + Lq) % K ^ 4)) (by kernel_rfl) (by kernel_rfl) ?_
      refine wl_val (iN .u64 ((((R + K ^ 4 - O) % K ^ 4) + Lq) / K ^ 4)) (by kernel_rfl) (by kernel_rfl) ?_
      refine wl_fill (c' := el ((((R + K ^ 4 - O) % K ^ 4) + Lq) % K ^ 4)) h43 0 rfl (by kernel_rfl) (by kernel_rfl) (by kernel_rfl) (el_sz _ _) info34 (one_cl _ _) ?_
      intro w44 (h45 : HA w [(q37, 95, el ((((R + K ^ 4 - O) % K ^ 4) + Lq) % K ^ 4)), (q27, 95, el O), (q24, 95, el (Ext * (v / K ^ 3 % K / 2 ^ 28) / K ^ 4)), (q7, 95, el R), (q4, 95, el 0), (q1, 95, el v)] w44)
      refine wl_nil ?_
      refine then_at (F := ⟨(arr v :: iN .u32 low :: pt q1 :: un :: pt q4 :: iN .u64 ((v / K ^ 3 % K) / 2 ^ 28) :: pt q7 :: iN .u64 (nx v low 4) :: u10 8 :: u10 9 :: pt q24 :: pt q27 :: pt q37 :: iN .u64 1 :: .pointer (some ⟨q1, 3, none⟩) :: iN .u64 (v / K ^ 3 % K) :: iN .u64 ((v / K ^ 3 % K) / 2 ^ 28) :: iN .u32 low :: iN .u64 low :: arr v :: iN .i64 4 :: .bool false :: u10 22 :: u10 23 :: u10 24 :: u10 25 :: u10 26 :: u10 27 :: u10 28 :: u10 29 :: u10 30 :: u10 31 :: u10 32 :: .pointer (some ⟨q7, 3, none⟩) :: iN .u64 (((v * 2 ^ 32 + low) % K ^ 4) / K ^ 3 % K) :: iN .u64 ((((v * 2 ^ 32 + low) % K ^ 4) / K ^ 3 % K) &&& 1152921504606846975) :: .pointer (some ⟨q7, 3, none⟩) :: .tuple #[arr (Ext * (v / K ^ 3 % K / 2 ^ 28) / K ^ 4), arr (Ext * (v / K ^ 3 % K / 2 ^ 28))] :: arr Ext :: iN .u64 ((v / K ^ 3 % K) / 2 ^ 28) :: arr ((v / K ^ 3 % K) / 2 ^ 28) :: .tuple #[arr (Ext * (v / K ^ 3 % K / 2 ^ 28) / K ^ 4), arr (Ext * (v / K ^ 3 % K / 2 ^ 28))] :: arr (Ext * (v / K ^ 3 % K / 2 ^ 28) / K ^ 4) :: arr (Ext * (v / K ^ 3 % K / 2 ^ 28)) :: .tuple #[arr ((R + K ^ 4 - O) % K ^ 4), iN .u64 1] :: arr R :: arr O :: .tuple #[arr ((R + K ^ 4 - O) % K ^ 4), iN .u64 1] :: arr ((R + K ^ 4 - O) % K ^ 4) :: iN .u64 1 :: iN .u64 1 :: .bool true :: .tuple #[arr ((((R + K ^ 4 - O) % K ^ 4) + Lq) % K ^ 4), iN .u64 ((((R + K ^ 4 - O) % K ^ 4) + Lq) / K ^ 4)] :: arr ((R + K ^ 4 - O) % K ^ 4) :: arr Lq :: .tuple #[arr ((((R + K ^ 4 - O) % K ^ 4) + Lq) % K ^ 4), iN .u64 ((((R + K ^ 4 - O) % K ^ 4) + Lq) / K ^ 4)] :: arr ((((R + K ^ 4 - O) % K ^ 4) + Lq) % K ^ 4) :: iN .u64 ((((R + K ^ 4 - O) % K ^ 4) + Lq) / K ^ 4) :: List.replicate 1 un).toArray, []⟩) (by kernel_rfl) ?_
      refine wp_seq ?_
      -- region 15
      refine wl_region ?_
      refine wl_load h45 0 rfl (by kernel_rfl) (by kernel_rfl) Tryd.underlying95 rfl info34 ?_
      refine wl_fill (c' := el ((((R + K ^ 4 - O) % K ^ 4) + Lq) % K ^ 4)) h45 4 rfl (by kernel_rfl) (by kernel_rfl) (by kernel_rfl) (el_sz _ _) info34 (one_cl _ _) ?_
      intro w46 (h47 : HA w [(q37, 95, el ((((R + K ^ 4 - O) % K ^ 4) + Lq) % K ^ 4)), (q27, 95, el O), (q24, 95, el (Ext * (v / K ^ 3 % K / 2 ^ 28) / K ^ 4)), (q7, 95, el R), (q4, 95, el ((((R + K ^ 4 - O) % K ^ 4) + Lq) % K ^ 4)), (q1, 95, el v)] w46)
      refine wl_nil ?_
      refine then_at (F := ⟨(arr v :: iN .u32 low :: pt q1 :: un :: pt q4 :: iN .u64 ((v / K ^ 3 % K) / 2 ^ 28) :: pt q7 :: iN .u64 (nx v low 4) :: u10 8 :: u10 9 :: pt q24 :: pt q27 :: pt q37 :: iN .u64 1 :: .pointer (some ⟨q1, 3, none⟩) :: iN .u64 (v / K ^ 3 % K) :: iN .u64 ((v / K ^ 3 % K) / 2 ^ 28) :: iN .u32 low :: iN .u64 low :: arr v :: iN .i64 4 :: .bool false :: u10 22 :: u10 23 :: u10 24 :: u10 25 :: u10 26 :: u10 27 :: u10 28 :: u10 29 :: u10 30 :: u10 31 :: u10 32 :: .pointer (some ⟨q7, 3, none⟩) :: iN .u64 (((v * 2 ^ 32 + low) % K ^ 4) / K ^ 3 % K) :: iN .u64 ((((v * 2 ^ 32 + low) % K ^ 4) / K ^ 3 % K) &&& 1152921504606846975) :: .pointer (some ⟨q7, 3, none⟩) :: .tuple #[arr (Ext * (v / K ^ 3 % K / 2 ^ 28) / K ^ 4), arr (Ext * (v / K ^ 3 % K / 2 ^ 28))] :: arr Ext :: iN .u64 ((v / K ^ 3 % K) / 2 ^ 28) :: arr ((v / K ^ 3 % K) / 2 ^ 28) :: .tuple #[arr (Ext * (v / K ^ 3 % K / 2 ^ 28) / K ^ 4), arr (Ext * (v / K ^ 3 % K / 2 ^ 28))] :: arr (Ext * (v / K ^ 3 % K / 2 ^ 28) / K ^ 4) :: arr (Ext * (v / K ^ 3 % K / 2 ^ 28)) :: .tuple #[arr ((R + K ^ 4 - O) % K ^ 4), iN .u64 1] :: arr R :: arr O :: .tuple #[arr ((R + K ^ 4 - O) % K ^ 4), iN .u64 1] :: arr ((R + K ^ 4 - O) % K ^ 4) :: iN .u64 1 :: iN .u64 1 :: .bool true :: .tuple #[arr ((((R + K ^ 4 - O) % K ^ 4) + Lq) % K ^ 4), iN .u64 ((((R + K ^ 4 - O) % K ^ 4) + Lq) / K ^ 4)] :: arr ((R + K ^ 4 - O) % K ^ 4) :: arr Lq :: .tuple #[arr ((((R + K ^ 4 - O) % K ^ 4) + Lq) % K ^ 4), iN .u64 ((((R + K ^ 4 - O) % K ^ 4) + Lq) / K ^ 4)] :: arr ((((R + K ^ 4 - O) % K ^ 4) + Lq) % K ^ 4) :: iN .u64 ((((R + K ^ 4 - O) % K ^ 4) + Lq) / K ^ 4) :: arr ((((R + K ^ 4 - O) % K ^ 4) + Lq) % K ^ 4) :: List.replicate 0 un).toArray, []⟩) (by kernel_rfl) ?_
      refine wp_ret ?_
      repeat first | refine then_ret ?_ | refine block_ret ?_
      exact bodyPost_ret (v := arr ((((R + K ^ 4 - O) % K ^ 4) + Lq) % K ^ 4) ) (res_cell (p := 4) (by kernel_rfl) (by kernel_rfl) (h47.get 4 rfl) Tryd.underlying95 rfl info34) rfl ⟨by rw [hyes hlt], h47.old⟩
    · -- region 12
      refine wl_region ?_
      refine wl_load h34 2 rfl (by kernel_rfl) (by kernel_rfl) Tryd.underlying95 rfl info34 ?_
      refine wl_load h34 0 rfl (by kernel_rfl) (by kernel_rfl) Tryd.underlying95 rfl info34 ?_
      refine wl_call (v := .tuple #[arr ((R + K ^ 4 - O) % K ^ 4), iN .u64 0]) h34 (by kernel_rfl) enter112 #[arr R, arr O] (by kernel_rfl) (difference_no R O hR hO hlt w32) ?_
      intro w48 h49
      refine wl_val (.tuple #[arr ((R + K ^ 4 - O) % K ^ 4), iN .u64 0]) (by kernel_rfl) (by kernel_rfl) ?_
      refine wl_val (arr ((R + K ^ 4 - O) % K ^ 4)) (by kernel_rfl) (by kernel_rfl) ?_
      refine wl_val (iN .u64 0) (by kernel_rfl) (by kernel_rfl) ?_
      refine wl_make h49 95 (by kernel_rfl) run_alloc34 ?_
      intro q50 w51 h52
      refine wl_fill (c' := el ((R + K ^ 4 - O) % K ^ 4)) h52 0 rfl (by kernel_rfl) (by kernel_rfl) (by kernel_rfl) (el_sz _ _) info34 (one_cl _ _) ?_
      intro w53 (h54 : HA w [(q50, 95, el ((R + K ^ 4 - O) % K ^ 4)), (q27, 95, el O), (q24, 95, el (Ext * (v / K ^ 3 % K / 2 ^ 28) / K ^ 4)), (q7, 95, el R), (q4, 95, el 0), (q1, 95, el v)] w53)
      refine wl_val (iN .u64 0) (by kernel_rfl) (by kernel_rfl) ?_
      refine wl_nil ?_
      refine then_at (F := ⟨(arr v :: iN .u32 low :: pt q1 :: un :: pt q4 :: iN .u64 ((v / K ^ 3 % K) / 2 ^ 28) :: pt q7 :: iN .u64 (nx v low 4) :: u10 8 :: u10 9 :: pt q24 :: pt q27 :: pt q50 :: iN .u64 0 :: .pointer (some ⟨q1, 3, none⟩) :: iN .u64 (v / K ^ 3 % K) :: iN .u64 ((v / K ^ 3 % K) / 2 ^ 28) :: iN .u32 low :: iN .u64 low :: arr v :: iN .i64 4 :: .bool false :: u10 22 :: u10 23 :: u10 24 :: u10 25 :: u10 26 :: u10 27 :: u10 28 :: u10 29 :: u10 30 :: u10 31 :: u10 32 :: .pointer (some ⟨q7, 3, none⟩) :: iN .u64 (((v * 2 ^ 32 + low) % K ^ 4) / K ^ 3 % K) :: iN .u64 ((((v * 2 ^ 32 + low) % K ^ 4) / K ^ 3 % K) &&& 1152921504606846975) :: .pointer (some ⟨q7, 3, none⟩) :: .tuple #[arr (Ext * (v / K ^ 3 % K / 2 ^ 28) / K ^ 4), arr (Ext * (v / K ^ 3 % K / 2 ^ 28))] :: arr Ext :: iN .u64 ((v / K ^ 3 % K) / 2 ^ 28) :: arr ((v / K ^ 3 % K) / 2 ^ 28) :: .tuple #[arr (Ext * (v / K ^ 3 % K / 2 ^ 28) / K ^ 4), arr (Ext * (v / K ^ 3 % K / 2 ^ 28))] :: arr (Ext * (v / K ^ 3 % K / 2 ^ 28) / K ^ 4) :: arr (Ext * (v / K ^ 3 % K / 2 ^ 28)) :: .tuple #[arr ((R + K ^ 4 - O) % K ^ 4), iN .u64 0] :: arr R :: arr O :: .tuple #[arr ((R + K ^ 4 - O) % K ^ 4), iN .u64 0] :: arr ((R + K ^ 4 - O) % K ^ 4) :: iN .u64 0 :: List.replicate 9 un).toArray, []⟩) (by kernel_rfl) ?_
      refine wp_seq ?_
      refine wp_seq ?_
      -- region 13
      refine wl_region ?_
      refine wl_val (iN .u64 0) (by kernel_rfl) (by kernel_rfl) ?_
      refine wl_val (.bool false) (by kernel_rfl) (run_nei (k := .u64) (a := 0) (b := 0) (by kernel_rfl) (by kernel_rfl) false (by decide)) ?_
      refine wl_nil ?_
      refine then_at (F := ⟨(arr v :: iN .u32 low :: pt q1 :: un :: pt q4 :: iN .u64 ((v / K ^ 3 % K) / 2 ^ 28) :: pt q7 :: iN .u64 (nx v low 4) :: u10 8 :: u10 9 :: pt q24 :: pt q27 :: pt q50 :: iN .u64 0 :: .pointer (some ⟨q1, 3, none⟩) :: iN .u64 (v / K ^ 3 % K) :: iN .u64 ((v / K ^ 3 % K) / 2 ^ 28) :: iN .u32 low :: iN .u64 low :: arr v :: iN .i64 4 :: .bool false :: u10 22 :: u10 23 :: u10 24 :: u10 25 :: u10 26 :: u10 27 :: u10 28 :: u10 29 :: u10 30 :: u10 31 :: u10 32 :: .pointer (some ⟨q7, 3, none⟩) :: iN .u64 (((v * 2 ^ 32 + low) % K ^ 4) / K ^ 3 % K) :: iN .u64 ((((v * 2 ^ 32 + low) % K ^ 4) / K ^ 3 % K) &&& 1152921504606846975) :: .pointer (some ⟨q7, 3, none⟩) :: .tuple #[arr (Ext * (v / K ^ 3 % K / 2 ^ 28) / K ^ 4), arr (Ext * (v / K ^ 3 % K / 2 ^ 28))] :: arr Ext :: iN .u64 ((v / K ^ 3 % K) / 2 ^ 28) :: arr ((v / K ^ 3 % K) / 2 ^ 28) :: .tuple #[arr (Ext * (v / K ^ 3 % K / 2 ^ 28) / K ^ 4), arr (Ext * (v / K ^ 3 % K / 2 ^ 28))] :: arr (Ext * (v / K ^ 3 % K / 2 ^ 28) / K ^ 4) :: arr (Ext * (v / K ^ 3 % K / 2 ^ 28)) :: .tuple #[arr ((R + K ^ 4 - O) % K ^ 4), iN .u64 0] :: arr R :: arr O :: .tuple #[arr ((R + K ^ 4 - O) % K ^ 4), iN .u64 0] :: arr ((R + K ^ 4 - O) % K ^ 4) :: iN .u64 0 :: iN .u64 0 :: .bool false :: List.replicate 7 un).toArray, []⟩) (by kernel_rfl) ?_
      refine wp_cond_false (by kernel_rfl) ?_
      refine wp_skip ?_
      refine then_at (F := ⟨(arr v :: iN .u32 low :: pt q1 :: un :: pt q4 :: iN .u64 ((v / K ^ 3 % K) / 2 ^ 28) :: pt q7 :: iN .u64 (nx v low 4) :: u10 8 :: u10 9 :: pt q24 :: pt q27 :: pt q50 :: iN .u64 0 :: .pointer (some ⟨q1, 3, none⟩) :: iN .u64 (v / K ^ 3 % K) :: iN .u64 ((v / K ^ 3 % K) / 2 ^ 28) :: iN .u32 low :: iN .u64 low :: arr v :: iN .i64 4 :: .bool false :: u10 22 :: u10 23 :: u10 24 :: u10 25 :: u10 26 :: u10 27 :: u10 28 :: u10 29 :: u10 30 :: u10 31 :: u10 32 :: .pointer (some ⟨q7, 3, none⟩) :: iN .u64 (((v * 2 ^ 32 + low) % K ^ 4) / K ^ 3 % K) :: iN .u64 ((((v * 2 ^ 32 + low) % K ^ 4) / K ^ 3 % K) &&& 1152921504606846975) :: .pointer (some ⟨q7, 3, none⟩) :: .tuple #[arr (Ext * (v / K ^ 3 % K / 2 ^ 28) / K ^ 4), arr (Ext * (v / K ^ 3 % K / 2 ^ 28))] :: arr Ext :: iN .u64 ((v / K ^ 3 % K) / 2 ^ 28) :: arr ((v / K ^ 3 % K) / 2 ^ 28) :: .tuple #[arr (Ext * (v / K ^ 3 % K / 2 ^ 28) / K ^ 4), arr (Ext * (v / K ^ 3 % K / 2 ^ 28))] :: arr (Ext * (v / K ^ 3 % K / 2 ^ 28) / K ^ 4) :: arr (Ext * (v / K ^ 3 % K / 2 ^ 28)) :: .tuple #[arr ((R + K ^ 4 - O) % K ^ 4), iN .u64 0] :: arr R :: arr O :: .tuple #[arr ((R + K ^ 4 - O) % K ^ 4), iN .u64 0] :: arr ((R + K ^ 4 - O) % K ^ 4) :: iN .u64 0 :: iN .u64 0 :: .bool false :: List.replicate 7 un).toArray, []⟩) (by kernel_rfl) ?_
      refine wp_seq ?_
      -- region 15
      refine wl_region ?_
      refine wl_load h54 0 rfl (by kernel_rfl) (by kernel_rfl) Tryd.underlying95 rfl info34 ?_
      refine wl_fill (c' := el ((R + K ^ 4 - O) % K ^ 4)) h54 4 rfl (by kernel_rfl) (by kernel_rfl) (by kernel_rfl) (el_sz _ _) info34 (one_cl _ _) ?_
      intro w55 (h56 : HA w [(q50, 95, el ((R + K ^ 4 - O) % K ^ 4)), (q27, 95, el O), (q24, 95, el (Ext * (v / K ^ 3 % K / 2 ^ 28) / K ^ 4)), (q7, 95, el R), (q4, 95, el ((R + K ^ 4 - O) % K ^ 4)), (q1, 95, el v)] w55)
      refine wl_nil ?_
      refine then_at (F := ⟨(arr v :: iN .u32 low :: pt q1 :: un :: pt q4 :: iN .u64 ((v / K ^ 3 % K) / 2 ^ 28) :: pt q7 :: iN .u64 (nx v low 4) :: u10 8 :: u10 9 :: pt q24 :: pt q27 :: pt q50 :: iN .u64 0 :: .pointer (some ⟨q1, 3, none⟩) :: iN .u64 (v / K ^ 3 % K) :: iN .u64 ((v / K ^ 3 % K) / 2 ^ 28) :: iN .u32 low :: iN .u64 low :: arr v :: iN .i64 4 :: .bool false :: u10 22 :: u10 23 :: u10 24 :: u10 25 :: u10 26 :: u10 27 :: u10 28 :: u10 29 :: u10 30 :: u10 31 :: u10 32 :: .pointer (some ⟨q7, 3, none⟩) :: iN .u64 (((v * 2 ^ 32 + low) % K ^ 4) / K ^ 3 % K) :: iN .u64 ((((v * 2 ^ 32 + low) % K ^ 4) / K ^ 3 % K) &&& 1152921504606846975) :: .pointer (some ⟨q7, 3, none⟩) :: .tuple #[arr (Ext * (v / K ^ 3 % K / 2 ^ 28) / K ^ 4), arr (Ext * (v / K ^ 3 % K / 2 ^ 28))] :: arr Ext :: iN .u64 ((v / K ^ 3 % K) / 2 ^ 28) :: arr ((v / K ^ 3 % K) / 2 ^ 28) :: .tuple #[arr (Ext * (v / K ^ 3 % K / 2 ^ 28) / K ^ 4), arr (Ext * (v / K ^ 3 % K / 2 ^ 28))] :: arr (Ext * (v / K ^ 3 % K / 2 ^ 28) / K ^ 4) :: arr (Ext * (v / K ^ 3 % K / 2 ^ 28)) :: .tuple #[arr ((R + K ^ 4 - O) % K ^ 4), iN .u64 0] :: arr R :: arr O :: .tuple #[arr ((R + K ^ 4 - O) % K ^ 4), iN .u64 0] :: arr ((R + K ^ 4 - O) % K ^ 4) :: iN .u64 0 :: iN .u64 0 :: .bool false :: un :: un :: un :: un :: un :: un :: arr ((R + K ^ 4 - O) % K ^ 4) :: List.replicate 0 un).toArray, []⟩) (by kernel_rfl) ?_
      refine wp_ret ?_
      repeat first | refine then_ret ?_ | refine block_ret ?_
      exact bodyPost_ret (v := arr ((R + K ^ 4 - O) % K ^ 4) ) (res_cell (p := 4) (by kernel_rfl) (by kernel_rfl) (h56.get 4 rfl) Tryd.underlying95 rfl info34) rfl ⟨by rw [hno hlt], h56.old⟩
end Go.Proofs.YtpaendmdcdeemaaDoor.Sc

namespace Go.Proofs.YtpaendmdcdeemaaDoor.Sc
open Go.RowKit Num

attribute [local go_sem] Oper.semAt_some

section
variable {P : Program} {ops : Array Oper} {Q : Exit → Act → World → Prop} {a : Act} {w : World} {rest : List Oper} {dst : Option Tmp} {ty ty' : TypeId} {pos : String} {aft : Array Edge} {gd : Option (Nat × Bool)}
theorem wl_callb {f : FuncId} {xs : Array Operand} {ats : Array TypeId} {R : Ending → World → Prop} (hw : Region.wanted ⟨dst, .call { callee := .value (.func f), args := xs, argTypes := ats }, ty, pos, aft, gd⟩ (yielded ops a.tmps) = true)
    (hr : ∀ args w, (callFunc f args).run P w = .ok (.enter f args) w) (args : Array Value) (ha : #[] ++ xs.map a.eval ++ #[] = args) (hc : Calls P f args w R)
    (h : ∀ e w', R e w' → ∃ v, e = .returned v ∧ WL P ops Q rest (a.put dst v) w') : WL P ops Q (⟨dst, .call { callee := .value (.func f), args := xs, argTypes := ats }, ty, pos, aft, gd⟩ :: rest) a w := by
  refine ⟨?_⟩
  unfold wpList
  rw [if_pos hw]
  refine .inl ?_
  unfold Oper.wp
  rw [execOp_call_go, ha, hr]
  refine hc.mono ?_
  intro e w' he
  obtain ⟨v, rfl, hl⟩ := h e w' he
  exact hl.out
theorem wl_world {o : Oper} {w' : World} (v : Value) (hw : Region.wanted o (yielded ops a.tmps) = true) (hr : (execOp a.eval o).run P w = .ok (.value v) w') (h : WL P ops Q rest (a.put o.dst v) w') : WL P ops Q (o :: rest) a w := by
  refine ⟨?_⟩
  unfold wpList
  rw [if_pos hw]
  refine .inl ?_
  unfold Oper.wp
  rw [hr]
  exact h.out
theorem wl_skips {o : Oper} {w' : World} (hw : Region.wanted o (yielded ops a.tmps) = true) (hr : (execOp a.eval o).run P w = .ok .skip w') (h : WL P ops Q rest (a.put o.dst undef) w') : WL P ops Q (o :: rest) a w := by
  refine ⟨?_⟩
  unfold wpList
  rw [if_pos hw]
  refine .inl ?_
  unfold Oper.wp
  rw [hr]
  exact h.out
end
/-- 32 bits as a rune, and back -/
def lowb (z : Int) : Nat := (z % 4294967296).toNat
theorem lowb_lt (z : Int) : lowb z < 2 ^ 32 := by unfold lowb; omega
theorem run_bits {ρ : Operand → Value} {x : Operand} {z : Int} {w : World} {dst : Option Tmp} {ty : TypeId} {pos : String} {aft : Array Edge} {gd : Option (Nat × Bool)} (hx : ρ x = .int .i32 z) :
    (execOp ρ ⟨dst, .convert 21 30 x, ty, pos, aft, gd⟩).run Tryd.prog w = .ok (.value (iN .u32 (lowb z))) w := by
  have h : IntKind.u32.wrap z = (lowb z : Int) := by unfold lowb; rw [IntKind.wrap_u32']; omega
  simp only [execOp, hx, iN]
  simpa [go_sem, Tryd.underlying21, Tryd.underlying30] using h

theorem grown_set {w w1 : World} {q : Nat} {vs : List Value} (hb : Below w.heap.size w w1) : w.grownBy (w1.setCells q 0 vs) (some q) := by
  have key : ∀ (vs : List Value) (o : Nat) (w2 : World), w.grownBy w2 (some q) → w.grownBy (w2.setCells q o vs) (some q) := by
    intro vs
    induction vs with
    | nil => intro o w2 h; exact h
    | cons v r ih =>
      intro o w2 h
      refine ih (o + 1) _ ⟨h.os, h.tape, h.output, by simpa using h.size, fun k hk hne => ?_⟩
      rw [Below.heap_setCell w2 ⟨q, o, none⟩ v k (fun e => hne (by rw [e]))]
      exact h.block k hk hne
  exact key vs 0 w1 ⟨hb.os, hb.tape, hb.output, hb.size, fun k hk _ => hb.block k hk⟩

set_option maxRecDepth 100000 in
theorem move_any (q v : Nat) (z : Int) (hv : v < Lq) (w : World) (VV : Vars w) (hB : Blk w q 95 (el v)) :
    Calls Tryd.prog 102 #[.int .i32 z, .pointer (some ⟨q, 0, none⟩)] w fun e w' => (∃ x, e = .returned x) ∧ Blk w' q 95 (el ((v * 2 ^ 32 + lowb z) % Lq)) ∧ w.grownBy w' (some q) := by
  go_enter Tryd.func102, Tryd.ntmps102
  refine wl_region ?_
  refine wl_val (arr v) (by kernel_rfl) (run_load_blk (by kernel_rfl) hB Tryd.underlying95 rfl info34) ?_
  refine wl_val (.int .i32 z) (by kernel_rfl) (by kernel_rfl) ?_
  refine wl_val (iN .u32 (lowb z)) (by kernel_rfl) (run_bits (by kernel_rfl)) ?_
  refine wl_callb (by kernel_rfl) enter103 #[arr v, iN .u32 (lowb z)] (by kernel_rfl) (moved_any v (lowb z) hv (lowb_lt z) w VV) ?_
  rintro e w1 ⟨rfl, hb⟩
  refine ⟨_, rfl, ?_⟩
  have hB1 := hB.keep hb
  refine wl_skips (by kernel_rfl) (run_store_blk (c' := el ((v * 2 ^ 32 + lowb z) % Lq)) (by kernel_rfl) (by kernel_rfl) hB1 (el_sz _ _) info34 (one_el _)) ?_
  refine wl_nil ?_
  exact ⟨rfl, .tuple #[], by kernel_rfl, ⟨_, rfl⟩, hB1.whole (el_sz _ _), grown_set hb⟩

set_option maxRecDepth 100000 in
theorem downward_any (n : Nat) (w : World) :
    Calls Tryd.prog 104 #[arr n] w fun e w' => ∃ q, e = .returned (.func (.func 113) #[] #[.pointer (some ⟨q, 0, none⟩)]) ∧ q = w.heap.size ∧ w' = w.alloc (.cells (el n) 95) := by
  go_enter Tryd.func104, Tryd.ntmps104
  refine wp_seq ?_
  refine wl_region ?_
  refine wl_world (.pointer (some ⟨w.heap.size, 0, none⟩)) (by kernel_rfl) (run_box34 (c := el n) (by kernel_rfl)) ?_
  refine wl_val .nilFunc (by kernel_rfl) (by kernel_rfl) ?_
  refine wl_nil ?_
  refine then_at (F := ⟨#[arr n, .pointer (some ⟨w.heap.size, 0, none⟩), .nilFunc, undef], []⟩) (by kernel_rfl) ?_
  refine wp_seq ?_
  refine wl_region ?_
  refine wl_val (.func (.func 113) #[] #[.pointer (some ⟨w.heap.size, 0, none⟩)]) (by kernel_rfl) (by kernel_rfl) ?_
  refine wl_val (.func (.func 113) #[] #[.pointer (some ⟨w.heap.size, 0, none⟩)]) (by kernel_rfl) (by kernel_rfl) ?_
  refine wl_nil ?_
  refine then_at (F := ⟨#[arr n, .pointer (some ⟨w.heap.size, 0, none⟩), .func (.func 113) #[] #[.pointer (some ⟨w.heap.size, 0, none⟩)], .func (.func 113) #[] #[.pointer (some ⟨w.heap.size, 0, none⟩)]], []⟩) (by kernel_rfl) ?_
  refine wp_ret ?_
  exact bodyPost_ret (v := .func (.func 113) #[] #[.pointer (some ⟨w.heap.size, 0, none⟩)]) (by kernel_rfl) rfl ⟨_, rfl, rfl, rfl⟩
attribute [local go_sem] Oper.semAt_some

abbrev Wd := { x : Nat // x < K }
def wd (n j : Nat) : Wd := ⟨n / K ^ j % K, Nat.mod_lt _ (by decide)⟩
/-- what has come when k rounds are over -/
def upto (n k : Nat) : List Wd := (List.range k).map fun j => wd n (3 - j)
theorem upto_succ (n k : Nat) : upto n (k + 1) = upto n k ++ [wd n (3 - k)] := by
  unfold upto
  rw [List.range_succ, List.map_append]
  rfl
theorem upto_len (n k : Nat) : (upto n k).length = k := by simp [upto]
def encW (x : Wd) : Array Value := #[.int .u64 (x.1 : Int)]

set_option maxHeartbeats 2000000 in
theorem down_stops (m bv n : Nat) (w : World) (hB : Blk w bv 95 (el n)) :
    SeqStopsK Fence.wide m Tryd.prog 113 #[.pointer (some ⟨bv, 0, none⟩)] encW (fun W W' => W'.heap[bv]? = W.heap[bv]?) (fun xs => xs = upto n 4) (fun _ => True) 4 w := by
  intro l J Jx W hW hJ hJx hY h0
  have hBW : Blk W bv 95 (el n) := by
    unfold Blk
    rw [hW.block bv hB.lt]
    exact hB
  refine callsIn_of_wp Tryd.func113 rfl trivial ?_
  simp only [Tryd.ntmps113, List.size_toArray, List.length_cons, List.length_nil, Nat.reduceAdd, Nat.reduceSub, Array.replicate_succ, Array.replicate_zero, List.push_toArray, List.append_toArray, List.nil_append, List.cons_append]
  gi_wp2
  gi_loopw [4] (fun i wr => ∃ k : Nat, k ≤ 4 ∧ i = .int .i64 (k : Int) ∧ J (upto n k) wr ∧ Blk wr bv 95 (el n)) (fun i _ => 4 - (intOf i).toNat)
  case atStart => exact ⟨0, by omega, rfl, h0, hBW⟩
  case round =>
    obtain ⟨k, hk, rfl, hJk, hBk⟩ := hrel
    by_cases hlt : k < 4
    · obtain ⟨fn, tmps, assign, body, hy, hR⟩ := hY (upto n k) (wd n (3 - k)) wr hJk (by rw [upto_len]; exact hlt)
      have hcell := (hBk.cell (3 - k)).trans (el_get n (3 - k) (by omega))
      rw [← upto_succ] at hR
      have hx : encW (wd n (3 - k)) = #[.int .u64 ((n / K ^ (3 - k) % K : Nat) : Int)] := rfl
      rw [hx] at hy
      generalize n / K ^ (3 - k) % K = x at hcell hy
      have hk0 : (0 : Int) ≤ (k : Int) := by omega
      have hk1 : (k : Int) < 4 := by omega
      simp only [iN] at hcell
      gi_wp2
      refine ⟨fun h => absurd h (by simp [Fence.wide]), hR.mono ?_⟩
      rintro e W3 (⟨rfl, hJ3, hk3⟩ | ⟨rfl, hJx3⟩)
      · have hB3 : Blk W3 bv 95 (el n) := by unfold Blk; rw [hk3]; exact hBk
        gi_wp2
        go_roundw
        case rel => exact ⟨k + 1, by omega, int_eq (by omega), hJ3, hB3⟩
        case measure => simp [intOf]; omega
      · gi_wp2
        refine bodyPost_ret (results_none rfl _ _ _) rfl ?_
        exact ⟨⟨_, rfl⟩, .inr ⟨_, trivial, hJx3⟩⟩
    · obtain rfl : k = 4 := by omega
      gi_wp2
      go_end0
      exact ⟨⟨_, rfl⟩, .inl ⟨_, rfl, hJk⟩⟩
/-- numbers that lie one behind the other -/
structure Parts (w : World) (q : Nat) (ps : List Nat) : Prop where
  lt : q < w.heap.size
  at' : ∀ k n, ps[k]? = some n → w.rangeAt q (4 * k) (el n).toList
theorem Parts.below {w w' : World} {q B : Nat} {ps : List Nat} (h : Parts w q ps) (hb : Below B w w') (hB : q < B) : Parts w' q ps :=
  ⟨Nat.lt_of_lt_of_le h.lt hb.size, fun k n hk j v hv => by
    have := h.at' k n hk j v hv
    rw [hb.cell (p := ⟨q, 4 * k + j, none⟩) hB]
    exact this⟩
section
variable {ρ : Operand → Value} {x y : Operand} {w : World} {dst : Option Tmp} {ty : TypeId} {pos : String} {aft : Array Edge} {gd : Option (Nat × Bool)}
theorem run_part_addr {q n k : Nat} (hx : ρ x = .slice (some ⟨q, 0, none⟩) n n) (hy : ρ y = iN .i64 k) (hk : k < n) : (execOp ρ ⟨dst, .indexAddr 120 x y, ty, pos, aft, gd⟩).run Tryd.prog w = .ok (.value (.pointer (some ⟨q, 4 * k, none⟩))) w := by
  simp only [execOp, hx, hy, iN]
  have hu : ∀ w, (underlying 120).run Tryd.prog w = .ok (.slice 95) w := fun w => by simp [underlying, go_sem, Tryd.underlying120]
  simp [go_sem, Instr.indexAt, hu, Tryd.sizeOf95, hk, Addr.add, Nat.mul_comm]
  intro h
  omega
theorem run_part_load {q k n : Nat} {ps : List Nat} (hx : ρ x = .pointer (some ⟨q, 4 * k, none⟩)) (h : Parts w q ps) (hk : ps[k]? = some n) : (execOp ρ ⟨dst, .load 95 x, ty, pos, aft, gd⟩).run Tryd.prog w = .ok (.value (arr n)) w := by
  simp only [execOp, hx, Instr.loadAt, Instr.sureAddr, Sem.run_bind, Sem.run_pure, Result.andThen_ok, run_loadVar_mid w q (4 * k) 95 (el n).toList _ (h.at' k n hk) Tryd.underlying95 rfl (by rw [Array.length_toList]; exact info34)]
  rfl
theorem run_len_parts {q n : Nat} (hx : ρ x = .slice (some ⟨q, 0, none⟩) n n) : (execOp ρ ⟨dst, .call { callee := .builtin .len, args := #[x], argTypes := #[120] }, ty, pos, aft, gd⟩).run Tryd.prog w = .ok (.value (iN .i64 n)) w := by
  simp only [execOp, iN]
  go_simp
theorem run_alloc50 : (execOp ρ ⟨dst, .alloc 122, ty, pos, aft, gd⟩).run Tryd.prog w = .ok (.value (.pointer (some ⟨w.heap.size, 0, none⟩))) (w.alloc (.cells #[.nilFunc] 122)) := by
  simp only [execOp]
  go_simp
/-- a function is put into its variable -/
theorem wl_putf {P : Program} {ops : Array Oper} {Q : Exit → Act → World → Prop} {a : Act} {rest : List Oper} {w0 : World} {L : List (Nat × TypeId × Array Value)} {T : TypeId} {q : Nat} {t : TypeId} {c : Array Value} {f : Fn} {b c' : Array Value} (H : HA w0 L w) (i : Nat) (hi : L[i]? = some (q, t, c)) (hj : 0 < c.size)
    (hw : Region.wanted ⟨dst, .store T x y, ty, pos, aft, gd⟩ (yielded ops a.tmps) = true) (hs : ∀ w, (sizeOf T).run P w = .ok 1 w) (hx : a.eval x = .pointer (some ⟨q, 0, none⟩)) (hy : a.eval y = .func f b c')
    (h : ∀ w', HA w0 (L.set i (q, t, c.setIfInBounds 0 (.func f b c'))) w' → WL P ops Q rest (a.put dst undef) w') : WL P ops Q (⟨dst, .store T x y, ty, pos, aft, gd⟩ :: rest) a w := by
  have hc : (w.cell? ⟨q, 0, none⟩).isSome = true := by rw [(H.get i hi).cell 0]; simp [hj]
  have hf := (H.get i hi).free 0 hj
  obtain ⟨u, hu⟩ := Option.isSome_iff_exists.1 hc
  have e : (execOp a.eval ⟨dst, .store T x y, ty, pos, aft, gd⟩).run P w = .ok .skip (w.setCell ⟨q, 0, none⟩ (.func f b c')) := by
    simp only [execOp, hx, hy]
    simp [go_sem, hs, run_store P w ⟨q, 0, none⟩ (.func f b c') .plain rfl, hu, hf]
  refine wl_skips hw e (h _ ?_)
  exact H.put i hi 0 _
end

/-- what lies elsewhere does not matter -/
theorem _root_.Go.Proofs.YtpaendmdcdeemaaDoor.HA.grown {w0 A B : World} {L : List (Nat × TypeId × Array Value)} {row : Option Nat} (h : HA w0 L A) (hg : A.grownBy B row) (hr : ∀ r, row = some r → w0.heap.size ≤ r ∧ ∃ o : Obj, A.heap[r]? = some o ∧ o.isCells = false) : HA w0 L B :=
  ⟨h.old.grown hg h.old.size (fun k hk => (hr k hk).1), fun x hx => by
    have hb := h.blk x hx
    unfold Blk
    rw [hg.block x.1 hb.lt (fun e => by
      obtain ⟨_, o, ho, hc⟩ := hr x.1 e.symm
      obtain ⟨f, hf, _⟩ := hb
      rw [hf] at ho
      cases ho
      cases hc)]
    exact hb, h.own, h.nd⟩
/-- one block is turned -/
theorem _root_.Go.Proofs.YtpaendmdcdeemaaDoor.HA.turn {w0 A B : World} {L : List (Nat × TypeId × Array Value)} {q : Nat} {t : TypeId} {c c' : Array Value} (h : HA w0 L A) (i : Nat) (hi : L[i]? = some (q, t, c)) (hg : A.grownBy B (some q)) (hb : Blk B q t c') : HA w0 (L.set i (q, t, c')) B := by
  have hlt : i < L.length := (List.getElem?_eq_some_iff.1 hi).1
  have hmap : (L.set i (q, t, c')).map (·.1) = L.map (·.1) := by
    rw [List.map_set]
    refine List.ext_getElem? fun m => ?_
    by_cases hm : i = m
    · subst hm
      rw [List.getElem?_set_self (by simpa using hlt), List.getElem?_map, hi]
      rfl
    · rw [List.getElem?_set_ne hm]
  have hq := h.own _ (List.mem_of_getElem? hi)
  refine ⟨h.old.grown hg h.old.size (fun k hk => by cases hk; exact hq), fun x hx => ?_, fun x hx => ?_, by rw [hmap]; exact h.nd⟩
  · obtain ⟨m, hm⟩ := List.mem_iff_getElem?.1 hx
    by_cases him : i = m
    · subst him
      rw [List.getElem?_set_self hlt] at hm
      obtain rfl := Option.some.inj hm
      exact hb
    · rw [List.getElem?_set_ne him] at hm
      have hx1 := h.get m hm
      unfold Blk
      rw [hg.block x.1 hx1.lt (fun e => him ?_)]
      · exact hx1
      · have h1 : (L.map (·.1))[i]? = some q := by rw [List.getElem?_map, hi]; rfl
        have h2 : (L.map (·.1))[m]? = some q := by rw [List.getElem?_map, hm]; exact e
        exact (List.getElem?_inj (by simpa using hlt) h.nd).1 (h1.trans h2.symm)
  · have : x.1 ∈ L.map (·.1) := by rw [← hmap]; exact List.mem_map.2 ⟨x, hx, rfl⟩
    obtain ⟨y, hy, e⟩ := List.mem_map.1 this
    rw [← e]
    exact h.own y hy
theorem _root_.Go.Proofs.YtpaendmdcdeemaaDoor.HA.tail {w0 w : World} {x : Nat × TypeId × Array Value} {L : List (Nat × TypeId × Array Value)} (h : HA w0 (x :: L) w) : HA w0 L w :=
  ⟨h.old, fun y hy => h.blk y (.tail _ hy), fun y hy => h.own y (.tail _ hy), (List.nodup_cons.1 h.nd).2⟩
/-- the marks of loops that are over -/
structure Marks (w0 : World) (rs : List Nat) (w : World) : Prop where
  nd : rs.Nodup
  own : ∀ r ∈ rs, w0.heap.size ≤ r
  is : ∀ r ∈ rs, w.heap[r]? = some (.deferred (some []))
def mkd (rs : List Nat) : List Deferred := rs.map fun r => { target := .collected r, args := #[] }
theorem Marks.nil (w0 w : World) : Marks w0 [] w := ⟨List.nodup_nil, fun _ h => (by cases h), fun _ h => (by cases h)⟩
theorem Marks.lt {w0 w : World} {rs : List Nat} (h : Marks w0 rs w) {r : Nat} (hr : r ∈ rs) : r < w.heap.size := (Array.getElem?_eq_some_iff.1 (h.is r hr)).1
theorem Marks.keep {w0 w w' : World} {rs : List Nat} (h : Marks w0 rs w) (hb : ∀ r ∈ rs, w'.heap[r]? = w.heap[r]?) : Marks w0 rs w' := ⟨h.nd, h.own, fun r hr => (hb r hr).trans (h.is r hr)⟩
theorem Marks.below {w0 w w' : World} {rs : List Nat} (h : Marks w0 rs w) (hb : Below w.heap.size w w') : Marks w0 rs w' := h.keep fun r hr => hb.block r (h.lt hr)
theorem _root_.Go.Proofs.YtpaendmdcdeemaaDoor.HA.apart {w0 w : World} {L : List (Nat × TypeId × Array Value)} (h : HA w0 L w) {rs : List Nat} (hm : Marks w0 rs w) {r : Nat} (hr : r ∈ rs) {x : Nat × TypeId × Array Value} (hx : x ∈ L) : r ≠ x.1 := fun e => by
  have h1 := hm.is r hr
  obtain ⟨f, hf, _⟩ := h.blk x hx
  rw [e, hf] at h1
  cases h1
theorem Marks.turn {w0 w w' : World} {rs : List Nat} {L : List (Nat × TypeId × Array Value)} {q : Nat} {t : TypeId} {c : Array Value} (h : Marks w0 rs w) (H : HA w0 L w) (i : Nat) (hi : L[i]? = some (q, t, c)) (hg : w.grownBy w' (some q)) : Marks w0 rs w' :=
  h.keep fun r hr => hg.block r (h.lt hr) (fun e => H.apart h hr (List.mem_of_getElem? hi) (Option.some.inj e))
theorem Marks.more {w0 w : World} {rs : List Nat} {D B : Nat} (h : Marks w0 rs w) (hB : ∀ r ∈ rs, r < B) (hD : B ≤ D) (h0 : w0.heap.size ≤ B) (hd : w.heap[D]? = some (.deferred (some []))) : Marks w0 (D :: rs) w :=
  ⟨List.nodup_cons.2 ⟨fun hm => by have := hB D hm; omega, h.nd⟩, fun r hr => by
    rcases List.mem_cons.1 hr with rfl | hr
    · omega
    · exact h.own r hr, fun r hr => by
    rcases List.mem_cons.1 hr with rfl | hr
    · exact hd
    · exact h.is r hr⟩
theorem leaves_marks {F : Fence} {n : Nat} {P : Program} {fn : Func} {tmps : Array Value} {R : Ending → World → Prop} {w0 : World} {L : List (Nat × TypeId × Array Value)} (hR : ∀ w, HA w0 L w → ∃ v, (results fn tmps).run P w = .ok v w ∧ R (.returned v) w) :
    ∀ (rs : List Nat) (w : World), HA w0 L w → Marks w0 rs w → LeavesInM F n P fn tmps R (mkd rs) .returning w := by
  intro rs
  induction rs with
  | nil => intro w H _; exact hR w H
  | cons r rs ih =>
    intro w H M
    have hr := M.is r (.head _)
    have hnd := List.nodup_cons.1 M.nd
    refine ⟨by simp, .inl ⟨r, _, rfl, run_takeDeferred hr, ih _ ?_ ?_⟩⟩
    · exact H.grown (grownBy_putObj' w r _) (fun k hk => by cases hk; exact ⟨M.own r (.head _), _, hr, rfl⟩)
    · exact ⟨hnd.2, fun k hk => M.own k (.tail _ hk), fun k hk => by
        rw [World.putObj_heap_other (fun e => hnd.1 (by rw [← e]; exact hk))]
        exact M.is k (.tail _ hk)⟩

section
variable {P : Program} {ops : Array Oper} {Q : Exit → Act → World → Prop} {a : Act} {rest : List Oper} {w w0 : World} {L : List (Nat × TypeId × Array Value)} {rs : List Nat} {dst : Option Tmp} {ty ty' : TypeId} {pos : String} {aft : Array Edge} {gd : Option (Nat × Bool)}
theorem wl_makeM {c : Array Value} {o : Oper} (H : HA w0 L w) (M : Marks w0 rs w) (t : TypeId) (hw : Region.wanted o (yielded ops a.tmps) = true) (hr : (execOp a.eval o).run P w = .ok (.value (.pointer (some ⟨w.heap.size, 0, none⟩))) (w.alloc (.cells c t)))
    (h : ∀ q w', HA w0 ((q, t, c) :: L) w' → Marks w0 rs w' → WL P ops Q rest (a.put o.dst (.pointer (some ⟨q, 0, none⟩))) w') : WL P ops Q (o :: rest) a w :=
  wl_world _ hw hr (h _ _ (H.make t c) (M.below ((Below.refl _ _).alloc (Nat.le_refl _) _)))
theorem wl_fillM {x y : Operand} {q : Nat} {t : TypeId} {c c' : Array Value} (H : HA w0 L w) (M : Marks w0 rs w) (i : Nat) (hi : L[i]? = some (q, t, c)) (hw : Region.wanted ⟨dst, .store ty x y, ty', pos, aft, gd⟩ (yielded ops a.tmps) = true)
    (hx : a.eval x = .pointer (some ⟨q, 0, none⟩)) (hy : a.eval y = .agg c') (hs : c'.size = c.size) (hz : (P.info? ty).map (·.size) = some c'.size) (h1 : c'.all (·.oneCell') = true)
    (h : ∀ w', HA w0 (L.set i (q, t, c')) w' → Marks w0 rs w' → WL P ops Q rest (a.put dst undef) w') : WL P ops Q (⟨dst, .store ty x y, ty', pos, aft, gd⟩ :: rest) a w :=
  wl_skips hw (run_store_blk hx hy (H.get i hi) hs hz h1) (h _ (H.fill i hi hs) (M.turn H i hi (grown_set (Below.refl _ _))))
end
/-- words behind one another, modulo the order -/
def stt (v : Nat) (xs : List Wd) : Nat := xs.foldl (fun v x => (v * K + x.1) % Lq) v
theorem stt_snoc (v : Nat) (xs : List Wd) (x : Wd) : stt v (xs ++ [x]) = (stt v xs * K + x.1) % Lq := by
  unfold stt
  rw [List.foldl_append, List.foldl_cons, List.foldl_nil]
theorem foldl_lt {α : Type} (f : Nat → α → Nat) (M : Nat) (hf : ∀ v x, f v x < M) : ∀ (l : List α) (v : Nat), v < M → l.foldl f v < M
  | [], _, h => h
  | x :: l, v, _ => foldl_lt f M hf l (f v x) (hf v x)
theorem stt_lt (v : Nat) (hv : v < Lq) (xs : List Wd) : stt v xs < Lq := foldl_lt _ Lq (fun _ _ => Nat.mod_lt _ Lq_pos) xs v hv
theorem mod_in (M a B b : Nat) : (a % M * B + b) % M = (a * B + b) % M := by rw [Nat.add_mod, Nat.mod_mul_mod, ← Nat.add_mod]
theorem mod_four (M B v a b c d : Nat) : (((((v * B + a) % M) * B + b) % M * B + c) % M * B + d) % M = ((((v * B + a) * B + b) * B + c) * B + d) % M := by
  rw [mod_in M (((v * B + a) % M) * B + b) B c, mod_in M (((v * B + a) % M * B + b) * B + c) B d]
  have h1 : (((v * B + a) % M * B + b) * B + c) % M = (((v * B + a) * B + b) * B + c) % M := by
    rw [← mod_in M ((v * B + a) % M * B + b) B c, mod_in M (v * B + a) B b, mod_in]
  rw [← mod_in M (((v * B + a) % M * B + b) * B + c) B d, h1, mod_in]
theorem low_hi (x : Nat) (hx : x < 18446744073709551616) : lowb (wrap32 ((x : Int) / 4294967296)) = x / 4294967296 := by
  unfold lowb wrap32
  omega
theorem low_lo (x : Nat) : lowb (wrap32 (x : Int)) = x % 4294967296 := by
  unfold lowb wrap32
  omega
theorem two_moves (v x : Nat) (hx : x < 18446744073709551616) : ((v * 2 ^ 32 + lowb (wrap32 ((x : Int) / 4294967296))) % Lq * 2 ^ 32 + lowb (wrap32 (x : Int))) % Lq = (v * K + x) % Lq := by
  rw [low_hi x hx, low_lo x, mod_in]
  have e : (v * 2 ^ 32 + x / 4294967296) * 2 ^ 32 + x % 4294967296 = v * K + x := by show _ = v * 18446744073709551616 + x; omega
  rw [e]
theorem four_digits (B v p : Nat) (hB : 0 < B) (hp : p < B ^ 4) : (((v * B + p / B ^ 3 % B) * B + p / B ^ 2 % B) * B + p / B ^ 1 % B) * B + p / B ^ 0 % B = v * B ^ 4 + p := by
  have h3 : p / B ^ 3 % B = p / B ^ 3 := Nat.mod_eq_of_lt (by rw [Nat.div_lt_iff_lt_mul (Nat.pow_pos hB), Nat.mul_comm, ← Nat.pow_succ]; exact hp)
  have e1 := Nat.mod_add_div p (B ^ 3)
  have e2 := mod_step B p 2
  have e3 := mod_step B p 1
  have e4 := mod_step B p 0
  rw [Nat.pow_zero, Nat.mod_one, Nat.mul_one, Nat.zero_add] at e4
  rw [e4] at e3
  rw [e3] at e2
  rw [e2] at e1
  rw [h3, Nat.pow_zero]
  generalize p / B ^ 3 = a at *
  generalize p / B ^ 2 % B = b at *
  generalize p / B ^ 1 % B = c at *
  generalize p / 1 % B = d at *
  have f4 : B ^ 4 = B * B * B * B := by simp [Nat.pow_succ]
  have f3 : B ^ 3 = B * B * B := by simp [Nat.pow_succ]
  have f2 : B ^ 2 = B * B := by simp [Nat.pow_succ]
  rw [f3, f2, Nat.pow_one] at e1
  rw [f4, ← e1]
  simp only [Nat.add_mul, Nat.mul_assoc, Nat.add_assoc]
  have g1 : B * (B * (B * a)) = a * (B * (B * B)) := by rw [Nat.mul_comm a]; simp only [Nat.mul_assoc]
  omega
theorem stt_part (v p : Nat) (hp : p < K ^ 4) : stt v (upto p 4) = (v * K ^ 4 + p) % Lq := by
  rw [upto_succ, upto_succ, upto_succ, upto_succ, stt_snoc, stt_snoc, stt_snoc, stt_snoc]
  have e0 : stt v (upto p 0) = v := rfl
  rw [e0, mod_four, ← four_digits K v p (by decide) hp]
  rfl
/-- the number of parts, the highest first, modulo the order -/
def mval (ps : List Nat) : Nat := ps.foldl (fun v p => (v * K ^ 4 + p) % Lq) 0
theorem mval_take (ps : List Nat) (k n : Nat) (h : ps[k]? = some n) : mval (ps.take (k + 1)) = (mval (ps.take k) * K ^ 4 + n) % Lq := by
  unfold mval
  rw [List.take_add_one, h, List.foldl_append, Option.toList_some, List.foldl_cons, List.foldl_nil]
theorem mval_lt (ps : List Nat) : mval ps < Lq := foldl_lt _ Lq (fun _ _ => Nat.mod_lt _ Lq_pos) ps 0 Lq_pos
attribute [local go_sem] Oper.semAt_some

theorem own_parts {w0 w : World} {L : List Wd → List (Nat × TypeId × Array Value)} {M : List (Nat × TypeId × Array Value)} {rs : List Nat} (h : HA w0 M w) (m : Marks w0 rs w) : OwnFrom w.heap.size (fun pre W => HA w0 (L pre) W ∧ Marks w0 rs W) :=
  fun s A B row hs hg hr => ⟨hs.1.grown hg (fun r e => ⟨Nat.le_trans h.old.size (hr r e).1, (hr r e).2⟩), hs.2.keep fun r hrs => hg.block r (hs.2.lt hrs) (fun e => by
    have h1 := (hr r e.symm).1
    have h2 := m.lt hrs
    omega)⟩

set_option linter.unusedVariables false in
set_option maxRecDepth 100000 in
set_option maxHeartbeats 4000000 in
theorem modulo_any (ps : List Nat) (hps : ∀ p ∈ ps, p < K ^ 4) (hlen : ps.length < 1000) (qs : Nat) (w : World) (VV : Vars w) (hP : Parts w qs ps) :
    Calls Tryd.prog 75 #[.slice (some ⟨qs, 0, none⟩) ps.length ps.length] w fun e w' => e = .returned (arr (mval ps)) ∧ Below w.heap.size w w' := by
  have H0 := HA.start w
  refine (callsIn_wide (n := 9)).1 (callsIn_of_wp_marks (F := Fence.wide) Tryd.func75 rfl trivial ?_)
  refine wpIn_wide.2 ?_
  refine wp_seq ?_
  -- region 0
  refine wl_region ?_
  refine wl_make H0 95 (by kernel_rfl) run_alloc34 ?_
  intro q1 w2 h3
  refine wl_nil ?_
  refine then_at (F := ⟨#[.slice (some ⟨qs, 0, none⟩) ps.length ps.length, undef, .pointer (some ⟨q1, 0, none⟩), undef, undef, undef, undef, undef, undef, undef, undef, undef, undef, undef, undef, undef, undef, undef, undef, undef, undef, undef, undef, undef, undef, undef, undef, undef, undef], []⟩) (by kernel_rfl) ?_
  refine wp_seq ?_
  -- region 1
  refine wl_region ?_
  refine wl_make h3 95 (by kernel_rfl) run_alloc34 ?_
  intro q4 w5 h6
  refine wl_nil ?_
  refine then_at (F := ⟨#[.slice (some ⟨qs, 0, none⟩) ps.length ps.length, undef, .pointer (some ⟨q1, 0, none⟩), .pointer (some ⟨q4, 0, none⟩), undef, undef, undef, undef, undef, undef, undef, undef, undef, undef, undef, undef, undef, undef, undef, undef, undef, undef, undef, undef, undef, undef, undef, undef, undef], []⟩) (by kernel_rfl) ?_
  refine wp_seq ?_
  -- region 2
  refine wl_region ?_
  refine wl_val (.func (.func 102) #[] #[.pointer (some ⟨q4, 0, none⟩)]) (by kernel_rfl) (by kernel_rfl) ?_
  refine wl_make h6 122 (by kernel_rfl) run_alloc50 ?_
  intro q7 w8 h9
  refine wl_putf (f := .func 102) (b := #[]) (c' := #[.pointer (some ⟨q4, 0, none⟩)]) h9 0 rfl (by decide) (by kernel_rfl) (fun w => Tryd.sizeOf122 w) (by kernel_rfl) (by kernel_rfl) ?_
  intro w10 (h11 : HA w [(q7, 122, #[.func (.func 102) #[] #[.pointer (some ⟨q4, 0, none⟩)]]), (q4, 95, el 0), (q1, 95, el 0)] w10)
  refine wl_nil ?_
  refine then_at (F := ⟨#[.slice (some ⟨qs, 0, none⟩) ps.length ps.length, undef, .pointer (some ⟨q1, 0, none⟩), .pointer (some ⟨q4, 0, none⟩), .pointer (some ⟨q7, 0, none⟩), undef, undef, undef, .func (.func 102) #[] #[.pointer (some ⟨q4, 0, none⟩)], undef, undef, undef, undef, undef, undef, undef, undef, undef, undef, undef, undef, undef, undef, undef, undef, undef, undef, undef, undef], []⟩) (by kernel_rfl) ?_
  refine wp_seq ?_
  refine wp_seq ?_
  -- region 3
  refine wl_region ?_
  refine wl_val (.slice (some ⟨qs, 0, none⟩) ps.length ps.length) (by kernel_rfl) (by kernel_rfl) ?_
  refine wl_val (iN .i64 ps.length) (by kernel_rfl) (run_len_parts (q := qs) (by kernel_rfl)) ?_
  refine wl_val (iN .i64 0) (by kernel_rfl) (by kernel_rfl) ?_
  refine wl_nil ?_
  refine then_at (F := ⟨#[.slice (some ⟨qs, 0, none⟩) ps.length ps.length, undef, .pointer (some ⟨q1, 0, none⟩), .pointer (some ⟨q4, 0, none⟩), .pointer (some ⟨q7, 0, none⟩), undef, undef, undef, .func (.func 102) #[] #[.pointer (some ⟨q4, 0, none⟩)], .slice (some ⟨qs, 0, none⟩) ps.length ps.length, iN .i64 ps.length, iN .i64 0, undef, undef, undef, undef, undef, undef, undef, undef, undef, undef, undef, undef, undef, undef, undef, undef, undef], []⟩) (by kernel_rfl) ?_
  refine wp_block ?_
  refine wp_count (fun k A w' => ∃ (u : Nat → Value) (rs : List Nat), A = ⟨#[.slice (some ⟨qs, 0, none⟩) ps.length ps.length, undef, .pointer (some ⟨q1, 0, none⟩), .pointer (some ⟨q4, 0, none⟩), .pointer (some ⟨q7, 0, none⟩), undef, u 6, u 7, .func (.func 102) #[] #[.pointer (some ⟨q4, 0, none⟩)], .slice (some ⟨qs, 0, none⟩) ps.length ps.length, iN .i64 ps.length, iN .i64 k, u 12, u 13, u 14, u 15, u 16, u 17, u 18, u 19, u 20, u 21, u 22, u 23, u 24, u 25, u 26, u 27, undef], mkd rs⟩ ∧ HA w [(q7, 122, #[.func (.func 102) #[] #[.pointer (some ⟨q4, 0, none⟩)]]), (q4, 95, el (mval (ps.take k))), (q1, 95, el 0)] w' ∧ Marks w rs w') ps.length ?_ ?_ ?_
  · exact ⟨fun ii => (([(6, undef), (7, undef), (12, undef), (13, undef), (14, undef), (15, undef), (16, undef), (17, undef), (18, undef), (19, undef), (20, undef), (21, undef), (22, undef), (23, undef), (24, undef), (25, undef), (26, undef), (27, undef)] : List (Nat × Value)).find? (·.1 == ii)).elim undef (·.2), [], by kernel_rfl, h11, Marks.nil _ _⟩
  · rintro k hk _ w1 ⟨u, rs, rfl, g1, m1⟩
    obtain ⟨p, hp⟩ : ∃ p, ps[k]? = some p := ⟨ps[k], List.getElem?_eq_getElem hk⟩
    have hpK := hps p (List.mem_of_getElem? hp)
    have hvt := mval_lt (ps.take k)
    have hvn := mval_take ps k p hp
    refine wp_seq ?_
    -- region 4
    refine wl_region ?_
    refine wl_val (.bool true) (by kernel_rfl) (run_lss (k := .i64) (a := k) (b := ps.length) (by kernel_rfl) (by kernel_rfl) true (decide_eq_true hk)) ?_
    refine wl_nil ?_
    refine then_at (F := ⟨#[.slice (some ⟨qs, 0, none⟩) ps.length ps.length, undef, .pointer (some ⟨q1, 0, none⟩), .pointer (some ⟨q4, 0, none⟩), .pointer (some ⟨q7, 0, none⟩), undef, u 6, u 7, .func (.func 102) #[] #[.pointer (some ⟨q4, 0, none⟩)], .slice (some ⟨qs, 0, none⟩) ps.length ps.length, iN .i64 ps.length, iN .i64 k, .bool true, u 13, u 14, u 15, u 16, u 17, u 18, u 19, u 20, u 21, u 22, u 23, u 24, u 25, u 26, u 27, undef], mkd rs⟩) (by kernel_rfl) ?_
    refine wp_seq ?_
    refine wp_cond_true (by kernel_rfl) ?_
    refine wp_skip ?_
    refine then_at (F := ⟨#[.slice (some ⟨qs, 0, none⟩) ps.length ps.length, undef, .pointer (some ⟨q1, 0, none⟩), .pointer (some ⟨q4, 0, none⟩), .pointer (some ⟨q7, 0, none⟩), undef, u 6, u 7, .func (.func 102) #[] #[.pointer (some ⟨q4, 0, none⟩)], .slice (some ⟨qs, 0, none⟩) ps.length ps.length, iN .i64 ps.length, iN .i64 k, .bool true, u 13, u 14, u 15, u 16, u 17, u 18, u 19, u 20, u 21, u 22, u 23, u 24, u 25, u 26, u 27, undef], mkd rs⟩) (by kernel_rfl) ?_
    refine wp_seq ?_
    refine wp_block ?_
    refine wp_seq ?_
    -- region 5
    refine wl_region ?_
    refine wl_val (.pointer (some ⟨qs, 4 * k, none⟩)) (by kernel_rfl) (run_part_addr (q := qs) (n := ps.length) (k := k) (by kernel_rfl) (by kernel_rfl) hk) ?_
    refine wl_val (arr p) (by kernel_rfl) (run_part_load (q := qs) (k := k) (by kernel_rfl) (hP.below g1.old hP.lt) hp) ?_
    refine wl_makeM g1 m1 95 (by kernel_rfl) run_alloc34 ?_
    intro q12 w13 h14 m15
    refine wl_fillM (c' := el p) h14 m15 0 rfl (by kernel_rfl) (by kernel_rfl) (by kernel_rfl) (el_sz _ _) info34 (one_cl _ _) ?_
    intro w16 (h17 : HA w [(q12, 95, el p), (q7, 122, #[.func (.func 102) #[] #[.pointer (some ⟨q4, 0, none⟩)]]), (q4, 95, el (mval (ps.take k))), (q1, 95, el 0)] w16) m18
    refine wl_nil ?_
    refine then_at (F := ⟨#[.slice (some ⟨qs, 0, none⟩) ps.length ps.length, undef, .pointer (some ⟨q1, 0, none⟩), .pointer (some ⟨q4, 0, none⟩), .pointer (some ⟨q7, 0, none⟩), undef, .pointer (some ⟨q12, 0, none⟩), u 7, .func (.func 102) #[] #[.pointer (some ⟨q4, 0, none⟩)], .slice (some ⟨qs, 0, none⟩) ps.length ps.length, iN .i64 ps.length, iN .i64 k, .bool true, .pointer (some ⟨qs, 4 * k, none⟩), arr p, u 15, u 16, u 17, u 18, u 19, u 20, u 21, u 22, u 23, u 24, u 25, u 26, u 27, undef], mkd rs⟩) (by kernel_rfl) ?_
    refine wp_seq ?_
    refine wl_region ?_
    refine wl_load h17 0 rfl (by kernel_rfl) (by kernel_rfl) Tryd.underlying95 rfl info34 ?_
    refine wl_callb (by kernel_rfl) enter104 #[arr p] (by kernel_rfl) (downward_any p w16) ?_
    rintro e w5 ⟨bv, rfl, hbq, rfl⟩
    refine ⟨_, rfl, ?_⟩
    refine wl_nil ?_
    have g5 : HA w [(bv, 95, el p), (q12, 95, el p), (q7, 122, #[.func (.func 102) #[] #[.pointer (some ⟨q4, 0, none⟩)]]), (q4, 95, el (mval (ps.take k))), (q1, 95, el 0)] (w16.alloc (.cells (el p) 95)) := by rw [hbq]; exact h17.make 95 (el p)
    have m5 : Marks w rs (w16.alloc (.cells (el p) 95)) := m18.below ((Below.refl _ _).alloc (Nat.le_refl _) _)
    refine then_at (F := ⟨#[.slice (some ⟨qs, 0, none⟩) ps.length ps.length, undef, .pointer (some ⟨q1, 0, none⟩), .pointer (some ⟨q4, 0, none⟩), .pointer (some ⟨q7, 0, none⟩), undef, .pointer (some ⟨q12, 0, none⟩), u 7, .func (.func 102) #[] #[.pointer (some ⟨q4, 0, none⟩)], .slice (some ⟨qs, 0, none⟩) ps.length ps.length, iN .i64 ps.length, iN .i64 k, .bool true, .pointer (some ⟨qs, 4 * k, none⟩), arr p, arr p, .func (.func 113) #[] #[.pointer (some ⟨bv, 0, none⟩)], u 17, u 18, u 19, u 20, u 21, u 22, u 23, u 24, u 25, u 26, u 27, undef], mkd rs⟩) (by kernel_rfl) ?_
    generalize w16.alloc (.cells (el p) 95) = w6 at g5 m5 ⊢
    clear hbq
    refine wp_block ?_
    generalize hv : mval (ps.take k) = v at *
    refine (wpIn_wide (n := 9)).1 (wpIn_rangeFunc_ownG (α := Wd) rfl (by decide) (gf := 113) (lb := #[.pointer (some ⟨bv, 0, none⟩)]) (by kernel_rfl) trivial (enters_of Tryd.func113 (by kernel_rfl) rfl) (down_stops _ bv p w6 (g5.get 0 rfl)) (fun h k => k.trans h) ?_ (Below.refl _ _) (fun _ => rfl)
      (fun pre W => HA w [(bv, 95, el p), (q12, 95, el p), (q7, 122, #[.func (.func 102) #[] #[.pointer (some ⟨q4, 0, none⟩)]]), (q4, 95, el (stt v pre)), (q1, 95, el 0)] W ∧ Marks w rs W) (fun _ _ _ => False) ?_ (fun _ _ _ _ _ hs _ _ => hs) ⟨g5, m5⟩ (fun x => ⟨#[.slice (some ⟨qs, 0, none⟩) ps.length ps.length, undef, .pointer (some ⟨q1, 0, none⟩), .pointer (some ⟨q4, 0, none⟩), .pointer (some ⟨q7, 0, none⟩), undef, .pointer (some ⟨q12, 0, none⟩), .int .u64 (x.1 : Int), .func (.func 102) #[] #[.pointer (some ⟨q4, 0, none⟩)], .slice (some ⟨qs, 0, none⟩) ps.length ps.length, iN .i64 ps.length, iN .i64 k, .bool true, .pointer (some ⟨qs, 4 * k, none⟩), arr p, arr p, .func (.func 113) #[] #[.pointer (some ⟨bv, 0, none⟩)], .int .u64 (x.1 : Int), u 18, u 19, u 20, u 21, u 22, u 23, u 24, u 25, u 26, u 27, undef], []⟩) ?_ ?_ ?_ ?_)
    · exact fun W l o o' hl _ _ _ => World.putObj_heap_other (by have := (g5.get 0 rfl).lt; omega)
    · exact own_parts g5 m5
    · intro l x W K hK; dsimp only [encW]; gi_wp2; exact hK
    · rintro l pre x W ⟨hH, hM⟩ hlen
      have hc4 := (hH.get 2 rfl).cell 0
      have hB3 := hH.get 3 rfl
      have hx := x.2
      have hst := stt_lt v hvt pre
      gi_wp2
      refine ⟨trivial, (CallsIn.inRound l (callsIn_wide.2 (move_any q4 (stt v pre) _ hst W (VV.below hH.old VV.big) hB3))).mono ?_⟩
      rintro e W1 ⟨⟨y1, rfl⟩, hB1, hg1⟩
      have hH1 : HA w [(bv, 95, el p), (q12, 95, el p), (q7, 122, #[.func (.func 102) #[] #[.pointer (some ⟨q4, 0, none⟩)]]), (q4, 95, el ((stt v pre * 2 ^ 32 + lowb (wrap32 ((x.1 : Int) / 4294967296))) % Lq)), (q1, 95, el 0)] W1 := hH.turn 3 rfl hg1 hB1
      have hM1 := hM.turn hH 3 rfl hg1
      have hc41 := (hH1.get 2 rfl).cell 0
      clear hc4 hB3
      gi_wp2
      refine ⟨trivial, (CallsIn.inRound l (callsIn_wide.2 (move_any q4 _ _ (Nat.mod_lt _ Lq_pos) W1 (VV.below hH1.old VV.big) hB1))).mono ?_⟩
      rintro e W2 ⟨⟨y2, rfl⟩, hB2, hg2⟩
      have hH2 : HA w [(bv, 95, el p), (q12, 95, el p), (q7, 122, #[.func (.func 102) #[] #[.pointer (some ⟨q4, 0, none⟩)]]), (q4, 95, el (stt v (pre ++ [x]))), (q1, 95, el 0)] W2 := by
        rw [stt_snoc, ← two_moves _ _ hx]
        exact hH1.turn 3 rfl hg2 hB2
      have hM2 := hM1.turn hH1 3 rfl hg2
      clear hc41
      gi_wp2
      have hq3 : q4 < w6.heap.size := (g5.get 3 rfl).lt
      exact ⟨(KeepsFrom.of_grownBy hg1 (fun j e => by cases e; exact hq3)).trans (KeepsFrom.of_grownBy hg2 (fun j e => by cases e; exact hq3)), (hg2.block bv (hH1.get 0 rfl).lt (fun e => by have h := hH.nd; obtain rfl := Option.some.inj e; simp at h)).trans (hg1.block bv (hH.get 0 rfl).lt (fun e => by have h := hH.nd; obtain rfl := Option.some.inj e; simp at h)), hH2, hM2⟩
    · rintro D xs W hD rfl ⟨hH, hM⟩ hK
      have mD := hM.more (fun r hr => m5.lt hr) hD g5.old.size hK
      rw [stt_part v p hpK, ← hvn] at hH
      refine block_normal ?_
      refine block_normal ?_
      refine then_at (F := ⟨#[.slice (some ⟨qs, 0, none⟩) ps.length ps.length, undef, .pointer (some ⟨q1, 0, none⟩), .pointer (some ⟨q4, 0, none⟩), .pointer (some ⟨q7, 0, none⟩), undef, .pointer (some ⟨q12, 0, none⟩), u 7, .func (.func 102) #[] #[.pointer (some ⟨q4, 0, none⟩)], .slice (some ⟨qs, 0, none⟩) ps.length ps.length, iN .i64 ps.length, iN .i64 k, .bool true, .pointer (some ⟨qs, 4 * k, none⟩), arr p, arr p, .func (.func 113) #[] #[.pointer (some ⟨bv, 0, none⟩)], u 17, u 18, u 19, u 20, u 21, u 22, u 23, u 24, u 25, u 26, u 27, undef], mkd (D :: rs)⟩) (by kernel_rfl) ?_
      have hT : HA w [(q7, 122, #[.func (.func 102) #[] #[.pointer (some ⟨q4, 0, none⟩)]]), (q4, 95, el (mval (ps.take (k + 1)))), (q1, 95, el 0)] W := hH.tail.tail
      -- region 10
      refine wl_region ?_
      refine wl_val (iN .i64 (k + 1)) (by kernel_rfl) (run_add (k := .i64) (a := k) (b := 1) (by kernel_rfl) (by kernel_rfl) (by simp only [top]; omega)) ?_
      refine wl_val (iN .i64 (k + 1)) (by kernel_rfl) (by kernel_rfl) ?_
      refine wl_nil ?_
      exact then_I ⟨fun ii => (([(6, .pointer (some ⟨q12, 0, none⟩)), (7, u 7), (12, .bool true), (13, .pointer (some ⟨qs, 4 * k, none⟩)), (14, arr p), (15, arr p), (16, .func (.func 113) #[] #[.pointer (some ⟨bv, 0, none⟩)]), (17, u 17), (18, u 18), (19, u 19), (20, u 20), (21, u 21), (22, u 22), (23, u 23), (24, u 24), (25, u 25), (26, u 26), (27, iN .i64 (k + 1))] : List (Nat × Value)).find? (·.1 == ii)).elim undef (·.2), D :: rs, by kernel_rfl, hT, mD⟩
    · intro _ _ _ _ _ _ h _; exact h.elim
  · rintro _ w1 ⟨u, rs, rfl, g1, m1⟩
    rw [List.take_length] at g1
    refine wp_seq ?_
    -- region 4
    refine wl_region ?_
    refine wl_val (.bool false) (by kernel_rfl) (run_lss (k := .i64) (a := ps.length) (b := ps.length) (by kernel_rfl) (by kernel_rfl) false (decide_eq_false (Nat.lt_irrefl _))) ?_
    refine wl_nil ?_
    refine then_at (F := ⟨#[.slice (some ⟨qs, 0, none⟩) ps.length ps.length, undef, .pointer (some ⟨q1, 0, none⟩), .pointer (some ⟨q4, 0, none⟩), .pointer (some ⟨q7, 0, none⟩), undef, u 6, u 7, .func (.func 102) #[] #[.pointer (some ⟨q4, 0, none⟩)], .slice (some ⟨qs, 0, none⟩) ps.length ps.length, iN .i64 ps.length, iN .i64 ps.length, .bool false, u 13, u 14, u 15, u 16, u 17, u 18, u 19, u 20, u 21, u 22, u 23, u 24, u 25, u 26, u 27, undef], mkd rs⟩) (by kernel_rfl) ?_
    refine wp_seq ?_
    refine wp_cond_false (by kernel_rfl) ?_
    refine wp_exit ?_
    repeat first | refine then_exit ?_ | refine block_exit ?_ | refine block_exit_ne (by decide) ?_
    refine then_at (F := ⟨#[.slice (some ⟨qs, 0, none⟩) ps.length ps.length, undef, .pointer (some ⟨q1, 0, none⟩), .pointer (some ⟨q4, 0, none⟩), .pointer (some ⟨q7, 0, none⟩), undef, u 6, u 7, .func (.func 102) #[] #[.pointer (some ⟨q4, 0, none⟩)], .slice (some ⟨qs, 0, none⟩) ps.length ps.length, iN .i64 ps.length, iN .i64 ps.length, .bool false, u 13, u 14, u 15, u 16, u 17, u 18, u 19, u 20, u 21, u 22, u 23, u 24, u 25, u 26, u 27, undef], mkd rs⟩) (by kernel_rfl) ?_
    refine wp_seq ?_
    -- region 11
    refine wl_region ?_
    refine wl_load g1 1 rfl (by kernel_rfl) (by kernel_rfl) Tryd.underlying95 rfl info34 ?_
    refine wl_fillM (c' := el (mval ps)) g1 m1 2 rfl (by kernel_rfl) (by kernel_rfl) (by kernel_rfl) (el_sz _ _) info34 (one_cl _ _) ?_
    intro w19 (h20 : HA w [(q7, 122, #[.func (.func 102) #[] #[.pointer (some ⟨q4, 0, none⟩)]]), (q4, 95, el (mval ps)), (q1, 95, el (mval ps))] w19) m21
    refine wl_nil ?_
    refine then_at (F := ⟨#[.slice (some ⟨qs, 0, none⟩) ps.length ps.length, undef, .pointer (some ⟨q1, 0, none⟩), .pointer (some ⟨q4, 0, none⟩), .pointer (some ⟨q7, 0, none⟩), undef, u 6, u 7, .func (.func 102) #[] #[.pointer (some ⟨q4, 0, none⟩)], .slice (some ⟨qs, 0, none⟩) ps.length ps.length, iN .i64 ps.length, iN .i64 ps.length, .bool false, u 13, u 14, u 15, u 16, u 17, u 18, u 19, u 20, u 21, u 22, u 23, u 24, u 25, u 26, u 27, arr (mval ps)], mkd rs⟩) (by kernel_rfl) ?_
    refine wp_ret ?_
    exact leaves_marks (fun w9 h9 => ⟨arr (mval ps), res_cell (p := 2) (by kernel_rfl) (by kernel_rfl) (h9.get 2 rfl) Tryd.underlying95 rfl info34, rfl, h9.old⟩) rs _ h20 m21
end Go.Proofs.YtpaendmdcdeemaaDoor.Sc

namespace Go.Proofs.YtpaendmdcdeemaaDoor.Sc
open Go.RowKit Num

section
variable {ρ : Operand → Value} {x y z : Operand} {w : World} {dst : Option Tmp} {ty : TypeId} {pos : String} {aft : Array Edge} {gd : Option (Nat × Bool)} {s : ByteArray} {a b : Nat}
theorem run_min (hx : ρ x = iN .i64 a) (hy : ρ y = iN .i64 b) : (execOp ρ ⟨dst, .call { callee := .builtin .min, args := #[x, y], argTypes := #[3, 3] }, ty, pos, aft, gd⟩).run Tryd.prog w = .ok (.value (iN .i64 (min a b))) w := by
  simp only [execOp, iN] at hx hy ⊢
  go_simp
  split <;> omega
theorem run_cut_hi (hx : ρ x = .string s) (hy : ρ y = iN .i64 b) (hb : b ≤ s.size) : (execOp ρ ⟨dst, .slice 9 x none (some y) none, ty, pos, aft, gd⟩).run Tryd.prog w = .ok (.value (.string (s.extract 0 b))) w := by
  simp only [execOp, hx, Option.map, hy, iN]
  go_simp
theorem run_cut_mid (hx : ρ x = .string s) (hz : ρ z = iN .i64 a) (hy : ρ y = iN .i64 b) (hb : b ≤ s.size) (ha : a ≤ b) : (execOp ρ ⟨dst, .slice 9 x (some z) (some y) none, ty, pos, aft, gd⟩).run Tryd.prog w = .ok (.value (.string (s.extract a b))) w := by
  simp only [execOp, hx, Option.map, hy, hz, iN]
  go_simp
theorem run_cut_lo (hx : ρ x = .string s) (hz : ρ z = iN .i64 a) (ha : a ≤ s.size) : (execOp ρ ⟨dst, .slice 9 x (some z) none none, ty, pos, aft, gd⟩).run Tryd.prog w = .ok (.value (.string (s.extract a s.size))) w := by
  simp only [execOp, hx, Option.map, hz, iN]
  go_simp
theorem run_nes {t : ByteArray} {T T2 : TypeId} {P : Program} (hx : ρ x = .string s) (hy : ρ y = .string t) (r : Bool) (hr : decide (s ≠ t) = r) : (execOp ρ ⟨dst, .binOp .neq T x y T2, ty, pos, aft, gd⟩).run P w = .ok (.value (.bool r)) w := by
  subst hr
  simp only [execOp, hx, hy]
  by_cases h : s = t
  · subst h; simp [binOp, go_sem, Op.stringOp]
  · have h2 : ¬s.toList = t.toList := fun e => by
      rw [ByteArray.toList_eq, ByteArray.toList_eq] at e
      refine h ?_
      obtain ⟨⟨l⟩⟩ := s
      obtain ⟨⟨m⟩⟩ := t
      exact congrArg (fun l : List UInt8 => (⟨⟨l⟩⟩ : ByteArray)) e
    simp [binOp, go_sem, Op.stringOp, h, h2]
theorem run_parts2 {n m : Nat} (hx : ρ x = arr n) (hy : ρ y = arr m) : (execOp ρ ⟨dst, .buildSlice 120 2 #[(0, x), (1, y)], ty, pos, aft, gd⟩).run Tryd.prog w = .ok (.value (.slice (some ⟨w.heap.size, 0, none⟩) 2 2)) (w.alloc (.cells (el n ++ el m) 95)) := by
  obtain ⟨a0, a1, a2, a3, _, e2⟩ := arr_open n
  obtain ⟨b0, b1, b2, b3, _, f2⟩ := arr_open m
  have e3 : el n = #[.int .u64 a0, .int .u64 a1, .int .u64 a2, .int .u64 a3] := Value.agg.inj e2
  have f3 : el m = #[.int .u64 b0, .int .u64 b1, .int .u64 b2, .int .u64 b3] := Value.agg.inj f2
  rw [e3, f3]
  rw [e2] at hx
  rw [f2] at hy
  simp only [execOp, Array.map]
  go_simp
theorem run_parts1 {n : Nat} (hx : ρ x = arr n) : (execOp ρ ⟨dst, .buildSlice 120 1 #[(0, x)], ty, pos, aft, gd⟩).run Tryd.prog w = .ok (.value (.slice (some ⟨w.heap.size, 0, none⟩) 1 1)) (w.alloc (.cells (el n) 95)) := by
  obtain ⟨a0, a1, a2, a3, _, e2⟩ := arr_open n
  have e3 : el n = #[.int .u64 a0, .int .u64 a1, .int .u64 a2, .int .u64 a3] := Value.agg.inj e2
  rw [e3]
  rw [e2] at hx
  simp only [execOp, Array.map]
  go_simp
end
theorem parts_one {w : World} {q n : Nat} {t : TypeId} (h : Blk w q t (el n)) : Parts w q [n] := ⟨h.lt, fun k m hk => by
  match k, hk with
  | 0, hk =>
    obtain rfl : n = m := by simpa using hk
    exact h.range⟩
theorem parts_two {w : World} {q n m : Nat} {t : TypeId} (h : Blk w q t (el n ++ el m)) : Parts w q [n, m] := ⟨h.lt, fun k r hk j v hv => by
  have hj : j < 4 := by have := (List.getElem?_eq_some_iff.1 hv).1; simpa [el_size] using this
  rw [h.cell (4 * k + j)]
  rw [Array.getElem?_toList] at hv
  match k, hk with
  | 0, hk =>
    obtain rfl : n = r := by simpa using hk
    rw [Nat.mul_zero, Nat.zero_add, Array.getElem?_append_left (by rw [el_size]; exact hj)]
    exact hv
  | 1, hk =>
    obtain rfl : m = r := by simpa using hk
    rw [Array.getElem?_append_right (by rw [el_size]; omega), el_size, show 4 * 1 + j - 4 = j by omega]
    exact hv⟩
theorem mval_one (n : Nat) : mval [n] = n % Lq := by
  unfold mval
  rw [List.foldl_cons, List.foldl_nil, Nat.zero_mul, Nat.zero_add]
theorem mval_two (n m : Nat) : mval [n, m] = (n * K ^ 4 + m) % Lq := by
  unfold mval
  rw [List.foldl_cons, List.foldl_cons, List.foldl_nil, Nat.zero_mul, Nat.zero_add, mod_in]
theorem modulo_one (n q : Nat) (hn : n < K ^ 4) (t : TypeId) (w : World) (VV : Vars w) (h : Blk w q t (el n)) : Calls Tryd.prog 75 #[.slice (some ⟨q, 0, none⟩) 1 1] w fun e w' => e = .returned (arr (n % Lq)) ∧ Below w.heap.size w w' := by
  have := modulo_any [n] (fun p hp => by simp at hp; subst hp; exact hn) (by simp) q w VV (parts_one h)
  rw [mval_one] at this
  exact this
theorem modulo_two (n m q : Nat) (hn : n < K ^ 4) (hm : m < K ^ 4) (t : TypeId) (w : World) (VV : Vars w) (h : Blk w q t (el n ++ el m)) : Calls Tryd.prog 75 #[.slice (some ⟨q, 0, none⟩) 2 2] w fun e w' => e = .returned (arr ((n * K ^ 4 + m) % Lq)) ∧ Below w.heap.size w w' := by
  have := modulo_any [n, m] (fun p hp => by
    simp at hp
    rcases hp with rfl | rfl
    · exact hn
    · exact hm) (by simp) q w VV (parts_two h)
  rw [mval_two] at this
  exact this

/-- the first 64 bytes, and the number that they are modulo the order -/
def cut (s : ByteArray) : ByteArray := s.extract 0 (min s.size 64)
def val (s : ByteArray) : Nat := numS (cut s) % Lq
theorem bts_extract (s : ByteArray) (a b : Nat) : bts (s.extract a b) = ((bts s).drop a).take (b - a) := by
  unfold bts
  rw [ByteArray.data_extract, Array.toList_extract, List.extract_eq_take_drop, List.map_take, List.map_drop]
theorem size_extract (s : ByteArray) (a b : Nat) (hb : b ≤ s.size) : (s.extract a b).size = b - a := by
  rw [ByteArray.size_extract]
  omega
theorem val_lt (s : ByteArray) : val s < Lq := Nat.mod_lt _ Lq_pos
theorem of_parts (s : ByteArray) : (numS (s.extract (min s.size 32) (min s.size 64)) * K ^ 4 + numS (s.extract 0 (min s.size 32))) % Lq = val s := by
  unfold val cut
  refine congrArg (fun n : Nat => n % Lq) ?_
  unfold numS
  rw [bts_extract, bts_extract, bts_extract, Nat.sub_zero, Nat.sub_zero, List.drop_zero]
  have hl := bts_length s
  generalize bts s = l at *
  rw [← hl]
  by_cases h : l.length ≤ 32
  · rw [Nat.min_eq_left h, Nat.min_eq_left (show l.length ≤ 64 by omega), Nat.sub_self, List.take_zero, num_nil, Nat.zero_mul, Nat.zero_add]
  · rw [Nat.min_eq_right (show 32 ≤ l.length by omega)]
    have e : (l.take (min l.length 64)) = l.take 32 ++ (l.drop 32).take (min l.length 64 - 32) := by
      rw [show min l.length 64 = 32 + (min l.length 64 - 32) by omega, List.take_add]
      congr 2
      omega
    rw [e, num_append, List.length_take, Nat.min_eq_left (show 32 ≤ l.length by omega), show K ^ 4 = 256 ^ 32 by decide, Nat.mul_comm, Nat.add_comm]
theorem cut_short (s : ByteArray) (h : s.size ≤ 64) : numS (cut s) = numS s := by
  unfold cut numS
  rw [bts_extract, Nat.sub_zero, List.drop_zero, List.take_of_length_le (by rw [bts_length]; omega)]
theorem val_bytesOf (n : Nat) (h : n < Lq) : val (bytesOf n) = n := by
  unfold val
  rw [cut_short _ (by rw [bytesOf_size]; decide), numS_bytesOf n (Nat.lt_trans h (by decide)), Nat.mod_eq_of_lt h]
theorem words_lt (s : ByteArray) (h : s.size ≤ 32) : numS s < K ^ 4 := by
  refine Nat.lt_of_lt_of_le (numS_lt s) ?_
  rw [show K ^ 4 = 256 ^ 32 by decide]
  exact Nat.pow_le_pow_right (by decide) h
theorem val_lt4 (s : ByteArray) : val s < K ^ 4 := Nat.lt_trans (val_lt s) Lq_lt
theorem run_len_low {ρ : Operand → Value} {x : Operand} {s : ByteArray} {w : World} {dst : Option Tmp} {ty : TypeId} {pos : String} {aft : Array Edge} {gd : Option (Nat × Bool)} (hx : ρ x = .string (s.extract 0 (min s.size 32))) :
    (execOp ρ ⟨dst, .call { callee := .builtin .len, args := #[x], argTypes := #[9] }, ty, pos, aft, gd⟩).run Tryd.prog w = .ok (.value (iN .i64 (min s.size 32))) w := by
  have h := run_len (dst := dst) (ty := ty) (pos := pos) (aft := aft) (gd := gd) (w := w) hx
  rwa [size_extract s 0 _ (by omega), Nat.sub_zero] at h

set_option linter.unusedVariables false in
set_option maxRecDepth 100000 in
set_option maxHeartbeats 2000000 in
theorem of_any (s : ByteArray) (w : World) (VV : Vars w) :
    Calls Tryd.prog 72 #[.string s] w fun e w' => e = .returned (arr (val s)) ∧ Below w.heap.size w w' := by
  have H0 := HA.start w
  go_enter Tryd.func72, Tryd.ntmps72
  refine wp_seq ?_
  -- region 0
  refine wl_region ?_
  refine wl_make H0 95 (by kernel_rfl) run_alloc34 ?_
  intro q1 w2 h3
  refine wl_nil ?_
  refine then_at (F := ⟨(.string s :: un :: pt q1 :: List.replicate 20 un).toArray, []⟩) (by kernel_rfl) ?_
  refine wp_seq ?_
  -- region 1
  refine wl_region ?_
  refine wl_val (.string s) (by kernel_rfl) (by kernel_rfl) ?_
  refine wl_val (.string s) (by kernel_rfl) (by kernel_rfl) ?_
  refine wl_val (iN .i64 s.size) (by kernel_rfl) (run_len (s := s) (by kernel_rfl)) ?_
  refine wl_val (iN .i64 (min s.size 32)) (by kernel_rfl) (run_min (a := s.size) (b := 32) (by kernel_rfl) (by kernel_rfl)) ?_
  refine wl_val (.string (s.extract 0 (min s.size 32))) (by kernel_rfl) (run_cut_hi (s := s) (b := min s.size 32) (by kernel_rfl) (by kernel_rfl) (by omega)) ?_
  refine wl_val (.string (s.extract 0 (min s.size 32))) (by kernel_rfl) (by kernel_rfl) ?_
  refine wl_nil ?_
  refine then_at (F := ⟨(.string s :: un :: pt q1 :: .string (s.extract 0 (min s.size 32)) :: un :: .string s :: .string s :: iN .i64 s.size :: iN .i64 (min s.size 32) :: .string (s.extract 0 (min s.size 32)) :: List.replicate 13 un).toArray, []⟩) (by kernel_rfl) ?_
  refine wp_seq ?_
  -- region 2
  refine wl_region ?_
  refine wl_val (.string s) (by kernel_rfl) (by kernel_rfl) ?_
  refine wl_val (.string (s.extract 0 (min s.size 32))) (by kernel_rfl) (by kernel_rfl) ?_
  refine wl_val (iN .i64 (min s.size 32)) (by kernel_rfl) (run_len_low (s := s) (by kernel_rfl)) ?_
  refine wl_val (.string s) (by kernel_rfl) (by kernel_rfl) ?_
  refine wl_val (iN .i64 s.size) (by kernel_rfl) (run_len (s := s) (by kernel_rfl)) ?_
  refine wl_val (iN .i64 (min s.size 64)) (by kernel_rfl) (run_min (a := s.size) (b := 64) (by kernel_rfl) (by kernel_rfl)) ?_
  refine wl_val (.string (s.extract (min s.size 32) (min s.size 64))) (by kernel_rfl) (run_cut_mid (s := s) (a := min s.size 32) (b := min s.size 64) (by kernel_rfl) (by kernel_rfl) (by kernel_rfl) (by omega) (by omega)) ?_
  refine wl_val (.string (s.extract (min s.size 32) (min s.size 64))) (by kernel_rfl) (by kernel_rfl) ?_
  refine wl_nil ?_
  refine then_at (F := ⟨(.string s :: un :: pt q1 :: .string (s.extract 0 (min s.size 32)) :: .string (s.extract (min s.size 32) (min s.size 64)) :: .string s :: .string s :: iN .i64 s.size :: iN .i64 (min s.size 32) :: .string (s.extract 0 (min s.size 32)) :: .string s :: .string (s.extract 0 (min s.size 32)) :: iN .i64 (min s.size 32) :: .string s :: iN .i64 s.size :: iN .i64 (min s.size 64) :: .string (s.extract (min s.size 32) (min s.size 64)) :: List.replicate 6 un).toArray, []⟩) (by kernel_rfl) ?_
  refine wp_seq ?_
  -- region 3
  refine wl_region ?_
  refine wl_val (.string (s.extract (min s.size 32) (min s.size 64))) (by kernel_rfl) (by kernel_rfl) ?_
  refine wl_call (v := arr (numS (s.extract (min s.size 32) (min s.size 64)))) h3 (by kernel_rfl) enter100 #[.string (s.extract (min s.size 32) (min s.size 64))] (by kernel_rfl) (words_any (s.extract (min s.size 32) (min s.size 64)) (by rw [size_extract s _ _ (by omega)]; omega) w2) ?_
  intro w4 h5
  refine wl_val (.string (s.extract 0 (min s.size 32))) (by kernel_rfl) (by kernel_rfl) ?_
  refine wl_call (v := arr (numS (s.extract 0 (min s.size 32)))) h5 (by kernel_rfl) enter100 #[.string (s.extract 0 (min s.size 32))] (by kernel_rfl) (words_any (s.extract 0 (min s.size 32)) (by rw [size_extract s _ _ (by omega)]; omega) w4) ?_
  intro w6 h7
  refine wl_mkslice (n := 2) h7 95 (by kernel_rfl) (run_parts2 (n := numS (s.extract (min s.size 32) (min s.size 64))) (m := numS (s.extract 0 (min s.size 32))) (by kernel_rfl) (by kernel_rfl)) ?_
  intro q8 w9 h10
  refine wl_call (v := arr (((numS (s.extract (min s.size 32) (min s.size 64))) * K ^ 4 + (numS (s.extract 0 (min s.size 32)))) % Lq)) h10 (by kernel_rfl) enter75 #[.slice (some ⟨q8, 0, none⟩) 2 2] (by kernel_rfl) (modulo_two (numS (s.extract (min s.size 32) (min s.size 64))) (numS (s.extract 0 (min s.size 32))) q8 (words_lt _ (by rw [size_extract s _ _ (by omega)]; omega)) (words_lt _ (by rw [size_extract s _ _ (by omega)]; omega)) 95 w9 (VV.below h10.old VV.big) (h10.get 0 rfl)) ?_
  intro w11 h12
  refine wl_fill (c' := el (((numS (s.extract (min s.size 32) (min s.size 64))) * K ^ 4 + (numS (s.extract 0 (min s.size 32)))) % Lq)) h12 1 rfl (by kernel_rfl) (by kernel_rfl) (by kernel_rfl) (el_sz _ _) info34 (one_cl _ _) ?_
  intro w13 (h14 : HA w [(q8, 95, el (numS (s.extract (min s.size 32) (min s.size 64))) ++ el (numS (s.extract 0 (min s.size 32)))), (q1, 95, el (((numS (s.extract (min s.size 32) (min s.size 64))) * K ^ 4 + (numS (s.extract 0 (min s.size 32)))) % Lq))] w13)
  refine wl_nil ?_
  refine then_at (F := ⟨(.string s :: un :: pt q1 :: .string (s.extract 0 (min s.size 32)) :: .string (s.extract (min s.size 32) (min s.size 64)) :: .string s :: .string s :: iN .i64 s.size :: iN .i64 (min s.size 32) :: .string (s.extract 0 (min s.size 32)) :: .string s :: .string (s.extract 0 (min s.size 32)) :: iN .i64 (min s.size 32) :: .string s :: iN .i64 s.size :: iN .i64 (min s.size 64) :: .string (s.extract (min s.size 32) (min s.size 64)) :: .string (s.extract (min s.size 32) (min s.size 64)) :: arr (numS (s.extract (min s.size 32) (min s.size 64))) :: .string (s.extract 0 (min s.size 32)) :: arr (numS (s.extract 0 (min s.size 32))) :: .slice (some ⟨q8, 0, none⟩) 2 2 :: arr (((numS (s.extract (min s.size 32) (min s.size 64))) * K ^ 4 + (numS (s.extract 0 (min s.size 32)))) % Lq) :: List.replicate 0 un).toArray, []⟩) (by kernel_rfl) ?_
  refine wp_ret ?_
  repeat first | refine then_ret ?_ | refine block_ret ?_
  exact bodyPost_ret (v := arr ((numS (s.extract (min s.size 32) (min s.size 64)) * K ^ 4 + numS (s.extract 0 (min s.size 32))) % Lq)) (res_cell (p := 2) (by kernel_rfl) (by kernel_rfl) (h14.get 1 rfl) Tryd.underlying95 rfl info34) rfl ⟨by rw [of_parts], h14.old⟩

theorem prod_hi_lt (a b : Nat) (ha : a < K ^ 4) (hb : b < K ^ 4) : a * b / K ^ 4 < K ^ 4 := by
  rw [Nat.div_lt_iff_lt_mul (by decide)]
  exact Nat.mul_lt_mul'' ha hb
theorem product_of (a b : Nat) (ha : a < K ^ 4) (hb : b < K ^ 4) (w : World) :
    Calls Tryd.prog 76 #[arr a, arr b] w fun e w' => e = .returned (.tuple #[arr (a * b / K ^ 4), arr ((a * b) % K ^ 4)]) ∧ Below w.heap.size w w' := by
  have h := product_any a b ha hb w
  have e : arr ((a * b) % K ^ 4) = arr (a * b) := congrArg Value.agg (el_mod (a * b))
  rw [← e] at h
  exact h
def addL (a b : Nat) : Nat := (a + b) % Lq
def mulL (a b : Nat) : Nat := a * b % Lq
theorem addL_lt (a b : Nat) : addL a b < Lq := Nat.mod_lt _ Lq_pos
theorem mulL_lt (a b : Nat) : mulL a b < Lq := Nat.mod_lt _ Lq_pos
/-- what the three answer -/
def rS (a : ByteArray) : ByteArray := bytesOf (val a)
def aS (a b : ByteArray) : ByteArray := bytesOf (addL (val a) (val b))
def mS (a b : ByteArray) : ByteArray := bytesOf (mulL (val a) (val b))
theorem add_mod4 (a b : ByteArray) : (val a + val b) % K ^ 4 % Lq = addL (val a) (val b) := by
  have h1 := val_lt a
  have h2 := val_lt b
  have h3 : val a + val b < K ^ 4 := Nat.lt_of_lt_of_le (Nat.add_lt_add h1 h2) (by decide)
  rw [Nat.mod_eq_of_lt h3]
  rfl
theorem mul_mod4 (a b : ByteArray) : (val a * val b / K ^ 4 * K ^ 4 + val a * val b % K ^ 4) % Lq = mulL (val a) (val b) := by
  rw [Nat.mul_comm (_ / _), Nat.add_comm, Nat.mod_add_div]
  rfl

set_option linter.unusedVariables false in
set_option maxRecDepth 100000 in
set_option maxHeartbeats 2000000 in
theorem Reduce_any (s : ByteArray) (w : World) (VV : Vars w) :
    Calls Tryd.prog 33 #[.string s] w fun e w' => e = .returned (.string (rS s)) ∧ Below w.heap.size w w' := by
  have H0 := HA.start w
  go_enter Tryd.func33, Tryd.ntmps33
  refine wp_seq ?_
  -- region 0
  refine wl_region ?_
  refine wl_val (.string { data := #[] }) (by kernel_rfl) (by kernel_rfl) ?_
  refine wl_nil ?_
  refine then_at (F := ⟨(.string s :: un :: .string { data := #[] } :: List.replicate 3 un).toArray, []⟩) (by kernel_rfl) ?_
  refine wp_seq ?_
  -- region 1
  refine wl_region ?_
  refine wl_val (.string s) (by kernel_rfl) (by kernel_rfl) ?_
  refine wl_call (v := arr (val s)) H0 (by kernel_rfl) enter72 #[.string s] (by kernel_rfl) (of_any s w (VV.below H0.old VV.big)) ?_
  intro w1 h2
  refine wl_call (v := .string (bytesOf (val s))) h2 (by kernel_rfl) enter73 #[arr (val s)] (by kernel_rfl) (Bytes_any (val s) w1) ?_
  intro w3 h4
  refine wl_val (.string (bytesOf (val s))) (by kernel_rfl) (by kernel_rfl) ?_
  refine wl_nil ?_
  refine then_at (F := ⟨(.string s :: un :: .string (bytesOf (val s)) :: .string s :: arr (val s) :: .string (bytesOf (val s)) :: List.replicate 0 un).toArray, []⟩) (by kernel_rfl) ?_
  refine wp_ret ?_
  repeat first | refine then_ret ?_ | refine block_ret ?_
  exact bodyPost_ret (v := .string (bytesOf (val s))) (by kernel_rfl) rfl ⟨rfl, h4.old⟩

set_option linter.unusedVariables false in
set_option maxRecDepth 100000 in
set_option maxHeartbeats 2000000 in
theorem Add_any (a b : ByteArray) (w : World) (VV : Vars w) :
    Calls Tryd.prog 34 #[.string a, .string b] w fun e w' => e = .returned (.string (aS a b)) ∧ Below w.heap.size w w' := by
  have H0 := HA.start w
  go_enter Tryd.func34, Tryd.ntmps34
  refine wp_seq ?_
  -- region 0
  refine wl_region ?_
  refine wl_val (.string { data := #[] }) (by kernel_rfl) (by kernel_rfl) ?_
  refine wl_nil ?_
  refine then_at (F := ⟨(.string a :: .string b :: un :: un :: .string { data := #[] } :: List.replicate 14 un).toArray, []⟩) (by kernel_rfl) ?_
  refine wp_seq ?_
  -- region 1
  refine wl_region ?_
  refine wl_val (.string a) (by kernel_rfl) (by kernel_rfl) ?_
  refine wl_call (v := arr (val a)) H0 (by kernel_rfl) enter72 #[.string a] (by kernel_rfl) (of_any a w (VV.below H0.old VV.big)) ?_
  intro w1 h2
  refine wl_val (.string b) (by kernel_rfl) (by kernel_rfl) ?_
  refine wl_call (v := arr (val b)) h2 (by kernel_rfl) enter72 #[.string b] (by kernel_rfl) (of_any b w1 (VV.below h2.old VV.big)) ?_
  intro w3 h4
  refine wl_call (v := .tuple #[arr ((val a + val b) % K ^ 4), iN .u64 ((val a + val b) / K ^ 4)]) h4 (by kernel_rfl) enter74 #[arr (val a), arr (val b)] (by kernel_rfl) (sum_of (val a) (val b) (val_lt4 _) (val_lt4 _) w3) ?_
  intro w5 h6
  refine wl_val (.tuple #[arr ((val a + val b) % K ^ 4), iN .u64 ((val a + val b) / K ^ 4)]) (by kernel_rfl) (by kernel_rfl) ?_
  refine wl_val (arr ((val a + val b) % K ^ 4)) (by kernel_rfl) (by kernel_rfl) ?_
  refine wl_val (iN .u64 ((val a + val b) / K ^ 4)) (by kernel_rfl) (by kernel_rfl) ?_
  refine wl_make h6 95 (by kernel_rfl) run_alloc34 ?_
  intro q7 w8 h9
  refine wl_fill (c' := el ((val a + val b) % K ^ 4)) h9 0 rfl (by kernel_rfl) (by kernel_rfl) (by kernel_rfl) (el_sz _ _) info34 (one_cl _ _) ?_
  intro w10 (h11 : HA w [(q7, 95, el ((val a + val b) % K ^ 4))] w10)
  refine wl_val (iN .u64 ((val a + val b) / K ^ 4)) (by kernel_rfl) (by kernel_rfl) ?_
  refine wl_nil ?_
  refine then_at (F := ⟨(.string a :: .string b :: un :: un :: .string { data := #[] } :: pt q7 :: iN .u64 ((val a + val b) / K ^ 4) :: .tuple #[arr ((val a + val b) % K ^ 4), iN .u64 ((val a + val b) / K ^ 4)] :: .string a :: arr (val a) :: .string b :: arr (val b) :: .tuple #[arr ((val a + val b) % K ^ 4), iN .u64 ((val a + val b) / K ^ 4)] :: arr ((val a + val b) % K ^ 4) :: iN .u64 ((val a + val b) / K ^ 4) :: List.replicate 4 un).toArray, []⟩) (by kernel_rfl) ?_
  refine wp_seq ?_
  -- region 2
  refine wl_region ?_
  refine wl_load h11 0 rfl (by kernel_rfl) (by kernel_rfl) Tryd.underlying95 rfl info34 ?_
  refine wl_mkslice (n := 1) h11 95 (by kernel_rfl) (run_parts1 (n := (val a + val b) % K ^ 4) (by kernel_rfl)) ?_
  intro q12 w13 h14
  refine wl_call (v := arr (((val a + val b) % K ^ 4) % Lq)) h14 (by kernel_rfl) enter75 #[.slice (some ⟨q12, 0, none⟩) 1 1] (by kernel_rfl) (modulo_one ((val a + val b) % K ^ 4) q12 (Nat.mod_lt _ (by decide)) 95 w13 (VV.below h14.old VV.big) (h14.get 0 rfl)) ?_
  intro w15 h16
  refine wl_call (v := .string (bytesOf (((val a + val b) % K ^ 4) % Lq))) h16 (by kernel_rfl) enter73 #[arr (((val a + val b) % K ^ 4) % Lq)] (by kernel_rfl) (Bytes_any (((val a + val b) % K ^ 4) % Lq) w15) ?_
  intro w17 h18
  refine wl_val (.string (bytesOf (((val a + val b) % K ^ 4) % Lq))) (by kernel_rfl) (by kernel_rfl) ?_
  refine wl_nil ?_
  refine then_at (F := ⟨(.string a :: .string b :: un :: un :: .string (bytesOf (((val a + val b) % K ^ 4) % Lq)) :: pt q7 :: iN .u64 ((val a + val b) / K ^ 4) :: .tuple #[arr ((val a + val b) % K ^ 4), iN .u64 ((val a + val b) / K ^ 4)] :: .string a :: arr (val a) :: .string b :: arr (val b) :: .tuple #[arr ((val a + val b) % K ^ 4), iN .u64 ((val a + val b) / K ^ 4)] :: arr ((val a + val b) % K ^ 4) :: iN .u64 ((val a + val b) / K ^ 4) :: arr ((val a + val b) % K ^ 4) :: .slice (some ⟨q12, 0, none⟩) 1 1 :: arr (((val a + val b) % K ^ 4) % Lq) :: .string (bytesOf (((val a + val b) % K ^ 4) % Lq)) :: List.replicate 0 un).toArray, []⟩) (by kernel_rfl) ?_
  refine wp_ret ?_
  repeat first | refine then_ret ?_ | refine block_ret ?_
  exact bodyPost_ret (v := .string (bytesOf ((val a + val b) % K ^ 4 % Lq))) (by kernel_rfl) rfl ⟨by rw [add_mod4]; rfl, h18.old⟩

set_option linter.unusedVariables false in
set_option maxRecDepth 100000 in
set_option maxHeartbeats 2000000 in
theorem Mul_any (a b : ByteArray) (w : World) (VV : Vars w) :
    Calls Tryd.prog 35 #[.string a, .string b] w fun e w' => e = .returned (.string (mS a b)) ∧ Below w.heap.size w w' := by
  have H0 := HA.start w
  go_enter Tryd.func35, Tryd.ntmps35
  refine wp_seq ?_
  -- region 0
  refine wl_region ?_
  refine wl_val (.string { data := #[] }) (by kernel_rfl) (by kernel_rfl) ?_
  refine wl_nil ?_
  refine then_at (F := ⟨(.string a :: .string b :: un :: un :: .string { data := #[] } :: List.replicate 10 un).toArray, []⟩) (by kernel_rfl) ?_
  refine wp_seq ?_
  -- region 1
  refine wl_region ?_
  refine wl_val (.string a) (by kernel_rfl) (by kernel_rfl) ?_
  refine wl_call (v := arr (val a)) H0 (by kernel_rfl) enter72 #[.string a] (by kernel_rfl) (of_any a w (VV.below H0.old VV.big)) ?_
  intro w1 h2
  refine wl_val (.string b) (by kernel_rfl) (by kernel_rfl) ?_
  refine wl_call (v := arr (val b)) h2 (by kernel_rfl) enter72 #[.string b] (by kernel_rfl) (of_any b w1 (VV.below h2.old VV.big)) ?_
  intro w3 h4
  refine wl_call (v := .tuple #[arr ((val a) * (val b) / K ^ 4), arr (((val a) * (val b)) % K ^ 4)]) h4 (by kernel_rfl) enter76 #[arr (val a), arr (val b)] (by kernel_rfl) (product_of (val a) (val b) (val_lt4 _) (val_lt4 _) w3) ?_
  intro w5 h6
  refine wl_val (arr ((val a) * (val b) / K ^ 4)) (by kernel_rfl) (by kernel_rfl) ?_
  refine wl_val (arr (((val a) * (val b)) % K ^ 4)) (by kernel_rfl) (by kernel_rfl) ?_
  refine wl_mkslice (n := 2) h6 95 (by kernel_rfl) (run_parts2 (n := (val a) * (val b) / K ^ 4) (m := ((val a) * (val b)) % K ^ 4) (by kernel_rfl) (by kernel_rfl)) ?_
  intro q7 w8 h9
  refine wl_call (v := arr ((((val a) * (val b) / K ^ 4) * K ^ 4 + (((val a) * (val b)) % K ^ 4)) % Lq)) h9 (by kernel_rfl) enter75 #[.slice (some ⟨q7, 0, none⟩) 2 2] (by kernel_rfl) (modulo_two ((val a) * (val b) / K ^ 4) (((val a) * (val b)) % K ^ 4) q7 (prod_hi_lt _ _ (val_lt4 _) (val_lt4 _)) (Nat.mod_lt _ (by decide)) 95 w8 (VV.below h9.old VV.big) (h9.get 0 rfl)) ?_
  intro w10 h11
  refine wl_call (v := .string (bytesOf ((((val a) * (val b) / K ^ 4) * K ^ 4 + (((val a) * (val b)) % K ^ 4)) % Lq))) h11 (by kernel_rfl) enter73 #[arr ((((val a) * (val b) / K ^ 4) * K ^ 4 + (((val a) * (val b)) % K ^ 4)) % Lq)] (by kernel_rfl) (Bytes_any ((((val a) * (val b) / K ^ 4) * K ^ 4 + (((val a) * (val b)) % K ^ 4)) % Lq) w10) ?_
  intro w12 h13
  refine wl_val (.string (bytesOf ((((val a) * (val b) / K ^ 4) * K ^ 4 + (((val a) * (val b)) % K ^ 4)) % Lq))) (by kernel_rfl) (by kernel_rfl) ?_
  refine wl_nil ?_
  refine then_at (F := ⟨(.string a :: .string b :: un :: un :: .string (bytesOf ((((val a) * (val b) / K ^ 4) * K ^ 4 + (((val a) * (val b)) % K ^ 4)) % Lq)) :: .string a :: arr (val a) :: .string b :: arr (val b) :: .tuple #[arr ((val a) * (val b) / K ^ 4), arr (((val a) * (val b)) % K ^ 4)] :: arr ((val a) * (val b) / K ^ 4) :: arr (((val a) * (val b)) % K ^ 4) :: .slice (some ⟨q7, 0, none⟩) 2 2 :: arr ((((val a) * (val b) / K ^ 4) * K ^ 4 + (((val a) * (val b)) % K ^ 4)) % Lq) :: .string (bytesOf ((((val a) * (val b) / K ^ 4) * K ^ 4 + (((val a) * (val b)) % K ^ 4)) % Lq)) :: List.replicate 0 un).toArray, []⟩) (by kernel_rfl) ?_
  refine wp_ret ?_
  repeat first | refine then_ret ?_ | refine block_ret ?_
  exact bodyPost_ret (v := .string (bytesOf ((val a * val b / K ^ 4 * K ^ 4 + val a * val b % K ^ 4) % Lq))) (by kernel_rfl) rfl ⟨by rw [mul_mod4]; rfl, h13.old⟩
end Go.Proofs.YtpaendmdcdeemaaDoor.Sc
