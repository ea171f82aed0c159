/-
  within, areKeys, number, laid, bounded, isDevice, bundleBytes (the program's).
-/
import Derived.Test.YtiogegoepgkjlaaC0
set_option maxRecDepth 100000
set_option linter.unusedVariables false
namespace Go.Proofs.Ytiogegoepgkjlaa
open Go.RowKit

def wn (v lo hi : Nat) : Bool := decide (lo ≤ v) && decide (v ≤ hi)
/-- is it a key? -/
def kk (s : ByteArray) : Bool := wi s.size 1 1000
def isD (a : Int) : Bool := wi a 2 7
set_option maxHeartbeats 2000000 in
theorem wi_any {w : World} (v lo hi : Int) :
    Calls Try.prog 42 #[.int .i64 v, .int .i64 lo, .int .i64 hi] w fun e w' => e = .returned (.bool (wi v lo hi)) ∧ Below w.heap.size w w' := by
  have H0 := HA.start w
  go_enter Try.func42, Try.ntmps42
  refine wp_seq (wl_region (zv (.bool false) (wl_nil (then_at rfl (wp_seq (wl_region (zv (.int .i64 v) (zv (.int .i64 lo) ?_))))))))
  rcases q1 : decide (lo ≤ v) with _ | _
  {refine zu (.bool false) (run_geZ (k := .i64) (a := v) (b := lo) ky ky false q1) (zv (.bool false) (zk (zk (zk (zv (.bool false) (zv (.bool false) (wl_nil (then_at rfl (wp_ret ?_)))))))))
   repeat first|refine tr ?_|refine block_ret ?_
   exact bodyPost_ret (v := .bool false) ky rfl ⟨by rw [(show wi v lo hi = false from by unfold wi; rw [q1]; first | done | rfl)], H0.old.old⟩}
  refine zu (.bool true) (run_geZ (k := .i64) (a := v) (b := lo) ky ky true q1) (zv (.bool true) (zv (.int .i64 v) (zv (.int .i64 hi) ?_)))
  rcases q2 : decide (v ≤ hi) with _ | _
  {refine zu (.bool false) (run_leZ (k := .i64) (a := v) (b := hi) ky ky false q2) (zv (.bool false) (zv (.bool false) (wl_nil (then_at rfl (wp_ret ?_)))))
   repeat first|refine tr ?_|refine block_ret ?_
   exact bodyPost_ret (v := .bool false) ky rfl ⟨by rw [(show wi v lo hi = false from by unfold wi; rw [q1, q2]; first | done | rfl)], H0.old.old⟩}
  refine zu (.bool true) (run_leZ (k := .i64) (a := v) (b := hi) ky ky true q2) (zv (.bool true) (zv (.bool true) (wl_nil (then_at rfl (wp_ret ?_)))))
  repeat first|refine tr ?_|refine block_ret ?_
  exact bodyPost_ret (v := .bool true) ky rfl ⟨by rw [(show wi v lo hi = true from by unfold wi; rw [q1, q2]; first | done | rfl)], H0.old.old⟩
set_option maxHeartbeats 2000000 in
theorem we_any {w : World} (v lo hi : Int) :
    Calls Try.prog 93 #[.int .i64 v, .int .i64 lo, .int .i64 hi] w fun e w' => e = .returned (.bool (wi v lo hi)) ∧ Below w.heap.size w w' := by
  have H0 := HA.start w
  go_enter Try.func93, Try.ntmps93
  refine wp_seq (wl_region (zv (.bool false) (wl_nil (then_at rfl (wp_seq (wl_region (zv (.int .i64 v) (zv (.int .i64 lo) ?_))))))))
  rcases q1 : decide (lo ≤ v) with _ | _
  {refine zu (.bool false) (run_geZ (k := .i64) (a := v) (b := lo) ky ky false q1) (zv (.bool false) (zk (zk (zk (zv (.bool false) (zv (.bool false) (wl_nil (then_at rfl (wp_ret ?_)))))))))
   repeat first|refine tr ?_|refine block_ret ?_
   exact bodyPost_ret (v := .bool false) ky rfl ⟨by rw [(show wi v lo hi = false from by unfold wi; rw [q1]; first | done | rfl)], H0.old.old⟩}
  refine zu (.bool true) (run_geZ (k := .i64) (a := v) (b := lo) ky ky true q1) (zv (.bool true) (zv (.int .i64 v) (zv (.int .i64 hi) ?_)))
  rcases q2 : decide (v ≤ hi) with _ | _
  {refine zu (.bool false) (run_leZ (k := .i64) (a := v) (b := hi) ky ky false q2) (zv (.bool false) (zv (.bool false) (wl_nil (then_at rfl (wp_ret ?_)))))
   repeat first|refine tr ?_|refine block_ret ?_
   exact bodyPost_ret (v := .bool false) ky rfl ⟨by rw [(show wi v lo hi = false from by unfold wi; rw [q1, q2]; first | done | rfl)], H0.old.old⟩}
  refine zu (.bool true) (run_leZ (k := .i64) (a := v) (b := hi) ky ky true q2) (zv (.bool true) (zv (.bool true) (wl_nil (then_at rfl (wp_ret ?_)))))
  repeat first|refine tr ?_|refine block_ret ?_
  exact bodyPost_ret (v := .bool true) ky rfl ⟨by rw [(show wi v lo hi = true from by unfold wi; rw [q1, q2]; first | done | rfl)], H0.old.old⟩
set_option maxHeartbeats 2000000 in
theorem wu_any {w : World} (v lo hi : Nat) :
    Calls Try.prog 61 #[iN .u64 v, iN .u64 lo, iN .u64 hi] w fun e w' => e = .returned (.bool (wn v lo hi)) ∧ Below w.heap.size w w' := by
  have H0 := HA.start w
  go_enter Try.func61, Try.ntmps61
  refine wp_seq (wl_region (zv (.bool false) (wl_nil (then_at rfl (wp_seq (wl_region (zv (iN .u64 v) (zv (iN .u64 lo) ?_))))))))
  rcases q1 : decide (lo ≤ v) with _ | _
  {refine zu (.bool false) (run_geq (k := .u64) (a := v) (b := lo) ky ky false q1) (zv (.bool false) (zk (zk (zk (zv (.bool false) (zv (.bool false) (wl_nil (then_at rfl (wp_ret ?_)))))))))
   repeat first|refine tr ?_|refine block_ret ?_
   exact bodyPost_ret (v := .bool false) ky rfl ⟨by rw [(show wn v lo hi = false from by unfold wn; rw [q1]; first | done | rfl)], H0.old.old⟩}
  refine zu (.bool true) (run_geq (k := .u64) (a := v) (b := lo) ky ky true q1) (zv (.bool true) (zv (iN .u64 v) (zv (iN .u64 hi) ?_)))
  rcases q2 : decide (v ≤ hi) with _ | _
  {refine zu (.bool false) (run_leq (k := .u64) (a := v) (b := hi) ky ky false q2) (zv (.bool false) (zv (.bool false) (wl_nil (then_at rfl (wp_ret ?_)))))
   repeat first|refine tr ?_|refine block_ret ?_
   exact bodyPost_ret (v := .bool false) ky rfl ⟨by rw [(show wn v lo hi = false from by unfold wn; rw [q1, q2]; first | done | rfl)], H0.old.old⟩}
  refine zu (.bool true) (run_leq (k := .u64) (a := v) (b := hi) ky ky true q2) (zv (.bool true) (zv (.bool true) (wl_nil (then_at rfl (wp_ret ?_)))))
  repeat first|refine tr ?_|refine block_ret ?_
  exact bodyPost_ret (v := .bool true) ky rfl ⟨by rw [(show wn v lo hi = true from by unfold wn; rw [q1, q2]; first | done | rfl)], H0.old.old⟩
set_option maxHeartbeats 2000000 in
theorem isD_any {w : World} (v : Int) :
    Calls Try.prog 60 #[.int .i64 v] w fun e w' => e = .returned (.bool (isD v)) ∧ Below w.heap.size w w' := by
  have H0 := HA.start w
  go_enter Try.func60, Try.ntmps60
  refine wp_seq (wl_region (zv (.bool false) (wl_nil (then_at rfl (wp_seq (wl_region (zv (.int .i64 v) ?_)))))))
  rcases q1 : wi v 2 7 with _ | _
  {refine zl (.bool false) H0 enter42 _ (((wi_any v 2 7).mono fun _ _ hh => ⟨by rw [hh.1, q1], hh.2⟩)) (fun w2 h3 => (zv (.bool false) (wl_nil (then_at rfl (wp_ret ?_)))))
   repeat first|refine tr ?_|refine block_ret ?_
   exact bodyPost_ret (v := .bool false) ky rfl ⟨by rw [(show isD v = false from by unfold isD; rw [q1]; first | done | rfl)], h3.old.old⟩}
  refine zl (.bool true) H0 enter42 _ (((wi_any v 2 7).mono fun _ _ hh => ⟨by rw [hh.1, q1], hh.2⟩)) (fun w4 h5 => (zv (.bool true) (wl_nil (then_at rfl (wp_ret ?_)))))
  repeat first|refine tr ?_|refine block_ret ?_
  exact bodyPost_ret (v := .bool true) ky rfl ⟨by rw [(show isD v = true from by unfold isD; rw [q1]; first | done | rfl)], h5.old.old⟩
theorem all_no2 {α : Type} {p : α → Bool} {ss : List α} {i : Nat} {d : α} (hi : i < ss.length) (h : p (ss.getD i d) = false) : ss.all p = false := by
  rw [List.getD_eq_getElem?_getD, List.getElem?_eq_getElem hi] at h
  rw [Bool.eq_false_iff]
  intro h2
  rw [List.all_eq_true] at h2
  have := h2 _ (List.getElem_mem hi)
  rw [show ss[i] = (some ss[i]).getD d from rfl, h] at this
  cases this
theorem all_yes2 {α : Type} {p : α → Bool} {ss : List α} {d : α} (h : ∀ j, j < ss.length → p (ss.getD j d) = true) : ss.all p = true := by
  rw [List.all_eq_true]
  intro x hx
  obtain ⟨i, hi, rfl⟩ := List.mem_iff_getElem.1 hx
  have := h i hi
  rwa [List.getD_eq_getElem?_getD, List.getElem?_eq_getElem hi] at this
set_option maxHeartbeats 2000000 in
theorem areK_any {w : World} (ss : List ByteArray) {o : Option Addr} {c : Nat} (hP : At w o (scl ss)) (hsl : ss.length ≤ 1000000) :
    Calls Try.prog 43 #[.slice o ss.length c] w fun e w' => e = .returned (.bool (ss.all kk)) ∧ Below w.heap.size w w' := by
  have H0 := HA.start w
  go_enter Try.func43, Try.ntmps43
  refine wp_seq (wl_region (zv (.bool false) (wl_nil (then_at rfl (wp_seq (wp_seq (wl_region (zv (.slice o ss.length c) (zv (iN .i64 ss.length) (zv (iN .i64 0) (wl_nil (then_at rfl (wp_block ?_)))))))))))))
  refine wp_count (fun i A w' => ∃ u1 : Nat → Value, A = ⟨(.slice o ss.length c :: un :: u1 2 :: un :: u1 4 :: .slice o ss.length c :: iN .i64 ss.length :: iN .i64 i :: u1 8 :: u1 9 :: u1 10 :: u1 11 :: u1 12 :: u1 13 :: u1 14 :: u1 15 :: List.replicate 0 un).toArray, []⟩ ∧ HA (bs w) [] w' ∧ (∀ j, j < i → kk (ss.getD j ByteArray.empty) = true)) ss.length ?_ ?_ ?_
  {exact exu ky ⟨H0, fun j h => absurd h (Nat.not_lt_zero j)⟩}
  {rintro i hk _ w2 ⟨u1, rfl, h3, hall⟩
   obtain ⟨ma, hma, hAa⟩ := hP.ex (by rw [scl_len]; omega)
   refine wp_seq (wl_region (zu (.bool true) (run_lss (k := .i64) (a := i) (b := ss.length) ky ky true (decide_eq_true (by omega))) (wl_nil (then_at rfl (wp_seq (wp_cond_true ky (wp_skip (then_at rfl (wp_seq (wp_block (wp_seq (wl_region (zu (.pointer (some (ma.add (i * 1)))) (run_addr28 (a := ma) (n := ss.length) (m := c) (i := i) hma ky ky hk) ?_)))))))))))))
   refine wl_val (.string (ss.getD i ByteArray.empty)) ky ((run_ld28 (hAa.keep h3.old.old) hk ky)) ?_
   refine zv (.string (ss.getD i ByteArray.empty)) (wl_nil (then_at rfl (wp_seq (wl_region (zv (.string (ss.getD i ByteArray.empty)) (zu (iN .i64 ((ss.getD i ByteArray.empty).size)) (run_len (s := ss.getD i ByteArray.empty) ky) ?_))))))
   rcases q4 : wi ((((ss.getD i ByteArray.empty).size : Nat) : Int)) 1 1000 with _ | _
   {refine zl (.bool false) h3 enter42 _ (((wi_any ((((ss.getD i ByteArray.empty).size : Nat) : Int)) 1 1000).mono fun _ _ hh => ⟨by rw [hh.1, q4], hh.2⟩)) (fun w5 h6 => (zv (.bool true) (wl_nil (then_at rfl (wp_cond_true ky (wp_seq (wl_region (zv (.bool false) (wl_nil (then_at rfl (wp_ret ?_)))))))))))
    repeat first|refine tr ?_|refine block_ret ?_
    exact bodyPost_ret (v := .bool false) ky rfl ⟨by rw [all_no2 hk (p := kk) q4], h6.old.old⟩}
   refine zl (.bool true) h3 enter42 _ (((wi_any ((((ss.getD i ByteArray.empty).size : Nat) : Int)) 1 1000).mono fun _ _ hh => ⟨by rw [hh.1, q4], hh.2⟩)) (fun w7 h8 => (zv (.bool false) (wl_nil (then_at rfl (wp_cond_false ky (wp_skip (block_normal (then_at rfl (wl_region (zu (iN .i64 (i + 1)) (run_add (k := .i64) (a := i) (b := 1) ky ky (by first | omega | (simp only [top]; omega))) (zv (iN .i64 (i + 1)) (wl_nil ?_))))))))))))
   exact then_I (exu ky ⟨h8, fun j hj => (Nat.lt_succ_iff_lt_or_eq.1 hj).elim (hall j) (fun e => by rw [e]; exact q4)⟩)}
  {rintro _ w9 ⟨u1, rfl, h10, hall⟩
   refine wp_seq (wl_region (zu (.bool false) (run_lss (k := .i64) (a := ss.length) (b := ss.length) ky ky false (decide_eq_false (by omega))) (wl_nil (then_at rfl (wp_seq (wp_cond_false ky ?_))))))
   refine wp_exit ?_
   repeat first | refine then_exit ?_ | refine block_exit ?_ | refine block_exit_ne (by decide) ?_
   refine then_at rfl (wp_seq (wl_region ?_))
   refine zv (.bool true) (wl_nil (then_at rfl (wp_ret ?_)))
   repeat first|refine tr ?_|refine block_ret ?_
   exact bodyPost_ret (v := .bool true) ky rfl ⟨by rw [all_yes2 hall], h10.old.old⟩}
theorem run_convZ {ρ : Operand → Value} {x : Operand} {w : World} {dst : Option Tmp} {T T2 ty : TypeId} {pos : String} {aft : Array Edge} {gd : Option (Nat × Bool)} {v : Int} (hx : ρ x = .int .i64 v) (h0 : 0 ≤ v) (hv : v < 9223372036854775808) (hT : Try.prog.underlying T = some (.int .i64)) (hT2 : Try.prog.underlying T2 = some (.int .u64)) : (execOp ρ ⟨dst, .convert T T2 x, ty, pos, aft, gd⟩).run Try.prog w = .ok (.value (iN .u64 v.toNat)) w := by
  obtain ⟨n, rfl⟩ := Int.eq_ofNat_of_zero_le h0
  exact run_conv (k := .i64) .u64 hT hT2 hx (by simp only [top]; omega)
set_option maxHeartbeats 2000000 in
theorem nu_any {w : World} (k : Nat) (v : Int) (h0 : 0 ≤ v) (hv : v < 9223372036854775808) :
    Calls Try.prog 63 #[iN .i64 k, .int .i64 v] w fun e w' => e = .returned (.string (nbT k v.toNat)) ∧ Below w.heap.size w w' := by
  have H0 := HA.start w
  go_enter Try.func63, Try.ntmps63
  refine wp_seq (wl_region (zv (.string ({ data := #[] })) (wl_nil (then_at rfl (wp_seq (wl_region (zv (iN .i64 k) (zv (.int .i64 v) (zu (iN .u64 v.toNat) (run_convZ (v := v) ky h0 hv Try.underlying3 Try.underlying22) (zl (.string (nbT k v.toNat)) H0 enter96 _ (Wi.PutNumber_any w { data := #[] } k v.toNat (by decide)) (fun w1 h2 => (zv (.string (nbT k v.toNat)) (wl_nil (then_at rfl (wp_ret ?_)))))))))))))))
  repeat first|refine tr ?_|refine block_ret ?_
  exact bodyPost_ret (v := .string (nbT k v.toNat)) ky rfl ⟨rfl, h2.old.old⟩
set_option maxHeartbeats 2000000 in
theorem nw_any {w : World} (k n : Nat) :
    Calls Try.prog 71 #[iN .i64 k, iN .u64 n] w fun e w' => e = .returned (.string (nbT k n)) ∧ Below w.heap.size w w' := by
  have H0 := HA.start w
  go_enter Try.func71, Try.ntmps71
  refine wp_seq (wl_region (zv (.string ({ data := #[] })) (wl_nil (then_at rfl (wp_seq (wl_region (zv (iN .i64 k) (zv (iN .u64 n) (zl (.string (nbT k n)) H0 enter96 _ (Wi.PutNumber_any w { data := #[] } k n (by decide)) (fun w1 h2 => (zv (.string (nbT k n)) (wl_nil (then_at rfl (wp_ret ?_))))))))))))))
  repeat first|refine tr ?_|refine block_ret ?_
  exact bodyPost_ret (v := .string (nbT k n)) ky rfl ⟨rfl, h2.old.old⟩
set_option maxHeartbeats 2000000 in
theorem la_any {w : World} (ss : List ByteArray) {o : Option Addr} {c : Nat} (hP : At w o (scl ss)) {m : Nat} (hm0 : m ≤ 100000) (hss : ∀ i, (ss.getD i ByteArray.empty).size ≤ m) (hsl : ss.length ≤ 300) :
    Calls Try.prog 66 #[.slice o ss.length c] w fun e w' => e = .returned (.string (layT ss ss.length)) ∧ Below w.heap.size w w' := by
  have H0 := HA.start w
  go_enter Try.func66, Try.ntmps66
  refine wp_seq (wl_region (zv (.string ({ data := #[] })) (wl_nil (then_at rfl (wp_seq (wl_region (zv (.string ({ data := #[] })) (wl_nil (then_at rfl (wp_seq (wp_seq (wl_region (zv (.slice o ss.length c) (zv (iN .i64 ss.length) (zv (iN .i64 0) (wl_nil (then_at rfl (wp_block ?_))))))))))))))))))
  refine wp_count (fun i A w' => ∃ u1 : Nat → Value, A = ⟨(.slice o ss.length c :: un :: .string ({ data := #[] }) :: .string (layT ss i) :: un :: u1 5 :: .slice o ss.length c :: iN .i64 ss.length :: iN .i64 i :: u1 9 :: u1 10 :: u1 11 :: u1 12 :: u1 13 :: u1 14 :: u1 15 :: List.replicate 1 un).toArray, []⟩ ∧ HA (bs w) [] w') ss.length ?_ ?_ ?_
  {exact exu ky H0}
  {rintro i hk _ w2 ⟨u1, rfl, h3⟩
   obtain ⟨ma, hma, hAa⟩ := hP.ex (by rw [scl_len]; omega)
   refine wp_seq (wl_region (zu (.bool true) (run_lss (k := .i64) (a := i) (b := ss.length) ky ky true (decide_eq_true (by omega))) (wl_nil (then_at rfl (wp_seq (wp_cond_true ky (wp_skip (then_at rfl (wp_seq (wp_block (wp_seq (wl_region (zu (.pointer (some (ma.add (i * 1)))) (run_addr28 (a := ma) (n := ss.length) (m := c) (i := i) hma ky ky hk) ?_)))))))))))))
   refine wl_val (.string (ss.getD i ByteArray.empty)) ky ((run_ld28 (hAa.keep h3.old.old) hk ky)) ?_
   refine zv (.string (ss.getD i ByteArray.empty)) (wl_nil (then_at rfl (wl_region (zv (.string (layT ss i)) (zv (.string (ss.getD i ByteArray.empty)) (zl (.string (layT ss (i + 1))) h3 enter97 #[.string (layT ss i), .string (ss.getD i ByteArray.empty)] (Wi.PutText_any w2 (layT ss i) (ss.getD i ByteArray.empty) (by have := layT_size hss i; have : i * (m + 4) ≤ 300 * (m + 4) := Nat.mul_le_mul_right _ (by omega); omega) (by have := hss i; omega)) (fun w4 h5 => (zv (.string (layT ss (i + 1))) (wl_nil (block_normal (then_at rfl (wl_region (zu (iN .i64 (i + 1)) (run_add (k := .i64) (a := i) (b := 1) ky ky (by first | omega | (simp only [top]; omega))) (zv (iN .i64 (i + 1)) (wl_nil ?_)))))))))))))))
   exact then_I (exu ky h5)}
  {rintro _ w6 ⟨u1, rfl, h7⟩
   refine wp_seq (wl_region (zu (.bool false) (run_lss (k := .i64) (a := ss.length) (b := ss.length) ky ky false (decide_eq_false (by omega))) (wl_nil (then_at rfl (wp_seq (wp_cond_false ky ?_))))))
   refine wp_exit ?_
   repeat first | refine then_exit ?_ | refine block_exit ?_ | refine block_exit_ne (by decide) ?_
   refine then_at rfl (wp_seq (wl_region ?_))
   refine zv (.string (layT ss ss.length)) (zv (.string (layT ss ss.length)) (wl_nil (then_at rfl (wp_ret ?_))))
   repeat first|refine tr ?_|refine block_ret ?_
   exact bodyPost_ret (v := .string (layT ss ss.length)) ky rfl ⟨rfl, h7.old.old⟩}
theorem own_tx {z : Base} {L : BL} {w : World} (H : HA z L w) (i : Nat) {q : Nat} (ss : List ByteArray) (hi : L[i]? = some (q, 9, strc ss)) : At w (some ⟨q, 0, none⟩) (scl ss) := fun j v hj => by
  refine ⟨_, rfl, ?_⟩
  rw [add_lit, (H.get i hi).cell, ← hj]
  simp [strc, scl]
/-- what may be sent at once -/
def bdA (s : ByteArray) : ByteArray × Nat := if s.size ≤ 16384 then (s, 0) else ({ data := #[] }, 3)
set_option maxHeartbeats 2000000 in
theorem bd_any {w : World} (x : ByteArray) :
    Calls Try.prog 34 #[.string x] w fun e w' => e = .returned (.tuple #[.string (bdA x).1, iN .i64 (bdA x).2]) ∧ Below w.heap.size w w' := by
  have H0 := HA.start w
  go_enter Try.func34, Try.ntmps34
  refine wp_seq (wl_region (zv (.string ({ data := #[] })) (zv (iN .i64 0) (wl_nil (then_at rfl (wp_seq (wp_seq (wl_region (zv (.string x) (zu (iN .i64 x.size) (run_len (s := x) ky) ?_))))))))))
  rcases q1 : decide (16384 < x.size) with _ | _
  {refine zu (.bool false) (run_gtr (k := .i64) (a := x.size) (b := 16384) ky ky false q1) (wl_nil (then_at rfl (wp_cond_false ky (wp_skip (then_at rfl (wp_seq (wl_region (zv (.string x) (zv (.string x) (zv (iN .i64 0) (wl_nil (then_at rfl (wp_ret ?_)))))))))))))
   repeat first|refine tr ?_|refine block_ret ?_
   exact bodyPost_ret (v := .tuple #[.string x, iN .i64 0]) ky rfl ⟨by rw [show bdA x = _ from if_pos (by have := (of_decide_eq_false q1); omega)], H0.old.old⟩}
  refine zu (.bool true) (run_gtr (k := .i64) (a := x.size) (b := 16384) ky ky true q1) (wl_nil (then_at rfl (wp_cond_true ky (wp_seq (wl_region (zv (.string ({ data := #[] })) (zv (iN .i64 3) (wl_nil (then_at rfl (wp_ret ?_))))))))))
  repeat first|refine tr ?_|refine block_ret ?_
  exact bodyPost_ret (v := .tuple #[.string { data := #[] }, iN .i64 3]) ky rfl ⟨by rw [show bdA x = _ from if_neg (by have := (of_decide_eq_true q1); omega)], H0.old.old⟩
set_option maxHeartbeats 2000000 in
theorem bb_any {w : World} (b : Bu) :
    Calls Try.prog 59 #[.agg (buC b)] w fun e w' => e = .returned (.string (encA b).1) ∧ Below w.heap.size w w' := by
  have H0 := HA.start w
  go_enter Try.func59, Try.ntmps59
  refine wp_seq (wl_region (wl_make (c := buC b) H0 27 ky ky ?_))
  intro q1 w2 (h3 : HA (bs w) [(q1, 27, buC b)] w2)
  refine zv (.string ({ data := #[] })) (wl_nil (then_at rfl (wp_seq (wl_region (wl_load h3 0 rfl ky ky Try.underlying27 rfl ky (zl (.tuple #[.string ((encA b).1), iN .i64 ((encA b).2)]) h3 enter95 _ (enc_any b) (fun w4 h5 => (zv (.tuple #[.string ((encA b).1), iN .i64 ((encA b).2)]) (zv (.string ((encA b).1)) (zv (iN .i64 ((encA b).2)) (zv (.string ((encA b).1)) (zv (iN .i64 ((encA b).2)) (wl_nil (then_at rfl (wp_seq (wl_region (zv (.string ((encA b).1)) (zv (.string ((encA b).1)) (wl_nil (then_at rfl (wp_ret ?_)))))))))))))))))))))
  repeat first|refine tr ?_|refine block_ret ?_
  exact bodyPost_ret (v := .string (encA b).1) ky rfl ⟨rfl, h5.old.old⟩
end Go.Proofs.Ytiogegoepgkjlaa
