/-
  Index, Contains; the fields of a call; callBytes, EncodeCall.
-/
import Derived.Test.YtiogegoepgkjlaaC3
set_option maxRecDepth 100000
set_option linter.unusedVariables false
namespace Go.Proofs.Ytiogegoepgkjlaa
open Go.RowKit

/-- numbers as cells -/
def ncl (l : List Int) : List Value := l.map fun x => .int .i64 x
theorem ncl_len (l : List Int) : (ncl l).length = l.length := by simp [ncl]
section
variable {ρ : Operand → Value} {x y : Operand} {w : World} {dst : Option Tmp} {ty : TypeId} {pos : String} {aft : Array Edge} {gd : Option (Nat × Bool)}
theorem run_addr103 {o : Option Addr} {a : Addr} {n m i : Nat} (ho : o = some a) (hx : ρ x = .slice o n m) (hy : ρ y = iN .i64 i) (hi : i < n) : (execOp ρ ⟨dst, .indexAddr 103 x y, ty, pos, aft, gd⟩).run Try.prog w = .ok (.value (.pointer (some (a.add (i * 1))))) w := by
  subst ho
  simp only [execOp, hx, hy, iN]
  simp [go_sem, Try.underlying103, Try.sizeOf3, hi]
theorem run_ld103 {a : Addr} {i : Nat} {ds : List Int} (hA : At w (some a) (ncl ds)) (hi : i < ds.length) (hx : ρ x = .pointer (some (a.add (i * 1)))) : (execOp ρ ⟨dst, .load 3 x, ty, pos, aft, gd⟩).run Try.prog w = .ok (.value (.int .i64 (ds.getD i 0))) w := by
  have h := hA.get (j := i) (v := .int .i64 (ds.getD i 0)) (by simp [ncl, List.getD_eq_getElem?_getD, List.getElem?_eq_getElem hi])
  rw [Nat.mul_one] at hx
  simp only [execOp, hx, Instr.loadAt, Instr.sureAddr, Sem.run_bind, Sem.run_pure, Result.andThen_ok, loadVar, Try.isAgg3]
  simp [go_sem, h]
end
theorem own_in {z : Base} {L : BL} {w : World} (H : HA z L w) (i : Nat) {q : Nat} (ks : List Int) (hi : L[i]? = some (q, 3, (ncl ks).toArray)) : At w (some ⟨q, 0, none⟩) (ncl ks) := fun j v hj => by
  refine ⟨_, rfl, ?_⟩
  rw [add_lit, (H.get i hi).cell, ← hj]
  simp
theorem and2 {a b : Bool} (h : (a && b) = true) : a = true ∧ b = true := by
  cases a with
  | false => cases h
  | true => exact ⟨rfl, h⟩
/-- where a number stands -/
def ixA : List Int → Int → Nat → Int
  | [], _, _ => -1
  | x :: r, v, k => bif decide (v = x) then (k : Int) else ixA r v (k + 1)
theorem ixA_at {ks : List Int} {v : Int} {i : Nat} (hi : i < ks.length) : ixA (ks.drop i) v i = bif decide (v = ks.getD i 0) then (i : Int) else ixA (ks.drop (i + 1)) v (i + 1) := by
  rw [List.drop_eq_getElem_cons hi, ixA, List.getD_eq_getElem?_getD, List.getElem?_eq_getElem hi]
  rfl
def conA (ks : List Int) (v : Int) : Bool := decide (0 ≤ ixA ks v 0)
theorem ixA_lt : ∀ (ks : List Int) (v : Int) (k : Nat), (v ∈ ks → 0 ≤ ixA ks v k) ∧ (v ∉ ks → ixA ks v k = -1)
  | [], v, k => ⟨fun h => (by cases h), fun _ => rfl⟩
  | x :: r, v, k => by
    unfold ixA
    rcases h : decide (v = x) with _ | _
    · have hne := of_decide_eq_false h
      have := ixA_lt r v (k + 1)
      exact ⟨fun hm => this.1 ((List.mem_cons.1 hm).resolve_left hne), fun hm => this.2 fun h2 => hm (List.mem_cons_of_mem _ h2)⟩
    · exact ⟨fun _ => by show (0 : Int) ≤ (k : Int); omega, fun hm => absurd (by rw [of_decide_eq_true h]; exact List.mem_cons_self ..) hm⟩
theorem conA_eq (ks : List Int) (v : Int) : conA ks v = decide (v ∈ ks) := by
  unfold conA
  by_cases h : v ∈ ks
  · rw [decide_eq_true h, decide_eq_true ((ixA_lt ks v 0).1 h)]
  · rw [decide_eq_false h, (ixA_lt ks v 0).2 h]
    rfl
set_option maxHeartbeats 2000000 in
theorem ix_any {w : World} (ks : List Int) (v : Int) {o : Option Addr} {c : Nat} (hP : At w o (ncl ks)) (hl : ks.length ≤ 1000000) :
    Calls Try.prog 98 #[.slice o ks.length c, .int .i64 v] w fun e w' => e = .returned (.int .i64 (ixA ks v 0)) ∧ Below w.heap.size w w' := by
  have H0 := HA.start w
  go_enter Try.func98, Try.ntmps98
  refine wp_seq (wl_region (zv (iN .i64 0) (wl_nil (then_at rfl (wp_seq (wp_seq (wl_region (zv (.slice o ks.length c) (zv (iN .i64 ks.length) (zv (iN .i64 0) (wl_nil (then_at rfl (wp_block ?_)))))))))))))
  refine wp_count (fun i A w' => ∃ u1 : Nat → Value, A = ⟨(.slice o ks.length c :: .int .i64 v :: un :: un :: u1 4 :: u1 5 :: .slice o ks.length c :: iN .i64 ks.length :: iN .i64 i :: u1 9 :: u1 10 :: u1 11 :: u1 12 :: u1 13 :: u1 14 :: u1 15 :: u1 16 :: u1 17 :: u1 18 :: List.replicate 0 un).toArray, []⟩ ∧ HA (bs w) [] w' ∧ ixA ks v 0 = ixA (ks.drop i) v i) ks.length ?_ ?_ ?_
  {exact exu ky ⟨H0, rfl⟩}
  {rintro i hk _ w2 ⟨u1, rfl, h3, hr⟩
   obtain ⟨ma, hma, hAa⟩ := hP.ex (by rw [ncl_len]; omega)
   have hR := ixA_at (v := v) hk
   refine wp_seq (wl_region (zu (.bool true) (run_lss (k := .i64) (a := i) (b := ks.length) ky ky true (decide_eq_true (by omega))) (wl_nil (then_at rfl (wp_seq (wp_cond_true ky (wp_skip (then_at rfl (wp_seq (wp_block (wp_seq (wl_region (zv (iN .i64 i) (zv (iN .i64 i) (wl_nil (then_at rfl (wp_seq (wl_region (zv (.int .i64 v) (zv (.slice o ks.length c) (zv (iN .i64 i) (zu (.pointer (some (ma.add (i * 1)))) (run_addr103 (a := ma) (n := ks.length) (m := c) (i := i) hma ky ky hk) ?_))))))))))))))))))))))
   refine wl_val (.int .i64 (ks.getD i 0)) ky ((run_ld103 (hAa.keep h3.old.old) hk ky)) ?_
   rcases q4 : decide (v = ks.getD i 0) with _ | _
   {refine zu (.bool false) (run_eqZ (k := .i64) (a := v) (b := ks.getD i 0) ky ky false q4) (wl_nil (then_at rfl (wp_cond_false ky (wp_skip (block_normal (then_at rfl (wl_region (zu (iN .i64 (i + 1)) (run_add (k := .i64) (a := i) (b := 1) ky ky (by first | omega | (simp only [top]; omega))) (zv (iN .i64 (i + 1)) (wl_nil ?_))))))))))
    exact then_I (exu ky ⟨h3, by rw [hr, hR, q4]; rfl⟩)}
   refine zu (.bool true) (run_eqZ (k := .i64) (a := v) (b := ks.getD i 0) ky ky true q4) (wl_nil (then_at rfl (wp_cond_true ky (wp_seq (wl_region (zv (iN .i64 i) (zv (iN .i64 i) (wl_nil (then_at rfl (wp_ret ?_))))))))))
   repeat first|refine tr ?_|refine block_ret ?_
   exact bodyPost_ret (v := iN .i64 i) ky rfl ⟨by rw [show ixA ks v 0 = (i : Int) from by rw [hr, hR, q4]; first | done | rfl]; rfl, h3.old.old⟩}
  {rintro _ w5 ⟨u1, rfl, h6, hr⟩
   refine wp_seq (wl_region (zu (.bool false) (run_lss (k := .i64) (a := ks.length) (b := ks.length) ky ky false (decide_eq_false (by omega))) (wl_nil (then_at rfl (wp_seq (wp_cond_false ky ?_))))))
   refine wp_exit ?_
   repeat first | refine then_exit ?_ | refine block_exit ?_ | refine block_exit_ne (by decide) ?_
   refine then_at rfl (wp_seq (wl_region ?_))
   refine zv (.int .i64 (-1)) (wl_nil (then_at rfl (wp_ret ?_)))
   repeat first|refine tr ?_|refine block_ret ?_
   exact bodyPost_ret (v := .int .i64 (-1)) ky rfl ⟨by rw [show ixA ks v 0 = -1 from by rw [hr, List.drop_length]; first | done | rfl], h6.old.old⟩}
set_option maxHeartbeats 2000000 in
theorem con_any {w : World} (ks : List Int) (v : Int) {o : Option Addr} {c : Nat} (hP : At w o (ncl ks)) (hl : ks.length ≤ 1000000) :
    Calls Try.prog 75 #[.slice o ks.length c, .int .i64 v] w fun e w' => e = .returned (.bool (conA ks v)) ∧ Below w.heap.size w w' := by
  have H0 := HA.start w
  go_enter Try.func75, Try.ntmps75
  refine wp_seq (wl_region (zv (.bool false) (wl_nil (then_at rfl (wp_seq (wl_region (zv (.slice o ks.length c) (zv (.int .i64 v) (zl (.int .i64 (ixA ks v 0)) H0 enter98 #[.slice o ks.length c, .int .i64 v] (ix_any ks v (hP.keep H0.old.old) hl) (fun w1 h2 => ?_))))))))))
  rcases q3 : decide (0 ≤ ixA ks v 0) with _ | _
  {refine zu (.bool false) (run_geZ (k := .i64) (a := ixA ks v 0) (b := 0) ky ky false q3) (zv (.bool false) (wl_nil (then_at rfl (wp_ret ?_))))
   repeat first|refine tr ?_|refine block_ret ?_
   exact bodyPost_ret (v := .bool false) ky rfl ⟨by rw [(show conA ks v = false from by unfold conA; rw [q3]; first | done | rfl)], h2.old.old⟩}
  refine zu (.bool true) (run_geZ (k := .i64) (a := ixA ks v 0) (b := 0) ky ky true q3) (zv (.bool true) (wl_nil (then_at rfl (wp_ret ?_))))
  repeat first|refine tr ?_|refine block_ret ?_
  exact bodyPost_ret (v := .bool true) ky rfl ⟨by rw [(show conA ks v = true from by unfold conA; rw [q3]; first | done | rfl)], h2.old.old⟩
/-- the kinds that have a field; its bytes -/
def kinC : Nat → List Int
  | 0 => [1, 2]
  | 1 => [2]
  | 2 => [3]
  | 3 => [4]
  | 4 => [4]
  | 5 => [5]
  | 6 => [6, 7]
  | 7 => [8, 9]
  | 8 => [5, 8]
  | _ => []
def fldC (c : Ca) : Nat → ByteArray
  | 0 => nbT 1 c.us.toNat
  | 1 => nbT 1 c.dv.toNat
  | 2 => layT [lbA c.li] 1
  | 3 => (layT [(encA c.bu).1] 1 ++ nbT 4 c.ix.toNat)
  | 4 => (nbT 1 c.on.length ++ layT c.on c.on.length)
  | 5 => (nbT 1 c.tt.toNat ++ nbT 8 c.no)
  | 6 => nbT 8 c.af
  | 7 => (layT [c.nm] 1 ++ nbT 1 c.ix.toNat)
  | 8 => layT [c.bt] 1
  | _ => { data := #[] }
def calP (id : Nat) (c : Ca) : Nat → ByteArray
  | 0 => nbT 8 id ++ nbT 1 c.kd.toNat
  | i + 1 => bif conA (kinC i) c.kd then calP id c i ++ fldC c i else calP id c i
theorem calP_t {id : Nat} {c : Ca} {i : Nat} (h : conA (kinC i) c.kd = true) : calP id c (i + 1) = calP id c i ++ fldC c i := by rw [calP, h]; rfl
theorem calP_f {id : Nat} {c : Ca} {i : Nat} (h : conA (kinC i) c.kd = false) : calP id c (i + 1) = calP id c i := by rw [calP, h]; rfl
/-- a call's bytes -/
def calB (id : Nat) (c : Ca) : ByteArray := calP id c 9
def encC (id : Nat) (c : Ca) : ByteArray × Nat := bif mayC c then bdA (calB id c) else ({ data := #[] }, 2)
/-- what is so of a call that may be, by its kind -/
def OkC (c : Ca) : Prop :=
  (c.kd = 2 ∧ (wi c.dv 0 1 && wi c.us 0 2) = true ∧ c = ⟨c.kd, c.us, c.dv, ⟨0, 0, { data := #[] }, [], { data := #[] }⟩, ⟨0, 0, { data := #[] }, { data := #[] }, 0, { data := #[] }, { data := #[] }, 0, { data := #[] }⟩, [], 0, 0, 0, { data := #[] }, 0, { data := #[] }⟩) ∨ (c.kd = 1 ∧ wi c.us 0 2 = true ∧ c = ⟨c.kd, c.us, 0, ⟨0, 0, { data := #[] }, [], { data := #[] }⟩, ⟨0, 0, { data := #[] }, { data := #[] }, 0, { data := #[] }, { data := #[] }, 0, { data := #[] }⟩, [], 0, 0, 0, { data := #[] }, 0, { data := #[] }⟩) ∨ (c.kd = 3 ∧ mayL c.li = true ∧ c = ⟨c.kd, 0, 0, c.li, ⟨0, 0, { data := #[] }, { data := #[] }, 0, { data := #[] }, { data := #[] }, 0, { data := #[] }⟩, [], 0, 0, 0, { data := #[] }, 0, { data := #[] }⟩) ∨ (c.kd = 4 ∧ (!decide ((encA c.bu).1 = { data := #[] }) && decide (c.bu.oi = 0) && wi c.ix 1 1073741824 && decide (c.on.length ≤ 20) && c.on.all kk) = true ∧ c = ⟨c.kd, 0, 0, ⟨0, 0, { data := #[] }, [], { data := #[] }⟩, c.bu, c.on, 0, 0, 0, { data := #[] }, c.ix, { data := #[] }⟩) ∨ (c.kd = 5 ∧ (isD c.tt && wn c.no 1 1099511627776 && wi ((c.bt.size : Nat) : Int) 1 4096) = true ∧ c = ⟨c.kd, 0, 0, ⟨0, 0, { data := #[] }, [], { data := #[] }⟩, ⟨0, 0, { data := #[] }, { data := #[] }, 0, { data := #[] }, { data := #[] }, 0, { data := #[] }⟩, [], c.tt, c.no, 0, { data := #[] }, 0, c.bt⟩) ∨ (c.kd = 6 ∧ wn c.af 0 1099511627776 = true ∧ c = ⟨c.kd, 0, 0, ⟨0, 0, { data := #[] }, [], { data := #[] }⟩, ⟨0, 0, { data := #[] }, { data := #[] }, 0, { data := #[] }, { data := #[] }, 0, { data := #[] }⟩, [], 0, 0, c.af, { data := #[] }, 0, { data := #[] }⟩) ∨ (c.kd = 7 ∧ wn c.af 0 1099511627776 = true ∧ c = ⟨c.kd, 0, 0, ⟨0, 0, { data := #[] }, [], { data := #[] }⟩, ⟨0, 0, { data := #[] }, { data := #[] }, 0, { data := #[] }, { data := #[] }, 0, { data := #[] }⟩, [], 0, 0, c.af, { data := #[] }, 0, { data := #[] }⟩) ∨ (c.kd = 8 ∧ (wi ((c.bt.size : Nat) : Int) 1 4096 && wi ((c.nm.size : Nat) : Int) 1 40 && wi c.ix 0 63) = true ∧ c = ⟨c.kd, 0, 0, ⟨0, 0, { data := #[] }, [], { data := #[] }⟩, ⟨0, 0, { data := #[] }, { data := #[] }, 0, { data := #[] }, { data := #[] }, 0, { data := #[] }⟩, [], 0, 0, 0, c.nm, c.ix, c.bt⟩) ∨ (c.kd = 9 ∧ (wi ((c.nm.size : Nat) : Int) 1 40 && wi c.ix 0 63) = true ∧ c = ⟨c.kd, 0, 0, ⟨0, 0, { data := #[] }, [], { data := #[] }⟩, ⟨0, 0, { data := #[] }, { data := #[] }, 0, { data := #[] }, { data := #[] }, 0, { data := #[] }⟩, [], 0, 0, 0, c.nm, c.ix, { data := #[] }⟩)
theorem mayC_ok {c : Ca} (hm : mayC c = true) : OkC c := by
  unfold mayC at hm
  rcases k2 : decide (c.kd = 2) with _ | _
  rotate_left
  · rw [k2] at hm
    have h2 := and2 hm
    exact .inl ⟨of_decide_eq_true k2, h2.1, of_decide_eq_true ((sameC_eq _ _).symm.trans h2.2)⟩
  rw [k2] at hm
  rcases k1 : decide (c.kd = 1) with _ | _
  rotate_left
  · rw [k1] at hm
    have h2 := and2 hm
    exact .inr (.inl ⟨of_decide_eq_true k1, h2.1, of_decide_eq_true ((sameC_eq _ _).symm.trans h2.2)⟩)
  rw [k1] at hm
  rcases k3 : decide (c.kd = 3) with _ | _
  rotate_left
  · rw [k3] at hm
    have h2 := and2 hm
    exact .inr (.inr (.inl ⟨of_decide_eq_true k3, h2.1, of_decide_eq_true ((sameC_eq _ _).symm.trans h2.2)⟩))
  rw [k3] at hm
  rcases k4 : decide (c.kd = 4) with _ | _
  rotate_left
  · rw [k4] at hm
    have h2 := and2 hm
    exact .inr (.inr (.inr (.inl ⟨of_decide_eq_true k4, h2.1, of_decide_eq_true ((sameC_eq _ _).symm.trans h2.2)⟩)))
  rw [k4] at hm
  rcases k5 : decide (c.kd = 5) with _ | _
  rotate_left
  · rw [k5] at hm
    have h2 := and2 hm
    exact .inr (.inr (.inr (.inr (.inl ⟨of_decide_eq_true k5, h2.1, of_decide_eq_true ((sameC_eq _ _).symm.trans h2.2)⟩))))
  rw [k5] at hm
  rcases k6 : decide (c.kd = 6) with _ | _
  rotate_left
  · rw [k6] at hm
    have h2 := and2 hm
    exact .inr (.inr (.inr (.inr (.inr (.inl ⟨of_decide_eq_true k6, h2.1, of_decide_eq_true ((sameC_eq _ _).symm.trans h2.2)⟩)))))
  rw [k6] at hm
  rcases k7 : decide (c.kd = 7) with _ | _
  rotate_left
  · rw [k7] at hm
    have h2 := and2 hm
    exact .inr (.inr (.inr (.inr (.inr (.inr (.inl ⟨of_decide_eq_true k7, h2.1, of_decide_eq_true ((sameC_eq _ _).symm.trans h2.2)⟩))))))
  rw [k7] at hm
  rcases k8 : decide (c.kd = 8) with _ | _
  rotate_left
  · rw [k8] at hm
    have h2 := and2 hm
    exact .inr (.inr (.inr (.inr (.inr (.inr (.inr (.inl ⟨of_decide_eq_true k8, h2.1, of_decide_eq_true ((sameC_eq _ _).symm.trans h2.2)⟩)))))))
  rw [k8] at hm
  rcases k9 : decide (c.kd = 9) with _ | _
  rotate_left
  · rw [k9] at hm
    have h2 := and2 hm
    exact .inr (.inr (.inr (.inr (.inr (.inr (.inr (.inr (⟨of_decide_eq_true k9, h2.1, of_decide_eq_true ((sameC_eq _ _).symm.trans h2.2)⟩))))))))
  rw [k9] at hm
  cases hm
theorem wn_le {v lo hi : Nat} (h : wn v lo hi = true) : lo ≤ v ∧ v ≤ hi := by
  unfold wn at h
  simpa only [Bool.and_eq_true, decide_eq_true_eq] using h
theorem encA_le (b : Bu) : (encA b).1.size ≤ 100000 := by
  unfold encA
  rcases h : mayX b with _ | _
  · exact Nat.zero_le _
  · exact encB_size (mayX_iff h)
theorem lbA_le (l : Li) : (lbA l).size ≤ 6032 := by
  unfold lbA
  rcases h : mayL l with _ | _
  · exact Nat.zero_le _
  · exact lisB_size (mayL_iff h)
theorem OkC.kd {c : Ca} (h : OkC c) : 1 ≤ c.kd ∧ c.kd ≤ 9 := by
  unfold OkC at h
  rcases h with h | h | h | h | h | h | h | h | h <;> (have := h.1; omega)
theorem fb0 {c : Ca} (h : OkC c) (hk : conA [1, 2] c.kd = true) : 0 ≤ c.us ∧ c.us ≤ 2 := by
  rw [conA_eq, decide_eq_true_eq] at hk
  simp only [List.mem_cons, List.not_mem_nil, or_false] at hk
  unfold OkC at h
  rcases h with ⟨k, h, e⟩ | ⟨k, h, e⟩ | ⟨k, h, e⟩ | ⟨k, h, e⟩ | ⟨k, h, e⟩ | ⟨k, h, e⟩ | ⟨k, h, e⟩ | ⟨k, h, e⟩ | ⟨k, h, e⟩
  · exact wi_le (and2 h).2
  · exact wi_le h
  · omega
  · omega
  · omega
  · omega
  · omega
  · omega
  · omega
theorem fb1 {c : Ca} (h : OkC c) (hk : conA [2] c.kd = true) : 0 ≤ c.dv ∧ c.dv ≤ 1 := by
  rw [conA_eq, decide_eq_true_eq] at hk
  simp only [List.mem_cons, List.not_mem_nil, or_false] at hk
  unfold OkC at h
  rcases h with ⟨k, h, e⟩ | ⟨k, h, e⟩ | ⟨k, h, e⟩ | ⟨k, h, e⟩ | ⟨k, h, e⟩ | ⟨k, h, e⟩ | ⟨k, h, e⟩ | ⟨k, h, e⟩ | ⟨k, h, e⟩
  · exact wi_le (and2 h).1
  · omega
  · omega
  · omega
  · omega
  · omega
  · omega
  · omega
  · omega
theorem fb3 {c : Ca} (h : OkC c) (hk : conA [4] c.kd = true) : 1 ≤ c.ix ∧ c.ix ≤ 1073741824 := by
  rw [conA_eq, decide_eq_true_eq] at hk
  simp only [List.mem_cons, List.not_mem_nil, or_false] at hk
  unfold OkC at h
  rcases h with ⟨k, h, e⟩ | ⟨k, h, e⟩ | ⟨k, h, e⟩ | ⟨k, h, e⟩ | ⟨k, h, e⟩ | ⟨k, h, e⟩ | ⟨k, h, e⟩ | ⟨k, h, e⟩ | ⟨k, h, e⟩
  · omega
  · omega
  · omega
  · exact wi_le (and2 (and2 (and2 h).1).1).2
  · omega
  · omega
  · omega
  · omega
  · omega
theorem fb4 {c : Ca} (h : OkC c) (hk : conA [4] c.kd = true) : c.on.length ≤ 20 ∧ ∀ i, (c.on.getD i ByteArray.empty).size ≤ 1000 := by
  rw [conA_eq, decide_eq_true_eq] at hk
  simp only [List.mem_cons, List.not_mem_nil, or_false] at hk
  unfold OkC at h
  rcases h with ⟨k, h, e⟩ | ⟨k, h, e⟩ | ⟨k, h, e⟩ | ⟨k, h, e⟩ | ⟨k, h, e⟩ | ⟨k, h, e⟩ | ⟨k, h, e⟩ | ⟨k, h, e⟩ | ⟨k, h, e⟩
  · omega
  · omega
  · omega
  · exact ⟨of_decide_eq_true (and2 (and2 h).1).2, strs_le fun s hs => (kk_le (List.all_eq_true.1 (and2 h).2 s hs)).2⟩
  · omega
  · omega
  · omega
  · omega
  · omega
theorem fb5 {c : Ca} (h : OkC c) (hk : conA [5] c.kd = true) : 0 ≤ c.tt ∧ c.tt ≤ 7 := by
  rw [conA_eq, decide_eq_true_eq] at hk
  simp only [List.mem_cons, List.not_mem_nil, or_false] at hk
  unfold OkC at h
  rcases h with ⟨k, h, e⟩ | ⟨k, h, e⟩ | ⟨k, h, e⟩ | ⟨k, h, e⟩ | ⟨k, h, e⟩ | ⟨k, h, e⟩ | ⟨k, h, e⟩ | ⟨k, h, e⟩ | ⟨k, h, e⟩
  · omega
  · omega
  · omega
  · omega
  · have := wi_le (show wi c.tt 2 7 = true from (and2 (and2 h).1).1); omega
  · omega
  · omega
  · omega
  · omega
theorem fb7 {c : Ca} (h : OkC c) (hk : conA [8, 9] c.kd = true) : (0 ≤ c.ix ∧ c.ix ≤ 63) ∧ c.nm.size ≤ 40 := by
  rw [conA_eq, decide_eq_true_eq] at hk
  simp only [List.mem_cons, List.not_mem_nil, or_false] at hk
  unfold OkC at h
  rcases h with ⟨k, h, e⟩ | ⟨k, h, e⟩ | ⟨k, h, e⟩ | ⟨k, h, e⟩ | ⟨k, h, e⟩ | ⟨k, h, e⟩ | ⟨k, h, e⟩ | ⟨k, h, e⟩ | ⟨k, h, e⟩
  · omega
  · omega
  · omega
  · omega
  · omega
  · omega
  · omega
  · have h1 := wi_le (and2 (and2 h).1).2; have h2 := wi_le (and2 h).2; omega
  · have h1 := wi_le (and2 h).1; have h2 := wi_le (and2 h).2; omega
theorem fb8 {c : Ca} (h : OkC c) (hk : conA [5, 8] c.kd = true) : c.bt.size ≤ 4096 := by
  rw [conA_eq, decide_eq_true_eq] at hk
  simp only [List.mem_cons, List.not_mem_nil, or_false] at hk
  unfold OkC at h
  rcases h with ⟨k, h, e⟩ | ⟨k, h, e⟩ | ⟨k, h, e⟩ | ⟨k, h, e⟩ | ⟨k, h, e⟩ | ⟨k, h, e⟩ | ⟨k, h, e⟩ | ⟨k, h, e⟩ | ⟨k, h, e⟩
  · omega
  · omega
  · omega
  · omega
  · have h1 := wi_le (and2 h).2; omega
  · omega
  · omega
  · have h1 := wi_le (and2 (and2 h).1).1; omega
  · omega
theorem fld_size {c : Ca} (h : OkC c) : ∀ i, conA (kinC i) c.kd = true → (fldC c i).size ≤ 110000
  | 0, hk => by show (nbT 1 _).size ≤ 110000; rw [nbT_size (by decide) (by decide)]; omega
  | 1, hk => by show (nbT 1 _).size ≤ 110000; rw [nbT_size (by decide) (by decide)]; omega
  | 2, hk => by have := lay1_le (lbA_le c.li); show (layT [lbA c.li] 1).size ≤ 110000; omega
  | 3, hk => by have := lay1_le (encA_le c.bu); show (layT [(encA c.bu).1] 1 ++ nbT 4 _).size ≤ 110000; rw [ByteArray.size_append, nbT_size (by decide) (by decide)]; omega
  | 4, hk => by have h1 := fb4 h hk; have h2 := layT_size h1.2 c.on.length; have h3 : c.on.length * (1000 + 4) ≤ 20 * (1000 + 4) := Nat.mul_le_mul_right _ h1.1; show (nbT 1 _ ++ layT c.on c.on.length).size ≤ 110000; rw [ByteArray.size_append, nbT_size (by decide) (by decide)]; omega
  | 5, hk => by show (nbT 1 _ ++ nbT 8 _).size ≤ 110000; rw [ByteArray.size_append, nbT_size (by decide) (by decide), nbT_size (by decide) (by decide)]; omega
  | 6, hk => by show (nbT 8 _).size ≤ 110000; rw [nbT_size (by decide) (by decide)]; omega
  | 7, hk => by have h1 := fb7 h hk; have := lay1_le h1.2; show (layT [c.nm] 1 ++ nbT 1 _).size ≤ 110000; rw [ByteArray.size_append, nbT_size (by decide) (by decide)]; omega
  | 8, hk => by have h1 := fb8 h hk; have := lay1_le h1; show (layT [c.bt] 1).size ≤ 110000; omega
  | n + 9, hk => Nat.zero_le _
theorem calP_size {id : Nat} {c : Ca} (h : OkC c) : ∀ i, (calP id c i).size ≤ 9 + i * 110000
  | 0 => by show (nbT 8 _ ++ nbT 1 _).size ≤ _; rw [ByteArray.size_append, nbT_size (by decide) (by decide), nbT_size (by decide) (by decide)]; omega
  | i + 1 => by
    have h1 := calP_size (id := id) h i
    rcases hk : conA (kinC i) c.kd with _ | _
    · have h3 : (calP id c (i + 1)).size = (calP id c i).size := by rw [calP_f hk]
      omega
    · have h2 := fld_size h i hk
      have h3 : (calP id c (i + 1)).size = (calP id c i).size + (fldC c i).size := by rw [calP_t hk, ByteArray.size_append]
      omega
theorem nine {i : Nat} (h : i < 9) : i = 0 ∨ i = 1 ∨ i = 2 ∨ i = 3 ∨ i = 4 ∨ i = 5 ∨ i = 6 ∨ i = 7 ∨ i = 8 := by omega
set_option maxHeartbeats 2000000 in
theorem cf_0 {w : World} (c : Ca) {o p : Option Addr} {k m : Nat} (hP : At w o (mcl c.li.ds)) (hQ : At w p (scl c.on)) (hl1 : c.li.ds.length ≤ 1000000) (hl2 : c.on.length ≤ 1000000) {cq : Nat} (hB : Blk w cq 30 (caC c (.slice o c.li.ds.length k) (.slice p c.on.length m))) (hb : 0 ≤ c.us ∧ c.us ≤ 2) :
    Calls Try.prog 62 #[pt cq] w fun e w' => e = .returned (.string (fldC c 0)) ∧ Below w.heap.size w w' := by
  have H0 := HA.start w
  go_enter Try.func62, Try.ntmps62
  refine wp_seq (wl_region (zv (.string ({ data := #[] })) (wl_nil (then_at rfl (wp_seq (wl_region (zv (.pointer (some ⟨cq, 1, none⟩)) (zu (.int .i64 c.us) (run_load1 (fun w => Try.isAgg3 w) ky (((hB.keep H0.old.old).cell 1).trans rfl)) (zl (.string (nbT 1 c.us.toNat)) H0 enter63 _ (nu_any 1 c.us hb.1 (by omega)) (fun w1 h2 => (zv (.string (nbT 1 c.us.toNat)) (wl_nil (then_at rfl (wp_ret ?_))))))))))))))
  repeat first|refine tr ?_|refine block_ret ?_
  exact bodyPost_ret (v := .string (fldC c 0)) ky rfl ⟨rfl, h2.old.old⟩
set_option maxHeartbeats 2000000 in
theorem cf_1 {w : World} (c : Ca) {o p : Option Addr} {k m : Nat} (hP : At w o (mcl c.li.ds)) (hQ : At w p (scl c.on)) (hl1 : c.li.ds.length ≤ 1000000) (hl2 : c.on.length ≤ 1000000) {cq : Nat} (hB : Blk w cq 30 (caC c (.slice o c.li.ds.length k) (.slice p c.on.length m))) (hb : 0 ≤ c.dv ∧ c.dv ≤ 1) :
    Calls Try.prog 64 #[pt cq] w fun e w' => e = .returned (.string (fldC c 1)) ∧ Below w.heap.size w w' := by
  have H0 := HA.start w
  go_enter Try.func64, Try.ntmps64
  refine wp_seq (wl_region (zv (.string ({ data := #[] })) (wl_nil (then_at rfl (wp_seq (wl_region (zv (.pointer (some ⟨cq, 2, none⟩)) (zu (.int .i64 c.dv) (run_load1 (fun w => Try.isAgg3 w) ky (((hB.keep H0.old.old).cell 2).trans rfl)) (zl (.string (nbT 1 c.dv.toNat)) H0 enter63 _ (nu_any 1 c.dv hb.1 (by omega)) (fun w1 h2 => (zv (.string (nbT 1 c.dv.toNat)) (wl_nil (then_at rfl (wp_ret ?_))))))))))))))
  repeat first|refine tr ?_|refine block_ret ?_
  exact bodyPost_ret (v := .string (fldC c 1)) ky rfl ⟨rfl, h2.old.old⟩
set_option maxHeartbeats 2000000 in
theorem cf_2 {w : World} (c : Ca) {o p : Option Addr} {k m : Nat} (hP : At w o (mcl c.li.ds)) (hQ : At w p (scl c.on)) (hl1 : c.li.ds.length ≤ 1000000) (hl2 : c.on.length ≤ 1000000) {cq : Nat} (hB : Blk w cq 30 (caC c (.slice o c.li.ds.length k) (.slice p c.on.length m))) :
    Calls Try.prog 65 #[pt cq] w fun e w' => e = .returned (.string (fldC c 2)) ∧ Below w.heap.size w w' := by
  have H0 := HA.start w
  go_enter Try.func65, Try.ntmps65
  refine wp_seq (wl_region (zv (.string ({ data := #[] })) (wl_nil (then_at rfl (wp_seq (wl_region (zv (.pointer (some ⟨cq, 3, none⟩)) (zu (.agg #[.int .i64 c.li.u, .int .i64 c.li.v, .string c.li.ac, .slice o c.li.ds.length k, .string c.li.sg]) (run_load_part (q := cq) (off := 3) (d := #[.int .i64 c.li.u, .int .i64 c.li.v, .string c.li.ac, .slice o c.li.ds.length k, .string c.li.sg]) ky (hB.keep H0.old.old) Try.underlying25 rfl ky (by intro j hj; match j, hj with | 0, _ => rfl | 1, _ => rfl | 2, _ => rfl | 3, _ => rfl | 4, _ => rfl)) (zl (.string (lbA c.li)) H0 enter67 #[.agg #[.int .i64 c.li.u, .int .i64 c.li.v, .string c.li.ac, .slice o c.li.ds.length k, .string c.li.sg]] (lb_any c.li (hP.keep H0.old.old)) (fun w1 h2 => (wl_mks (n := 1) (m := 1) (c := #[.string (lbA c.li)]) h2 9 ky ky ?_)))))))))))
  intro q3 w4 (h5 : HA (bs w) [(q3, 9, #[.string (lbA c.li)])] w4)
  refine zl (.string (layT [lbA c.li] 1)) h5 enter66 #[.slice (some ⟨q3, 0, none⟩) 1 1] (la_any [lbA c.li] (own_tx h5 0 [lbA c.li] rfl) (m := 6032) (by decide) (ss1 (lbA_le c.li)) (by simp)) (fun w6 h7 => (zv (.string (layT [lbA c.li] 1)) (wl_nil (then_at rfl (wp_ret ?_)))))
  repeat first|refine tr ?_|refine block_ret ?_
  exact bodyPost_ret (v := .string (fldC c 2)) ky rfl ⟨rfl, h7.old.old⟩
set_option maxHeartbeats 2000000 in
theorem cf_3 {w : World} (c : Ca) {o p : Option Addr} {k m : Nat} (hP : At w o (mcl c.li.ds)) (hQ : At w p (scl c.on)) (hl1 : c.li.ds.length ≤ 1000000) (hl2 : c.on.length ≤ 1000000) {cq : Nat} (hB : Blk w cq 30 (caC c (.slice o c.li.ds.length k) (.slice p c.on.length m))) (hb : 1 ≤ c.ix ∧ c.ix ≤ 1073741824) :
    Calls Try.prog 68 #[pt cq] w fun e w' => e = .returned (.string (fldC c 3)) ∧ Below w.heap.size w w' := by
  have H0 := HA.start w
  go_enter Try.func68, Try.ntmps68
  refine wp_seq (wl_region (zv (.string ({ data := #[] })) (wl_nil (then_at rfl (wp_seq ?_)))))
  refine wp_region_wx (HA (bs w) []) (fun AQ w' => ∃ (q4 : Nat), AQ = ⟨(pt cq :: .string (layT [(encA c.bu).1] 1 ++ nbT 4 c.ix.toNat) :: .pointer (some ⟨cq, 8, none⟩) :: .agg #[.int .i64 c.bu.u, .int .i64 c.bu.d, .string c.bu.sg, .string c.bu.dh, .int .i64 c.bu.pi, .string c.bu.pr, .string c.bu.ps, .int .i64 c.bu.oi, .string c.bu.on] :: .string ((encA c.bu).1) :: .slice (some ⟨q4, 0, none⟩) 1 1 :: .string (layT [(encA c.bu).1] 1) :: .pointer (some ⟨cq, 22, none⟩) :: .int .i64 c.ix :: .string (nbT 4 c.ix.toNat) :: .string (layT [(encA c.bu).1] 1 ++ nbT 4 c.ix.toNat) :: List.replicate 0 un).toArray, []⟩ ∧ HA (bs w) [(q4, 9, #[.string ((encA c.bu).1)])] w') 10 ky ky ky ky ky (H0.drew) ?_ ?_
  {have h1 := H0.drew
   refine zp 0 (.pointer (some ⟨cq, 8, none⟩)) (zx 1 (.agg #[.int .i64 c.bu.u, .int .i64 c.bu.d, .string c.bu.sg, .string c.bu.dh, .int .i64 c.bu.pi, .string c.bu.pr, .string c.bu.ps, .int .i64 c.bu.oi, .string c.bu.on]) rfl (fun w' h' => run_load_part (q := cq) (off := 8) (d := #[.int .i64 c.bu.u, .int .i64 c.bu.d, .string c.bu.sg, .string c.bu.dh, .int .i64 c.bu.pi, .string c.bu.pr, .string c.bu.ps, .int .i64 c.bu.oi, .string c.bu.on]) ky (hB.keep h'.old.old) Try.underlying27 rfl ky (by intro j hj; match j, hj with | 0, _ => rfl | 1, _ => rfl | 2, _ => rfl | 3, _ => rfl | 4, _ => rfl | 5, _ => rfl | 6, _ => rfl | 7, _ => rfl | 8, _ => rfl)) (zc 2 (.string ((encA c.bu).1)) rfl enter59 _ (fun w' h' => bb_any c.bu) (zp 5 (.pointer (some ⟨cq, 22, none⟩)) (zx 6 (.int .i64 c.ix) rfl (fun w' h' => run_load1 (fun w => Try.isAgg3 w) ky (((hB.keep h'.old.old).cell 22).trans rfl)) (wx_one 3 ky ?_)))))
   refine ex_makeT (c := #[.string ((encA c.bu).1)]) rfl ky h1 9 (fun q => .slice (some ⟨q, 0, none⟩) 1 1) (fun _ => ky) ?_
   intro q4 w2 (h3 : HA (bs w) [(q4, 9, #[.string ((encA c.bu).1)])] w2)
   refine ⟨_, .inr rfl, (HA.sub h3 (List.Sublist.cons _ (List.Sublist.refl _))), ?_⟩
   refine wx_one 4 ky ?_
   refine ex_callx rfl ky h3 enter66 #[.slice (some ⟨q4, 0, none⟩) 1 1] ky (fun w5 h6 => la_any [(encA c.bu).1] (own_tx h6 0 [(encA c.bu).1] rfl) (m := 100000) (by decide) (ss1 (encA_le c.bu)) (by simp)) ?_
   rintro w5 h6 _ w8 ⟨rfl, hb7⟩
   have h9 := HA.keep _ _ h6 hb7
   refine ⟨_, rfl, _, .inr rfl, (HA.sub h9 (List.Sublist.cons _ (List.Sublist.refl _))), ?_⟩
   refine zc 7 (.string (nbT 4 c.ix.toNat)) rfl enter63 _ (fun w' h' => nu_any 4 c.ix (by omega) (by omega)) (zq 8 (.string (layT [(encA c.bu).1] 1 ++ nbT 4 c.ix.toNat)) rfl (fun _ => (run_cat (s := layT [(encA c.bu).1] 1) (t := nbT 4 c.ix.toNat) ky ky (by have h9 := lay1_le (encA_le c.bu); simp only [nbT_size (k := 4) (by decide) (by decide)]; omega))) (zp 9 (.string (layT [(encA c.bu).1] 1 ++ nbT 4 c.ix.toNat)) ?_))
   refine wx_end fun w10 hbx _ => ?_
   have h11 := HA.keep _ _ h9 hbx
   exact ⟨q4, by kernel_rfl, h11⟩}
  {rintro _ w12 ⟨q4, rfl, h13⟩
   refine then_at rfl ?_
   refine wp_ret ?_
   repeat first|refine tr ?_|refine block_ret ?_
   exact bodyPost_ret (v := .string (fldC c 3)) ky rfl ⟨rfl, h13.old.old⟩}
set_option maxHeartbeats 2000000 in
theorem cf_4 {w : World} (c : Ca) {o p : Option Addr} {k m : Nat} (hP : At w o (mcl c.li.ds)) (hQ : At w p (scl c.on)) (hl1 : c.li.ds.length ≤ 1000000) (hl2 : c.on.length ≤ 1000000) {cq : Nat} (hB : Blk w cq 30 (caC c (.slice o c.li.ds.length k) (.slice p c.on.length m))) (hb : c.on.length ≤ 20 ∧ ∀ i, (c.on.getD i ByteArray.empty).size ≤ 1000) :
    Calls Try.prog 69 #[pt cq] w fun e w' => e = .returned (.string (fldC c 4)) ∧ Below w.heap.size w w' := by
  have H0 := HA.start w
  go_enter Try.func69, Try.ntmps69
  refine wp_seq (wl_region (zv (.string ({ data := #[] })) (wl_nil (then_at rfl (wp_seq ?_)))))
  refine wp_region_wx (HA (bs w) []) (fun AQ w' => AQ = ⟨(pt cq :: .string (nbT 1 c.on.length ++ layT c.on c.on.length) :: .pointer (some ⟨cq, 17, none⟩) :: .slice p c.on.length m :: iN .i64 c.on.length :: .string (nbT 1 c.on.length) :: .pointer (some ⟨cq, 17, none⟩) :: .slice p c.on.length m :: .string (layT c.on c.on.length) :: .string (nbT 1 c.on.length ++ layT c.on c.on.length) :: List.replicate 0 un).toArray, []⟩ ∧ HA (bs w) [] w') 9 ky ky ky ky ky (H0.drew) ?_ ?_
  {have h1 := H0.drew
   refine zp 0 (.pointer (some ⟨cq, 17, none⟩)) (zx 1 (.slice p c.on.length m) rfl (fun w' h' => run_load1 (fun w => Try.isAgg28 w) ky (((hB.keep h'.old.old).cell 17).trans rfl)) (zp 2 (iN .i64 c.on.length) (zc 3 (.string (nbT 1 c.on.length)) rfl enter63 _ (fun w' h' => nu_any 1 ((c.on.length : Nat) : Int) (by omega) (by have := hb.1; omega)) (zp 4 (.pointer (some ⟨cq, 17, none⟩)) (zx 5 (.slice p c.on.length m) rfl (fun w' h' => run_load1 (fun w => Try.isAgg28 w) ky (((hB.keep h'.old.old).cell 17).trans rfl)) (zc 6 (.string (layT c.on c.on.length)) rfl enter66 #[.slice p c.on.length m] (fun w' h' => la_any c.on (hQ.keep h'.old.old) (m := 1000) (by decide) hb.2 (by have := hb.1; omega)) (zq 7 (.string (nbT 1 c.on.length ++ layT c.on c.on.length)) rfl (fun _ => (run_cat (s := nbT 1 c.on.length) (t := layT c.on c.on.length) ky ky (by have h8 := layT_size hb.2 c.on.length; have h9 : c.on.length * (1000 + 4) ≤ 20 * (1000 + 4) := Nat.mul_le_mul_right _ hb.1; simp only [nbT_size (k := 1) (by decide) (by decide)]; omega))) (zp 8 (.string (nbT 1 c.on.length ++ layT c.on c.on.length)) ?_))))))))
   refine wx_end fun w2 hbx _ => ?_
   have h3 := HA.keep _ _ h1 hbx
   exact ⟨by kernel_rfl, h3⟩}
  {rintro _ w4 ⟨rfl, h5⟩
   refine then_at rfl ?_
   refine wp_ret ?_
   repeat first|refine tr ?_|refine block_ret ?_
   exact bodyPost_ret (v := .string (fldC c 4)) ky rfl ⟨rfl, h5.old.old⟩}
set_option maxHeartbeats 2000000 in
theorem cf_5 {w : World} (c : Ca) {o p : Option Addr} {k m : Nat} (hP : At w o (mcl c.li.ds)) (hQ : At w p (scl c.on)) (hl1 : c.li.ds.length ≤ 1000000) (hl2 : c.on.length ≤ 1000000) {cq : Nat} (hB : Blk w cq 30 (caC c (.slice o c.li.ds.length k) (.slice p c.on.length m))) (hb : 0 ≤ c.tt ∧ c.tt ≤ 7) :
    Calls Try.prog 70 #[pt cq] w fun e w' => e = .returned (.string (fldC c 5)) ∧ Below w.heap.size w w' := by
  have H0 := HA.start w
  go_enter Try.func70, Try.ntmps70
  refine wp_seq (wl_region (zv (.string ({ data := #[] })) (wl_nil (then_at rfl (wp_seq ?_)))))
  refine wp_region_wx (HA (bs w) []) (fun AQ w' => AQ = ⟨(pt cq :: .string (nbT 1 c.tt.toNat ++ nbT 8 c.no) :: .pointer (some ⟨cq, 18, none⟩) :: .int .i64 c.tt :: .string (nbT 1 c.tt.toNat) :: .pointer (some ⟨cq, 19, none⟩) :: iN .u64 c.no :: .string (nbT 8 c.no) :: .string (nbT 1 c.tt.toNat ++ nbT 8 c.no) :: List.replicate 0 un).toArray, []⟩ ∧ HA (bs w) [] w') 8 ky ky ky ky ky (H0.drew) ?_ ?_
  {have h1 := H0.drew
   refine zp 0 (.pointer (some ⟨cq, 18, none⟩)) (zx 1 (.int .i64 c.tt) rfl (fun w' h' => run_load1 (fun w => Try.isAgg3 w) ky (((hB.keep h'.old.old).cell 18).trans rfl)) (zc 2 (.string (nbT 1 c.tt.toNat)) rfl enter63 _ (fun w' h' => nu_any 1 c.tt hb.1 (by omega)) (zp 3 (.pointer (some ⟨cq, 19, none⟩)) (zx 4 (iN .u64 c.no) rfl (fun w' h' => run_load1 (fun w => Try.isAgg22 w) ky (((hB.keep h'.old.old).cell 19).trans rfl)) (zc 5 (.string (nbT 8 c.no)) rfl enter71 _ (fun w' h' => nw_any 8 c.no) (zq 6 (.string (nbT 1 c.tt.toNat ++ nbT 8 c.no)) rfl (fun _ => (run_cat (s := nbT 1 c.tt.toNat) (t := nbT 8 c.no) ky ky (by simp only [nbT_size (k := 1) (by decide) (by decide), nbT_size (k := 8) (by decide) (by decide)]; omega))) (zp 7 (.string (nbT 1 c.tt.toNat ++ nbT 8 c.no)) ?_)))))))
   refine wx_end fun w2 hbx _ => ?_
   have h3 := HA.keep _ _ h1 hbx
   exact ⟨by kernel_rfl, h3⟩}
  {rintro _ w4 ⟨rfl, h5⟩
   refine then_at rfl ?_
   refine wp_ret ?_
   repeat first|refine tr ?_|refine block_ret ?_
   exact bodyPost_ret (v := .string (fldC c 5)) ky rfl ⟨rfl, h5.old.old⟩}
set_option maxHeartbeats 2000000 in
theorem cf_6 {w : World} (c : Ca) {o p : Option Addr} {k m : Nat} (hP : At w o (mcl c.li.ds)) (hQ : At w p (scl c.on)) (hl1 : c.li.ds.length ≤ 1000000) (hl2 : c.on.length ≤ 1000000) {cq : Nat} (hB : Blk w cq 30 (caC c (.slice o c.li.ds.length k) (.slice p c.on.length m))) :
    Calls Try.prog 72 #[pt cq] w fun e w' => e = .returned (.string (fldC c 6)) ∧ Below w.heap.size w w' := by
  have H0 := HA.start w
  go_enter Try.func72, Try.ntmps72
  refine wp_seq (wl_region (zv (.string ({ data := #[] })) (wl_nil (then_at rfl (wp_seq (wl_region (zv (.pointer (some ⟨cq, 20, none⟩)) (zu (iN .u64 c.af) (run_load1 (fun w => Try.isAgg22 w) ky (((hB.keep H0.old.old).cell 20).trans rfl)) (zl (.string (nbT 8 c.af)) H0 enter71 _ (nw_any 8 c.af) (fun w1 h2 => (zv (.string (nbT 8 c.af)) (wl_nil (then_at rfl (wp_ret ?_))))))))))))))
  repeat first|refine tr ?_|refine block_ret ?_
  exact bodyPost_ret (v := .string (fldC c 6)) ky rfl ⟨rfl, h2.old.old⟩
set_option maxHeartbeats 2000000 in
theorem cf_7 {w : World} (c : Ca) {o p : Option Addr} {k m : Nat} (hP : At w o (mcl c.li.ds)) (hQ : At w p (scl c.on)) (hl1 : c.li.ds.length ≤ 1000000) (hl2 : c.on.length ≤ 1000000) {cq : Nat} (hB : Blk w cq 30 (caC c (.slice o c.li.ds.length k) (.slice p c.on.length m))) (hb : (0 ≤ c.ix ∧ c.ix ≤ 63) ∧ c.nm.size ≤ 40) :
    Calls Try.prog 73 #[pt cq] w fun e w' => e = .returned (.string (fldC c 7)) ∧ Below w.heap.size w w' := by
  have H0 := HA.start w
  go_enter Try.func73, Try.ntmps73
  refine wp_seq (wl_region (zv (.string ({ data := #[] })) (wl_nil (then_at rfl (wp_seq ?_)))))
  refine wp_region_wx (HA (bs w) []) (fun AQ w' => ∃ (q4 : Nat), AQ = ⟨(pt cq :: .string (layT [c.nm] 1 ++ nbT 1 c.ix.toNat) :: .pointer (some ⟨cq, 21, none⟩) :: .string c.nm :: .slice (some ⟨q4, 0, none⟩) 1 1 :: .string (layT [c.nm] 1) :: .pointer (some ⟨cq, 22, none⟩) :: .int .i64 c.ix :: .string (nbT 1 c.ix.toNat) :: .string (layT [c.nm] 1 ++ nbT 1 c.ix.toNat) :: List.replicate 0 un).toArray, []⟩ ∧ HA (bs w) [(q4, 9, #[.string c.nm])] w') 9 ky ky ky ky ky (H0.drew) ?_ ?_
  {have h1 := H0.drew
   refine zp 0 (.pointer (some ⟨cq, 21, none⟩)) (zx 1 (.string c.nm) rfl (fun w' h' => run_load1 (fun w => Try.isAgg9 w) ky (((hB.keep h'.old.old).cell 21).trans rfl)) (zp 4 (.pointer (some ⟨cq, 22, none⟩)) (zx 5 (.int .i64 c.ix) rfl (fun w' h' => run_load1 (fun w => Try.isAgg3 w) ky (((hB.keep h'.old.old).cell 22).trans rfl)) (wx_one 2 ky ?_))))
   refine ex_makeT (c := #[.string c.nm]) rfl ky h1 9 (fun q => .slice (some ⟨q, 0, none⟩) 1 1) (fun _ => ky) ?_
   intro q4 w2 (h3 : HA (bs w) [(q4, 9, #[.string c.nm])] w2)
   refine ⟨_, .inr rfl, (HA.sub h3 (List.Sublist.cons _ (List.Sublist.refl _))), ?_⟩
   refine wx_one 3 ky ?_
   refine ex_callx rfl ky h3 enter66 #[.slice (some ⟨q4, 0, none⟩) 1 1] ky (fun w5 h6 => la_any [c.nm] (own_tx h6 0 [c.nm] rfl) (m := 40) (by decide) (ss1 hb.2) (by simp)) ?_
   rintro w5 h6 _ w8 ⟨rfl, hb7⟩
   have h9 := HA.keep _ _ h6 hb7
   refine ⟨_, rfl, _, .inr rfl, (HA.sub h9 (List.Sublist.cons _ (List.Sublist.refl _))), ?_⟩
   refine zc 6 (.string (nbT 1 c.ix.toNat)) rfl enter63 _ (fun w' h' => nu_any 1 c.ix hb.1.1 (by omega)) (zq 7 (.string (layT [c.nm] 1 ++ nbT 1 c.ix.toNat)) rfl (fun _ => (run_cat (s := layT [c.nm] 1) (t := nbT 1 c.ix.toNat) ky ky (by have h9 := lay1_le hb.2; simp only [nbT_size (k := 1) (by decide) (by decide)]; omega))) (zp 8 (.string (layT [c.nm] 1 ++ nbT 1 c.ix.toNat)) ?_))
   refine wx_end fun w10 hbx _ => ?_
   have h11 := HA.keep _ _ h9 hbx
   exact ⟨q4, by kernel_rfl, h11⟩}
  {rintro _ w12 ⟨q4, rfl, h13⟩
   refine then_at rfl ?_
   refine wp_ret ?_
   repeat first|refine tr ?_|refine block_ret ?_
   exact bodyPost_ret (v := .string (fldC c 7)) ky rfl ⟨rfl, h13.old.old⟩}
set_option maxHeartbeats 2000000 in
theorem cf_8 {w : World} (c : Ca) {o p : Option Addr} {k m : Nat} (hP : At w o (mcl c.li.ds)) (hQ : At w p (scl c.on)) (hl1 : c.li.ds.length ≤ 1000000) (hl2 : c.on.length ≤ 1000000) {cq : Nat} (hB : Blk w cq 30 (caC c (.slice o c.li.ds.length k) (.slice p c.on.length m))) (hb : c.bt.size ≤ 4096) :
    Calls Try.prog 74 #[pt cq] w fun e w' => e = .returned (.string (fldC c 8)) ∧ Below w.heap.size w w' := by
  have H0 := HA.start w
  go_enter Try.func74, Try.ntmps74
  refine wp_seq (wl_region (zv (.string ({ data := #[] })) (wl_nil (then_at rfl (wp_seq (wl_region (zv (.pointer (some ⟨cq, 23, none⟩)) (zu (.string c.bt) (run_load1 (fun w => Try.isAgg9 w) ky (((hB.keep H0.old.old).cell 23).trans rfl)) (wl_mks (n := 1) (m := 1) (c := #[.string c.bt]) H0 9 ky ky ?_)))))))))
  intro q1 w2 (h3 : HA (bs w) [(q1, 9, #[.string c.bt])] w2)
  refine zl (.string (layT [c.bt] 1)) h3 enter66 #[.slice (some ⟨q1, 0, none⟩) 1 1] (la_any [c.bt] (own_tx h3 0 [c.bt] rfl) (m := 4096) (by decide) (ss1 hb) (by simp)) (fun w4 h5 => (zv (.string (layT [c.bt] 1)) (wl_nil (then_at rfl (wp_ret ?_)))))
  repeat first|refine tr ?_|refine block_ret ?_
  exact bodyPost_ret (v := .string (fldC c 8)) ky rfl ⟨rfl, h5.old.old⟩
end Go.Proofs.Ytiogegoepgkjlaa
