/-
  The reference's of, bytes, Reduce, Add, Mul.
-/
import Derived.Test.YtdblnbcclfenkaaDoorRefS3
namespace Go.Proofs.YtdblnbcclfenkaaDoor
open Go.RowKit Num

theorem one_cell : (rl 0).setIfInBounds 0 (.int .i64 ((1 : Nat) : Int)) = rl 1 := by kernel_rfl
theorem of_step (M N j : Nat) : (N / 256 ^ (j + 1) % M * 256 + 1 * (N / 256 ^ j % 256)) % M = N / 256 ^ j % M := by
  rw [mod_in, Nat.one_mul, Nat.pow_succ, ← Nat.div_div_eq_div_mul, Nat.mul_comm, Nat.div_add_mod]
theorem mul_step2 (M x Y j : Nat) : (x * (Y / 256 ^ (j + 1)) % M * 256 + x * (Y / 256 ^ j % 256)) % M = x * (Y / 256 ^ j) % M := by
  rw [mod_in, Nat.pow_succ, ← Nat.div_div_eq_div_mul, Nat.mul_assoc, ← Nat.mul_add, Nat.mul_comm (_ / 256) 256, Nat.div_add_mod]
theorem cut_size (s : ByteArray) : (cut s).size ≤ 64 := by
  unfold cut
  rw [size_extract s 0 _ (by omega)]
  omega
/-- bytes laid so far -/
def by8 (m : Nat) : Array Value := cl .u8 (digs 256 32 m)
theorem by8_size (m : Nat) : (by8 m).size = 32 := rfl
theorem by8_put (n k : Nat) (hk : k < 32) : (by8 (n % 256 ^ k)).setIfInBounds k (.int .u8 ((n / 256 ^ k % 256 % 256 : Nat) : Int)) = by8 (n % 256 ^ (k + 1)) := by
  unfold by8
  rw [mod_step 256 n k, ← digs_push 256 32 (n % 256 ^ k) k _ (Nat.mod_lt _ (Nat.pow_pos (by decide))) hk (Nat.mod_lt _ (by decide)), Nat.mod_mod]
  simp [cl, List.map_set]
theorem by8_text (n : Nat) : by8 (n % 256 ^ 32) = (cs (les 32 n)).toArray := by
  unfold by8 cs les cl
  rw [digs_mod 256 32 (n % 256 ^ 32) n (by decide) (Nat.mod_mod _ _)]
  congr 1
  rw [List.map_map]
  refine List.map_congr_left fun x hx => ?_
  have := digs_lt 256 (by decide) 32 n x hx
  show Value.int .u8 (x : Int) = Value.int .u8 ((UInt8.ofNat x).toNat : Int)
  rw [UInt8.toNat_ofNat']
  congr 2
  omega
theorem run_alloc46 {ρ : Operand → Value} {w : World} {dst : Option Tmp} {ty : TypeId} {pos : String} {aft : Array Edge} {gd : Option (Nat × Bool)} :
    (execOp ρ ⟨dst, .alloc 46, ty, pos, aft, gd⟩).run Tryd.prog w = .ok (.value (.pointer (some ⟨w.heap.size, 0, none⟩))) (w.alloc (.cells (by8 0) 46)) := by
  simp only [execOp]
  go_simp
  rfl
theorem run_slice46 {ρ : Operand → Value} {x : Operand} {q : Nat} {w : World} {dst : Option Tmp} {ty : TypeId} {pos : String} {aft : Array Edge} {gd : Option (Nat × Bool)} (hx : ρ x = .pointer (some ⟨q, 0, none⟩)) : (execOp ρ ⟨dst, .slice 46 x none none none, ty, pos, aft, gd⟩).run Tryd.prog w = .ok (.value (.slice (some ⟨q, 0, none⟩) 32 32)) w := by
  simp only [execOp, hx]
  go_simp
theorem run_text46 {ρ : Operand → Value} {x : Operand} {q n : Nat} {c : Array Value} {w : World} {dst : Option Tmp} {ty : TypeId} {pos : String} {aft : Array Edge} {gd : Option (Nat × Bool)} (l : List UInt8) (hx : ρ x = .slice (some ⟨q, 0, none⟩) n n) (h : Blk w q 46 c) (hc : c = (cs l).toArray) (hn : n = l.length) :
    (execOp ρ ⟨dst, .convert 31 9 x, ty, pos, aft, gd⟩).run Tryd.prog w = .ok (.value (.string ⟨l.toArray⟩)) w := by
  subst hc hn
  have hcell : ∀ j (hj : j < l.length), w.cell? ((⟨q, 0, none⟩ : Addr).add j) = some (.int .u8 ((l[j]).toNat : Int)) := fun j hj => by
    have hadd : (⟨q, 0, none⟩ : Addr).add j = ⟨q, j, none⟩ := by unfold Addr.add; split <;> simp_all
    rw [hadd, h.cell j]
    simp [cs, List.getElem?_eq_getElem hj]
  have := run_convert_bytes_back (P := Tryd.prog) w 31 9 5 ⟨q, 0, none⟩ l.length l Tryd.underlying31 Tryd.underlying5 Tryd.underlying9 hcell
  simp only [execOp, hx, Sem.run_bind, this, Result.andThen_ok, Sem.run_pure]
theorem rof_step (t : ByteArray) (j : Nat) (w : World) : Calls Tryd.prog 32 #[rarr (numS t / 256 ^ (j + 1) % Lq), rarr 1, iN .i64 (sb t j)] w fun e w' => e = .returned (rarr (numS t / 256 ^ j % Lq)) ∧ Below w.heap.size w w' := by
  have h := rstep_any (numS t / 256 ^ (j + 1) % Lq) 1 (sb t j) (Nat.mod_lt _ Lq_pos) (by decide) (sb_lt t j) w
  unfold sb at h ⊢
  rwa [of_step] at h

set_option linter.unusedVariables false in
set_option maxRecDepth 100000 in
set_option maxHeartbeats 2000000 in
theorem rof_any (s : ByteArray) (w : World) :
    Calls Tryd.prog 26 #[.string s] w fun e w' => e = .returned (rarr (val s)) ∧ Below w.heap.size w w' := by
  have H0 := HA.start w
  go_enter Tryd.func26, Tryd.ntmps26
  refine wp_seq ?_
  -- region 0
  refine wl_region ?_
  refine wl_make H0 37 (by kernel_rfl) run_alloc37 ?_
  intro q1 w2 h3
  refine wl_nil ?_
  refine then_at (F := ⟨(.string s :: un :: pt q1 :: List.replicate 24 un).toArray, []⟩) (by kernel_rfl) ?_
  refine wp_seq ?_
  -- region 1
  refine wl_region ?_
  refine wl_val (.string s) (by kernel_rfl) (by kernel_rfl) ?_
  refine wl_val (.string s) (by kernel_rfl) (by kernel_rfl) ?_
  refine wl_val (iN .i64 s.size) (by kernel_rfl) (run_len (s := s) (by kernel_rfl)) ?_
  refine wl_val (iN .i64 (min s.size 64)) (by kernel_rfl) (run_min (a := s.size) (b := 64) (by kernel_rfl) (by kernel_rfl)) ?_
  refine wl_val (.string (s.extract 0 (min s.size 64))) (by kernel_rfl) (run_cut_hi (s := s) (b := min s.size 64) (by kernel_rfl) (by kernel_rfl) (by omega)) ?_
  refine wl_val (.string (s.extract 0 (min s.size 64))) (by kernel_rfl) (by kernel_rfl) ?_
  refine wl_nil ?_
  refine then_at (F := ⟨(.string (cut s) :: un :: pt q1 :: un :: un :: un :: .string s :: .string s :: iN .i64 s.size :: iN .i64 (min s.size 64) :: .string (s.extract 0 (min s.size 64)) :: List.replicate 16 un).toArray, []⟩) (by kernel_rfl) ?_
  refine wp_seq ?_
  -- region 2
  refine wl_region ?_
  refine wl_make h3 37 (by kernel_rfl) run_alloc37 ?_
  intro q4 w5 h6
  refine wl_make h6 37 (by kernel_rfl) run_alloc37 ?_
  intro q7 w8 h9
  refine wl_nil ?_
  refine then_at (F := ⟨(.string (cut s) :: un :: pt q1 :: pt q4 :: pt q7 :: un :: .string s :: .string s :: iN .i64 s.size :: iN .i64 (min s.size 64) :: .string (s.extract 0 (min s.size 64)) :: List.replicate 16 un).toArray, []⟩) (by kernel_rfl) ?_
  refine wp_seq ?_
  -- region 3
  refine wl_region ?_
  refine wl_val (.pointer (some ⟨q7, 0, none⟩)) (by kernel_rfl) (run_addr_arr (q := q7) (a := 0) Tryd.underlying37 (fun w => Tryd.sizeOf3 w) (by kernel_rfl) (by kernel_rfl) (by decide)) ?_
  refine wl_put (k := .i64) (z := ((1 : Nat) : Int)) h9 0 rfl 0 (by rw [rl_size]; decide) (by kernel_rfl) (fun w => Tryd.sizeOf3 w) (by kernel_rfl) (by kernel_rfl) ?_
  intro w10 h11
  have h12 : HA w [(q7, 37, rl 1), (q4, 37, rl 0), (q1, 37, rl 0)] w10 := (by rw [← one_cell]; exact h11)
  clear h11
  refine wl_nil ?_
  refine then_at (F := ⟨(.string (cut s) :: un :: pt q1 :: pt q4 :: pt q7 :: un :: .string s :: .string s :: iN .i64 s.size :: iN .i64 (min s.size 64) :: .string (s.extract 0 (min s.size 64)) :: pt q7 :: List.replicate 15 un).toArray, []⟩) (by kernel_rfl) ?_
  refine wp_seq ?_
  refine wp_seq ?_
  -- region 4
  refine wl_region ?_
  refine wl_val (.string (cut s)) (by kernel_rfl) (by kernel_rfl) ?_
  refine wl_val (iN .i64 ((cut s).size)) (by kernel_rfl) (run_len (s := cut s) (by kernel_rfl)) ?_
  refine wl_val (dnv (cut s).size) (by kernel_rfl) (run_dec (j := (cut s).size) (by have := cut_size s; omega) (by kernel_rfl) (by kernel_rfl)) ?_
  refine wl_val (dnv (cut s).size) (by kernel_rfl) (by kernel_rfl) ?_
  refine wl_nil ?_
  refine then_at (F := ⟨(.string (cut s) :: un :: pt q1 :: pt q4 :: pt q7 :: dnv (cut s).size :: .string s :: .string s :: iN .i64 s.size :: iN .i64 (min s.size 64) :: .string (s.extract 0 (min s.size 64)) :: pt q7 :: .string (cut s) :: iN .i64 ((cut s).size) :: dnv (cut s).size :: List.replicate 12 un).toArray, []⟩) (by kernel_rfl) ?_
  refine wp_block ?_
  refine wp_count (fun k A w' => ∃ u13 : Nat → Value, A = ⟨(.string (cut s) :: un :: pt q1 :: pt q4 :: pt q7 :: dnv ((cut s).size - k) :: .string s :: .string s :: iN .i64 s.size :: iN .i64 (min s.size 64) :: .string (s.extract 0 (min s.size 64)) :: pt q7 :: .string (cut s) :: iN .i64 ((cut s).size) :: dnv (cut s).size :: u13 15 :: u13 16 :: u13 17 :: u13 18 :: u13 19 :: u13 20 :: u13 21 :: u13 22 :: u13 23 :: u13 24 :: u13 25 :: List.replicate 1 un).toArray, []⟩ ∧ HA w [(q7, 37, rl 1), (q4, 37, rl (numS (cut s) / 256 ^ ((cut s).size - k) % Lq)), (q1, 37, rl 0)] w') ((cut s).size) ?_ ?_ ?_
  · exact ⟨fun ii => (([(15, undef), (16, undef), (17, undef), (18, undef), (19, undef), (20, undef), (21, undef), (22, undef), (23, undef), (24, undef), (25, undef)] : List (Nat × Value)).find? (·.1 == ii)).elim undef (·.2), by kernel_rfl, (by rw [Nat.sub_zero, Nat.div_eq_of_lt (numS_lt _), Nat.zero_mod]; exact h12)⟩
  · rintro k hk _ w14 ⟨u13, rfl, h15⟩
    obtain ⟨j, hj, ej⟩ : ∃ j, j < (cut s).size ∧ (cut s).size - k = j + 1 := ⟨(cut s).size - k - 1, by omega, by omega⟩
    have ej2 : (cut s).size - (k + 1) = j := by omega
    rw [ej] at h15
    rw [ej, ej2]
    have h64 := cut_size s
    refine wp_seq ?_
    refine wp_seq ?_
    -- region 5
    refine wl_region ?_
    refine wl_val (iN .i64 j) (by kernel_rfl) (by kernel_rfl) ?_
    refine wl_val (.bool true) (by kernel_rfl) (run_geq0 (k := .i64) (a := ((j : Nat) : Int)) (b := 0) (by kernel_rfl) (by kernel_rfl) true (decide_eq_true (by omega))) ?_
    refine wl_nil ?_
    refine then_at (F := ⟨(.string (cut s) :: un :: pt q1 :: pt q4 :: pt q7 :: iN .i64 j :: .string s :: .string s :: iN .i64 s.size :: iN .i64 (min s.size 64) :: .string (s.extract 0 (min s.size 64)) :: pt q7 :: .string (cut s) :: iN .i64 ((cut s).size) :: dnv (cut s).size :: iN .i64 j :: .bool true :: u13 17 :: u13 18 :: u13 19 :: u13 20 :: u13 21 :: u13 22 :: u13 23 :: u13 24 :: u13 25 :: List.replicate 1 un).toArray, []⟩) (by kernel_rfl) ?_
    refine wp_cond_true (by kernel_rfl) ?_
    refine wp_skip ?_
    refine then_at (F := ⟨(.string (cut s) :: un :: pt q1 :: pt q4 :: pt q7 :: iN .i64 j :: .string s :: .string s :: iN .i64 s.size :: iN .i64 (min s.size 64) :: .string (s.extract 0 (min s.size 64)) :: pt q7 :: .string (cut s) :: iN .i64 ((cut s).size) :: dnv (cut s).size :: iN .i64 j :: .bool true :: u13 17 :: u13 18 :: u13 19 :: u13 20 :: u13 21 :: u13 22 :: u13 23 :: u13 24 :: u13 25 :: List.replicate 1 un).toArray, []⟩) (by kernel_rfl) ?_
    refine wp_seq ?_
    refine wp_block ?_
    -- region 7
    refine wp_region_ghost (fun _ : Nat → Nat => (⟨(.string (cut s) :: un :: pt q1 :: pt q4 :: pt q7 :: iN .i64 j :: .string s :: .string s :: iN .i64 s.size :: iN .i64 (min s.size 64) :: .string (s.extract 0 (min s.size 64)) :: pt q7 :: .string (cut s) :: iN .i64 ((cut s).size) :: dnv (cut s).size :: iN .i64 j :: .bool true :: u13 17 :: u13 18 :: rarr (numS (cut s) / 256 ^ (j + 1) % Lq) :: rarr 1 :: .string (cut s) :: iN .i64 j :: iN .u8 (sb (cut s) j) :: iN .i64 (sb (cut s) j) :: rarr (numS (cut s) / 256 ^ j % Lq) :: List.replicate 1 un).toArray, []⟩ : Act)) (GF w [(q7, 37, rl 1), (q4, 37, rl (numS (cut s) / 256 ^ (j + 1) % Lq)), (q1, 37, rl 0)] 7 0 1 q4 37 (rl (numS (cut s) / 256 ^ j % Lq))) [rarr (numS (cut s) / 256 ^ (j + 1) % Lq), rarr 1, .string (cut s), iN .i64 j, iN .u8 (sb (cut s) j), iN .i64 (sb (cut s) j), rarr (numS (cut s) / 256 ^ j % Lq), undef] (by kernel_rfl) (by kernel_rfl) (by kernel_rfl) (by kernel_rfl) (fun _ _ _ _ h => h) (fun d hd => GF.start h15.drew (hd 7 (by decide))) ?_ ?_
    · refine AllGhost.cons (gf_load 1 rfl (by decide) (fun _ => by kernel_rfl) (fun _ => by kernel_rfl) (fun _ => by kernel_rfl) Tryd.underlying37 rfl (info_rl _)) ?_
      refine AllGhost.cons (gf_load2 0 (by decide) rfl (by decide) (fun _ => by kernel_rfl) (fun _ => by kernel_rfl) (fun _ => by kernel_rfl) Tryd.underlying37 rfl (info_rl _)) ?_
      refine AllGhost.cons (gf_plain (v := .string (cut s)) (by decide) (fun _ => by kernel_rfl) (fun _ => by kernel_rfl) (fun _ _ => (by kernel_rfl))) ?_
      refine AllGhost.cons (gf_plain (v := iN .i64 j) (by decide) (fun _ => by kernel_rfl) (fun _ => by kernel_rfl) (fun _ _ => (by kernel_rfl))) ?_
      refine AllGhost.cons (gf_plain (v := iN .u8 (sb (cut s) j)) (by decide) (fun _ => by kernel_rfl) (fun _ => by kernel_rfl) (fun _ _ => (run_sidx (s := cut s) (a := j) (by kernel_rfl) (by kernel_rfl) (by omega)))) ?_
      refine AllGhost.cons (gf_plain (v := iN .i64 (sb (cut s) j)) (by decide) (fun _ => by kernel_rfl) (fun _ => by kernel_rfl) (fun _ _ => (run_conv (k := .u8) (a := sb (cut s) j) .i64 Tryd.underlying5 Tryd.underlying3 (by kernel_rfl) (Nat.lt_trans (sb_lt _ _) (by decide))))) ?_
      refine AllGhost.cons (gf_call (v := rarr (numS (cut s) / 256 ^ j % Lq)) (by decide) (fun _ => by kernel_rfl) (fun _ => by kernel_rfl) enter32 #[rarr (numS (cut s) / 256 ^ (j + 1) % Lq), rarr 1, iN .i64 (sb (cut s) j)] (fun _ => by kernel_rfl) (fun w' => rof_step (cut s) j w')) ?_
      refine AllGhost.cons (gf_fill rfl (rl_sz _ _) (fun _ => by kernel_rfl) (fun _ => by kernel_rfl) (fun _ => by kernel_rfl) (fun _ => by kernel_rfl) (info_rl _) (one_rl _) (by decide) (by kernel_rfl)) ?_
      exact AllGhost.nil
    intro _ w16 g17
    have h18 : HA w [(q7, 37, rl 1), (q4, 37, rl (numS (cut s) / 256 ^ j % Lq)), (q1, 37, rl 0)] w16 := g17.held
    clear g17
    refine block_normal ?_
    refine then_at (F := ⟨(.string (cut s) :: un :: pt q1 :: pt q4 :: pt q7 :: iN .i64 j :: .string s :: .string s :: iN .i64 s.size :: iN .i64 (min s.size 64) :: .string (s.extract 0 (min s.size 64)) :: pt q7 :: .string (cut s) :: iN .i64 ((cut s).size) :: dnv (cut s).size :: iN .i64 j :: .bool true :: u13 17 :: u13 18 :: rarr (numS (cut s) / 256 ^ (j + 1) % Lq) :: rarr 1 :: .string (cut s) :: iN .i64 j :: iN .u8 (sb (cut s) j) :: iN .i64 (sb (cut s) j) :: rarr (numS (cut s) / 256 ^ j % Lq) :: List.replicate 1 un).toArray, []⟩) (by kernel_rfl) ?_
    -- region 6
    refine wl_region ?_
    refine wl_val (iN .i64 j) (by kernel_rfl) (by kernel_rfl) ?_
    refine wl_val (dnv j) (by kernel_rfl) (run_dec (j := j) (by omega) (by kernel_rfl) (by kernel_rfl)) ?_
    refine wl_val (dnv j) (by kernel_rfl) (by kernel_rfl) ?_
    refine wl_nil ?_
    exact then_I ⟨fun ii => (([(15, iN .i64 j), (16, .bool true), (17, iN .i64 j), (18, dnv j), (19, rarr (numS (cut s) / 256 ^ (j + 1) % Lq)), (20, rarr 1), (21, .string (cut s)), (22, iN .i64 j), (23, iN .u8 (sb (cut s) j)), (24, iN .i64 (sb (cut s) j)), (25, rarr (numS (cut s) / 256 ^ j % Lq))] : List (Nat × Value)).find? (·.1 == ii)).elim undef (·.2), by kernel_rfl, h18⟩
  · rintro _ w19 ⟨u13, rfl, h20⟩
    rw [Nat.sub_self]
    refine wp_seq ?_
    refine wp_seq ?_
    -- region 5
    refine wl_region ?_
    refine wl_val (dnv 0) (by kernel_rfl) (by kernel_rfl) ?_
    refine wl_val (.bool false) (by kernel_rfl) (run_geq0 (k := .i64) (a := -1) (b := 0) (by kernel_rfl) (by kernel_rfl) false (by decide)) ?_
    refine wl_nil ?_
    refine then_at (F := ⟨(.string (cut s) :: un :: pt q1 :: pt q4 :: pt q7 :: dnv 0 :: .string s :: .string s :: iN .i64 s.size :: iN .i64 (min s.size 64) :: .string (s.extract 0 (min s.size 64)) :: pt q7 :: .string (cut s) :: iN .i64 ((cut s).size) :: dnv (cut s).size :: dnv 0 :: .bool false :: u13 17 :: u13 18 :: u13 19 :: u13 20 :: u13 21 :: u13 22 :: u13 23 :: u13 24 :: u13 25 :: List.replicate 1 un).toArray, []⟩) (by kernel_rfl) ?_
    refine wp_cond_false (by kernel_rfl) ?_
    refine wp_exit ?_
    repeat first | refine then_exit ?_ | refine block_exit ?_ | refine block_exit_ne (by decide) ?_
    have h21 : HA w [(q7, 37, rl 1), (q4, 37, rl (val s)), (q1, 37, rl 0)] w19 := by have e := h20; rw [Nat.sub_self, Nat.pow_zero, Nat.div_one] at e; exact e
    refine then_at (F := ⟨(.string (cut s) :: un :: pt q1 :: pt q4 :: pt q7 :: dnv 0 :: .string s :: .string s :: iN .i64 s.size :: iN .i64 (min s.size 64) :: .string (s.extract 0 (min s.size 64)) :: pt q7 :: .string (cut s) :: iN .i64 ((cut s).size) :: dnv (cut s).size :: dnv 0 :: .bool false :: u13 17 :: u13 18 :: u13 19 :: u13 20 :: u13 21 :: u13 22 :: u13 23 :: u13 24 :: u13 25 :: List.replicate 1 un).toArray, []⟩) (by kernel_rfl) ?_
    refine wp_seq ?_
    -- region 8
    refine wl_region ?_
    refine wl_load h21 1 rfl (by kernel_rfl) (by kernel_rfl) Tryd.underlying37 rfl (info_rl _) ?_
    refine wl_fill (c' := rl (val s)) h21 2 rfl (by kernel_rfl) (by kernel_rfl) (by kernel_rfl) (rl_sz _ _) (info_rl _) (one_rl _) ?_
    intro w22 (h23 : HA w [(q7, 37, rl 1), (q4, 37, rl (val s)), (q1, 37, rl (val s))] w22)
    refine wl_nil ?_
    refine then_at (F := ⟨(.string (cut s) :: un :: pt q1 :: pt q4 :: pt q7 :: dnv 0 :: .string s :: .string s :: iN .i64 s.size :: iN .i64 (min s.size 64) :: .string (s.extract 0 (min s.size 64)) :: pt q7 :: .string (cut s) :: iN .i64 ((cut s).size) :: dnv (cut s).size :: dnv 0 :: .bool false :: u13 17 :: u13 18 :: u13 19 :: u13 20 :: u13 21 :: u13 22 :: u13 23 :: u13 24 :: u13 25 :: rarr (val s) :: List.replicate 0 un).toArray, []⟩) (by kernel_rfl) ?_
    refine wp_ret ?_
    repeat first | refine then_ret ?_ | refine block_ret ?_
    exact bodyPost_ret (v := rarr (val s)) (res_cell (p := 2) (by kernel_rfl) (by kernel_rfl) (h23.get 2 rfl) Tryd.underlying37 rfl (info_rl _)) rfl ⟨rfl, h23.old⟩

set_option linter.unusedVariables false in
set_option maxRecDepth 100000 in
set_option maxHeartbeats 2000000 in
theorem rbytes_any (n : Nat) (w : World) :
    Calls Tryd.prog 25 #[rarr n] w fun e w' => e = .returned (.string (bytesOf n)) ∧ Below w.heap.size w w' := by
  have H0 := HA.start w
  go_enter Tryd.func25, Tryd.ntmps25
  refine wp_seq ?_
  -- region 0
  refine wl_region ?_
  refine wl_make H0 37 (by kernel_rfl) (run_box37 (c := rl n) (by kernel_rfl)) ?_
  intro q1 w2 h3
  refine wl_val (.string { data := #[] }) (by kernel_rfl) (by kernel_rfl) ?_
  refine wl_nil ?_
  refine then_at (F := ⟨(rarr n :: pt q1 :: .string { data := #[] } :: List.replicate 14 un).toArray, []⟩) (by kernel_rfl) ?_
  refine wp_seq ?_
  -- region 1
  refine wl_region ?_
  refine wl_make h3 46 (by kernel_rfl) run_alloc46 ?_
  intro q4 w5 h6
  refine wl_nil ?_
  refine then_at (F := ⟨(rarr n :: pt q1 :: .string { data := #[] } :: pt q4 :: List.replicate 13 un).toArray, []⟩) (by kernel_rfl) ?_
  refine wp_seq ?_
  refine wp_seq ?_
  -- region 2
  refine wl_region ?_
  refine wl_val (iN .i64 0) (by kernel_rfl) (by kernel_rfl) ?_
  refine wl_nil ?_
  refine then_at (F := ⟨(rarr n :: pt q1 :: .string { data := #[] } :: pt q4 :: iN .i64 0 :: List.replicate 12 un).toArray, []⟩) (by kernel_rfl) ?_
  refine wp_block ?_
  refine wp_count (fun k A w' => ∃ u7 : Nat → Value, A = ⟨(rarr n :: pt q1 :: .string { data := #[] } :: pt q4 :: iN .i64 k :: u7 5 :: u7 6 :: u7 7 :: u7 8 :: u7 9 :: u7 10 :: u7 11 :: u7 12 :: u7 13 :: u7 14 :: List.replicate 2 un).toArray, []⟩ ∧ HA w [(q4, 46, by8 (n % 256 ^ k)), (q1, 37, rl n)] w') 32 ?_ ?_ ?_
  · exact ⟨fun ii => (([(5, undef), (6, undef), (7, undef), (8, undef), (9, undef), (10, undef), (11, undef), (12, undef), (13, undef), (14, undef)] : List (Nat × Value)).find? (·.1 == ii)).elim undef (·.2), by kernel_rfl, (by rw [Nat.pow_zero, Nat.mod_one]; exact h6)⟩
  · rintro k hk _ w8 ⟨u7, rfl, h9⟩
    refine wp_seq ?_
    refine wp_seq ?_
    -- region 3
    refine wl_region ?_
    refine wl_val (iN .i64 k) (by kernel_rfl) (by kernel_rfl) ?_
    refine wl_val (.bool true) (by kernel_rfl) (run_lss (k := .i64) (a := k) (b := 32) (by kernel_rfl) (by kernel_rfl) true (decide_eq_true hk)) ?_
    refine wl_nil ?_
    refine then_at (F := ⟨(rarr n :: pt q1 :: .string { data := #[] } :: pt q4 :: iN .i64 k :: iN .i64 k :: .bool true :: u7 7 :: u7 8 :: u7 9 :: u7 10 :: u7 11 :: u7 12 :: u7 13 :: u7 14 :: List.replicate 2 un).toArray, []⟩) (by kernel_rfl) ?_
    refine wp_cond_true (by kernel_rfl) ?_
    refine wp_skip ?_
    refine then_at (F := ⟨(rarr n :: pt q1 :: .string { data := #[] } :: pt q4 :: iN .i64 k :: iN .i64 k :: .bool true :: u7 7 :: u7 8 :: u7 9 :: u7 10 :: u7 11 :: u7 12 :: u7 13 :: u7 14 :: List.replicate 2 un).toArray, []⟩) (by kernel_rfl) ?_
    refine wp_seq ?_
    refine wp_block ?_
    -- region 5
    refine wl_region ?_
    refine wl_val (iN .i64 k) (by kernel_rfl) (by kernel_rfl) ?_
    refine wl_val (iN .i64 k) (by kernel_rfl) (by kernel_rfl) ?_
    refine wl_val (.pointer (some ⟨q1, k, none⟩)) (by kernel_rfl) (run_addr_arr (q := q1) (a := k) Tryd.underlying37 (fun w => Tryd.sizeOf3 w) (by kernel_rfl) (by kernel_rfl) (by omega)) ?_
    refine wl_val (iN .i64 (n / 256 ^ k % 256)) (by kernel_rfl) (run_load1 (fun w => Tryd.isAgg3 w) (by kernel_rfl) (((h9.get 1 rfl).cell k).trans (rl_get n k (by omega)))) ?_
    refine wl_val (iN .u8 ((n / 256 ^ k % 256) % 256)) (by kernel_rfl) (run_conv8 (k := .i64) (a := n / 256 ^ k % 256) Tryd.underlying3 Tryd.underlying5 (by kernel_rfl)) ?_
    refine wl_val (.pointer (some ⟨q4, k, none⟩)) (by kernel_rfl) (run_addr_arr (q := q4) (a := k) Tryd.underlying46 (fun w => Tryd.sizeOf5 w) (by kernel_rfl) (by kernel_rfl) (by omega)) ?_
    refine wl_put (k := .u8) (z := (((n / 256 ^ k % 256) % 256 : Nat) : Int)) h9 0 rfl k (by rw [by8_size]; omega) (by kernel_rfl) (fun w => Tryd.sizeOf5 w) (by kernel_rfl) (by kernel_rfl) ?_
    intro w10 h11
    have h12 : HA w [(q4, 46, by8 (n % 256 ^ (k + 1))), (q1, 37, rl n)] w10 := (by rw [← by8_put n k hk]; exact h11)
    clear h11
    refine wl_nil ?_
    refine block_normal ?_
    refine then_at (F := ⟨(rarr n :: pt q1 :: .string { data := #[] } :: pt q4 :: iN .i64 k :: iN .i64 k :: .bool true :: u7 7 :: u7 8 :: iN .i64 k :: iN .i64 k :: .pointer (some ⟨q1, k, none⟩) :: iN .i64 (n / 256 ^ k % 256) :: iN .u8 ((n / 256 ^ k % 256) % 256) :: .pointer (some ⟨q4, k, none⟩) :: List.replicate 2 un).toArray, []⟩) (by kernel_rfl) ?_
    -- region 4
    refine wl_region ?_
    refine wl_val (iN .i64 k) (by kernel_rfl) (by kernel_rfl) ?_
    refine wl_val (iN .i64 (k + 1)) (by kernel_rfl) (run_add (k := .i64) (a := k) (b := 1) (by kernel_rfl) (by kernel_rfl) (by simp only [top]; omega)) ?_
    refine wl_val (iN .i64 (k + 1)) (by kernel_rfl) (by kernel_rfl) ?_
    refine wl_nil ?_
    exact then_I ⟨fun ii => (([(5, iN .i64 k), (6, .bool true), (7, iN .i64 k), (8, iN .i64 (k + 1)), (9, iN .i64 k), (10, iN .i64 k), (11, .pointer (some ⟨q1, k, none⟩)), (12, iN .i64 (n / 256 ^ k % 256)), (13, iN .u8 ((n / 256 ^ k % 256) % 256)), (14, .pointer (some ⟨q4, k, none⟩))] : List (Nat × Value)).find? (·.1 == ii)).elim undef (·.2), by kernel_rfl, h12⟩
  · rintro _ w13 ⟨u7, rfl, h14⟩
    refine wp_seq ?_
    refine wp_seq ?_
    -- region 3
    refine wl_region ?_
    refine wl_val (iN .i64 32) (by kernel_rfl) (by kernel_rfl) ?_
    refine wl_val (.bool false) (by kernel_rfl) (run_lss (k := .i64) (a := 32) (b := 32) (by kernel_rfl) (by kernel_rfl) false (by decide)) ?_
    refine wl_nil ?_
    refine then_at (F := ⟨(rarr n :: pt q1 :: .string { data := #[] } :: pt q4 :: iN .i64 32 :: iN .i64 32 :: .bool false :: u7 7 :: u7 8 :: u7 9 :: u7 10 :: u7 11 :: u7 12 :: u7 13 :: u7 14 :: List.replicate 2 un).toArray, []⟩) (by kernel_rfl) ?_
    refine wp_cond_false (by kernel_rfl) ?_
    refine wp_exit ?_
    repeat first | refine then_exit ?_ | refine block_exit ?_ | refine block_exit_ne (by decide) ?_
    refine then_at (F := ⟨(rarr n :: pt q1 :: .string { data := #[] } :: pt q4 :: iN .i64 32 :: iN .i64 32 :: .bool false :: u7 7 :: u7 8 :: u7 9 :: u7 10 :: u7 11 :: u7 12 :: u7 13 :: u7 14 :: List.replicate 2 un).toArray, []⟩) (by kernel_rfl) ?_
    refine wp_seq ?_
    -- region 6
    refine wl_region ?_
    refine wl_val (.slice (some ⟨q4, 0, none⟩) 32 32) (by kernel_rfl) (run_slice46 (q := q4) (by kernel_rfl)) ?_
    refine wl_val (.string (bytesOf n)) (by kernel_rfl) (run_text46 (les 32 n) (by kernel_rfl) (h14.get 0 rfl) (by8_text n) (by rw [les_length])) ?_
    refine wl_val (.string (bytesOf n)) (by kernel_rfl) (by kernel_rfl) ?_
    refine wl_nil ?_
    refine then_at (F := ⟨(rarr n :: pt q1 :: .string (bytesOf n) :: pt q4 :: iN .i64 32 :: iN .i64 32 :: .bool false :: u7 7 :: u7 8 :: u7 9 :: u7 10 :: u7 11 :: u7 12 :: u7 13 :: u7 14 :: .slice (some ⟨q4, 0, none⟩) 32 32 :: .string (bytesOf n) :: List.replicate 0 un).toArray, []⟩) (by kernel_rfl) ?_
    refine wp_ret ?_
    repeat first | refine then_ret ?_ | refine block_ret ?_
    exact bodyPost_ret (v := .string (bytesOf n)) (by kernel_rfl) rfl ⟨rfl, h14.old⟩

set_option linter.unusedVariables false in
set_option maxRecDepth 100000 in
set_option maxHeartbeats 2000000 in
theorem rReduce_any (s : ByteArray) (w : World) :
    Calls Tryd.prog 11 #[.string s] w fun e w' => e = .returned (.string (rS s)) ∧ Below w.heap.size w w' := by
  have H0 := HA.start w
  go_enter Tryd.func11, Tryd.ntmps11
  refine wp_seq ?_
  -- region 0
  refine wl_region ?_
  refine wl_val (.string { data := #[] }) (by kernel_rfl) (by kernel_rfl) ?_
  refine wl_nil ?_
  refine then_at (F := ⟨(.string s :: un :: .string { data := #[] } :: List.replicate 3 un).toArray, []⟩) (by kernel_rfl) ?_
  refine wp_seq ?_
  -- region 1
  refine wl_region ?_
  refine wl_val (.string s) (by kernel_rfl) (by kernel_rfl) ?_
  refine wl_call (v := rarr (val s)) H0 (by kernel_rfl) enter26 #[.string s] (by kernel_rfl) (rof_any s w) ?_
  intro w1 h2
  refine wl_call (v := .string (bytesOf (val s))) h2 (by kernel_rfl) enter25 #[rarr (val s)] (by kernel_rfl) (rbytes_any (val s) w1) ?_
  intro w3 h4
  refine wl_val (.string (bytesOf (val s))) (by kernel_rfl) (by kernel_rfl) ?_
  refine wl_nil ?_
  refine then_at (F := ⟨(.string s :: un :: .string (bytesOf (val s)) :: .string s :: rarr (val s) :: .string (bytesOf (val s)) :: List.replicate 0 un).toArray, []⟩) (by kernel_rfl) ?_
  refine wp_ret ?_
  repeat first | refine then_ret ?_ | refine block_ret ?_
  exact bodyPost_ret (v := .string (bytesOf (val s))) (by kernel_rfl) rfl ⟨rfl, h4.old⟩

theorem sum_small (M a b : Nat) (ha : a < M) (hb : b < M) : a + b < 2 ^ 10 * M := by omega

set_option linter.unusedVariables false in
set_option maxRecDepth 100000 in
set_option maxHeartbeats 2000000 in
theorem rAdd_any (a b : ByteArray) (w : World) :
    Calls Tryd.prog 18 #[.string a, .string b] w fun e w' => e = .returned (.string (aS a b)) ∧ Below w.heap.size w w' := by
  have H0 := HA.start w
  go_enter Tryd.func18, Tryd.ntmps18
  refine wp_seq ?_
  -- region 0
  refine wl_region ?_
  refine wl_val (.string { data := #[] }) (by kernel_rfl) (by kernel_rfl) ?_
  refine wl_nil ?_
  refine then_at (F := ⟨(.string a :: .string b :: un :: un :: .string { data := #[] } :: List.replicate 31 un).toArray, []⟩) (by kernel_rfl) ?_
  refine wp_seq ?_
  -- region 1
  refine wl_region ?_
  refine wl_val (.string a) (by kernel_rfl) (by kernel_rfl) ?_
  refine wl_call (v := rarr (val a)) H0 (by kernel_rfl) enter26 #[.string a] (by kernel_rfl) (rof_any a w) ?_
  intro w1 h2
  refine wl_val (.string b) (by kernel_rfl) (by kernel_rfl) ?_
  refine wl_call (v := rarr (val b)) h2 (by kernel_rfl) enter26 #[.string b] (by kernel_rfl) (rof_any b w1) ?_
  intro w3 h4
  refine wl_make h4 37 (by kernel_rfl) run_alloc37 ?_
  intro q5 w6 h7
  refine wl_make h7 37 (by kernel_rfl) run_alloc37 ?_
  intro q8 w9 h10
  refine wl_fill (c' := rl (val a)) h10 1 rfl (by kernel_rfl) (by kernel_rfl) (by kernel_rfl) (rl_sz _ _) (info_rl _) (one_rl _) ?_
  intro w11 (h12 : HA w [(q8, 37, rl 0), (q5, 37, rl (val a))] w11)
  refine wl_fill (c' := rl (val b)) h12 0 rfl (by kernel_rfl) (by kernel_rfl) (by kernel_rfl) (rl_sz _ _) (info_rl _) (one_rl _) ?_
  intro w13 (h14 : HA w [(q8, 37, rl (val b)), (q5, 37, rl (val a))] w13)
  refine wl_nil ?_
  refine then_at (F := ⟨(.string a :: .string b :: un :: un :: .string { data := #[] } :: pt q5 :: pt q8 :: un :: un :: un :: .string a :: rarr (val a) :: .string b :: rarr (val b) :: List.replicate 22 un).toArray, []⟩) (by kernel_rfl) ?_
  refine wp_seq ?_
  -- region 2
  refine wl_region ?_
  refine wl_val (iN .i64 0) (by kernel_rfl) (by kernel_rfl) ?_
  refine wl_nil ?_
  refine then_at (F := ⟨(.string a :: .string b :: un :: un :: .string { data := #[] } :: pt q5 :: pt q8 :: iN .i64 0 :: un :: un :: .string a :: rarr (val a) :: .string b :: rarr (val b) :: List.replicate 22 un).toArray, []⟩) (by kernel_rfl) ?_
  refine wp_seq ?_
  refine wp_seq ?_
  -- region 3
  refine wl_region ?_
  refine wl_val (iN .i64 0) (by kernel_rfl) (by kernel_rfl) ?_
  refine wl_nil ?_
  refine then_at (F := ⟨(.string a :: .string b :: un :: un :: .string { data := #[] } :: pt q5 :: pt q8 :: iN .i64 0 :: iN .i64 0 :: un :: .string a :: rarr (val a) :: .string b :: rarr (val b) :: List.replicate 22 un).toArray, []⟩) (by kernel_rfl) ?_
  refine wp_block ?_
  refine wp_count (fun k A w' => ∃ u15 : Nat → Value, A = ⟨(.string a :: .string b :: un :: un :: .string { data := #[] } :: pt q5 :: pt q8 :: iN .i64 (cya (val a) (val b) k) :: iN .i64 k :: u15 9 :: .string a :: rarr (val a) :: .string b :: rarr (val b) :: u15 14 :: u15 15 :: u15 16 :: u15 17 :: u15 18 :: u15 19 :: u15 20 :: u15 21 :: u15 22 :: u15 23 :: u15 24 :: u15 25 :: u15 26 :: u15 27 :: u15 28 :: u15 29 :: u15 30 :: u15 31 :: u15 32 :: List.replicate 3 un).toArray, []⟩ ∧ HA w [(q8, 37, rl (val b)), (q5, 37, mx (val a + val b) (val a) k)] w') 36 ?_ ?_ ?_
  · exact ⟨fun ii => (([(9, undef), (14, undef), (15, undef), (16, undef), (17, undef), (18, undef), (19, undef), (20, undef), (21, undef), (22, undef), (23, undef), (24, undef), (25, undef), (26, undef), (27, undef), (28, undef), (29, undef), (30, undef), (31, undef), (32, undef)] : List (Nat × Value)).find? (·.1 == ii)).elim undef (·.2), by kernel_rfl, h14⟩
  · rintro k hk _ w16 ⟨u15, rfl, h17⟩
    have hd := Nat.mod_lt (val a / 256 ^ k) (show 256 > 0 by decide)
    have he := Nat.mod_lt (val b / 256 ^ k) (show 256 > 0 by decide)
    have hc := cya_lt (val a) (val b) k
    refine wp_seq ?_
    refine wp_seq ?_
    -- region 4
    refine wl_region ?_
    refine wl_val (iN .i64 k) (by kernel_rfl) (by kernel_rfl) ?_
    refine wl_val (.bool true) (by kernel_rfl) (run_lss (k := .i64) (a := k) (b := 36) (by kernel_rfl) (by kernel_rfl) true (decide_eq_true hk)) ?_
    refine wl_nil ?_
    refine then_at (F := ⟨(.string a :: .string b :: un :: un :: .string { data := #[] } :: pt q5 :: pt q8 :: iN .i64 (cya (val a) (val b) k) :: iN .i64 k :: u15 9 :: .string a :: rarr (val a) :: .string b :: rarr (val b) :: iN .i64 k :: .bool true :: u15 16 :: u15 17 :: u15 18 :: u15 19 :: u15 20 :: u15 21 :: u15 22 :: u15 23 :: u15 24 :: u15 25 :: u15 26 :: u15 27 :: u15 28 :: u15 29 :: u15 30 :: u15 31 :: u15 32 :: List.replicate 3 un).toArray, []⟩) (by kernel_rfl) ?_
    refine wp_cond_true (by kernel_rfl) ?_
    refine wp_skip ?_
    refine then_at (F := ⟨(.string a :: .string b :: un :: un :: .string { data := #[] } :: pt q5 :: pt q8 :: iN .i64 (cya (val a) (val b) k) :: iN .i64 k :: u15 9 :: .string a :: rarr (val a) :: .string b :: rarr (val b) :: iN .i64 k :: .bool true :: u15 16 :: u15 17 :: u15 18 :: u15 19 :: u15 20 :: u15 21 :: u15 22 :: u15 23 :: u15 24 :: u15 25 :: u15 26 :: u15 27 :: u15 28 :: u15 29 :: u15 30 :: u15 31 :: u15 32 :: List.replicate 3 un).toArray, []⟩) (by kernel_rfl) ?_
    refine wp_seq ?_
    refine wp_block ?_
    refine wp_seq ?_
    -- region 6
    refine wp_region_sure ⟨(.string a :: .string b :: un :: un :: .string { data := #[] } :: pt q5 :: pt q8 :: iN .i64 (cya (val a) (val b) k) :: iN .i64 k :: iN .i64 ((((val a) / 256 ^ k % 256) + ((val b) / 256 ^ k % 256)) + (cya (val a) (val b) k)) :: .string a :: rarr (val a) :: .string b :: rarr (val b) :: iN .i64 k :: .bool true :: u15 16 :: u15 17 :: iN .i64 k :: .pointer (some ⟨q5, k, none⟩) :: iN .i64 ((val a) / 256 ^ k % 256) :: iN .i64 k :: .pointer (some ⟨q8, k, none⟩) :: iN .i64 ((val b) / 256 ^ k % 256) :: iN .i64 (((val a) / 256 ^ k % 256) + ((val b) / 256 ^ k % 256)) :: iN .i64 (cya (val a) (val b) k) :: iN .i64 ((((val a) / 256 ^ k % 256) + ((val b) / 256 ^ k % 256)) + (cya (val a) (val b) k)) :: u15 27 :: u15 28 :: u15 29 :: u15 30 :: u15 31 :: u15 32 :: List.replicate 3 un).toArray, []⟩ (HA w [(q8, 37, rl (val b)), (q5, 37, mx (val a + val b) (val a) k)]) [iN .i64 k, .pointer (some ⟨q5, k, none⟩), iN .i64 ((val a) / 256 ^ k % 256), iN .i64 k, .pointer (some ⟨q8, k, none⟩), iN .i64 ((val b) / 256 ^ k % 256), iN .i64 (((val a) / 256 ^ k % 256) + ((val b) / 256 ^ k % 256)), iN .i64 (cya (val a) (val b) k), iN .i64 ((((val a) / 256 ^ k % 256) + ((val b) / 256 ^ k % 256)) + (cya (val a) (val b) k)), iN .i64 ((((val a) / 256 ^ k % 256) + ((val b) / 256 ^ k % 256)) + (cya (val a) (val b) k))] (by kernel_rfl) (by kernel_rfl) (by kernel_rfl) (by kernel_rfl) (fun _ _ _ h => h) h17.drew ?_ ?_
    · refine AllSure.cons (OpSure.take (v := iN .i64 k) (by kernel_rfl) (by kernel_rfl) (fun _ _ => (by kernel_rfl))) ?_
      refine AllSure.cons (OpSure.take (v := .pointer (some ⟨q5, k, none⟩)) (by kernel_rfl) (by kernel_rfl) (fun _ _ => (run_addr_arr (q := q5) (a := k) Tryd.underlying37 (fun w => Tryd.sizeOf3 w) (by kernel_rfl) (by kernel_rfl) (by omega)))) ?_
      refine AllSure.cons (OpSure.take (v := iN .i64 ((val a) / 256 ^ k % 256)) (by kernel_rfl) (by kernel_rfl) (fun _ h => run_load1 (fun w => Tryd.isAgg3 w) (by kernel_rfl) (((h.get 1 rfl).cell k).trans (mx_get (val a + val b) (val a) k hk)))) ?_
      refine AllSure.cons (OpSure.take (v := iN .i64 k) (by kernel_rfl) (by kernel_rfl) (fun _ _ => (by kernel_rfl))) ?_
      refine AllSure.cons (OpSure.take (v := .pointer (some ⟨q8, k, none⟩)) (by kernel_rfl) (by kernel_rfl) (fun _ _ => (run_addr_arr (q := q8) (a := k) Tryd.underlying37 (fun w => Tryd.sizeOf3 w) (by kernel_rfl) (by kernel_rfl) (by omega)))) ?_
      refine AllSure.cons (OpSure.take (v := iN .i64 ((val b) / 256 ^ k % 256)) (by kernel_rfl) (by kernel_rfl) (fun _ h => run_load1 (fun w => Tryd.isAgg3 w) (by kernel_rfl) (((h.get 0 rfl).cell k).trans (rl_get (val b) k (by omega))))) ?_
      refine AllSure.cons (OpSure.take (v := iN .i64 (((val a) / 256 ^ k % 256) + ((val b) / 256 ^ k % 256))) (by kernel_rfl) (by kernel_rfl) (fun _ _ => (run_add (k := .i64) (a := (val a) / 256 ^ k % 256) (b := (val b) / 256 ^ k % 256) (by kernel_rfl) (by kernel_rfl) (by simp only [top]; omega)))) ?_
      refine AllSure.cons (OpSure.take (v := iN .i64 (cya (val a) (val b) k)) (by kernel_rfl) (by kernel_rfl) (fun _ _ => (by kernel_rfl))) ?_
      refine AllSure.cons (OpSure.take (v := iN .i64 ((((val a) / 256 ^ k % 256) + ((val b) / 256 ^ k % 256)) + (cya (val a) (val b) k))) (by kernel_rfl) (by kernel_rfl) (fun _ _ => (run_add (k := .i64) (a := ((val a) / 256 ^ k % 256) + ((val b) / 256 ^ k % 256)) (b := cya (val a) (val b) k) (by kernel_rfl) (by kernel_rfl) (by simp only [top]; omega)))) ?_
      refine AllSure.cons (OpSure.take (v := iN .i64 ((((val a) / 256 ^ k % 256) + ((val b) / 256 ^ k % 256)) + (cya (val a) (val b) k))) (by kernel_rfl) (by kernel_rfl) (fun _ _ => (by kernel_rfl))) ?_
      exact AllSure.nil
    intro w18 h19
    refine then_at (F := ⟨(.string a :: .string b :: un :: un :: .string { data := #[] } :: pt q5 :: pt q8 :: iN .i64 (cya (val a) (val b) k) :: iN .i64 k :: iN .i64 ((((val a) / 256 ^ k % 256) + ((val b) / 256 ^ k % 256)) + (cya (val a) (val b) k)) :: .string a :: rarr (val a) :: .string b :: rarr (val b) :: iN .i64 k :: .bool true :: u15 16 :: u15 17 :: iN .i64 k :: .pointer (some ⟨q5, k, none⟩) :: iN .i64 ((val a) / 256 ^ k % 256) :: iN .i64 k :: .pointer (some ⟨q8, k, none⟩) :: iN .i64 ((val b) / 256 ^ k % 256) :: iN .i64 (((val a) / 256 ^ k % 256) + ((val b) / 256 ^ k % 256)) :: iN .i64 (cya (val a) (val b) k) :: iN .i64 ((((val a) / 256 ^ k % 256) + ((val b) / 256 ^ k % 256)) + (cya (val a) (val b) k)) :: u15 27 :: u15 28 :: u15 29 :: u15 30 :: u15 31 :: u15 32 :: List.replicate 3 un).toArray, []⟩) (by kernel_rfl) ?_
    refine wp_seq ?_
    -- region 7
    refine wl_region ?_
    refine wl_val (iN .i64 k) (by kernel_rfl) (by kernel_rfl) ?_
    refine wl_val (iN .i64 ((((val a) / 256 ^ k % 256) + ((val b) / 256 ^ k % 256)) + (cya (val a) (val b) k))) (by kernel_rfl) (by kernel_rfl) ?_
    refine wl_val (iN .i64 (((((val a) / 256 ^ k % 256) + ((val b) / 256 ^ k % 256)) + (cya (val a) (val b) k)) % 256)) (by kernel_rfl) (run_rem (k := .i64) (a := (((val a) / 256 ^ k % 256) + ((val b) / 256 ^ k % 256)) + (cya (val a) (val b) k)) (b := 256) (by kernel_rfl) (by kernel_rfl) (by omega)) ?_
    refine wl_val (.pointer (some ⟨q5, k, none⟩)) (by kernel_rfl) (run_addr_arr (q := q5) (a := k) Tryd.underlying37 (fun w => Tryd.sizeOf3 w) (by kernel_rfl) (by kernel_rfl) (by omega)) ?_
    refine wl_put (k := .i64) (z := ((((((val a) / 256 ^ k % 256) + ((val b) / 256 ^ k % 256)) + (cya (val a) (val b) k)) % 256 : Nat) : Int)) h19 1 rfl k (by rw [mx_size _ _ _ (by omega)]; exact hk) (by kernel_rfl) (fun w => Tryd.sizeOf3 w) (by kernel_rfl) (by kernel_rfl) ?_
    intro w20 h21
    have h22 : HA w [(q8, 37, rl (val b)), (q5, 37, mx (val a + val b) (val a) (k + 1))] w20 := (by rw [← mx_put (val a + val b) (val a) k _ hk (mod_sum 256 (val a) (val b) k rfl)]; exact h21)
    clear h21
    refine wl_nil ?_
    refine then_at (F := ⟨(.string a :: .string b :: un :: un :: .string { data := #[] } :: pt q5 :: pt q8 :: iN .i64 (cya (val a) (val b) k) :: iN .i64 k :: iN .i64 ((((val a) / 256 ^ k % 256) + ((val b) / 256 ^ k % 256)) + (cya (val a) (val b) k)) :: .string a :: rarr (val a) :: .string b :: rarr (val b) :: iN .i64 k :: .bool true :: u15 16 :: u15 17 :: iN .i64 k :: .pointer (some ⟨q5, k, none⟩) :: iN .i64 ((val a) / 256 ^ k % 256) :: iN .i64 k :: .pointer (some ⟨q8, k, none⟩) :: iN .i64 ((val b) / 256 ^ k % 256) :: iN .i64 (((val a) / 256 ^ k % 256) + ((val b) / 256 ^ k % 256)) :: iN .i64 (cya (val a) (val b) k) :: iN .i64 ((((val a) / 256 ^ k % 256) + ((val b) / 256 ^ k % 256)) + (cya (val a) (val b) k)) :: iN .i64 k :: iN .i64 ((((val a) / 256 ^ k % 256) + ((val b) / 256 ^ k % 256)) + (cya (val a) (val b) k)) :: iN .i64 (((((val a) / 256 ^ k % 256) + ((val b) / 256 ^ k % 256)) + (cya (val a) (val b) k)) % 256) :: .pointer (some ⟨q5, k, none⟩) :: u15 31 :: u15 32 :: List.replicate 3 un).toArray, []⟩) (by kernel_rfl) ?_
    -- region 8
    refine wl_region ?_
    refine wl_val (iN .i64 ((((val a) / 256 ^ k % 256) + ((val b) / 256 ^ k % 256)) + (cya (val a) (val b) k))) (by kernel_rfl) (by kernel_rfl) ?_
    refine wl_val (iN .i64 (((((val a) / 256 ^ k % 256) + ((val b) / 256 ^ k % 256)) + (cya (val a) (val b) k)) / 256)) (by kernel_rfl) (run_quo (k := .i64) (a := (((val a) / 256 ^ k % 256) + ((val b) / 256 ^ k % 256)) + (cya (val a) (val b) k)) (b := 256) (by kernel_rfl) (by kernel_rfl) (by omega) (by simp only [top]; omega)) ?_
    refine wl_val (iN .i64 (((((val a) / 256 ^ k % 256) + ((val b) / 256 ^ k % 256)) + (cya (val a) (val b) k)) / 256)) (by kernel_rfl) (by kernel_rfl) ?_
    refine wl_nil ?_
    refine block_normal ?_
    refine then_at (F := ⟨(.string a :: .string b :: un :: un :: .string { data := #[] } :: pt q5 :: pt q8 :: iN .i64 (((((val a) / 256 ^ k % 256) + ((val b) / 256 ^ k % 256)) + (cya (val a) (val b) k)) / 256) :: iN .i64 k :: iN .i64 ((((val a) / 256 ^ k % 256) + ((val b) / 256 ^ k % 256)) + (cya (val a) (val b) k)) :: .string a :: rarr (val a) :: .string b :: rarr (val b) :: iN .i64 k :: .bool true :: u15 16 :: u15 17 :: iN .i64 k :: .pointer (some ⟨q5, k, none⟩) :: iN .i64 ((val a) / 256 ^ k % 256) :: iN .i64 k :: .pointer (some ⟨q8, k, none⟩) :: iN .i64 ((val b) / 256 ^ k % 256) :: iN .i64 (((val a) / 256 ^ k % 256) + ((val b) / 256 ^ k % 256)) :: iN .i64 (cya (val a) (val b) k) :: iN .i64 ((((val a) / 256 ^ k % 256) + ((val b) / 256 ^ k % 256)) + (cya (val a) (val b) k)) :: iN .i64 k :: iN .i64 ((((val a) / 256 ^ k % 256) + ((val b) / 256 ^ k % 256)) + (cya (val a) (val b) k)) :: iN .i64 (((((val a) / 256 ^ k % 256) + ((val b) / 256 ^ k % 256)) + (cya (val a) (val b) k)) % 256) :: .pointer (some ⟨q5, k, none⟩) :: iN .i64 ((((val a) / 256 ^ k % 256) + ((val b) / 256 ^ k % 256)) + (cya (val a) (val b) k)) :: iN .i64 (((((val a) / 256 ^ k % 256) + ((val b) / 256 ^ k % 256)) + (cya (val a) (val b) k)) / 256) :: List.replicate 3 un).toArray, []⟩) (by kernel_rfl) ?_
    -- region 5
    refine wl_region ?_
    refine wl_val (iN .i64 k) (by kernel_rfl) (by kernel_rfl) ?_
    refine wl_val (iN .i64 (k + 1)) (by kernel_rfl) (run_add (k := .i64) (a := k) (b := 1) (by kernel_rfl) (by kernel_rfl) (by simp only [top]; omega)) ?_
    refine wl_val (iN .i64 (k + 1)) (by kernel_rfl) (by kernel_rfl) ?_
    refine wl_nil ?_
    exact then_I ⟨fun ii => (([(9, iN .i64 ((((val a) / 256 ^ k % 256) + ((val b) / 256 ^ k % 256)) + (cya (val a) (val b) k))), (14, iN .i64 k), (15, .bool true), (16, iN .i64 k), (17, iN .i64 (k + 1)), (18, iN .i64 k), (19, .pointer (some ⟨q5, k, none⟩)), (20, iN .i64 ((val a) / 256 ^ k % 256)), (21, iN .i64 k), (22, .pointer (some ⟨q8, k, none⟩)), (23, iN .i64 ((val b) / 256 ^ k % 256)), (24, iN .i64 (((val a) / 256 ^ k % 256) + ((val b) / 256 ^ k % 256))), (25, iN .i64 (cya (val a) (val b) k)), (26, iN .i64 ((((val a) / 256 ^ k % 256) + ((val b) / 256 ^ k % 256)) + (cya (val a) (val b) k))), (27, iN .i64 k), (28, iN .i64 ((((val a) / 256 ^ k % 256) + ((val b) / 256 ^ k % 256)) + (cya (val a) (val b) k))), (29, iN .i64 (((((val a) / 256 ^ k % 256) + ((val b) / 256 ^ k % 256)) + (cya (val a) (val b) k)) % 256)), (30, .pointer (some ⟨q5, k, none⟩)), (31, iN .i64 ((((val a) / 256 ^ k % 256) + ((val b) / 256 ^ k % 256)) + (cya (val a) (val b) k))), (32, iN .i64 (((((val a) / 256 ^ k % 256) + ((val b) / 256 ^ k % 256)) + (cya (val a) (val b) k)) / 256))] : List (Nat × Value)).find? (·.1 == ii)).elim undef (·.2), by kernel_rfl, h22⟩
  · rintro _ w23 ⟨u15, rfl, h24⟩
    refine wp_seq ?_
    refine wp_seq ?_
    -- region 4
    refine wl_region ?_
    refine wl_val (iN .i64 36) (by kernel_rfl) (by kernel_rfl) ?_
    refine wl_val (.bool false) (by kernel_rfl) (run_lss (k := .i64) (a := 36) (b := 36) (by kernel_rfl) (by kernel_rfl) false (by decide)) ?_
    refine wl_nil ?_
    refine then_at (F := ⟨(.string a :: .string b :: un :: un :: .string { data := #[] } :: pt q5 :: pt q8 :: iN .i64 (cya (val a) (val b) 36) :: iN .i64 36 :: u15 9 :: .string a :: rarr (val a) :: .string b :: rarr (val b) :: iN .i64 36 :: .bool false :: u15 16 :: u15 17 :: u15 18 :: u15 19 :: u15 20 :: u15 21 :: u15 22 :: u15 23 :: u15 24 :: u15 25 :: u15 26 :: u15 27 :: u15 28 :: u15 29 :: u15 30 :: u15 31 :: u15 32 :: List.replicate 3 un).toArray, []⟩) (by kernel_rfl) ?_
    refine wp_cond_false (by kernel_rfl) ?_
    refine wp_exit ?_
    repeat first | refine then_exit ?_ | refine block_exit ?_ | refine block_exit_ne (by decide) ?_
    have h25 : HA w [(q8, 37, rl (val b)), (q5, 37, rl (val a + val b))] w23 := by rw [← mx_end (val a + val b) (val a)]; exact h24
    refine then_at (F := ⟨(.string a :: .string b :: un :: un :: .string { data := #[] } :: pt q5 :: pt q8 :: iN .i64 (cya (val a) (val b) 36) :: iN .i64 36 :: u15 9 :: .string a :: rarr (val a) :: .string b :: rarr (val b) :: iN .i64 36 :: .bool false :: u15 16 :: u15 17 :: u15 18 :: u15 19 :: u15 20 :: u15 21 :: u15 22 :: u15 23 :: u15 24 :: u15 25 :: u15 26 :: u15 27 :: u15 28 :: u15 29 :: u15 30 :: u15 31 :: u15 32 :: List.replicate 3 un).toArray, []⟩) (by kernel_rfl) ?_
    refine wp_seq ?_
    -- region 9
    refine wl_region ?_
    refine wl_load h25 1 rfl (by kernel_rfl) (by kernel_rfl) Tryd.underlying37 rfl (info_rl _) ?_
    refine wl_call (v := rarr ((val a + val b) % Lq)) h25 (by kernel_rfl) enter30 #[rarr (val a + val b)] (by kernel_rfl) (rmodulo_any (val a + val b) (sum_small Lq _ _ (val_lt a) (val_lt b)) w23) ?_
    intro w26 h27
    refine wl_call (v := .string (bytesOf ((val a + val b) % Lq))) h27 (by kernel_rfl) enter25 #[rarr ((val a + val b) % Lq)] (by kernel_rfl) (rbytes_any ((val a + val b) % Lq) w26) ?_
    intro w28 h29
    refine wl_val (.string (bytesOf ((val a + val b) % Lq))) (by kernel_rfl) (by kernel_rfl) ?_
    refine wl_nil ?_
    refine then_at (F := ⟨(.string a :: .string b :: un :: un :: .string (bytesOf ((val a + val b) % Lq)) :: pt q5 :: pt q8 :: iN .i64 (cya (val a) (val b) 36) :: iN .i64 36 :: u15 9 :: .string a :: rarr (val a) :: .string b :: rarr (val b) :: iN .i64 36 :: .bool false :: u15 16 :: u15 17 :: u15 18 :: u15 19 :: u15 20 :: u15 21 :: u15 22 :: u15 23 :: u15 24 :: u15 25 :: u15 26 :: u15 27 :: u15 28 :: u15 29 :: u15 30 :: u15 31 :: u15 32 :: rarr (val a + val b) :: rarr ((val a + val b) % Lq) :: .string (bytesOf ((val a + val b) % Lq)) :: List.replicate 0 un).toArray, []⟩) (by kernel_rfl) ?_
    refine wp_ret ?_
    repeat first | refine then_ret ?_ | refine block_ret ?_
    exact bodyPost_ret (v := .string (bytesOf ((val a + val b) % Lq))) (by kernel_rfl) rfl ⟨rfl, h29.old⟩

theorem rS_size (a : ByteArray) : (rS a).size = 32 := bytesOf_size _
theorem val_lt32 (a : ByteArray) : val a < 256 ^ 32 := Nat.lt_trans (val_lt a) (by decide)
theorem rmul_step (a b : ByteArray) (j : Nat) (w : World) : Calls Tryd.prog 32 #[rarr (val a * (val b / 256 ^ (j + 1)) % Lq), rarr (val a), iN .i64 (sb (rS b) j)] w fun e w' => e = .returned (rarr (val a * (val b / 256 ^ j) % Lq)) ∧ Below w.heap.size w w' := by
  have h := rstep_any (val a * (val b / 256 ^ (j + 1)) % Lq) (val a) (sb (rS b) j) (Nat.mod_lt _ Lq_pos) (val_lt a) (sb_lt _ j) w
  have e : sb (rS b) j = val b / 256 ^ j % 256 := by
    show numS (bytesOf (val b)) / 256 ^ j % 256 = _
    rw [numS_bytesOf _ (val_lt32 b)]
  rw [e] at h ⊢
  rwa [mul_step2] at h

set_option linter.unusedVariables false in
set_option maxRecDepth 100000 in
set_option maxHeartbeats 2000000 in
theorem rMul_any (a b : ByteArray) (w : World) :
    Calls Tryd.prog 20 #[.string a, .string b] w fun e w' => e = .returned (.string (mS a b)) ∧ Below w.heap.size w w' := by
  have H0 := HA.start w
  go_enter Tryd.func20, Tryd.ntmps20
  refine wp_seq ?_
  -- region 0
  refine wl_region ?_
  refine wl_val (.string { data := #[] }) (by kernel_rfl) (by kernel_rfl) ?_
  refine wl_nil ?_
  refine then_at (F := ⟨(.string a :: .string b :: un :: un :: .string { data := #[] } :: List.replicate 21 un).toArray, []⟩) (by kernel_rfl) ?_
  refine wp_seq ?_
  -- region 1
  refine wl_region ?_
  refine wl_val (.string a) (by kernel_rfl) (by kernel_rfl) ?_
  refine wl_call (v := rarr (val a)) H0 (by kernel_rfl) enter26 #[.string a] (by kernel_rfl) (rof_any a w) ?_
  intro w1 h2
  refine wl_make h2 37 (by kernel_rfl) run_alloc37 ?_
  intro q3 w4 h5
  refine wl_fill (c' := rl (val a)) h5 0 rfl (by kernel_rfl) (by kernel_rfl) (by kernel_rfl) (rl_sz _ _) (info_rl _) (one_rl _) ?_
  intro w6 (h7 : HA w [(q3, 37, rl (val a))] w6)
  refine wl_nil ?_
  refine then_at (F := ⟨(.string a :: .string b :: un :: un :: .string { data := #[] } :: pt q3 :: un :: un :: un :: .string a :: rarr (val a) :: List.replicate 15 un).toArray, []⟩) (by kernel_rfl) ?_
  refine wp_seq ?_
  -- region 2
  refine wl_region ?_
  refine wl_val (.string b) (by kernel_rfl) (by kernel_rfl) ?_
  refine wl_call (v := .string (rS b)) h7 (by kernel_rfl) enter11 #[.string b] (by kernel_rfl) (rReduce_any b w6) ?_
  intro w8 h9
  refine wl_val (.string (rS b)) (by kernel_rfl) (by kernel_rfl) ?_
  refine wl_nil ?_
  refine then_at (F := ⟨(.string a :: .string b :: un :: un :: .string { data := #[] } :: pt q3 :: .string (rS b) :: un :: un :: .string a :: rarr (val a) :: .string b :: .string (rS b) :: List.replicate 13 un).toArray, []⟩) (by kernel_rfl) ?_
  refine wp_seq ?_
  -- region 3
  refine wl_region ?_
  refine wl_make h9 37 (by kernel_rfl) run_alloc37 ?_
  intro q10 w11 h12
  refine wl_nil ?_
  refine then_at (F := ⟨(.string a :: .string b :: un :: un :: .string { data := #[] } :: pt q3 :: .string (rS b) :: pt q10 :: un :: .string a :: rarr (val a) :: .string b :: .string (rS b) :: List.replicate 13 un).toArray, []⟩) (by kernel_rfl) ?_
  refine wp_seq ?_
  refine wp_seq ?_
  -- region 4
  refine wl_region ?_
  refine wl_val (iN .i64 31) (by kernel_rfl) (by kernel_rfl) ?_
  refine wl_nil ?_
  refine then_at (F := ⟨(.string a :: .string b :: un :: un :: .string { data := #[] } :: pt q3 :: .string (rS b) :: pt q10 :: iN .i64 31 :: .string a :: rarr (val a) :: .string b :: .string (rS b) :: List.replicate 13 un).toArray, []⟩) (by kernel_rfl) ?_
  refine wp_block ?_
  refine wp_count (fun k A w' => ∃ u13 : Nat → Value, A = ⟨(.string a :: .string b :: un :: un :: .string { data := #[] } :: pt q3 :: .string (rS b) :: pt q10 :: dnv (32 - k) :: .string a :: rarr (val a) :: .string b :: .string (rS b) :: u13 13 :: u13 14 :: u13 15 :: u13 16 :: u13 17 :: u13 18 :: u13 19 :: u13 20 :: u13 21 :: u13 22 :: u13 23 :: List.replicate 2 un).toArray, []⟩ ∧ HA w [(q10, 37, rl (val a * (val b / 256 ^ (32 - k)) % Lq)), (q3, 37, rl (val a))] w') 32 ?_ ?_ ?_
  · exact ⟨fun ii => (([(13, undef), (14, undef), (15, undef), (16, undef), (17, undef), (18, undef), (19, undef), (20, undef), (21, undef), (22, undef), (23, undef)] : List (Nat × Value)).find? (·.1 == ii)).elim undef (·.2), by kernel_rfl, (by rw [Nat.sub_zero, Nat.div_eq_of_lt (val_lt32 b), Nat.mul_zero, Nat.zero_mod]; exact h12)⟩
  · rintro k hk _ w14 ⟨u13, rfl, h15⟩
    obtain ⟨j, hj, ej⟩ : ∃ j, j < 32 ∧ 32 - k = j + 1 := ⟨31 - k, by omega, by omega⟩
    have ej2 : 32 - (k + 1) = j := by omega
    rw [ej] at h15
    rw [ej, ej2]
    refine wp_seq ?_
    refine wp_seq ?_
    -- region 5
    refine wl_region ?_
    refine wl_val (iN .i64 j) (by kernel_rfl) (by kernel_rfl) ?_
    refine wl_val (.bool true) (by kernel_rfl) (run_geq0 (k := .i64) (a := ((j : Nat) : Int)) (b := 0) (by kernel_rfl) (by kernel_rfl) true (decide_eq_true (by omega))) ?_
    refine wl_nil ?_
    refine then_at (F := ⟨(.string a :: .string b :: un :: un :: .string { data := #[] } :: pt q3 :: .string (rS b) :: pt q10 :: iN .i64 j :: .string a :: rarr (val a) :: .string b :: .string (rS b) :: iN .i64 j :: .bool true :: u13 15 :: u13 16 :: u13 17 :: u13 18 :: u13 19 :: u13 20 :: u13 21 :: u13 22 :: u13 23 :: List.replicate 2 un).toArray, []⟩) (by kernel_rfl) ?_
    refine wp_cond_true (by kernel_rfl) ?_
    refine wp_skip ?_
    refine then_at (F := ⟨(.string a :: .string b :: un :: un :: .string { data := #[] } :: pt q3 :: .string (rS b) :: pt q10 :: iN .i64 j :: .string a :: rarr (val a) :: .string b :: .string (rS b) :: iN .i64 j :: .bool true :: u13 15 :: u13 16 :: u13 17 :: u13 18 :: u13 19 :: u13 20 :: u13 21 :: u13 22 :: u13 23 :: List.replicate 2 un).toArray, []⟩) (by kernel_rfl) ?_
    refine wp_seq ?_
    refine wp_block ?_
    -- region 7
    refine wp_region_ghost (fun _ : Nat → Nat => (⟨(.string a :: .string b :: un :: un :: .string { data := #[] } :: pt q3 :: .string (rS b) :: pt q10 :: iN .i64 j :: .string a :: rarr (val a) :: .string b :: .string (rS b) :: iN .i64 j :: .bool true :: u13 15 :: u13 16 :: rarr (val a * (val b / 256 ^ (j + 1)) % Lq) :: rarr (val a) :: .string (rS b) :: iN .i64 j :: iN .u8 (sb (rS b) j) :: iN .i64 (sb (rS b) j) :: rarr (val a * (val b / 256 ^ j) % Lq) :: List.replicate 2 un).toArray, []⟩ : Act)) (GF w [(q10, 37, rl (val a * (val b / 256 ^ (j + 1)) % Lq)), (q3, 37, rl (val a))] 7 0 0 q10 37 (rl (val a * (val b / 256 ^ j) % Lq))) [rarr (val a * (val b / 256 ^ (j + 1)) % Lq), rarr (val a), .string (rS b), iN .i64 j, iN .u8 (sb (rS b) j), iN .i64 (sb (rS b) j), rarr (val a * (val b / 256 ^ j) % Lq), undef] (by kernel_rfl) (by kernel_rfl) (by kernel_rfl) (by kernel_rfl) (fun _ _ _ _ h => h) (fun d hd => GF.start h15.drew (hd 7 (by decide))) ?_ ?_
    · refine AllGhost.cons (gf_load 0 rfl (by decide) (fun _ => by kernel_rfl) (fun _ => by kernel_rfl) (fun _ => by kernel_rfl) Tryd.underlying37 rfl (info_rl _)) ?_
      refine AllGhost.cons (gf_load2 1 (by decide) rfl (by decide) (fun _ => by kernel_rfl) (fun _ => by kernel_rfl) (fun _ => by kernel_rfl) Tryd.underlying37 rfl (info_rl _)) ?_
      refine AllGhost.cons (gf_plain (v := .string (rS b)) (by decide) (fun _ => by kernel_rfl) (fun _ => by kernel_rfl) (fun _ _ => (by kernel_rfl))) ?_
      refine AllGhost.cons (gf_plain (v := iN .i64 j) (by decide) (fun _ => by kernel_rfl) (fun _ => by kernel_rfl) (fun _ _ => (by kernel_rfl))) ?_
      refine AllGhost.cons (gf_plain (v := iN .u8 (sb (rS b) j)) (by decide) (fun _ => by kernel_rfl) (fun _ => by kernel_rfl) (fun _ _ => (run_sidx (s := rS b) (a := j) (by kernel_rfl) (by kernel_rfl) (by rw [rS_size]; omega)))) ?_
      refine AllGhost.cons (gf_plain (v := iN .i64 (sb (rS b) j)) (by decide) (fun _ => by kernel_rfl) (fun _ => by kernel_rfl) (fun _ _ => (run_conv (k := .u8) (a := sb (rS b) j) .i64 Tryd.underlying5 Tryd.underlying3 (by kernel_rfl) (Nat.lt_trans (sb_lt _ _) (by decide))))) ?_
      refine AllGhost.cons (gf_call (v := rarr (val a * (val b / 256 ^ j) % Lq)) (by decide) (fun _ => by kernel_rfl) (fun _ => by kernel_rfl) enter32 #[rarr (val a * (val b / 256 ^ (j + 1)) % Lq), rarr (val a), iN .i64 (sb (rS b) j)] (fun _ => by kernel_rfl) (fun w' => rmul_step a b j w')) ?_
      refine AllGhost.cons (gf_fill rfl (rl_sz _ _) (fun _ => by kernel_rfl) (fun _ => by kernel_rfl) (fun _ => by kernel_rfl) (fun _ => by kernel_rfl) (info_rl _) (one_rl _) (by decide) (by kernel_rfl)) ?_
      exact AllGhost.nil
    intro _ w16 g17
    have h18 : HA w [(q10, 37, rl (val a * (val b / 256 ^ j) % Lq)), (q3, 37, rl (val a))] w16 := g17.held
    clear g17
    refine block_normal ?_
    refine then_at (F := ⟨(.string a :: .string b :: un :: un :: .string { data := #[] } :: pt q3 :: .string (rS b) :: pt q10 :: iN .i64 j :: .string a :: rarr (val a) :: .string b :: .string (rS b) :: iN .i64 j :: .bool true :: u13 15 :: u13 16 :: rarr (val a * (val b / 256 ^ (j + 1)) % Lq) :: rarr (val a) :: .string (rS b) :: iN .i64 j :: iN .u8 (sb (rS b) j) :: iN .i64 (sb (rS b) j) :: rarr (val a * (val b / 256 ^ j) % Lq) :: List.replicate 2 un).toArray, []⟩) (by kernel_rfl) ?_
    -- region 6
    refine wl_region ?_
    refine wl_val (iN .i64 j) (by kernel_rfl) (by kernel_rfl) ?_
    refine wl_val (dnv j) (by kernel_rfl) (run_dec (j := j) (by omega) (by kernel_rfl) (by kernel_rfl)) ?_
    refine wl_val (dnv j) (by kernel_rfl) (by kernel_rfl) ?_
    refine wl_nil ?_
    exact then_I ⟨fun ii => (([(13, iN .i64 j), (14, .bool true), (15, iN .i64 j), (16, dnv j), (17, rarr (val a * (val b / 256 ^ (j + 1)) % Lq)), (18, rarr (val a)), (19, .string (rS b)), (20, iN .i64 j), (21, iN .u8 (sb (rS b) j)), (22, iN .i64 (sb (rS b) j)), (23, rarr (val a * (val b / 256 ^ j) % Lq))] : List (Nat × Value)).find? (·.1 == ii)).elim undef (·.2), by kernel_rfl, h18⟩
  · rintro _ w19 ⟨u13, rfl, h20⟩
    refine wp_seq ?_
    refine wp_seq ?_
    -- region 5
    refine wl_region ?_
    refine wl_val (dnv 0) (by kernel_rfl) (by kernel_rfl) ?_
    refine wl_val (.bool false) (by kernel_rfl) (run_geq0 (k := .i64) (a := -1) (b := 0) (by kernel_rfl) (by kernel_rfl) false (by decide)) ?_
    refine wl_nil ?_
    refine then_at (F := ⟨(.string a :: .string b :: un :: un :: .string { data := #[] } :: pt q3 :: .string (rS b) :: pt q10 :: dnv 0 :: .string a :: rarr (val a) :: .string b :: .string (rS b) :: dnv 0 :: .bool false :: u13 15 :: u13 16 :: u13 17 :: u13 18 :: u13 19 :: u13 20 :: u13 21 :: u13 22 :: u13 23 :: List.replicate 2 un).toArray, []⟩) (by kernel_rfl) ?_
    refine wp_cond_false (by kernel_rfl) ?_
    refine wp_exit ?_
    repeat first | refine then_exit ?_ | refine block_exit ?_ | refine block_exit_ne (by decide) ?_
    have h21 : HA w [(q10, 37, rl (val a * val b % Lq)), (q3, 37, rl (val a))] w19 := by have e := h20; rw [Nat.sub_self, Nat.pow_zero, Nat.div_one] at e; exact e
    refine then_at (F := ⟨(.string a :: .string b :: un :: un :: .string { data := #[] } :: pt q3 :: .string (rS b) :: pt q10 :: dnv 0 :: .string a :: rarr (val a) :: .string b :: .string (rS b) :: dnv 0 :: .bool false :: u13 15 :: u13 16 :: u13 17 :: u13 18 :: u13 19 :: u13 20 :: u13 21 :: u13 22 :: u13 23 :: List.replicate 2 un).toArray, []⟩) (by kernel_rfl) ?_
    refine wp_seq ?_
    -- region 8
    refine wl_region ?_
    refine wl_load h21 0 rfl (by kernel_rfl) (by kernel_rfl) Tryd.underlying37 rfl (info_rl _) ?_
    refine wl_call (v := .string (bytesOf (val a * val b % Lq))) h21 (by kernel_rfl) enter25 #[rarr (val a * val b % Lq)] (by kernel_rfl) (rbytes_any (val a * val b % Lq) w19) ?_
    intro w22 h23
    refine wl_val (.string (bytesOf (val a * val b % Lq))) (by kernel_rfl) (by kernel_rfl) ?_
    refine wl_nil ?_
    refine then_at (F := ⟨(.string a :: .string b :: un :: un :: .string (bytesOf (val a * val b % Lq)) :: pt q3 :: .string (rS b) :: pt q10 :: dnv 0 :: .string a :: rarr (val a) :: .string b :: .string (rS b) :: dnv 0 :: .bool false :: u13 15 :: u13 16 :: u13 17 :: u13 18 :: u13 19 :: u13 20 :: u13 21 :: u13 22 :: u13 23 :: rarr (val a * val b % Lq) :: .string (bytesOf (val a * val b % Lq)) :: List.replicate 0 un).toArray, []⟩) (by kernel_rfl) ?_
    refine wp_ret ?_
    repeat first | refine then_ret ?_ | refine block_ret ?_
    exact bodyPost_ret (v := .string (bytesOf (val a * val b % Lq))) (by kernel_rfl) rfl ⟨rfl, h23.old⟩
end Go.Proofs.YtdblnbcclfenkaaDoor
