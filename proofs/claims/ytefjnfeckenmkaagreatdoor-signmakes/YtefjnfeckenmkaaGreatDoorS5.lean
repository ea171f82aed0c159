/-
 scalar: RefS4.
-/
import Derived.Test.YtefjnfeckenmkaaGreatDoorS4
namespace Go.Proofs.YtefjnfeckenmkaaGreatDoor.Sc
set_option linter.unusedVariables false
set_option maxRecDepth 100000
set_option maxHeartbeats 2000000
open Go.RowKit Num
theorem one_cell : (rl 0).setIfInBounds 0 (.int .i64 ((1 : Nat) : Int)) = rl 1 := by kernel_rfl
theorem of_step (M N j : Nat) : (N / 256 ^ (j + 1) % M * 256 + 1 * (N / 256 ^ j % 256)) % M = N / 256 ^ j % M := by
 rw [mod_in, Nat.one_mul, Nat.pow_succ, ← Nat.div_div_eq_div_mul, Nat.mul_comm, Nat.div_add_mod]
theorem mul_step2 (M x Y j : Nat) : (x * (Y / 256 ^ (j + 1)) % M * 256 + x * (Y / 256 ^ j % 256)) % M = x * (Y / 256 ^ j) % M := by
 rw [mod_in, Nat.pow_succ, ← Nat.div_div_eq_div_mul, Nat.mul_assoc, ← Nat.mul_add, Nat.mul_comm (_ / 256) 256, Nat.div_add_mod]
theorem cut_size (s : ByteArray) : (cut s).size ≤ 64 := by
 unfold cut
 rw [size_extract s 0 _ (by omega)]
 omega
theorem by8_put (n k : Nat) (hk : k < 32) : (by8 (n % 256 ^ k)).setIfInBounds k (.int .u8 ((n / 256 ^ k % 256 % 256 : Nat) : Int)) = by8 (n % 256 ^ (k + 1)) := by
 unfold by8
 rw [mod_step 256 n k, ← digs_push 256 32 (n % 256 ^ k) k _ (Nat.mod_lt _ (Nat.pow_pos (by decide))) hk (Nat.mod_lt _ (by decide)), Nat.mod_mod]
 simp [cl, List.map_set]
theorem by8_text (n : Nat) : by8 (n % 256 ^ 32) = (cs (les 32 n)).toArray := by
 unfold by8 cs les cl
 rw [digs_mod 256 32 (n % 256 ^ 32) n (by decide) (Nat.mod_mod _ _)]
 congr 1
 rw [List.map_map]
 refine List.map_congr_left fun x hx => ?_
 have := digs_lt 256 (by decide) 32 n x hx
 show Value.int .u8 (x : Int) = Value.int .u8 ((UInt8.ofNat x).toNat : Int)
 rw [UInt8.toNat_ofNat']
 congr 2
 omega
theorem run_alloc46 {ρ : Operand → Value} {w : World} {dst : Option Tmp} {ty : TypeId} {pos : String} {aft : Array Edge} {gd : Option (Nat × Bool)} :
  (execOp ρ ⟨dst, .alloc 126, ty, pos, aft, gd⟩).run Tryz.prog w = .ok (.value (.pointer (some ⟨w.heap.size, 0, none⟩))) (w.alloc (.cells (by8 0) 126)) := by
 simp only [execOp]
 go_simp
 rfl
theorem run_slice46 {ρ : Operand → Value} {x : Operand} {q : Nat} {w : World} {dst : Option Tmp} {ty : TypeId} {pos : String} {aft : Array Edge} {gd : Option (Nat × Bool)} (hx : ρ x = .pointer (some ⟨q, 0, none⟩)) : (execOp ρ ⟨dst, .slice 126 x none none none, ty, pos, aft, gd⟩).run Tryz.prog w = .ok (.value (.slice (some ⟨q, 0, none⟩) 32 32)) w := by
 simp only [execOp, hx]
 go_simp
theorem run_text46 {ρ : Operand → Value} {x : Operand} {q n : Nat} {c : Array Value} {w : World} {dst : Option Tmp} {ty : TypeId} {pos : String} {aft : Array Edge} {gd : Option (Nat × Bool)} (l : List UInt8) (hx : ρ x = .slice (some ⟨q, 0, none⟩) n n) (h : Blk w q 126 c) (hc : c = (cs l).toArray) (hn : n = l.length) :
  (execOp ρ ⟨dst, .convert 71 9 x, ty, pos, aft, gd⟩).run Tryz.prog w = .ok (.value (.string ⟨l.toArray⟩)) w := by
 subst hc hn
 have hcell : ∀ j (hj : j < l.length), w.cell? ((⟨q, 0, none⟩ : Addr).add j) = some (.int .u8 ((l[j]).toNat : Int)) := fun j hj => by
  have hadd : (⟨q, 0, none⟩ : Addr).add j = ⟨q, j, none⟩ := by unfold Addr.add; split <;> simp_all
  rw [hadd, h.cell j]
  simp [cs, List.getElem?_eq_getElem hj]
 have := run_convert_bytes_back (P := Tryz.prog) w 71 9 5 ⟨q, 0, none⟩ l.length l Tryz.underlying71 Tryz.underlying5 Tryz.underlying9 hcell
 simp only [execOp, hx, Sem.run_bind, this, Result.andThen_ok, Sem.run_pure]
theorem rof_step (t : ByteArray) (j : Nat) (w : World) : Calls Tryz.prog 64 #[rarr (numS t / 256 ^ (j + 1) % Lq), rarr 1, iN .i64 (sb t j)] w fun e w' => e = .returned (rarr (numS t / 256 ^ j % Lq)) ∧ Below w.heap.size w w' := by
 have h := rstep_any (numS t / 256 ^ (j + 1) % Lq) 1 (sb t j) (Nat.mod_lt _ Lq_pos) (by decide) (sb_lt t j) w
 unfold sb at h ⊢
 rwa [of_step] at h
theorem rof_any (s : ByteArray) (w : World) :
  Calls Tryz.prog 61 #[.string s] w fun e w' => e = .returned (rarr (val s)) ∧ Below w.heap.size w w' := by
 have H0 := HA.start w
 go_enter Tryz.func61, Tryz.ntmps61
 refine zsr ?_
 refine wl_make H0 80 run_alloc37 ?_
 intro q1 w2 h3
 refine znt ?_
 refine zsr ?_
 refine zwv (.string s) ?_
 refine zwv (.string s) ?_
 refine zwu (run_len (s := s)) ?_
 refine zwu (run_min (a := s.size) (b := 64) (by kernel_rfl) (by kernel_rfl)) ?_
 refine zwu (run_cut_hi (s := s) (b := min s.size 64) (by omega)) ?_
 refine zwv (.string (s.extract 0 (min s.size 64))) ?_
 refine znt ?_
 refine zsr ?_
 refine wl_make h3 80 run_alloc37 ?_
 intro q4 w5 h6
 refine wl_make h6 80 run_alloc37 ?_
 intro q7 w8 h9
 refine znt ?_
 refine zsr ?_
 refine zwu (run_addr_arr (q := q7) (a := 0) Tryz.underlying80 Tryz.sizeOf3 (by decide)) ?_
 refine wl_put (k := .i64) (z := ((1 : Nat) : Int)) h9 0 rfl 0 (by rw [rl_size]; decide) Tryz.sizeOf3 ?_
 intro w10 h11
 have h12 : HA w [(q7, 80, rl 1), (q4, 80, rl 0), (q1, 80, rl 0)] w10 := (by rw [← one_cell]; exact h11)
 clear h11
 refine znt ?_
 refine wp_seq ?_
 refine zsr ?_
 refine zwv (.string (cut s)) ?_
 refine zwu (run_len (s := cut s)) ?_
 refine zwu (run_dec (j := (cut s).size) (by have := cut_size s; omega)) ?_
 refine zwv (dnv (cut s).size) ?_
 refine znt ?_
 refine wp_block ?_
 refine wp_count (fun k A w' => ∃ u13 : Nat → Value, A = ⟨(.string (cut s) :: un :: pt q1 :: pt q4 :: pt q7 :: dnv ((cut s).size - k) :: .string s :: .string s :: iN .i64 s.size :: iN .i64 (min s.size 64) :: .string (s.extract 0 (min s.size 64)) :: pt q7 :: .string (cut s) :: iN .i64 ((cut s).size) :: dnv (cut s).size :: u13 15 :: u13 16 :: u13 17 :: u13 18 :: u13 19 :: u13 20 :: u13 21 :: u13 22 :: u13 23 :: u13 24 :: u13 25 :: List.replicate 1 un).toArray, []⟩ ∧ HA w [(q7, 80, rl 1), (q4, 80, rl (numS (cut s) / 256 ^ ((cut s).size - k) % Lq)), (q1, 80, rl 0)] w') ((cut s).size) ?_ ?_ ?_
 ·exact zex ((by rw [Nat.sub_zero, Nat.div_eq_of_lt (numS_lt _), Nat.zero_mod]; exact h12))
 ·rintro k hk _ w14 ⟨u13, rfl, h15⟩
  obtain ⟨j, hj, ej⟩ : ∃ j, j < (cut s).size ∧ (cut s).size - k = j + 1 := ⟨(cut s).size - k - 1, by omega, by omega⟩
  have ej2 : (cut s).size - (k + 1) = j := by omega
  rw [ej] at h15
  rw [ej, ej2]
  have h64 := cut_size s
  refine wp_seq ?_
  refine zsr ?_
  refine zwv (iN .i64 j) ?_
  refine zwu (run_geq0 (k := .i64) (a := ((j : Nat) : Int)) (b := 0) true (decide_eq_true (by omega))) ?_
  refine znt ?_
  refine zct ?_
  refine wp_skip ?_
  refine then_at rfl ?_
  refine wp_seq ?_
  refine wp_block ?_
  refine zrg (fun _ : Nat → Nat => (⟨(.string (cut s) :: un :: pt q1 :: pt q4 :: pt q7 :: iN .i64 j :: .string s :: .string s :: iN .i64 s.size :: iN .i64 (min s.size 64) :: .string (s.extract 0 (min s.size 64)) :: pt q7 :: .string (cut s) :: iN .i64 ((cut s).size) :: dnv (cut s).size :: iN .i64 j :: .bool true :: u13 17 :: u13 18 :: rarr (numS (cut s) / 256 ^ (j + 1) % Lq) :: rarr 1 :: .string (cut s) :: iN .i64 j :: iN .u8 (sb (cut s) j) :: iN .i64 (sb (cut s) j) :: rarr (numS (cut s) / 256 ^ j % Lq) :: List.replicate 1 un).toArray, []⟩ : Act)) (GF w [(q7, 80, rl 1), (q4, 80, rl (numS (cut s) / 256 ^ (j + 1) % Lq)), (q1, 80, rl 0)] 7 0 1 q4 80 (rl (numS (cut s) / 256 ^ j % Lq))) (fun d hd => GF.start h15.drew (hd 7 (by decide))) ?_ ?_
  ·refine zg (gf_load 1 rfl Tryz.underlying80 rfl (info_rl _)) ?_
   refine zg (gf_load2 0 rfl Tryz.underlying80 rfl (info_rl _)) ?_
   refine zg (gf_plain (v := .string (cut s)) (fun _ _ => (by kernel_rfl))) ?_
   refine zg (gf_plain (v := iN .i64 j) (fun _ _ => (by kernel_rfl))) ?_
   refine zg (gf_plain (v := iN .u8 (sb (cut s) j)) (fun _ _ => (run_sidx (s := cut s) (a := j) (by omega)))) ?_
   refine zg (gf_plain (v := iN .i64 (sb (cut s) j)) (fun _ _ => (run_conv (k := .u8) (a := sb (cut s) j) .i64 Tryz.underlying5 Tryz.underlying3 (Nat.lt_trans (sb_lt _ _) (by decide))))) ?_
   refine zg (gf_call (v := rarr (numS (cut s) / 256 ^ j % Lq)) enS64 #[rarr (numS (cut s) / 256 ^ (j + 1) % Lq), rarr 1, iN .i64 (sb (cut s) j)] (fun w' => rof_step (cut s) j w')) ?_
   refine zg (gf_fill rfl (rl_sz _ _) (info_rl _) (one_rl _)) ?_
   exact AllGhost.nil
  intro _ w16 g17
  have h18 : HA w [(q7, 80, rl 1), (q4, 80, rl (numS (cut s) / 256 ^ j % Lq)), (q1, 80, rl 0)] w16 := g17.held
  clear g17
  refine block_normal ?_
  refine then_at rfl ?_
  refine wl_region ?_
  refine zwv (iN .i64 j) ?_
  refine zwu (run_dec (j := j) (by omega)) ?_
  refine zwv (dnv j) ?_
  refine wl_nil ?_
  exact then_I (zex h18)
 ·rintro _ w19 ⟨u13, rfl, h20⟩
  rw [Nat.sub_self]
  refine wp_seq ?_
  refine zsr ?_
  refine zwv (dnv 0) ?_
  refine zwu (run_geq0 (k := .i64) (a := -1) (b := 0) false (by decide)) ?_
  refine znt ?_
  refine zcf ?_
  refine wp_exit ?_
  repeat first | refine then_exit ?_ | refine block_exit ?_ | refine block_exit_ne (by decide) ?_
  have h21 : HA w [(q7, 80, rl 1), (q4, 80, rl (val s)), (q1, 80, rl 0)] w19 := by have e := h20; rw [Nat.sub_self, Nat.pow_zero, Nat.div_one] at e; exact e
  refine then_at rfl ?_
  refine zsr ?_
  refine wl_load h21 1 rfl Tryz.underlying80 rfl (info_rl _) ?_
  refine wl_fill (c' := rl (val s)) h21 2 rfl (rl_sz _ _) (info_rl _) (one_rl _) ?_
  intro w22 (h23 : HA w [(q7, 80, rl 1), (q4, 80, rl (val s)), (q1, 80, rl (val s))] w22)
  refine znt ?_
  refine wp_ret ?_
  repeat first | refine then_ret ?_ | refine block_ret ?_
  exact bodyPost_ret (res_cell (p := 2) (by kernel_rfl) (by kernel_rfl) (h23.get 2 rfl) Tryz.underlying80 rfl (info_rl _)) rfl ⟨rfl, h23.old⟩
theorem rbytes_any (n : Nat) (w : World) :
  Calls Tryz.prog 62 #[rarr n] w fun e w' => e = .returned (.string (bytesOf n)) ∧ Below w.heap.size w w' := by
 have H0 := HA.start w
 go_enter Tryz.func62, Tryz.ntmps62
 refine zsr ?_
 refine wl_make H0 80 (run_box37 (c := rl n)) ?_
 intro q1 w2 h3
 refine zwv (.string { data := #[] }) ?_
 refine znt ?_
 refine zsr ?_
 refine wl_make h3 126 run_alloc46 ?_
 intro q4 w5 h6
 refine znt ?_
 refine wp_seq ?_
 refine zsr ?_
 refine zwv (iN .i64 0) ?_
 refine znt ?_
 refine wp_block ?_
 refine wp_count (fun k A w' => ∃ u7 : Nat → Value, A = ⟨(rarr n :: pt q1 :: .string { data := #[] } :: pt q4 :: iN .i64 k :: u7 5 :: u7 6 :: u7 7 :: u7 8 :: u7 9 :: u7 10 :: u7 11 :: u7 12 :: u7 13 :: u7 14 :: List.replicate 2 un).toArray, []⟩ ∧ HA w [(q4, 126, by8 (n % 256 ^ k)), (q1, 80, rl n)] w') 32 ?_ ?_ ?_
 ·exact zex ((by rw [Nat.pow_zero, Nat.mod_one]; exact h6))
 ·rintro k hk _ w8 ⟨u7, rfl, h9⟩
  refine wp_seq ?_
  refine zsr ?_
  refine zwv (iN .i64 k) ?_
  refine zwu (run_lss (k := .i64) (a := k) (b := 32) true (decide_eq_true hk)) ?_
  refine znt ?_
  refine zct ?_
  refine wp_skip ?_
  refine then_at rfl ?_
  refine wp_seq ?_
  refine wp_block ?_
  refine wl_region ?_
  refine zwv (iN .i64 k) ?_
  refine zwv (iN .i64 k) ?_
  refine zwu (run_addr_arr (q := q1) (a := k) Tryz.underlying80 Tryz.sizeOf3 (by omega)) ?_
  refine zwu (run_load1 Tryz.isAgg3 (((h9.get 1 rfl).cell k).trans (rl_get n k (by omega)))) ?_
  refine zwu (run_conv8 (k := .i64) (a := n / 256 ^ k % 256) Tryz.underlying3 Tryz.underlying5 (by kernel_rfl)) ?_
  refine zwu (run_addr_arr (q := q4) (a := k) Tryz.underlying126 Tryz.sizeOf5 (by omega)) ?_
  refine wl_put (k := .u8) (z := (((n / 256 ^ k % 256) % 256 : Nat) : Int)) h9 0 rfl k (by rw [by8_size]; omega) Tryz.sizeOf5 ?_
  intro w10 h11
  have h12 : HA w [(q4, 126, by8 (n % 256 ^ (k + 1))), (q1, 80, rl n)] w10 := (by rw [← by8_put n k hk]; exact h11)
  clear h11
  refine wl_nil ?_
  refine block_normal ?_
  refine then_at rfl ?_
  refine wl_region ?_
  refine zwv (iN .i64 k) ?_
  refine zwu (run_add (k := .i64) (a := k) (b := 1) (by simp only [top]; omega)) ?_
  refine zwv (iN .i64 (k + 1)) ?_
  refine wl_nil ?_
  exact then_I (zex h12)
 ·rintro _ w13 ⟨u7, rfl, h14⟩
  refine wp_seq ?_
  refine zsr ?_
  refine zwv (iN .i64 32) ?_
  refine zwu (run_lss (k := .i64) (a := 32) (b := 32) false (by decide)) ?_
  refine znt ?_
  refine zcf ?_
  refine wp_exit ?_
  repeat first | refine then_exit ?_ | refine block_exit ?_ | refine block_exit_ne (by decide) ?_
  refine then_at rfl ?_
  refine zsr ?_
  refine zwu (run_slice46 (q := q4) (by kernel_rfl)) ?_
  refine zwu (run_text46 (les 32 n) (by kernel_rfl) (h14.get 0 rfl) (by8_text n) (by rw [les_length])) ?_
  refine zwv (.string (bytesOf n)) ?_
  refine znt ?_
  refine wp_ret ?_
  repeat first | refine then_ret ?_ | refine block_ret ?_
  exact bodyPost_ret (by kernel_rfl) rfl ⟨rfl, h14.old⟩
theorem rReduce_any (s : ByteArray) (w : World) :
  Calls Tryz.prog 60 #[.string s] w fun e w' => e = .returned (.string (rS s)) ∧ Below w.heap.size w w' := by
 have H0 := HA.start w
 go_enter Tryz.func60, Tryz.ntmps60
 refine zsr ?_
 refine zwv (.string { data := #[] }) ?_
 refine znt ?_
 refine zsr ?_
 refine zwv (.string s) ?_
 refine zwc H0 enS61 (rof_any s w) ?_
 intro w1 h2
 refine zwc h2 enS62 (rbytes_any (val s) w1) ?_
 intro w3 h4
 refine zwv (.string (bytesOf (val s))) ?_
 refine znt ?_
 refine wp_ret ?_
 repeat first | refine then_ret ?_ | refine block_ret ?_
 exact bodyPost_ret (by kernel_rfl) rfl ⟨rfl, h4.old⟩
theorem sum_small (M a b : Nat) (ha : a < M) (hb : b < M) : a + b < 2 ^ 10 * M := by omega
theorem rAdd_any (a b : ByteArray) (w : World) :
  Calls Tryz.prog 23 #[.string a, .string b] w fun e w' => e = .returned (.string (aS a b)) ∧ Below w.heap.size w w' := by
 have H0 := HA.start w
 go_enter Tryz.func23, Tryz.ntmps23
 refine zsr ?_
 refine zwv (.string { data := #[] }) ?_
 refine znt ?_
 refine zsr ?_
 refine zwv (.string a) ?_
 refine zwc H0 enS61 (rof_any a w) ?_
 intro w1 h2
 refine zwv (.string b) ?_
 refine zwc h2 enS61 (rof_any b w1) ?_
 intro w3 h4
 refine wl_make h4 80 run_alloc37 ?_
 intro q5 w6 h7
 refine wl_make h7 80 run_alloc37 ?_
 intro q8 w9 h10
 refine wl_fill (c' := rl (val a)) h10 1 rfl (rl_sz _ _) (info_rl _) (one_rl _) ?_
 intro w11 (h12 : HA w [(q8, 80, rl 0), (q5, 80, rl (val a))] w11)
 refine wl_fill (c' := rl (val b)) h12 0 rfl (rl_sz _ _) (info_rl _) (one_rl _) ?_
 intro w13 (h14 : HA w [(q8, 80, rl (val b)), (q5, 80, rl (val a))] w13)
 refine znt ?_
 refine zsr ?_
 refine zwv (iN .i64 0) ?_
 refine znt ?_
 refine wp_seq ?_
 refine zsr ?_
 refine zwv (iN .i64 0) ?_
 refine znt ?_
 refine wp_block ?_
 refine wp_count (fun k A w' => ∃ u15 : Nat → Value, A = ⟨(.string a :: .string b :: un :: un :: .string { data := #[] } :: pt q5 :: pt q8 :: iN .i64 (cya (val a) (val b) k) :: iN .i64 k :: u15 9 :: .string a :: rarr (val a) :: .string b :: rarr (val b) :: u15 14 :: u15 15 :: u15 16 :: u15 17 :: u15 18 :: u15 19 :: u15 20 :: u15 21 :: u15 22 :: u15 23 :: u15 24 :: u15 25 :: u15 26 :: u15 27 :: u15 28 :: u15 29 :: u15 30 :: u15 31 :: u15 32 :: List.replicate 3 un).toArray, []⟩ ∧ HA w [(q8, 80, rl (val b)), (q5, 80, mx (val a + val b) (val a) k)] w') 36 ?_ ?_ ?_
 ·exact zex h14
 ·rintro k hk _ w16 ⟨u15, rfl, h17⟩
  have hd := Nat.mod_lt (val a / 256 ^ k) (show 256 > 0 by decide)
  have he := Nat.mod_lt (val b / 256 ^ k) (show 256 > 0 by decide)
  have hc := cya_lt (val a) (val b) k
  refine wp_seq ?_
  refine zsr ?_
  refine zwv (iN .i64 k) ?_
  refine zwu (run_lss (k := .i64) (a := k) (b := 36) true (decide_eq_true hk)) ?_
  refine znt ?_
  refine zct ?_
  refine wp_skip ?_
  refine then_at rfl ?_
  refine wp_seq ?_
  refine wp_block ?_
  refine wp_seq ?_
  refine zrs ⟨(.string a :: .string b :: un :: un :: .string { data := #[] } :: pt q5 :: pt q8 :: iN .i64 (cya (val a) (val b) k) :: iN .i64 k :: iN .i64 ((((val a) / 256 ^ k % 256) + ((val b) / 256 ^ k % 256)) + (cya (val a) (val b) k)) :: .string a :: rarr (val a) :: .string b :: rarr (val b) :: iN .i64 k :: .bool true :: u15 16 :: u15 17 :: iN .i64 k :: .pointer (some ⟨q5, k, none⟩) :: iN .i64 ((val a) / 256 ^ k % 256) :: iN .i64 k :: .pointer (some ⟨q8, k, none⟩) :: iN .i64 ((val b) / 256 ^ k % 256) :: iN .i64 (((val a) / 256 ^ k % 256) + ((val b) / 256 ^ k % 256)) :: iN .i64 (cya (val a) (val b) k) :: iN .i64 ((((val a) / 256 ^ k % 256) + ((val b) / 256 ^ k % 256)) + (cya (val a) (val b) k)) :: u15 27 :: u15 28 :: u15 29 :: u15 30 :: u15 31 :: u15 32 :: List.replicate 3 un).toArray, []⟩ (HA w [(q8, 80, rl (val b)), (q5, 80, mx (val a + val b) (val a) k)]) h17.drew ?_ ?_
  ·refine zsp (iN .i64 k) ?_
   refine zst (fun _ _ => (run_addr_arr (q := q5) (a := k) Tryz.underlying80 Tryz.sizeOf3 (by omega))) ?_
   refine zst (fun _ h => run_load1 Tryz.isAgg3 (((h.get 1 rfl).cell k).trans (mx_get (val a + val b) (val a) k hk))) ?_
   refine zsp (iN .i64 k) ?_
   refine zst (fun _ _ => (run_addr_arr (q := q8) (a := k) Tryz.underlying80 Tryz.sizeOf3 (by omega))) ?_
   refine zst (fun _ h => run_load1 Tryz.isAgg3 (((h.get 0 rfl).cell k).trans (rl_get (val b) k (by omega)))) ?_
   refine zst (fun _ _ => (run_add (k := .i64) (a := (val a) / 256 ^ k % 256) (b := (val b) / 256 ^ k % 256) (by simp only [top]; omega))) ?_
   refine zsp (iN .i64 (cya (val a) (val b) k)) ?_
   refine zst (fun _ _ => (run_add (k := .i64) (a := ((val a) / 256 ^ k % 256) + ((val b) / 256 ^ k % 256)) (b := cya (val a) (val b) k) (by simp only [top]; omega))) ?_
   refine zsp (iN .i64 ((((val a) / 256 ^ k % 256) + ((val b) / 256 ^ k % 256)) + (cya (val a) (val b) k))) ?_
   exact AllSure.nil
  intro w18 h19
  refine then_at rfl ?_
  refine zsr ?_
  refine zwv (iN .i64 k) ?_
  refine zwv (iN .i64 ((((val a) / 256 ^ k % 256) + ((val b) / 256 ^ k % 256)) + (cya (val a) (val b) k))) ?_
  refine zwu (run_rem (k := .i64) (a := (((val a) / 256 ^ k % 256) + ((val b) / 256 ^ k % 256)) + (cya (val a) (val b) k)) (b := 256) (by omega)) ?_
  refine zwu (run_addr_arr (q := q5) (a := k) Tryz.underlying80 Tryz.sizeOf3 (by omega)) ?_
  refine wl_put (k := .i64) (z := ((((((val a) / 256 ^ k % 256) + ((val b) / 256 ^ k % 256)) + (cya (val a) (val b) k)) % 256 : Nat) : Int)) h19 1 rfl k (by rw [mx_size _ _ _ (by omega)]; exact hk) Tryz.sizeOf3 ?_
  intro w20 h21
  have h22 : HA w [(q8, 80, rl (val b)), (q5, 80, mx (val a + val b) (val a) (k + 1))] w20 := (by rw [← mx_put (val a + val b) (val a) k _ hk (mod_sum 256 (val a) (val b) k rfl)]; exact h21)
  clear h21
  refine znt ?_
  refine wl_region ?_
  refine zwv (iN .i64 ((((val a) / 256 ^ k % 256) + ((val b) / 256 ^ k % 256)) + (cya (val a) (val b) k))) ?_
  refine zwu (run_quo (k := .i64) (a := (((val a) / 256 ^ k % 256) + ((val b) / 256 ^ k % 256)) + (cya (val a) (val b) k)) (b := 256) (by omega) (by simp only [top]; omega)) ?_
  refine zwv (iN .i64 (((((val a) / 256 ^ k % 256) + ((val b) / 256 ^ k % 256)) + (cya (val a) (val b) k)) / 256)) ?_
  refine wl_nil ?_
  refine block_normal ?_
  refine then_at rfl ?_
  refine wl_region ?_
  refine zwv (iN .i64 k) ?_
  refine zwu (run_add (k := .i64) (a := k) (b := 1) (by simp only [top]; omega)) ?_
  refine zwv (iN .i64 (k + 1)) ?_
  refine wl_nil ?_
  exact then_I (zex h22)
 ·rintro _ w23 ⟨u15, rfl, h24⟩
  refine wp_seq ?_
  refine zsr ?_
  refine zwv (iN .i64 36) ?_
  refine zwu (run_lss (k := .i64) (a := 36) (b := 36) false (by decide)) ?_
  refine znt ?_
  refine zcf ?_
  refine wp_exit ?_
  repeat first | refine then_exit ?_ | refine block_exit ?_ | refine block_exit_ne (by decide) ?_
  have h25 : HA w [(q8, 80, rl (val b)), (q5, 80, rl (val a + val b))] w23 := by rw [← mx_end (val a + val b) (val a)]; exact h24
  refine then_at rfl ?_
  refine zsr ?_
  refine wl_load h25 1 rfl Tryz.underlying80 rfl (info_rl _) ?_
  refine zwc (v := rarr ((val a + val b) % Lq)) (args := #[rarr (val a + val b)]) h25 enS63 (rmodulo_any (val a + val b) (sum_small Lq _ _ (val_lt a) (val_lt b)) w23) ?_
  intro w26 h27
  refine zwc h27 enS62 (rbytes_any ((val a + val b) % Lq) w26) ?_
  intro w28 h29
  refine zwv (.string (bytesOf ((val a + val b) % Lq))) ?_
  refine znt ?_
  refine wp_ret ?_
  repeat first | refine then_ret ?_ | refine block_ret ?_
  exact bodyPost_ret (by kernel_rfl) rfl ⟨rfl, h29.old⟩
theorem rS_size (a : ByteArray) : (rS a).size = 32 := bytesOf_size _
theorem val_lt32 (a : ByteArray) : val a < 256 ^ 32 := Nat.lt_trans (val_lt a) (by decide)
theorem rmul_step (a b : ByteArray) (j : Nat) (w : World) : Calls Tryz.prog 64 #[rarr (val a * (val b / 256 ^ (j + 1)) % Lq), rarr (val a), iN .i64 (sb (rS b) j)] w fun e w' => e = .returned (rarr (val a * (val b / 256 ^ j) % Lq)) ∧ Below w.heap.size w w' := by
 have h := rstep_any (val a * (val b / 256 ^ (j + 1)) % Lq) (val a) (sb (rS b) j) (Nat.mod_lt _ Lq_pos) (val_lt a) (sb_lt _ j) w
 have e : sb (rS b) j = val b / 256 ^ j % 256 := by
  show numS (bytesOf (val b)) / 256 ^ j % 256 = _
  rw [numS_bytesOf _ (val_lt32 b)]
 rw [e] at h ⊢
 rwa [mul_step2] at h
theorem rMul_any (a b : ByteArray) (w : World) :
  Calls Tryz.prog 24 #[.string a, .string b] w fun e w' => e = .returned (.string (mS a b)) ∧ Below w.heap.size w w' := by
 have H0 := HA.start w
 go_enter Tryz.func24, Tryz.ntmps24
 refine zsr ?_
 refine zwv (.string { data := #[] }) ?_
 refine znt ?_
 refine zsr ?_
 refine zwv (.string a) ?_
 refine zwc H0 enS61 (rof_any a w) ?_
 intro w1 h2
 refine wl_make h2 80 run_alloc37 ?_
 intro q3 w4 h5
 refine wl_fill (c' := rl (val a)) h5 0 rfl (rl_sz _ _) (info_rl _) (one_rl _) ?_
 intro w6 (h7 : HA w [(q3, 80, rl (val a))] w6)
 refine znt ?_
 refine zsr ?_
 refine zwv (.string b) ?_
 refine zwc h7 enS60 (rReduce_any b w6) ?_
 intro w8 h9
 refine zwv (.string (rS b)) ?_
 refine znt ?_
 refine zsr ?_
 refine wl_make h9 80 run_alloc37 ?_
 intro q10 w11 h12
 refine znt ?_
 refine wp_seq ?_
 refine zsr ?_
 refine zwv (iN .i64 31) ?_
 refine znt ?_
 refine wp_block ?_
 refine wp_count (fun k A w' => ∃ u13 : Nat → Value, A = ⟨(.string a :: .string b :: un :: un :: .string { data := #[] } :: pt q3 :: .string (rS b) :: pt q10 :: dnv (32 - k) :: .string a :: rarr (val a) :: .string b :: .string (rS b) :: u13 13 :: u13 14 :: u13 15 :: u13 16 :: u13 17 :: u13 18 :: u13 19 :: u13 20 :: u13 21 :: u13 22 :: u13 23 :: List.replicate 2 un).toArray, []⟩ ∧ HA w [(q10, 80, rl (val a * (val b / 256 ^ (32 - k)) % Lq)), (q3, 80, rl (val a))] w') 32 ?_ ?_ ?_
 ·exact zex ((by rw [Nat.sub_zero, Nat.div_eq_of_lt (val_lt32 b), Nat.mul_zero, Nat.zero_mod]; exact h12))
 ·rintro k hk _ w14 ⟨u13, rfl, h15⟩
  obtain ⟨j, hj, ej⟩ : ∃ j, j < 32 ∧ 32 - k = j + 1 := ⟨31 - k, by omega, by omega⟩
  have ej2 : 32 - (k + 1) = j := by omega
  rw [ej] at h15
  rw [ej, ej2]
  refine wp_seq ?_
  refine zsr ?_
  refine zwv (iN .i64 j) ?_
  refine zwu (run_geq0 (k := .i64) (a := ((j : Nat) : Int)) (b := 0) true (decide_eq_true (by omega))) ?_
  refine znt ?_
  refine zct ?_
  refine wp_skip ?_
  refine then_at rfl ?_
  refine wp_seq ?_
  refine wp_block ?_
  refine zrg (fun _ : Nat → Nat => (⟨(.string a :: .string b :: un :: un :: .string { data := #[] } :: pt q3 :: .string (rS b) :: pt q10 :: iN .i64 j :: .string a :: rarr (val a) :: .string b :: .string (rS b) :: iN .i64 j :: .bool true :: u13 15 :: u13 16 :: rarr (val a * (val b / 256 ^ (j + 1)) % Lq) :: rarr (val a) :: .string (rS b) :: iN .i64 j :: iN .u8 (sb (rS b) j) :: iN .i64 (sb (rS b) j) :: rarr (val a * (val b / 256 ^ j) % Lq) :: List.replicate 2 un).toArray, []⟩ : Act)) (GF w [(q10, 80, rl (val a * (val b / 256 ^ (j + 1)) % Lq)), (q3, 80, rl (val a))] 7 0 0 q10 80 (rl (val a * (val b / 256 ^ j) % Lq))) (fun d hd => GF.start h15.drew (hd 7 (by decide))) ?_ ?_
  ·refine zg (gf_load 0 rfl Tryz.underlying80 rfl (info_rl _)) ?_
   refine zg (gf_load2 1 rfl Tryz.underlying80 rfl (info_rl _)) ?_
   refine zg (gf_plain (v := .string (rS b)) (fun _ _ => (by kernel_rfl))) ?_
   refine zg (gf_plain (v := iN .i64 j) (fun _ _ => (by kernel_rfl))) ?_
   refine zg (gf_plain (v := iN .u8 (sb (rS b) j)) (fun _ _ => (run_sidx (s := rS b) (a := j) (by rw [rS_size]; omega)))) ?_
   refine zg (gf_plain (v := iN .i64 (sb (rS b) j)) (fun _ _ => (run_conv (k := .u8) (a := sb (rS b) j) .i64 Tryz.underlying5 Tryz.underlying3 (Nat.lt_trans (sb_lt _ _) (by decide))))) ?_
   refine zg (gf_call (v := rarr (val a * (val b / 256 ^ j) % Lq)) enS64 #[rarr (val a * (val b / 256 ^ (j + 1)) % Lq), rarr (val a), iN .i64 (sb (rS b) j)] (fun w' => rmul_step a b j w')) ?_
   refine zg (gf_fill rfl (rl_sz _ _) (info_rl _) (one_rl _)) ?_
   exact AllGhost.nil
  intro _ w16 g17
  have h18 : HA w [(q10, 80, rl (val a * (val b / 256 ^ j) % Lq)), (q3, 80, rl (val a))] w16 := g17.held
  clear g17
  refine block_normal ?_
  refine then_at rfl ?_
  refine wl_region ?_
  refine zwv (iN .i64 j) ?_
  refine zwu (run_dec (j := j) (by omega)) ?_
  refine zwv (dnv j) ?_
  refine wl_nil ?_
  exact then_I (zex h18)
 ·rintro _ w19 ⟨u13, rfl, h20⟩
  refine wp_seq ?_
  refine zsr ?_
  refine zwv (dnv 0) ?_
  refine zwu (run_geq0 (k := .i64) (a := -1) (b := 0) false (by decide)) ?_
  refine znt ?_
  refine zcf ?_
  refine wp_exit ?_
  repeat first | refine then_exit ?_ | refine block_exit ?_ | refine block_exit_ne (by decide) ?_
  have h21 : HA w [(q10, 80, rl (val a * val b % Lq)), (q3, 80, rl (val a))] w19 := by have e := h20; rw [Nat.sub_self, Nat.pow_zero, Nat.div_one] at e; exact e
  refine then_at rfl ?_
  refine zsr ?_
  refine wl_load h21 0 rfl Tryz.underlying80 rfl (info_rl _) ?_
  refine zwc h21 enS62 (rbytes_any (val a * val b % Lq) w19) ?_
  intro w22 h23
  refine zwv (.string (bytesOf (val a * val b % Lq))) ?_
  refine znt ?_
  refine wp_ret ?_
  repeat first | refine then_ret ?_ | refine block_ret ?_
  exact bodyPost_ret (by kernel_rfl) rfl ⟨rfl, h23.old⟩
end Go.Proofs.YtefjnfeckenmkaaGreatDoor.Sc

namespace Go.Proofs.YtefjnfeckenmkaaGreatDoor.Sc
set_option linter.unusedVariables false
set_option maxRecDepth 100000
set_option maxHeartbeats 2000000
open Go.RowKit Num
theorem run_cut_c {ρ : Operand → Value} {x y z : Operand} {s : ByteArray} {w : World} {dst : Option Tmp} {ty : TypeId} {pos : String} {aft : Array Edge} {gd : Option (Nat × Bool)} (hx : ρ x = .string s) (hz : ρ z = iN .i64 1) (hy : ρ y = iN .i64 31) (hl : s.size = 32) :
  (execOp ρ ⟨dst, .slice 9 x (some z) (some y) none, ty, pos, aft, gd⟩).run Tryz.prog w = .ok (.value (.string (s.extract 1 31))) w := run_cut_mid hx hz hy (by omega) (by decide)
def rclS (s : ByteArray) : ByteArray := (byteS (sb s 0 / 8 * 8) ++ s.extract 1 31) ++ byteS (sb s 31 % 64 + 64)
theorem and248 (x : Nat) (h : x < 256) : cla x = x / 8 * 8 := by
 have : ∀ y : Fin 256, cla y.1 = y.1 / 8 * 8 := by decide +kernel
 exact this ⟨x, h⟩
theorem and127 (x : Nat) (h : x < 256) : clb x = x % 64 + 64 := by
 have : ∀ y : Fin 256, clb y.1 = y.1 % 64 + 64 := by decide +kernel
 exact this ⟨x, h⟩
theorem sb_bl (s : ByteArray) (i : Nat) (h : i < s.size) : sb s i = ((bl s).getD i 0).toNat := by
 rw [← sb_get s i h]
 unfold bl
 rw [List.getD_eq_getElem?_getD, Array.getElem?_toList, Array.getElem?_eq_getElem h]
 rfl
theorem list32 (l : List UInt8) (h : l.length = 32) (a b : UInt8) : (l.set 0 a).set 31 b = a :: ((l.drop 1).take 30 ++ [b]) := by
 refine List.ext_getElem? fun i => ?_
 by_cases h0 : i = 0
 ·subst h0
  rw [List.getElem?_set_ne (by decide), List.getElem?_set_self (by omega)]
  rfl
 ·obtain ⟨k, rfl⟩ : ∃ k, i = k + 1 := ⟨i - 1, by omega⟩
  rw [List.getElem?_cons_succ]
  by_cases h1 : k < 30
  ·rw [List.getElem?_set_ne (by omega), List.getElem?_set_ne (by omega), List.getElem?_append_left (by rw [List.length_take, List.length_drop]; omega), List.getElem?_take_of_lt h1, List.getElem?_drop, Nat.add_comm 1 k]
  ·rw [List.getElem?_append_right (by rw [List.length_take, List.length_drop]; omega), List.length_take, List.length_drop, h]
   by_cases h2 : k = 30
   ·subst h2
    rw [List.getElem?_set_self (by rw [List.length_set]; omega)]
    rfl
   ·rw [List.getElem?_eq_none (by rw [List.length_set, List.length_set]; omega), List.getElem?_eq_none (by simp; omega)]
theorem clamp_same (s : ByteArray) (h : s.size = 32) : clampS s = rclS s := by
 have hl : (bl s).length = 32 := by rw [bl_len, h]
 unfold clampS clampL rclS
 rw [list32 _ hl, sb_bl s 0 (by omega), sb_bl s 31 (by omega), ← and248 _ (u8_lt _), ← and127 _ (u8_lt _)]
 have e : (s.extract 1 31).data.toList = ((bl s).drop 1).take 30 := by
  rw [ByteArray.data_extract, Array.toList_extract, List.extract_eq_take_drop]
  rfl
 have e1 : ∀ n, (byteS n).data.toList = [UInt8.ofNat n] := fun _ => rfl
 apply ByteArray.ext
 apply Array.toList_inj.1
 rw [List.toList_toArray, ByteArray.data_append, ByteArray.data_append, Array.toList_append, Array.toList_append, e, e1, e1]
 rfl
theorem size1 (n : Nat) : (byteS n).size = 1 := rfl
theorem len1 (s : ByteArray) (hl : s.size = 32) (n : Nat) : (byteS n).size + (s.extract 1 31).size ≤ 9223372036854775807 := by
 rw [size1, size_extract s 1 31 (by omega)]
 decide
theorem len2 (s : ByteArray) (hl : s.size = 32) (n m : Nat) : (byteS n ++ s.extract 1 31).size + (byteS m).size ≤ 9223372036854775807 := by
 rw [ByteArray.size_append, size1, size1, size_extract s 1 31 (by omega)]
 decide
theorem rClamp_yes (s : ByteArray) (hl : s.size = 32) (w : World) :
  Calls Tryz.prog 41 #[.string s] w fun e w' => e = .returned (.string (rclS s)) ∧ Below w.heap.size w w' := by
 have hb0 := sb_lt s 0
 have hb1 := sb_lt s 31
 have H0 := HA.start w
 go_enter Tryz.func41, Tryz.ntmps41
 refine zsr ?_
 refine zwv (.string { data := #[] }) ?_
 refine znt ?_
 refine wp_seq ?_
 refine zsr ?_
 refine zwv (.string s) ?_
 refine zwu (run_len (s := s)) ?_
 refine zwu (run_nei (k := .i64) (a := s.size) (b := 32) false (decide_eq_false (fun h => h hl))) ?_
 refine znt ?_
 refine zcf ?_
 refine wp_skip ?_
 refine then_at rfl ?_
 refine wp_seq ?_
 refine zrg (fun g : Nat → Nat => (⟨(.string s :: un :: .string (((byteS (((sb s 0) / 8) * 8) ++ s.extract 1 31) ++ byteS (((sb s 31) % 64) + 64))) :: .string s :: iN .i64 s.size :: .bool false :: .string s :: iN .u8 (sb s 0) :: iN .u8 ((sb s 0) / 8) :: iN .u8 (((sb s 0) / 8) * 8) :: .slice (some ⟨g 4, 0, none⟩) 1 1 :: .string (byteS (((sb s 0) / 8) * 8)) :: .string s :: .string (s.extract 1 31) :: .string ((byteS (((sb s 0) / 8) * 8) ++ s.extract 1 31)) :: .string s :: iN .u8 (sb s 31) :: iN .u8 ((sb s 31) % 64) :: iN .u8 (((sb s 31) % 64) + 64) :: .slice (some ⟨g 13, 0, none⟩) 1 1 :: .string (byteS (((sb s 31) % 64) + 64)) :: .string (((byteS (((sb s 0) / 8) * 8) ++ s.extract 1 31) ++ byteS (((sb s 31) % 64) + 64))) :: List.replicate 0 un).toArray, []⟩ : Act)) (GM w [] [(4, 5, #[iN .u8 (((sb s 0) / 8) * 8)]), (13, 5, #[iN .u8 (((sb s 31) % 64) + 64)])]) (fun d hd => GM.start H0.drew 17 (by kernel_rfl) hd) ?_ ?_
 ·refine zg (gm_plain (v := fun _ => .string s) (fun _ _ => (by kernel_rfl))) ?_
  refine zg (gm_plain (v := fun _ => iN .u8 (sb s 0)) (fun _ _ => (run_sidx (s := s) (a := 0) (by omega)))) ?_
  refine zg (gm_plain (v := fun _ => iN .u8 ((sb s 0) / 8)) (fun _ _ => (run_quo (k := .u8) (a := sb s 0) (b := 8) (by omega) (by simp only [top]; omega)))) ?_
  refine zg (gm_plain (v := fun _ => iN .u8 (((sb s 0) / 8) * 8)) (fun _ _ => (run_mul (k := .u8) (a := (sb s 0) / 8) (b := 8) (by simp only [top]; omega)))) ?_
  refine zg (gm_make (fun m => .slice (some ⟨m, 0, none⟩) 1 1) (by simp) (fun _ _ => (run_byte1 (n := ((sb s 0) / 8) * 8) (by kernel_rfl)))) ?_
  refine zg (gm_reads (v := .string (byteS (((sb s 0) / 8) * 8))) 0 rfl (by kernel_rfl) (fun _ => by kernel_rfl) (fun _ => by kernel_rfl) (by kernel_rfl) (fun g w' hb => run_text [UInt8.ofNat (((sb s 0) / 8) * 8)] (by kernel_rfl) hb (by rw [cs, List.map_cons, List.map_nil, UInt8.toNat_ofNat', Nat.mod_eq_of_lt (show (((sb s 0) / 8) * 8) < 2 ^ 8 by omega)]; rfl) rfl)) ?_
  refine zg (gm_plain (v := fun _ => .string s) (fun _ _ => (by kernel_rfl))) ?_
  refine zg (gm_plain (v := fun _ => .string (s.extract 1 31)) (fun _ _ => (run_cut_c (s := s) (by kernel_rfl) (by kernel_rfl) (by kernel_rfl) hl))) ?_
  refine zg (gm_plain (v := fun _ => .string ((byteS (((sb s 0) / 8) * 8) ++ s.extract 1 31))) (fun _ _ => (run_cat (s := byteS (((sb s 0) / 8) * 8)) (t := s.extract 1 31) (by first | exact len1 s hl _ | exact len2 s hl _ _)))) ?_
  refine zg (gm_plain (v := fun _ => .string s) (fun _ _ => (by kernel_rfl))) ?_
  refine zg (gm_plain (v := fun _ => iN .u8 (sb s 31)) (fun _ _ => (run_sidx (s := s) (a := 31) (by omega)))) ?_
  refine zg (gm_plain (v := fun _ => iN .u8 ((sb s 31) % 64)) (fun _ _ => (run_rem (k := .u8) (a := sb s 31) (b := 64) (by omega)))) ?_
  refine zg (gm_plain (v := fun _ => iN .u8 (((sb s 31) % 64) + 64)) (fun _ _ => (run_add (k := .u8) (a := (sb s 31) % 64) (b := 64) (by simp only [top]; omega)))) ?_
  refine zg (gm_make (fun m => .slice (some ⟨m, 0, none⟩) 1 1) (by simp) (fun _ _ => (run_byte1 (n := ((sb s 31) % 64) + 64) (by kernel_rfl)))) ?_
  refine zg (gm_reads (v := .string (byteS (((sb s 31) % 64) + 64))) 1 rfl (by kernel_rfl) (fun _ => by kernel_rfl) (fun _ => by kernel_rfl) (by kernel_rfl) (fun g w' hb => run_text [UInt8.ofNat (((sb s 31) % 64) + 64)] (by kernel_rfl) hb (by rw [cs, List.map_cons, List.map_nil, UInt8.toNat_ofNat', Nat.mod_eq_of_lt (show (((sb s 31) % 64) + 64) < 2 ^ 8 by omega)]; rfl) rfl)) ?_
  refine zg (gm_plain (v := fun _ => .string (((byteS (((sb s 0) / 8) * 8) ++ s.extract 1 31) ++ byteS (((sb s 31) % 64) + 64)))) (fun _ _ => (run_cat (s := (byteS (((sb s 0) / 8) * 8) ++ s.extract 1 31)) (t := byteS (((sb s 31) % 64) + 64)) (by first | exact len1 s hl _ | exact len2 s hl _ _)))) ?_
  refine zg (gm_plain (v := fun _ => .string (((byteS (((sb s 0) / 8) * 8) ++ s.extract 1 31) ++ byteS (((sb s 31) % 64) + 64)))) (fun _ _ => (by kernel_rfl))) ?_
  exact AllGhost.nil
 intro g w1 g2
 have h3 := g2.held
 clear g2
 generalize g 4 = u4
 generalize g 13 = u5
 clear g
 refine then_at rfl ?_
 refine wp_ret ?_
 repeat first | refine then_ret ?_ | refine block_ret ?_
 exact bodyPost_ret (by kernel_rfl) rfl ⟨rfl, h3.old⟩
theorem rClamp_same (s : ByteArray) (hl : s.size = 32) (w : World) : Calls Tryz.prog 41 #[.string s] w fun e w' => e = .returned (.string (clampS s)) ∧ Below w.heap.size w w' := by
 rw [clamp_same s hl]
 exact rClamp_yes s hl w
end Go.Proofs.YtefjnfeckenmkaaGreatDoor.Sc
