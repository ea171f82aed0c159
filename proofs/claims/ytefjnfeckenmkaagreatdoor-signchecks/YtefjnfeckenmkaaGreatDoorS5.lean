/-
 scalar: RefS4.
-/
import Derived.Test.YtefjnfeckenmkaaGreatDoorS4
namespace Go.Proofs.YtefjnfeckenmkaaGreatDoor.Sc
set_option linter.unusedVariables false
set_option maxRecDepth 100000
set_option maxHeartbeats 2000000
open Go.RowKit Num
theorem one_cell : (rl 0).setIfInBounds 0 (.int .i64 ((1 : Nat) : Int)) = rl 1 := by kernel_rfl
theorem of_step (M N j : Nat) : (N / 256 ^ (j + 1) % M * 256 + 1 * (N / 256 ^ j % 256)) % M = N / 256 ^ j % M := by
 rw [mod_in, Nat.one_mul, Nat.pow_succ, ← Nat.div_div_eq_div_mul, Nat.mul_comm, Nat.div_add_mod]
theorem cut_size (s : ByteArray) : (cut s).size ≤ 64 := by
 unfold cut
 rw [size_extract s 0 _ (by omega)]
 omega
theorem by8_put (n k : Nat) (hk : k < 32) : (by8 (n % 256 ^ k)).setIfInBounds k (.int .u8 ((n / 256 ^ k % 256 % 256 : Nat) : Int)) = by8 (n % 256 ^ (k + 1)) := by
 unfold by8
 rw [mod_step 256 n k, ← digs_push 256 32 (n % 256 ^ k) k _ (Nat.mod_lt _ (Nat.pow_pos (by decide))) hk (Nat.mod_lt _ (by decide)), Nat.mod_mod]
 simp [cl, List.map_set]
theorem by8_text (n : Nat) : by8 (n % 256 ^ 32) = (cs (les 32 n)).toArray := by
 unfold by8 cs les cl
 rw [digs_mod 256 32 (n % 256 ^ 32) n (by decide) (Nat.mod_mod _ _)]
 congr 1
 rw [List.map_map]
 refine List.map_congr_left fun x hx => ?_
 have := digs_lt 256 (by decide) 32 n x hx
 show Value.int .u8 (x : Int) = Value.int .u8 ((UInt8.ofNat x).toNat : Int)
 rw [UInt8.toNat_ofNat']
 congr 2
 omega
theorem run_alloc46 {ρ : Operand → Value} {w : World} {dst : Option Tmp} {ty : TypeId} {pos : String} {aft : Array Edge} {gd : Option (Nat × Bool)} :
  (execOp ρ ⟨dst, .alloc 126, ty, pos, aft, gd⟩).run Tryz.prog w = .ok (.value (.pointer (some ⟨w.heap.size, 0, none⟩))) (w.alloc (.cells (by8 0) 126)) := by
 simp only [execOp]
 go_simp
 rfl
theorem run_slice46 {ρ : Operand → Value} {x : Operand} {q : Nat} {w : World} {dst : Option Tmp} {ty : TypeId} {pos : String} {aft : Array Edge} {gd : Option (Nat × Bool)} (hx : ρ x = .pointer (some ⟨q, 0, none⟩)) : (execOp ρ ⟨dst, .slice 126 x none none none, ty, pos, aft, gd⟩).run Tryz.prog w = .ok (.value (.slice (some ⟨q, 0, none⟩) 32 32)) w := by
 simp only [execOp, hx]
 go_simp
theorem run_text46 {ρ : Operand → Value} {x : Operand} {q n : Nat} {c : Array Value} {w : World} {dst : Option Tmp} {ty : TypeId} {pos : String} {aft : Array Edge} {gd : Option (Nat × Bool)} (l : List UInt8) (hx : ρ x = .slice (some ⟨q, 0, none⟩) n n) (h : Blk w q 126 c) (hc : c = (cs l).toArray) (hn : n = l.length) :
  (execOp ρ ⟨dst, .convert 71 9 x, ty, pos, aft, gd⟩).run Tryz.prog w = .ok (.value (.string ⟨l.toArray⟩)) w := by
 subst hc hn
 have hcell : ∀ j (hj : j < l.length), w.cell? ((⟨q, 0, none⟩ : Addr).add j) = some (.int .u8 ((l[j]).toNat : Int)) := fun j hj => by
  have hadd : (⟨q, 0, none⟩ : Addr).add j = ⟨q, j, none⟩ := by unfold Addr.add; split <;> simp_all
  rw [hadd, h.cell j]
  simp [cs, List.getElem?_eq_getElem hj]
 have := run_convert_bytes_back (P := Tryz.prog) w 71 9 5 ⟨q, 0, none⟩ l.length l Tryz.underlying71 Tryz.underlying5 Tryz.underlying9 hcell
 simp only [execOp, hx, Sem.run_bind, this, Result.andThen_ok, Sem.run_pure]
theorem rof_step (t : ByteArray) (j : Nat) (w : World) : Calls Tryz.prog 64 #[rarr (numS t / 256 ^ (j + 1) % Lq), rarr 1, iN .i64 (sb t j)] w fun e w' => e = .returned (rarr (numS t / 256 ^ j % Lq)) ∧ Below w.heap.size w w' := by
 have h := rstep_any (numS t / 256 ^ (j + 1) % Lq) 1 (sb t j) (Nat.mod_lt _ Lq_pos) (by decide) (sb_lt t j) w
 unfold sb at h ⊢
 rwa [of_step] at h
theorem rof_any (s : ByteArray) (w : World) :
  Calls Tryz.prog 61 #[.string s] w fun e w' => e = .returned (rarr (val s)) ∧ Below w.heap.size w w' := by
 have H0 := HA.start w
 go_enter Tryz.func61, Tryz.ntmps61
 refine zsr ?_
 refine wl_make H0 80 run_alloc37 ?_
 intro q1 w2 h3
 refine znt ?_
 refine zsr ?_
 refine zwv (.string s) ?_
 refine zwv (.string s) ?_
 refine zwu (run_len (s := s)) ?_
 refine zwu (run_min (a := s.size) (b := 64) (by kernel_rfl) (by kernel_rfl)) ?_
 refine zwu (run_cut_hi (s := s) (b := min s.size 64) (by omega)) ?_
 refine zwv (.string (s.extract 0 (min s.size 64))) ?_
 refine znt ?_
 refine zsr ?_
 refine wl_make h3 80 run_alloc37 ?_
 intro q4 w5 h6
 refine wl_make h6 80 run_alloc37 ?_
 intro q7 w8 h9
 refine znt ?_
 refine zsr ?_
 refine zwu (run_addr_arr (q := q7) (a := 0) Tryz.underlying80 Tryz.sizeOf3 (by decide)) ?_
 refine wl_put (k := .i64) (z := ((1 : Nat) : Int)) h9 0 rfl 0 (by rw [rl_size]; decide) Tryz.sizeOf3 ?_
 intro w10 h11
 have h12 : HA w [(q7, 80, rl 1), (q4, 80, rl 0), (q1, 80, rl 0)] w10 := (by rw [← one_cell]; exact h11)
 clear h11
 refine znt ?_
 refine wp_seq ?_
 refine zsr ?_
 refine zwv (.string (cut s)) ?_
 refine zwu (run_len (s := cut s)) ?_
 refine zwu (run_dec (j := (cut s).size) (by have := cut_size s; omega)) ?_
 refine zwv (dnv (cut s).size) ?_
 refine znt ?_
 refine wp_block ?_
 refine wp_count (fun k A w' => ∃ u13 : Nat → Value, A = ⟨(.string (cut s) :: un :: pt q1 :: pt q4 :: pt q7 :: dnv ((cut s).size - k) :: .string s :: .string s :: iN .i64 s.size :: iN .i64 (min s.size 64) :: .string (s.extract 0 (min s.size 64)) :: pt q7 :: .string (cut s) :: iN .i64 ((cut s).size) :: dnv (cut s).size :: u13 15 :: u13 16 :: u13 17 :: u13 18 :: u13 19 :: u13 20 :: u13 21 :: u13 22 :: u13 23 :: u13 24 :: u13 25 :: List.replicate 1 un).toArray, []⟩ ∧ HA w [(q7, 80, rl 1), (q4, 80, rl (numS (cut s) / 256 ^ ((cut s).size - k) % Lq)), (q1, 80, rl 0)] w') ((cut s).size) ?_ ?_ ?_
 ·exact zex ((by rw [Nat.sub_zero, Nat.div_eq_of_lt (numS_lt _), Nat.zero_mod]; exact h12))
 ·rintro k hk _ w14 ⟨u13, rfl, h15⟩
  obtain ⟨j, hj, ej⟩ : ∃ j, j < (cut s).size ∧ (cut s).size - k = j + 1 := ⟨(cut s).size - k - 1, by omega, by omega⟩
  have ej2 : (cut s).size - (k + 1) = j := by omega
  rw [ej] at h15
  rw [ej, ej2]
  have h64 := cut_size s
  refine wp_seq ?_
  refine zsr ?_
  refine zwv (iN .i64 j) ?_
  refine zwu (run_geq0 (k := .i64) (a := ((j : Nat) : Int)) (b := 0) true (decide_eq_true (by omega))) ?_
  refine znt ?_
  refine zct ?_
  refine wp_skip ?_
  refine then_at rfl ?_
  refine wp_seq ?_
  refine wp_block ?_
  refine zrg (fun _ : Nat → Nat => (⟨(.string (cut s) :: un :: pt q1 :: pt q4 :: pt q7 :: iN .i64 j :: .string s :: .string s :: iN .i64 s.size :: iN .i64 (min s.size 64) :: .string (s.extract 0 (min s.size 64)) :: pt q7 :: .string (cut s) :: iN .i64 ((cut s).size) :: dnv (cut s).size :: iN .i64 j :: .bool true :: u13 17 :: u13 18 :: rarr (numS (cut s) / 256 ^ (j + 1) % Lq) :: rarr 1 :: .string (cut s) :: iN .i64 j :: iN .u8 (sb (cut s) j) :: iN .i64 (sb (cut s) j) :: rarr (numS (cut s) / 256 ^ j % Lq) :: List.replicate 1 un).toArray, []⟩ : Act)) (GF w [(q7, 80, rl 1), (q4, 80, rl (numS (cut s) / 256 ^ (j + 1) % Lq)), (q1, 80, rl 0)] 7 0 1 q4 80 (rl (numS (cut s) / 256 ^ j % Lq))) (fun d hd => GF.start h15.drew (hd 7 (by decide))) ?_ ?_
  ·refine zg (gf_load 1 rfl Tryz.underlying80 rfl (info_rl _)) ?_
   refine zg (gf_load2 0 rfl Tryz.underlying80 rfl (info_rl _)) ?_
   refine zg (gf_plain (v := .string (cut s)) (fun _ _ => (by kernel_rfl))) ?_
   refine zg (gf_plain (v := iN .i64 j) (fun _ _ => (by kernel_rfl))) ?_
   refine zg (gf_plain (v := iN .u8 (sb (cut s) j)) (fun _ _ => (run_sidx (s := cut s) (a := j) (by omega)))) ?_
   refine zg (gf_plain (v := iN .i64 (sb (cut s) j)) (fun _ _ => (run_conv (k := .u8) (a := sb (cut s) j) .i64 Tryz.underlying5 Tryz.underlying3 (Nat.lt_trans (sb_lt _ _) (by decide))))) ?_
   refine zg (gf_call (v := rarr (numS (cut s) / 256 ^ j % Lq)) enS64 #[rarr (numS (cut s) / 256 ^ (j + 1) % Lq), rarr 1, iN .i64 (sb (cut s) j)] (fun w' => rof_step (cut s) j w')) ?_
   refine zg (gf_fill rfl (rl_sz _ _) (info_rl _) (one_rl _)) ?_
   exact AllGhost.nil
  intro _ w16 g17
  have h18 : HA w [(q7, 80, rl 1), (q4, 80, rl (numS (cut s) / 256 ^ j % Lq)), (q1, 80, rl 0)] w16 := g17.held
  clear g17
  refine block_normal ?_
  refine then_at rfl ?_
  refine wl_region ?_
  refine zwv (iN .i64 j) ?_
  refine zwu (run_dec (j := j) (by omega)) ?_
  refine zwv (dnv j) ?_
  refine wl_nil ?_
  exact then_I (zex h18)
 ·rintro _ w19 ⟨u13, rfl, h20⟩
  rw [Nat.sub_self]
  refine wp_seq ?_
  refine zsr ?_
  refine zwv (dnv 0) ?_
  refine zwu (run_geq0 (k := .i64) (a := -1) (b := 0) false (by decide)) ?_
  refine znt ?_
  refine zcf ?_
  refine wp_exit ?_
  repeat first | refine then_exit ?_ | refine block_exit ?_ | refine block_exit_ne (by decide) ?_
  have h21 : HA w [(q7, 80, rl 1), (q4, 80, rl (val s)), (q1, 80, rl 0)] w19 := by have e := h20; rw [Nat.sub_self, Nat.pow_zero, Nat.div_one] at e; exact e
  refine then_at rfl ?_
  refine zsr ?_
  refine wl_load h21 1 rfl Tryz.underlying80 rfl (info_rl _) ?_
  refine wl_fill (c' := rl (val s)) h21 2 rfl (rl_sz _ _) (info_rl _) (one_rl _) ?_
  intro w22 (h23 : HA w [(q7, 80, rl 1), (q4, 80, rl (val s)), (q1, 80, rl (val s))] w22)
  refine znt ?_
  refine wp_ret ?_
  repeat first | refine then_ret ?_ | refine block_ret ?_
  exact bodyPost_ret (res_cell (p := 2) (by kernel_rfl) (by kernel_rfl) (h23.get 2 rfl) Tryz.underlying80 rfl (info_rl _)) rfl ⟨rfl, h23.old⟩
theorem rbytes_any (n : Nat) (w : World) :
  Calls Tryz.prog 62 #[rarr n] w fun e w' => e = .returned (.string (bytesOf n)) ∧ Below w.heap.size w w' := by
 have H0 := HA.start w
 go_enter Tryz.func62, Tryz.ntmps62
 refine zsr ?_
 refine wl_make H0 80 (run_box37 (c := rl n)) ?_
 intro q1 w2 h3
 refine zwv (.string { data := #[] }) ?_
 refine znt ?_
 refine zsr ?_
 refine wl_make h3 126 run_alloc46 ?_
 intro q4 w5 h6
 refine znt ?_
 refine wp_seq ?_
 refine zsr ?_
 refine zwv (iN .i64 0) ?_
 refine znt ?_
 refine wp_block ?_
 refine wp_count (fun k A w' => ∃ u7 : Nat → Value, A = ⟨(rarr n :: pt q1 :: .string { data := #[] } :: pt q4 :: iN .i64 k :: u7 5 :: u7 6 :: u7 7 :: u7 8 :: u7 9 :: u7 10 :: u7 11 :: u7 12 :: u7 13 :: u7 14 :: List.replicate 2 un).toArray, []⟩ ∧ HA w [(q4, 126, by8 (n % 256 ^ k)), (q1, 80, rl n)] w') 32 ?_ ?_ ?_
 ·exact zex ((by rw [Nat.pow_zero, Nat.mod_one]; exact h6))
 ·rintro k hk _ w8 ⟨u7, rfl, h9⟩
  refine wp_seq ?_
  refine zsr ?_
  refine zwv (iN .i64 k) ?_
  refine zwu (run_lss (k := .i64) (a := k) (b := 32) true (decide_eq_true hk)) ?_
  refine znt ?_
  refine zct ?_
  refine wp_skip ?_
  refine then_at rfl ?_
  refine wp_seq ?_
  refine wp_block ?_
  refine wl_region ?_
  refine zwv (iN .i64 k) ?_
  refine zwv (iN .i64 k) ?_
  refine zwu (run_addr_arr (q := q1) (a := k) Tryz.underlying80 Tryz.sizeOf3 (by omega)) ?_
  refine zwu (run_load1 Tryz.isAgg3 (((h9.get 1 rfl).cell k).trans (rl_get n k (by omega)))) ?_
  refine zwu (run_conv8 (k := .i64) (a := n / 256 ^ k % 256) Tryz.underlying3 Tryz.underlying5 (by kernel_rfl)) ?_
  refine zwu (run_addr_arr (q := q4) (a := k) Tryz.underlying126 Tryz.sizeOf5 (by omega)) ?_
  refine wl_put (k := .u8) (z := (((n / 256 ^ k % 256) % 256 : Nat) : Int)) h9 0 rfl k (by rw [by8_size]; omega) Tryz.sizeOf5 ?_
  intro w10 h11
  have h12 : HA w [(q4, 126, by8 (n % 256 ^ (k + 1))), (q1, 80, rl n)] w10 := (by rw [← by8_put n k hk]; exact h11)
  clear h11
  refine wl_nil ?_
  refine block_normal ?_
  refine then_at rfl ?_
  refine wl_region ?_
  refine zwv (iN .i64 k) ?_
  refine zwu (run_add (k := .i64) (a := k) (b := 1) (by simp only [top]; omega)) ?_
  refine zwv (iN .i64 (k + 1)) ?_
  refine wl_nil ?_
  exact then_I (zex h12)
 ·rintro _ w13 ⟨u7, rfl, h14⟩
  refine wp_seq ?_
  refine zsr ?_
  refine zwv (iN .i64 32) ?_
  refine zwu (run_lss (k := .i64) (a := 32) (b := 32) false (by decide)) ?_
  refine znt ?_
  refine zcf ?_
  refine wp_exit ?_
  repeat first | refine then_exit ?_ | refine block_exit ?_ | refine block_exit_ne (by decide) ?_
  refine then_at rfl ?_
  refine zsr ?_
  refine zwu (run_slice46 (q := q4) (by kernel_rfl)) ?_
  refine zwu (run_text46 (les 32 n) (by kernel_rfl) (h14.get 0 rfl) (by8_text n) (by rw [les_length])) ?_
  refine zwv (.string (bytesOf n)) ?_
  refine znt ?_
  exact wp_ret (zb h14.old)
theorem rReduce_any (s : ByteArray) (w : World) :
  Calls Tryz.prog 60 #[.string s] w fun e w' => e = .returned (.string (rS s)) ∧ Below w.heap.size w w' := by
 have H0 := HA.start w
 go_enter Tryz.func60, Tryz.ntmps60
 refine zsr ?_
 refine zwv (.string { data := #[] }) ?_
 refine znt ?_
 refine zsr ?_
 refine zwv (.string s) ?_
 refine zwc H0 enS61 (rof_any s w) ?_
 intro w1 h2
 refine zwc h2 enS62 (rbytes_any (val s) w1) ?_
 intro w3 h4
 refine zwv (.string (bytesOf (val s))) ?_
 refine znt ?_
 exact wp_ret (zb h4.old)
theorem val_lt32 (a : ByteArray) : val a < 256 ^ 32 := Nat.lt_trans (val_lt a) (by decide)
end Go.Proofs.YtefjnfeckenmkaaGreatDoor.Sc

namespace Go.Proofs.YtefjnfeckenmkaaGreatDoor.Sc
set_option linter.unusedVariables false
set_option maxRecDepth 100000
set_option maxHeartbeats 2000000
open Go.RowKit Num
theorem isS_iff (s : ByteArray) : isS s ↔ s.size = 32 ∧ rS s = s := by
 unfold isS
 constructor
 ·rintro ⟨h1, h2⟩
  refine ⟨h1, ?_⟩
  have e : val s = numS s := by
   unfold val
   rw [cut_short s (by omega), Nat.mod_eq_of_lt h2]
  unfold rS
  rw [e, bytesOf_num s h1]
 ·rintro ⟨h1, h2⟩
  refine ⟨h1, ?_⟩
  have e := numS_bytesOf (val s) (val_lt32 s)
  have e2 : bytesOf (val s) = s := h2
  rw [e2] at e
  rw [e]
  exact val_lt s
theorem rcheck_yes (s : ByteArray) (hl : s.size = 32) (hr : rS s = s) (w : World) :
  Calls Tryz.prog 31 #[.string s] w fun e w' => e = .returned (.bool true) ∧ Below w.heap.size w w' := by
 have H0 := HA.start w
 go_enter Tryz.func31, Tryz.ntmps31
 refine zsr ?_
 refine zwv (.bool false) ?_
 refine znt ?_
 refine zsr ?_
 refine zwv (.string s) ?_
 refine zwu (run_len (s := s)) ?_
 refine zwu (run_eqi (k := .i64) (a := s.size) (b := 32) true (decide_eq_true hl)) ?_
 refine zwv (.bool true) ?_
 refine zwv (.string s) ?_
 refine zwc H0 enS60 (rReduce_any s w) ?_
 intro w1 h2
 refine zwv (.string s) ?_
 refine zwu (run_eqs (s := rS s) (t := s) true (decide_eq_true hr)) ?_
 refine zwv (.bool true) ?_
 refine zwv (.bool true) ?_
 refine znt ?_
 exact wp_ret (zb h2.old)
theorem rcheck_no (s : ByteArray) (hl : s.size = 32) (hr : ¬ rS s = s) (w : World) :
  Calls Tryz.prog 31 #[.string s] w fun e w' => e = .returned (.bool false) ∧ Below w.heap.size w w' := by
 have H0 := HA.start w
 go_enter Tryz.func31, Tryz.ntmps31
 refine zsr ?_
 refine zwv (.bool false) ?_
 refine znt ?_
 refine zsr ?_
 refine zwv (.string s) ?_
 refine zwu (run_len (s := s)) ?_
 refine zwu (run_eqi (k := .i64) (a := s.size) (b := 32) true (decide_eq_true hl)) ?_
 refine zwv (.bool true) ?_
 refine zwv (.string s) ?_
 refine zwc H0 enS60 (rReduce_any s w) ?_
 intro w1 h2
 refine zwv (.string s) ?_
 refine zwu (run_eqs (s := rS s) (t := s) false (decide_eq_false hr)) ?_
 refine zwv (.bool false) ?_
 refine zwv (.bool false) ?_
 refine znt ?_
 exact wp_ret (zb h2.old)
theorem rcheck_len (s : ByteArray) (hl : ¬ s.size = 32) (w : World) :
  Calls Tryz.prog 31 #[.string s] w fun e w' => e = .returned (.bool false) ∧ Below w.heap.size w w' := by
 have H0 := HA.start w
 go_enter Tryz.func31, Tryz.ntmps31
 refine zsr ?_
 refine zwv (.bool false) ?_
 refine znt ?_
 refine zsr ?_
 refine zwv (.string s) ?_
 refine zwu (run_len (s := s)) ?_
 refine zwu (run_eqi (k := .i64) (a := s.size) (b := 32) false (decide_eq_false hl)) ?_
 refine zwv (.bool false) ?_
 refine wl_skip ?_
 refine wl_skip ?_
 refine wl_skip ?_
 refine wl_skip ?_
 refine zwv (.bool false) ?_
 refine zwv (.bool false) ?_
 refine znt ?_
 refine wp_ret ?_
 repeat first | refine then_ret ?_ | refine block_ret ?_
 exact bodyPost_ret (by kernel_rfl) rfl ⟨rfl, H0.old⟩
theorem rCheck_yes (s : ByteArray) (h : isS s) (w : World) : Calls Tryz.prog 31 #[.string s] w fun e w' => e = .returned (.bool true) ∧ Below w.heap.size w w' :=
 rcheck_yes s ((isS_iff s).1 h).1 ((isS_iff s).1 h).2 w
theorem rCheck_no (s : ByteArray) (h : ¬ isS s) (w : World) : Calls Tryz.prog 31 #[.string s] w fun e w' => e = .returned (.bool false) ∧ Below w.heap.size w w' := by
 by_cases hl : s.size = 32
 ·exact rcheck_no s hl (fun hr => h ((isS_iff s).2 ⟨hl, hr⟩)) w
 ·exact rcheck_len s hl w
end Go.Proofs.YtefjnfeckenmkaaGreatDoor.Sc
