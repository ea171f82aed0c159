/-
 The reference's part, Data.
-/
import Derived.Test.YtihfeoanognonaaGreatT35
namespace Go.Proofs.YtihfeoanognonaaGreat
set_option linter.unusedVariables false
set_option maxRecDepth 100000
set_option maxHeartbeats 2000000
open Go.RowKit
def rpL (l : List Q4) (s : ByteArray) : List Q4 := match numT l.length s with | some _ => l | none => putL l ⟨2, 0, s, []⟩
def rpN (l : List Q4) (s : ByteArray) : Nat := match numT l.length s with | some x => x | none => putN l ⟨2, 0, s, []⟩
theorem rpart_old {w : World} {ov : Option Addr} {cv : Nat} {l : List Q4} {RL : BL} (h : RTL (.slice ov l.length cv) l RL) (hS : Stand w RL) (hl : ∀ q ∈ l, q.ps.length ≤ 1000) (hll : l.length ≤ 1000000) (s : ByteArray) {x : Nat} (hn : numT l.length s = some x) :
  Calls Tryz.prog 32 #[.agg #[.slice ov l.length cv], .string s] w fun e w' => ∃ v' N, e = .returned (.tuple #[.agg #[v'], iN .i64 (rpN l s)]) ∧ RTL v' (rpL l s) (N ++ RL) ∧ Newer w.heap.size w' N ∧ Below w.heap.size w w' := by
 have H0 := HA.start w
 go_enter Tryz.func32, Tryz.ntmps32
 refine zsr ?_
 refine wl_make (c := #[.slice ov l.length cv]) H0 27 ?_
 intro q1 w2 (h3 : HA (bs w) [(q1, 27, #[.slice ov l.length cv])] w2)
 refine wl_make (c := #[.slice none 0 0]) h3 27 ?_
 intro q4 w5 (h6 : HA (bs w) [(q4, 27, #[.slice none 0 0]), (q1, 27, #[.slice ov l.length cv])] w5)
 refine zwv (iN .i64 0) ?_
 refine znt ?_
 refine zsr ?_
 refine wl_load h6 1 rfl Tryz.underlying27 rfl ?_
 refine zwv (.string s) ?_
 refine wl_call (v := iN .i64 x) h6 enter45 #[.agg (#[.slice ov l.length cv]), .string s] (by have := rnum_any (h.rt (hS.keep h6.old.old)) hll s; rw [numI, hn] at this; exact this) ?_
 intro w7 h8
 refine zwv (iN .i64 x) ?_
 refine znt ?_
 refine wp_seq ?_
 refine zsr ?_
 refine zwv (iN .i64 x) ?_
 refine zwu (run_geq (k := .i64) (a := x) (b := 0) true (decide_eq_true (by omega))) ?_
 refine znt ?_
 refine zct ?_
 refine zsr ?_
 refine wl_load h8 1 rfl Tryz.underlying27 rfl ?_
 refine zwv (iN .i64 x) ?_
 refine wl_fill (c' := #[.slice ov l.length cv]) h8 0 rfl rfl ?_
 intro w9 (h10 : HA (bs w) [(q4, 27, #[.slice ov l.length cv]), (q1, 27, #[.slice ov l.length cv])] w9)
 refine zwv (iN .i64 x) ?_
 refine znt ?_
 refine wp_ret ?_
 repeat first | refine then_ret ?_ | refine block_ret ?_
 exact bodyPost_ret (v := .tuple #[.agg #[.slice ov l.length cv], iN .i64 x]) (res_cell_tmp (p := 4) (r := 5) (by kernel_rfl) (by kernel_rfl) (by kernel_rfl) (h10.get 0 rfl) Tryz.underlying27 rfl (by kernel_rfl)) rfl ⟨_, [], by rw [rpN, hn], by rw [rpL, hn]; exact h, Newer.nil _ _, h10.old.old⟩
theorem rpart_new {w : World} {ov : Option Addr} {cv : Nat} {l : List Q4} {RL : BL} (h : RTL (.slice ov l.length cv) l RL) (hS : Stand w RL) (hl : ∀ q ∈ l, q.ps.length ≤ 1000) (hll : l.length ≤ 1000000) (s : ByteArray) (hn : numT l.length s = none) :
  Calls Tryz.prog 32 #[.agg #[.slice ov l.length cv], .string s] w fun e w' => ∃ v' N, e = .returned (.tuple #[.agg #[v'], iN .i64 (rpN l s)]) ∧ RTL v' (rpL l s) (N ++ RL) ∧ Newer w.heap.size w' N ∧ Below w.heap.size w w' := by
 have H0 := HA.start w
 go_enter Tryz.func32, Tryz.ntmps32
 refine zsr ?_
 refine wl_make (c := #[.slice ov l.length cv]) H0 27 ?_
 intro q1 w2 (h3 : HA (bs w) [(q1, 27, #[.slice ov l.length cv])] w2)
 refine wl_make (c := #[.slice none 0 0]) h3 27 ?_
 intro q4 w5 (h6 : HA (bs w) [(q4, 27, #[.slice none 0 0]), (q1, 27, #[.slice ov l.length cv])] w5)
 refine zwv (iN .i64 0) ?_
 refine znt ?_
 refine zsr ?_
 refine wl_load h6 1 rfl Tryz.underlying27 rfl ?_
 refine zwv (.string s) ?_
 refine wl_call (v := .int .i64 (-1)) h6 enter45 #[.agg (#[.slice ov l.length cv]), .string s] (by have := rnum_any (h.rt (hS.keep h6.old.old)) hll s; rw [numI, hn] at this; exact this) ?_
 intro w7 h8
 refine zwv (.int .i64 (-1)) ?_
 refine znt ?_
 refine wp_seq ?_
 refine zsr ?_
 refine zwv (.int .i64 (-1)) ?_
 refine zwv (.bool false) ?_
 refine znt ?_
 refine zcf ?_
 refine wp_skip ?_
 refine then_at rfl ?_
 refine zsr ?_
 refine wl_load h8 1 rfl Tryz.underlying27 rfl ?_
 refine zwv (.string s) ?_
 refine zwv (.agg #[iN .i64 2, iN .i64 0, .string s, .slice none 0 0]) ?_
 refine wl_callx enter29 #[.agg (#[.slice ov l.length cv]), .agg #[iN .i64 2, iN .i64 0, .string s, .slice none 0 0]] (putl_any h (hS.keep h8.old.old) hl hll ⟨2, 0, s, []⟩ (o := none) (c := 0) (.inl rfl)) ?_
 rintro _ w15 ⟨_, N12, rfl, hr9, hN11, hb10⟩
 refine ⟨_, rfl, ?_⟩
 obtain ⟨o13, c14, rfl⟩ := hr9.form
 have h16 : HA (bs w) ((q4, 27, #[.slice none 0 0]) :: (q1, 27, #[.slice ov l.length cv]) :: N12) w15 := HA.addL h8 hb10 hN11
 refine zwv (.agg #[.slice o13 (putL l ⟨2, 0, s, []⟩).length c14]) ?_
 refine zwv (iN .i64 (putN l ⟨2, 0, s, []⟩)) ?_
 refine wl_fill (c' := #[.slice o13 (putL l ⟨2, 0, s, []⟩).length c14]) h16 0 rfl rfl ?_
 intro w17 (h18 : HA (bs w) ((q4, 27, #[.slice o13 (putL l ⟨2, 0, s, []⟩).length c14]) :: (q1, 27, #[.slice ov l.length cv]) :: N12) w17)
 refine zwv (iN .i64 (putN l ⟨2, 0, s, []⟩)) ?_
 refine znt ?_
 refine wp_ret ?_
 repeat first | refine then_ret ?_ | refine block_ret ?_
 exact bodyPost_ret (v := .tuple #[.agg #[.slice o13 (putL l ⟨2, 0, s, []⟩).length c14], iN .i64 (putN l ⟨2, 0, s, []⟩)]) (res_cell_tmp (p := 4) (r := 5) (by kernel_rfl) (by kernel_rfl) (by kernel_rfl) (h18.get 0 rfl) Tryz.underlying27 rfl (by kernel_rfl)) rfl ⟨_, N12, by rw [rpN, hn], by rw [rpL, hn]; exact hr9, HA.newer (L := [(q4, 27, #[.slice o13 (putL l ⟨2, 0, s, []⟩).length c14]), (q1, 27, #[.slice ov l.length cv])]) h18, h18.old.old⟩
theorem rpart_any {w : World} {v : Value} {l : List Q4} {RL : BL} (h : RTL v l RL) (hS : Stand w RL) (hl : ∀ q ∈ l, q.ps.length ≤ 1000) (hll : l.length ≤ 1000000) (s : ByteArray) :
  Calls Tryz.prog 32 #[.agg #[v], .string s] w fun e w' => ∃ v' N, e = .returned (.tuple #[.agg #[v'], iN .i64 (rpN l s)]) ∧ RTL v' (rpL l s) (N ++ RL) ∧ Newer w.heap.size w' N ∧ Below w.heap.size w w' := by
 obtain ⟨ov, cv, rfl⟩ := h.form
 cases hn : numT l.length s with
 | some x => exact rpart_old h hS hl hll s hn
 | none => exact rpart_new h hS hl hll s hn
end Go.Proofs.YtihfeoanognonaaGreat

namespace Go.Proofs.YtihfeoanognonaaGreat
set_option linter.unusedVariables false
set_option maxRecDepth 100000
set_option maxHeartbeats 2000000
open Go.RowKit
theorem putN_le (l : List Q4) (x : Q4) : putN l x ≤ l.length ∧ (putL l x).length ≤ l.length + 1 := by
 unfold putL putN
 cases h2 : l.idxOf? x with
 | some i =>
  rw [List.idxOf?, List.findIdx?_eq_some_iff_getElem] at h2
  have := h2.1
  simp only
  omega
 | none => simp
theorem rp_le (l : List Q4) (s : ByteArray) : rpN l s ≤ l.length ∧ (rpL l s).length ≤ l.length + 1 := by
 unfold rpL rpN
 cases h : numT l.length s with
 | some x =>
  have : x < l.length := by
   unfold numT at h
   split at h
   ·exact (firstT_some h).2.2
   ·cases h
  simp only
  omega
 | none => exact putN_le l _
theorem rdata_blk {w : World} {ov : Option Addr} {cv : Nat} {l : List Q4} {RL : BL} (h : RTL (.slice ov l.length cv) l RL) (hS : Stand w RL) (hl : ∀ q ∈ l, q.ps.length ≤ 1000) (hll : l.length ≤ 60000) (s : ByteArray) :
  Calls Tryz.prog 13 #[.agg #[.slice ov l.length cv], .string s] w fun e w' => ∃ v' N, e = .returned (.tuple #[.agg #[v'], .string (txt (rpN l s))]) ∧ RTL v' (rpL l s) (N ++ RL) ∧ Newer w.heap.size w' N ∧ Below w.heap.size w w' := by
 have H0 := HA.start w
 go_enter Tryz.func13, Tryz.ntmps13
 refine zsr ?_
 refine wl_make (c := #[.slice ov l.length cv]) H0 27 ?_
 intro q1 w2 (h3 : HA (bs w) [(q1, 27, #[.slice ov l.length cv])] w2)
 refine wl_make (c := #[.slice none 0 0]) h3 27 ?_
 intro q4 w5 (h6 : HA (bs w) [(q4, 27, #[.slice none 0 0]), (q1, 27, #[.slice ov l.length cv])] w5)
 refine zwv (.string ({ data := #[] })) ?_
 refine znt ?_
 refine zsr ?_
 refine wl_load h6 1 rfl Tryz.underlying27 rfl ?_
 refine zwv (.string s) ?_
 refine wl_callx enter32 #[.agg (#[.slice ov l.length cv]), .string s] (rpart_any h (hS.keep h6.old.old) hl (by omega) s) ?_
 rintro _ w13 ⟨_, N10, rfl, hr7, hN9, hb8⟩
 refine ⟨_, rfl, ?_⟩
 obtain ⟨o11, c12, rfl⟩ := hr7.form
 have h14 : HA (bs w) ((q4, 27, #[.slice none 0 0]) :: (q1, 27, #[.slice ov l.length cv]) :: N10) w13 := HA.addL h6 hb8 hN9
 refine zwv (.tuple #[.agg #[.slice o11 (rpL l s).length c12], iN .i64 (rpN l s)]) ?_
 refine zwv (.agg #[.slice o11 (rpL l s).length c12]) ?_
 refine zwv (iN .i64 (rpN l s)) ?_
 refine wl_make (c := #[.slice none 0 0]) h14 27 ?_
 intro q15 w16 (h17 : HA (bs w) ((q15, 27, #[.slice none 0 0]) :: (q4, 27, #[.slice none 0 0]) :: (q1, 27, #[.slice ov l.length cv]) :: N10) w16)
 refine wl_fill (c' := #[.slice o11 (rpL l s).length c12]) h17 0 rfl rfl ?_
 intro w18 (h19 : HA (bs w) ((q15, 27, #[.slice o11 (rpL l s).length c12]) :: (q4, 27, #[.slice none 0 0]) :: (q1, 27, #[.slice ov l.length cv]) :: N10) w18)
 refine zwv (iN .i64 (rpN l s)) ?_
 refine znt ?_
 refine wp_seq ?_
 refine zsr ?_
 refine zwv (.pointer (some ⟨q15, 0, none⟩)) ?_
 refine zwu (v := .slice o11 (rpL l s).length c12) (run_load1 Tryz.isAgg25 (((h19.get 0 rfl).cell 0).trans rfl)) ?_
 refine zwv (iN .i64 ((rpL l s).length)) ?_
 refine zwu (run_gtr (k := .i64) (a := (rpL l s).length) (b := 65536) false (decide_eq_false (by have := (rp_le l s).2; omega))) ?_
 refine znt ?_
 refine zcf ?_
 refine wp_skip ?_
 refine then_at rfl ?_
 refine wp_seq ?_
 refine zrg (fun g : Nat → Nat => (⟨(.agg #[.slice ov l.length cv] :: .string s :: pt q1 :: un :: pt q4 :: .string (txt (rpN l s)) :: pt q15 :: iN .i64 (rpN l s) :: .tuple #[.agg #[.slice o11 (rpL l s).length c12], iN .i64 (rpN l s)] :: .agg (#[.slice ov l.length cv]) :: .string s :: .tuple #[.agg #[.slice o11 (rpL l s).length c12], iN .i64 (rpN l s)] :: .agg #[.slice o11 (rpL l s).length c12] :: iN .i64 (rpN l s) :: pt q15 :: .slice o11 (rpL l s).length c12 :: iN .i64 ((rpL l s).length) :: .bool false :: un :: .agg (#[.slice o11 (rpL l s).length c12]) :: iN .i64 (rpN l s) :: .string (txt (rpN l s)) :: List.replicate 0 un).toArray, []⟩ : Act)) (G1 (HA (bs w) [(q15, 27, #[.slice o11 (rpL l s).length c12])]) (HA (bs w) ((q15, 27, #[.slice o11 (rpL l s).length c12]) :: (q4, 27, #[.slice none 0 0]) :: (q1, 27, #[.slice ov l.length cv]) :: N10)) (fun _ => HA (bs w) ((q15, 27, #[.slice o11 (rpL l s).length c12]) :: (q4, 27, #[.slice o11 (rpL l s).length c12]) :: (q1, 27, #[.slice ov l.length cv]) :: N10)) 3) (fun d hd => G1.start (HA.sub h19.drew (List.singleton_sublist.2 (List.mem_of_getElem? (i := 0) rfl))) h19.drew (hd 3 (by decide))) ?_ ?_
 ·refine zg (g1_read (v := fun g => .agg (#[.slice o11 (rpL l s).length c12])) (by decide) (fun _ => by kernel_rfl) (fun _ => by kernel_rfl) (fun g w' h' => run_load_blk (h'.get 0 rfl) Tryz.underlying27 rfl)) ?_
  refine zg (g1_read (v := fun g => iN .i64 (rpN l s)) (by decide) (fun _ => by kernel_rfl) (fun _ => by kernel_rfl) (fun g _ _ => (by kernel_rfl))) ?_
  refine zg (g1_call (v := fun g => .string (txt (rpN l s))) (args := fun g => #[iN .i64 (rpN l s)]) Stab.ha Stab.ha (fun _ => Stab.ha) (by decide) (fun _ => by kernel_rfl) (fun _ => by kernel_rfl) enter30 (fun _ => by kernel_rfl) (fun g w' h' => rtext_any (rpN l s) (by have := (rp_le l s).1; omega) w')) ?_
  refine zg (g1_acts (fun _ => by kernel_rfl) (fun _ => by kernel_rfl) (fun g w' hR' h' => ⟨_, run_store_blk (c' := #[.slice o11 (rpL l s).length c12]) (h'.get 1 rfl) rfl, HA.sub (h'.fill (c' := #[.slice o11 (rpL l s).length c12]) 1 rfl rfl) (List.singleton_sublist.2 (List.mem_of_getElem? (i := 0) rfl)), fun _ => h'.fill (c' := #[.slice o11 (rpL l s).length c12]) 1 rfl rfl⟩)) ?_
  refine zg (g1_read (v := fun g => .string (txt (rpN l s))) (by decide) (fun _ => by kernel_rfl) (fun _ => by kernel_rfl) (fun g _ _ => (by kernel_rfl))) ?_
  exact AllGhost.nil
 intro g w20 gg21
 have h22 := gg21.held
 rw [if_pos rfl] at h22
 clear gg21
 generalize g 3 = n23 at h22 ⊢
 clear g
 refine then_at rfl ?_
 refine wp_ret ?_
 repeat first | refine then_ret ?_ | refine block_ret ?_
 exact bodyPost_ret (v := .tuple #[.agg #[.slice o11 (rpL l s).length c12], .string (txt (rpN l s))]) (res_cell_tmp (p := 4) (r := 5) (by kernel_rfl) (by kernel_rfl) (by kernel_rfl) (h22.get 1 rfl) Tryz.underlying27 rfl (by kernel_rfl)) rfl ⟨_, N10, rfl, hr7, HA.newer (L := [(q15, 27, #[.slice o11 (rpL l s).length c12]), (q4, 27, #[.slice o11 (rpL l s).length c12]), (q1, 27, #[.slice ov l.length cv])]) h22, h22.old.old⟩
theorem rdata_any {w : World} {v : Value} {l : List Q4} {RL : BL} (h : RTL v l RL) (hS : Stand w RL) (hl : ∀ q ∈ l, q.ps.length ≤ 1000) (hll : l.length ≤ 60000) (s : ByteArray) :
  Calls Tryz.prog 13 #[.agg #[v], .string s] w fun e w' => ∃ v' N, e = .returned (.tuple #[.agg #[v'], .string (txt (rpN l s))]) ∧ RTL v' (rpL l s) (N ++ RL) ∧ Newer w.heap.size w' N ∧ Below w.heap.size w w' := by
 obtain ⟨ov, cv, rfl⟩ := h.form
 exact rdata_blk h hS hl hll s
end Go.Proofs.YtihfeoanognonaaGreat

namespace Go.Proofs.YtihfeoanognonaaGreat
set_option linter.unusedVariables false
set_option maxRecDepth 100000
set_option maxHeartbeats 2000000
open Go.RowKit
def rnm (l : List Q4) : Nat := (l.filter (fun q => decide (q.k = 1))).length
theorem rnm_succ (l : List Q4) (i : Nat) (hi : i < l.length) : rnm (l.take (i + 1)) = rnm (l.take i) + (if l[i].k = 1 then 1 else 0) := by
 unfold rnm
 rw [List.take_succ_eq_append_getElem hi, List.filter_append, List.length_append]
 by_cases h : l[i].k = 1 <;> simp [h]
theorem rnm_le (l : List Q4) : rnm l ≤ l.length := List.length_filter_le _ _
def frX (l : List Q4) : Q4 := ⟨1, rnm l, { data := #[] }, []⟩
theorem rfresh_p {w : World} {RL : BL} {l : List Q4} (hS : Stand w RL) (hl : ∀ q ∈ l, q.ps.length ≤ 1000) (hll : l.length ≤ 60000) {gt cap : Nat} {cur : Array Value} (hg : Blk w gt 74 cur) (hat : (∀ i (hi : i < l.length), ∃ oi ci, (∀ j u, (tmc l[i].k l[i].n l[i].s oi l[i].ps.length ci)[j]? = some u → cur[4 * i + j]? = some u) ∧ RI 0 w oi l[i].ps)) (h : RTL (.slice (some ⟨gt, 0, none⟩) l.length cap) l RL) :
  Calls Tryz.prog 11 #[.agg #[.slice (some ⟨gt, 0, none⟩) l.length cap]] w fun e w' => ∃ v' N, e = .returned (.tuple #[.agg #[v'], .string (txt (putN l (frX l)))]) ∧ RTL v' (putL l (frX l)) (N ++ RL) ∧ Newer w.heap.size w' N ∧ Below w.heap.size w w' := by
 have H0 := HA.start w
 go_enter Tryz.func11, Tryz.ntmps11
 refine zsr ?_
 refine wl_make (c := #[.slice (some ⟨gt, 0, none⟩) l.length cap]) H0 27 ?_
 intro q1 w2 (h3 : HA (bs w) [(q1, 27, #[.slice (some ⟨gt, 0, none⟩) l.length cap])] w2)
 refine wl_make (c := #[.slice none 0 0]) h3 27 ?_
 intro q4 w5 (h6 : HA (bs w) [(q4, 27, #[.slice none 0 0]), (q1, 27, #[.slice (some ⟨gt, 0, none⟩) l.length cap])] w5)
 refine zwv (.string ({ data := #[] })) ?_
 refine znt ?_
 refine wp_seq ?_
 refine zsr ?_
 refine zwv (.pointer (some ⟨q1, 0, none⟩)) ?_
 refine zwu (v := .slice (some ⟨gt, 0, none⟩) l.length cap) (run_load1 Tryz.isAgg25 (((h6.get 1 rfl).cell 0).trans rfl)) ?_
 refine zwv (iN .i64 l.length) ?_
 refine zwu (run_geq (k := .i64) (a := l.length) (b := 65536) false (decide_eq_false (by omega))) ?_
 refine znt ?_
 refine zcf ?_
 refine wp_skip ?_
 refine then_at rfl ?_
 refine zsr ?_
 refine zwv (iN .i64 0) ?_
 refine znt ?_
 refine wp_seq ?_
 refine zsr ?_
 refine zwv (iN .i64 0) ?_
 refine znt ?_
 refine wp_block ?_
 refine wp_count (fun i A w' => ∃ u7 : Nat → Value, A = ⟨(.agg #[.slice (some ⟨gt, 0, none⟩) l.length cap] :: pt q1 :: pt q4 :: .string ({ data := #[] }) :: iN .i64 (rnm (l.take i)) :: iN .i64 i :: un :: un :: pt q1 :: .slice (some ⟨gt, 0, none⟩) l.length cap :: iN .i64 l.length :: .bool false :: un :: u7 13 :: u7 14 :: u7 15 :: u7 16 :: u7 17 :: u7 18 :: u7 19 :: u7 20 :: u7 21 :: u7 22 :: u7 23 :: u7 24 :: u7 25 :: u7 26 :: u7 27 :: u7 28 :: List.replicate 10 un).toArray, []⟩ ∧ HA (bs w) [(q4, 27, #[.slice none 0 0]), (q1, 27, #[.slice (some ⟨gt, 0, none⟩) l.length cap])] w') l.length ?_ ?_ ?_
 ·exact zex h6
 ·rintro i hi _ w8 ⟨u7, rfl, h9⟩
  refine wp_seq ?_
  refine zsr ?_
  refine zwv (iN .i64 i) ?_
  refine zwv (.pointer (some ⟨q1, 0, none⟩)) ?_
  refine zwu (v := .slice (some ⟨gt, 0, none⟩) l.length cap) (run_load1 Tryz.isAgg25 (((h9.get 1 rfl).cell 0).trans rfl)) ?_
  refine zwv (iN .i64 l.length) ?_
  refine zwu (run_lss (k := .i64) (a := i) (b := l.length) true (decide_eq_true (by omega))) ?_
  refine znt ?_
  refine zct ?_
  refine wp_skip ?_
  refine then_at rfl ?_
  refine wp_seq ?_
  refine wp_block ?_
  refine wp_seq ?_
  obtain ⟨oi, ci, hcells, hri⟩ := hat i hi
  have hk0 : cur[4 * i]? = some (iN .i64 l[i].k) := hcells 0 _ rfl
  have hsu := rnm_succ l i hi
  have hrl : rnm (l.take i) ≤ 60000 := Nat.le_trans (rnm_le _) (by rw [List.length_take]; omega)
  by_cases hx : l[i].k = 1
  ·rw [if_pos hx] at hsu
   refine wl_region ?_
   refine zwv (.pointer (some ⟨q1, 0, none⟩)) ?_
   refine zwu (v := .slice (some ⟨gt, 0, none⟩) l.length cap) (run_load1 Tryz.isAgg25 (((h9.get 1 rfl).cell 0).trans rfl)) ?_
   refine zwv (iN .i64 i) ?_
   refine zwu (v := .pointer (some ⟨gt, 4 * i, none⟩)) (run_addr24 (n := l.length) (m := cap) (a := i) (by omega)) ?_
   refine zwv (.pointer (some ⟨gt, 4 * i, none⟩)) ?_
   refine zwu (v := iN .i64 l[i].k) (run_load1 Tryz.isAgg3 (((hg.keep h9.old.old).cell (4 * i)).trans hk0)) ?_
   refine zwu (run_eqi (k := .i64) (a := l[i].k) (b := 1) true (ht := (decide_eq_true hx))) ?_
   refine znt ?_
   refine zct ?_
   refine wl_region ?_
   refine zwv (iN .i64 (rnm (l.take i))) ?_
   refine zwu (run_add (k := .i64) (a := rnm (l.take i)) (b := 1) (by simp only [top]; omega)) ?_
   refine zwv (iN .i64 ((rnm (l.take i)) + 1)) ?_
   refine wl_nil ?_
   refine block_normal ?_
   refine then_at rfl ?_
   refine wl_region ?_
   refine zwv (iN .i64 i) ?_
   refine zwu (run_add (k := .i64) (a := i) (b := 1) (by simp only [top]; omega)) ?_
   refine zwv (iN .i64 (i + 1)) ?_
   refine wl_nil ?_
   exact then_I ⟨lku (fun _ => undef) [(13, iN .i64 i), (14, .pointer (some ⟨q1, 0, none⟩)), (15, .slice (some ⟨gt, 0, none⟩) l.length cap), (16, iN .i64 l.length), (17, .bool true), (18, iN .i64 i), (19, iN .i64 (i + 1)), (20, .pointer (some ⟨q1, 0, none⟩)), (21, .slice (some ⟨gt, 0, none⟩) l.length cap), (22, iN .i64 i), (23, .pointer (some ⟨gt, 4 * i, none⟩)), (24, .pointer (some ⟨gt, 4 * i, none⟩)), (25, iN .i64 l[i].k), (26, .bool true), (27, iN .i64 (rnm (l.take i))), (28, iN .i64 ((rnm (l.take i)) + 1))], by rw [hsu]; kernel_rfl, h9⟩
  ·rw [if_neg hx] at hsu
   refine wl_region ?_
   refine zwv (.pointer (some ⟨q1, 0, none⟩)) ?_
   refine zwu (v := .slice (some ⟨gt, 0, none⟩) l.length cap) (run_load1 Tryz.isAgg25 (((h9.get 1 rfl).cell 0).trans rfl)) ?_
   refine zwv (iN .i64 i) ?_
   refine zwu (v := .pointer (some ⟨gt, 4 * i, none⟩)) (run_addr24 (n := l.length) (m := cap) (a := i) (by omega)) ?_
   refine zwv (.pointer (some ⟨gt, 4 * i, none⟩)) ?_
   refine zwu (v := iN .i64 l[i].k) (run_load1 Tryz.isAgg3 (((hg.keep h9.old.old).cell (4 * i)).trans hk0)) ?_
   refine zwu (run_eqi (k := .i64) (a := l[i].k) (b := 1) false (ht := (decide_eq_false hx))) ?_
   refine znt ?_
   refine zcf ?_
   refine wp_skip ?_
   refine block_normal ?_
   refine then_at rfl ?_
   refine wl_region ?_
   refine zwv (iN .i64 i) ?_
   refine zwu (run_add (k := .i64) (a := i) (b := 1) (by simp only [top]; omega)) ?_
   refine zwv (iN .i64 (i + 1)) ?_
   refine wl_nil ?_
   exact then_I ⟨lku u7 [(13, iN .i64 i), (14, .pointer (some ⟨q1, 0, none⟩)), (15, .slice (some ⟨gt, 0, none⟩) l.length cap), (16, iN .i64 l.length), (17, .bool true), (18, iN .i64 i), (19, iN .i64 (i + 1)), (20, .pointer (some ⟨q1, 0, none⟩)), (21, .slice (some ⟨gt, 0, none⟩) l.length cap), (22, iN .i64 i), (23, .pointer (some ⟨gt, 4 * i, none⟩)), (24, .pointer (some ⟨gt, 4 * i, none⟩)), (25, iN .i64 l[i].k), (26, .bool false)], by rw [hsu]; kernel_rfl, h9⟩
 ·rintro _ w10 ⟨u7, rfl, h11⟩
  rw [List.take_length]
  refine wp_seq ?_
  refine zsr ?_
  refine zwv (iN .i64 l.length) ?_
  refine zwv (.pointer (some ⟨q1, 0, none⟩)) ?_
  refine zwu (v := .slice (some ⟨gt, 0, none⟩) l.length cap) (run_load1 Tryz.isAgg25 (((h11.get 1 rfl).cell 0).trans rfl)) ?_
  refine zwv (iN .i64 l.length) ?_
  refine zwu (run_lss (k := .i64) (a := l.length) (b := l.length) false (decide_eq_false (by omega))) ?_
  refine znt ?_
  refine zcf ?_
  refine wp_exit ?_
  repeat first | refine then_exit ?_ | refine block_exit ?_ | refine block_exit_ne (by decide) ?_
  refine then_at rfl ?_
  refine zsr ?_
  refine wl_load h11 1 rfl Tryz.underlying27 rfl ?_
  refine zwv (iN .i64 (rnm l)) ?_
  refine zwv (.agg #[iN .i64 1, iN .i64 (rnm l), .string ({ data := #[] }), .slice none 0 0]) ?_
  refine wl_callx enter29 #[.agg (#[.slice (some ⟨gt, 0, none⟩) l.length cap]), .agg #[iN .i64 1, iN .i64 (rnm l), .string ({ data := #[] }), .slice none 0 0]] (putl_any h (hS.keep h11.old.old) hl (by omega) (frX l) (o := none) (c := 0) (.inl rfl)) ?_
  rintro _ w18 ⟨_, N15, rfl, hr12, hN14, hb13⟩
  refine ⟨_, rfl, ?_⟩
  obtain ⟨o16, c17, rfl⟩ := hr12.form
  have h19 : HA (bs w) ((q4, 27, #[.slice none 0 0]) :: (q1, 27, #[.slice (some ⟨gt, 0, none⟩) l.length cap]) :: N15) w18 := HA.addL h11 hb13 hN14
  refine zwv (.tuple #[.agg #[.slice o16 (putL l (frX l)).length c17], iN .i64 (putN l (frX l))]) ?_
  refine zwv (.agg #[.slice o16 (putL l (frX l)).length c17]) ?_
  refine zwv (iN .i64 (putN l (frX l))) ?_
  refine wl_make (c := #[.slice none 0 0]) h19 27 ?_
  intro q20 w21 (h22 : HA (bs w) ((q20, 27, #[.slice none 0 0]) :: (q4, 27, #[.slice none 0 0]) :: (q1, 27, #[.slice (some ⟨gt, 0, none⟩) l.length cap]) :: N15) w21)
  refine wl_fill (c' := #[.slice o16 (putL l (frX l)).length c17]) h22 0 rfl rfl ?_
  intro w23 (h24 : HA (bs w) ((q20, 27, #[.slice o16 (putL l (frX l)).length c17]) :: (q4, 27, #[.slice none 0 0]) :: (q1, 27, #[.slice (some ⟨gt, 0, none⟩) l.length cap]) :: N15) w23)
  refine zwv (iN .i64 (putN l (frX l))) ?_
  refine znt ?_
  refine wp_seq ?_
  refine zrg (fun g : Nat → Nat => (⟨(.agg #[.slice (some ⟨gt, 0, none⟩) l.length cap] :: pt q1 :: pt q4 :: .string (txt (putN l (frX l))) :: iN .i64 (rnm l) :: iN .i64 l.length :: pt q20 :: iN .i64 (putN l (frX l)) :: pt q1 :: .slice (some ⟨gt, 0, none⟩) l.length cap :: iN .i64 l.length :: .bool false :: un :: iN .i64 l.length :: pt q1 :: .slice (some ⟨gt, 0, none⟩) l.length cap :: iN .i64 l.length :: .bool false :: u7 18 :: u7 19 :: u7 20 :: u7 21 :: u7 22 :: u7 23 :: u7 24 :: u7 25 :: u7 26 :: u7 27 :: u7 28 :: .tuple #[.agg #[.slice o16 (putL l (frX l)).length c17], iN .i64 (putN l (frX l))] :: .agg (#[.slice (some ⟨gt, 0, none⟩) l.length cap]) :: iN .i64 (rnm l) :: .agg #[iN .i64 1, iN .i64 (rnm l), .string ({ data := #[] }), .slice none 0 0] :: .tuple #[.agg #[.slice o16 (putL l (frX l)).length c17], iN .i64 (putN l (frX l))] :: .agg #[.slice o16 (putL l (frX l)).length c17] :: iN .i64 (putN l (frX l)) :: .agg (#[.slice o16 (putL l (frX l)).length c17]) :: iN .i64 (putN l (frX l)) :: .string (txt (putN l (frX l))) :: List.replicate 0 un).toArray, []⟩ : Act)) (G1 (HA (bs w) [(q20, 27, #[.slice o16 (putL l (frX l)).length c17])]) (HA (bs w) ((q20, 27, #[.slice o16 (putL l (frX l)).length c17]) :: (q4, 27, #[.slice none 0 0]) :: (q1, 27, #[.slice (some ⟨gt, 0, none⟩) l.length cap]) :: N15)) (fun _ => HA (bs w) ((q20, 27, #[.slice o16 (putL l (frX l)).length c17]) :: (q4, 27, #[.slice o16 (putL l (frX l)).length c17]) :: (q1, 27, #[.slice (some ⟨gt, 0, none⟩) l.length cap]) :: N15)) 3) (fun d hd => G1.start (HA.sub h24.drew (List.singleton_sublist.2 (List.mem_of_getElem? (i := 0) rfl))) h24.drew (hd 3 (by decide))) ?_ ?_
  ·refine zg (g1_read (v := fun g => .agg (#[.slice o16 (putL l (frX l)).length c17])) (by decide) (fun _ => by kernel_rfl) (fun _ => by kernel_rfl) (fun g w' h' => run_load_blk (h'.get 0 rfl) Tryz.underlying27 rfl)) ?_
   refine zg (g1_read (v := fun g => iN .i64 (putN l (frX l))) (by decide) (fun _ => by kernel_rfl) (fun _ => by kernel_rfl) (fun g _ _ => (by kernel_rfl))) ?_
   refine zg (g1_call (v := fun g => .string (txt (putN l (frX l)))) (args := fun g => #[iN .i64 (putN l (frX l))]) Stab.ha Stab.ha (fun _ => Stab.ha) (by decide) (fun _ => by kernel_rfl) (fun _ => by kernel_rfl) enter30 (fun _ => by kernel_rfl) (fun g w' h' => rtext_any (putN l (frX l)) (by have := (putN_le l (frX l)).1; omega) w')) ?_
   refine zg (g1_acts (fun _ => by kernel_rfl) (fun _ => by kernel_rfl) (fun g w' hR' h' => ⟨_, run_store_blk (c' := #[.slice o16 (putL l (frX l)).length c17]) (h'.get 1 rfl) rfl, HA.sub (h'.fill (c' := #[.slice o16 (putL l (frX l)).length c17]) 1 rfl rfl) (List.singleton_sublist.2 (List.mem_of_getElem? (i := 0) rfl)), fun _ => h'.fill (c' := #[.slice o16 (putL l (frX l)).length c17]) 1 rfl rfl⟩)) ?_
   refine zg (g1_read (v := fun g => .string (txt (putN l (frX l)))) (by decide) (fun _ => by kernel_rfl) (fun _ => by kernel_rfl) (fun g _ _ => (by kernel_rfl))) ?_
   exact AllGhost.nil
  intro g w25 gg26
  have h27 := gg26.held
  rw [if_pos rfl] at h27
  clear gg26
  generalize g 3 = n28 at h27 ⊢
  clear g
  refine then_at rfl ?_
  refine wp_ret ?_
  repeat first | refine then_ret ?_ | refine block_ret ?_
  exact bodyPost_ret (v := .tuple #[.agg #[.slice o16 (putL l (frX l)).length c17], .string (txt (putN l (frX l)))]) (res_cell_tmp (p := 2) (r := 3) (by kernel_rfl) (by kernel_rfl) (by kernel_rfl) (h27.get 1 rfl) Tryz.underlying27 rfl (by kernel_rfl)) rfl ⟨_, N15, rfl, hr12, HA.newer (L := [(q20, 27, #[.slice o16 (putL l (frX l)).length c17]), (q4, 27, #[.slice o16 (putL l (frX l)).length c17]), (q1, 27, #[.slice (some ⟨gt, 0, none⟩) l.length cap])]) h27, h27.old.old⟩
theorem rfresh_0 {w : World} {RL : BL} (hS : Stand w RL) (h : RTL (.slice none 0 0) ([] : List Q4) RL) :
  Calls Tryz.prog 11 #[.agg #[.slice none 0 0]] w fun e w' => ∃ v' N, e = .returned (.tuple #[.agg #[v'], .string (txt (putN ([] : List Q4) (frX ([] : List Q4))))]) ∧ RTL v' (putL ([] : List Q4) (frX ([] : List Q4))) (N ++ RL) ∧ Newer w.heap.size w' N ∧ Below w.heap.size w w' := by
 have H0 := HA.start w
 have hl : ∀ q ∈ ([] : List Q4), q.ps.length ≤ 1000 := fun q hq => by cases hq
 go_enter Tryz.func11, Tryz.ntmps11
 refine zsr ?_
 refine wl_make (c := #[.slice none 0 0]) H0 27 ?_
 intro q1 w2 (h3 : HA (bs w) [(q1, 27, #[.slice none 0 0])] w2)
 refine wl_make (c := #[.slice none 0 0]) h3 27 ?_
 intro q4 w5 (h6 : HA (bs w) [(q4, 27, #[.slice none 0 0]), (q1, 27, #[.slice none 0 0])] w5)
 refine zwv (.string ({ data := #[] })) ?_
 refine znt ?_
 refine wp_seq ?_
 refine zsr ?_
 refine zwv (.pointer (some ⟨q1, 0, none⟩)) ?_
 refine zwu (v := .slice none 0 0) (run_load1 Tryz.isAgg25 (((h6.get 1 rfl).cell 0).trans rfl)) ?_
 refine zwv (iN .i64 0) ?_
 refine zwu (run_geq (k := .i64) (a := 0) (b := 65536) false (by decide)) ?_
 refine znt ?_
 refine zcf ?_
 refine wp_skip ?_
 refine then_at rfl ?_
 refine zsr ?_
 refine zwv (iN .i64 0) ?_
 refine znt ?_
 refine wp_seq ?_
 refine zsr ?_
 refine zwv (iN .i64 0) ?_
 refine znt ?_
 refine wp_block ?_
 refine wp_loop_rounds 2 ?_
 try rw [rounds_succ]
 refine wp_seq ?_
 refine zsr ?_
 refine zwv (iN .i64 0) ?_
 refine zwv (.pointer (some ⟨q1, 0, none⟩)) ?_
 refine zwu (v := .slice none 0 0) (run_load1 Tryz.isAgg25 (((h6.get 1 rfl).cell 0).trans rfl)) ?_
 refine zwv (iN .i64 0) ?_
 refine zwu (run_lss (k := .i64) (a := 0) (b := 0) false (by decide)) ?_
 refine znt ?_
 refine zcf ?_
 refine wp_exit ?_
 repeat first | refine then_exit ?_ | refine block_exit ?_ | refine block_exit_ne (by decide) ?_
 refine then_at rfl ?_
 refine zsr ?_
 refine wl_load h6 1 rfl Tryz.underlying27 rfl ?_
 refine zwv (iN .i64 0) ?_
 refine zwv (.agg #[iN .i64 1, iN .i64 0, .string ({ data := #[] }), .slice none 0 0]) ?_
 refine wl_callx enter29 #[.agg (#[.slice none 0 0]), .agg #[iN .i64 1, iN .i64 0, .string ({ data := #[] }), .slice none 0 0]] (putl_any (l := []) h (hS.keep h6.old.old) hl (by decide) (frX ([] : List Q4)) (o := none) (c := 0) (.inl rfl)) ?_
 rintro _ w13 ⟨_, N10, rfl, hr7, hN9, hb8⟩
 refine ⟨_, rfl, ?_⟩
 obtain ⟨o11, c12, rfl⟩ := hr7.form
 have h14 : HA (bs w) ((q4, 27, #[.slice none 0 0]) :: (q1, 27, #[.slice none 0 0]) :: N10) w13 := HA.addL h6 hb8 hN9
 refine zwv (.tuple #[.agg #[.slice o11 (putL ([] : List Q4) (frX ([] : List Q4))).length c12], iN .i64 (putN ([] : List Q4) (frX ([] : List Q4)))]) ?_
 refine zwv (.agg #[.slice o11 (putL ([] : List Q4) (frX ([] : List Q4))).length c12]) ?_
 refine zwv (iN .i64 (putN ([] : List Q4) (frX ([] : List Q4)))) ?_
 refine wl_make (c := #[.slice none 0 0]) h14 27 ?_
 intro q15 w16 (h17 : HA (bs w) ((q15, 27, #[.slice none 0 0]) :: (q4, 27, #[.slice none 0 0]) :: (q1, 27, #[.slice none 0 0]) :: N10) w16)
 refine wl_fill (c' := #[.slice o11 (putL ([] : List Q4) (frX ([] : List Q4))).length c12]) h17 0 rfl rfl ?_
 intro w18 (h19 : HA (bs w) ((q15, 27, #[.slice o11 (putL ([] : List Q4) (frX ([] : List Q4))).length c12]) :: (q4, 27, #[.slice none 0 0]) :: (q1, 27, #[.slice none 0 0]) :: N10) w18)
 refine zwv (iN .i64 (putN ([] : List Q4) (frX ([] : List Q4)))) ?_
 refine znt ?_
 refine wp_seq ?_
 refine zrg (fun g : Nat → Nat => (⟨(.agg #[.slice none 0 0] :: pt q1 :: pt q4 :: .string (txt (putN ([] : List Q4) (frX ([] : List Q4)))) :: iN .i64 0 :: iN .i64 0 :: pt q15 :: iN .i64 (putN ([] : List Q4) (frX ([] : List Q4))) :: pt q1 :: .slice none 0 0 :: iN .i64 0 :: .bool false :: un :: iN .i64 0 :: pt q1 :: .slice none 0 0 :: iN .i64 0 :: .bool false :: un :: un :: un :: un :: un :: un :: un :: un :: un :: un :: un :: .tuple #[.agg #[.slice o11 (putL ([] : List Q4) (frX ([] : List Q4))).length c12], iN .i64 (putN ([] : List Q4) (frX ([] : List Q4)))] :: .agg (#[.slice none 0 0]) :: iN .i64 0 :: .agg #[iN .i64 1, iN .i64 0, .string ({ data := #[] }), .slice none 0 0] :: .tuple #[.agg #[.slice o11 (putL ([] : List Q4) (frX ([] : List Q4))).length c12], iN .i64 (putN ([] : List Q4) (frX ([] : List Q4)))] :: .agg #[.slice o11 (putL ([] : List Q4) (frX ([] : List Q4))).length c12] :: iN .i64 (putN ([] : List Q4) (frX ([] : List Q4))) :: .agg (#[.slice o11 (putL ([] : List Q4) (frX ([] : List Q4))).length c12]) :: iN .i64 (putN ([] : List Q4) (frX ([] : List Q4))) :: .string (txt (putN ([] : List Q4) (frX ([] : List Q4)))) :: List.replicate 0 un).toArray, []⟩ : Act)) (G1 (HA (bs w) [(q15, 27, #[.slice o11 (putL ([] : List Q4) (frX ([] : List Q4))).length c12])]) (HA (bs w) ((q15, 27, #[.slice o11 (putL ([] : List Q4) (frX ([] : List Q4))).length c12]) :: (q4, 27, #[.slice none 0 0]) :: (q1, 27, #[.slice none 0 0]) :: N10)) (fun _ => HA (bs w) ((q15, 27, #[.slice o11 (putL ([] : List Q4) (frX ([] : List Q4))).length c12]) :: (q4, 27, #[.slice o11 (putL ([] : List Q4) (frX ([] : List Q4))).length c12]) :: (q1, 27, #[.slice none 0 0]) :: N10)) 3) (fun d hd => G1.start (HA.sub h19.drew (List.singleton_sublist.2 (List.mem_of_getElem? (i := 0) rfl))) h19.drew (hd 3 (by decide))) ?_ ?_
 ·refine zg (g1_read (v := fun g => .agg (#[.slice o11 (putL ([] : List Q4) (frX ([] : List Q4))).length c12])) (by decide) (fun _ => by kernel_rfl) (fun _ => by kernel_rfl) (fun g w' h' => run_load_blk (h'.get 0 rfl) Tryz.underlying27 rfl)) ?_
  refine zg (g1_read (v := fun g => iN .i64 (putN ([] : List Q4) (frX ([] : List Q4)))) (by decide) (fun _ => by kernel_rfl) (fun _ => by kernel_rfl) (fun g _ _ => (by kernel_rfl))) ?_
  refine zg (g1_call (v := fun g => .string (txt (putN ([] : List Q4) (frX ([] : List Q4))))) (args := fun g => #[iN .i64 (putN ([] : List Q4) (frX ([] : List Q4)))]) Stab.ha Stab.ha (fun _ => Stab.ha) (by decide) (fun _ => by kernel_rfl) (fun _ => by kernel_rfl) enter30 (fun _ => by kernel_rfl) (fun g w' h' => rtext_any (putN ([] : List Q4) (frX ([] : List Q4))) (by have := (putN_le ([] : List Q4) (frX ([] : List Q4))).1; simp only [List.length_nil] at this; omega) w')) ?_
  refine zg (g1_acts (fun _ => by kernel_rfl) (fun _ => by kernel_rfl) (fun g w' hR' h' => ⟨_, run_store_blk (c' := #[.slice o11 (putL ([] : List Q4) (frX ([] : List Q4))).length c12]) (h'.get 1 rfl) rfl, HA.sub (h'.fill (c' := #[.slice o11 (putL ([] : List Q4) (frX ([] : List Q4))).length c12]) 1 rfl rfl) (List.singleton_sublist.2 (List.mem_of_getElem? (i := 0) rfl)), fun _ => h'.fill (c' := #[.slice o11 (putL ([] : List Q4) (frX ([] : List Q4))).length c12]) 1 rfl rfl⟩)) ?_
  refine zg (g1_read (v := fun g => .string (txt (putN ([] : List Q4) (frX ([] : List Q4))))) (by decide) (fun _ => by kernel_rfl) (fun _ => by kernel_rfl) (fun g _ _ => (by kernel_rfl))) ?_
  exact AllGhost.nil
 intro g w20 gg21
 have h22 := gg21.held
 rw [if_pos rfl] at h22
 clear gg21
 generalize g 3 = n23 at h22 ⊢
 clear g
 refine then_at rfl ?_
 refine wp_ret ?_
 repeat first | refine then_ret ?_ | refine block_ret ?_
 exact bodyPost_ret (v := .tuple #[.agg #[.slice o11 (putL ([] : List Q4) (frX ([] : List Q4))).length c12], .string (txt (putN ([] : List Q4) (frX ([] : List Q4))))]) (res_cell_tmp (p := 2) (r := 3) (by kernel_rfl) (by kernel_rfl) (by kernel_rfl) (h22.get 1 rfl) Tryz.underlying27 rfl (by kernel_rfl)) rfl ⟨_, N10, rfl, hr7, HA.newer (L := [(q15, 27, #[.slice o11 (putL ([] : List Q4) (frX ([] : List Q4))).length c12]), (q4, 27, #[.slice o11 (putL ([] : List Q4) (frX ([] : List Q4))).length c12]), (q1, 27, #[.slice none 0 0])]) h22, h22.old.old⟩
theorem rfresh_any {w : World} {v : Value} {l : List Q4} {RL : BL} (h : RTL v l RL) (hS : Stand w RL) (hl : ∀ q ∈ l, q.ps.length ≤ 1000) (hll : l.length ≤ 60000) :
  Calls Tryz.prog 11 #[.agg #[v]] w fun e w' => ∃ v' N, e = .returned (.tuple #[.agg #[v'], .string (txt (putN l (frX l)))]) ∧ RTL v' (putL l (frX l)) (N ++ RL) ∧ Newer w.heap.size w' N ∧ Below w.heap.size w w' := by
 have h0 := h
 rcases h with ⟨rfl, h2⟩ | ⟨g, cap, cur, pl, h1, rfl, h2, h3, h4, h5⟩
 ·subst h2; exact rfresh_0 hS h0
 ·refine rfresh_p hS hl hll (hS _ h2) (fun i hi => ?_) h0
  obtain ⟨g', cap', cur', oi, ci, e1, e2, e3, e4⟩ := RT.at (h0.rt hS) hi
  cases e1
  obtain ⟨f1, e5, _⟩ := e2
  obtain ⟨f2, e6, _⟩ := hS _ h2
  simp only at e6
  rw [e5] at e6
  cases e6
  exact ⟨oi, ci, e3, e4⟩
end Go.Proofs.YtihfeoanognonaaGreat
