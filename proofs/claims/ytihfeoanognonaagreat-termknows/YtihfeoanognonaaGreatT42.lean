/-
 The reference's Make.
-/
import Derived.Test.YtihfeoanognonaaGreatT41
import Derived.Test.YtihfeoanognonaaGreatWr2
namespace Go.Proofs.YtihfeoanognonaaGreat
set_option linter.unusedVariables false
set_option maxRecDepth 100000
set_option maxHeartbeats 8000000
open Go.RowKit
theorem Stand.join {w w' : World} {RL N L : BL} (hS : Stand w RL) (H : HA (bs w) L w') (hN : N ⊆ L) : Stand w' (N ++ RL) := fun x hx => (List.mem_append.1 hx).elim (fun h => H.blk x (hN h)) (fun h => (hS.keep H.old.old) x h)
theorem HA.newerS {L N : BL} {w w' : World} (H : HA (bs w) L w') (hs : N.Sublist L) : Newer w.heap.size w' N := HA.newer (L := []) (H.sub hs)
theorem rpL_ps {l : List Q4} {s : ByteArray} (h : ∀ q ∈ l, q.ps.length ≤ 1000) : ∀ q ∈ rpL l s, q.ps.length ≤ 1000 := by
 unfold rpL
 split
 ·exact h
 ·unfold putL
  split
  ·exact h
  ·intro q hq
   rcases List.mem_append.1 hq with hq | hq
   ·exact h q hq
   ·rw [List.mem_singleton.1 hq]; simp
theorem rfL_ps {l : List Q4} {ss : List ByteArray} (h : ∀ q ∈ l, q.ps.length ≤ 1000) : ∀ k, ∀ q ∈ rfL l ss k, q.ps.length ≤ 1000
 | 0 => h
 | k + 1 => rpL_ps (rfL_ps h k)
theorem rfL_len (l : List Q4) (ss : List ByteArray) : ∀ k, (rfL l ss k).length ≤ l.length + k
 | 0 => Nat.le_refl _
 | k + 1 => by have := rfL_len l ss k; have := (rp_le (rfL l ss k) (ss.getD k ByteArray.empty)).2; rw [rfL]; omega
theorem rpL_mono (l : List Q4) (s : ByteArray) : l.length ≤ (rpL l s).length := by
 unfold rpL putL
 split
 ·exact Nat.le_refl _
 ·split <;> simp
theorem rpN_lt (l : List Q4) (s : ByteArray) : rpN l s < (rpL l s).length := by
 unfold rpL rpN
 cases h : numT l.length s with
 | some x =>
  unfold numT at h
  split at h
  ·exact (firstT_some h).2.2
  ·cases h
 | none =>
  unfold putL putN
  cases h2 : l.idxOf? (⟨2, 0, s, []⟩ : Q4) with
  | some i =>
   rw [List.idxOf?, List.findIdx?_eq_some_iff_getElem] at h2
   exact h2.1
  | none => simp
theorem rfN_lt (l : List Q4) (ss : List ByteArray) : ∀ k, ∀ x ∈ rfN l ss k, x < (rfL l ss k).length
 | 0, x, h => by cases h
 | k + 1, x, h => by
  have hm := rpL_mono (rfL l ss k) (ss.getD k ByteArray.empty)
  rcases List.mem_append.1 h with h | h
  ·have := rfN_lt l ss k x h; exact Nat.lt_of_lt_of_le this hm
  ·rw [List.mem_singleton.1 h]; exact rpN_lt _ _
theorem Row.ril {v : Value} {ns : List Nat} {Lr RL : BL} (h : Row 3 1 v ns.length (ns.map (iN .i64 ·)) Lr) (hs : Lr ⊆ RL) : ∃ o c, v = .slice o ns.length c ∧ RIL RL o ns := by
 rcases h.2 with ⟨h1, h2, h3⟩ | ⟨g, cap, cur, h1, h2, h3, h4, h5, h6⟩
 ·exact ⟨none, 0, by rw [h1, h2], .inl (List.length_eq_zero_iff.1 h2)⟩
 ·refine ⟨_, _, h1, .inr ⟨g, cur, rfl, hs (by rw [h2]; simp), fun j hj => ?_⟩⟩
  have : (cur.toList.take (ns.length * 1))[j]? = some (iN .i64 (ns.getD j 0)) := by rw [h6, List.getElem?_map]; simp [hj]
  rw [List.getElem?_take, if_pos (by omega)] at this
  simpa using this
theorem Row.intsAt {v : Value} {ns : List Nat} {Lr : BL} (h : Row 3 1 v ns.length (ns.map (iN .i64 ·)) Lr) (hp : 0 < ns.length) : ∃ g c cur, v = .slice (some ⟨g, 0, none⟩) ns.length c ∧ Lr = [(g, 3, cur)] ∧ ∀ j, j < ns.length → cur[j]? = some (iN .i64 (ns.getD j 0)) := by
 rcases h.2 with ⟨h1, h2, h3⟩ | ⟨g, cap, cur, h1, h2, h3, h4, h5, h6⟩
 ·omega
 ·refine ⟨g, cap, cur, h1, h2, fun j hj => ?_⟩
  have : (cur.toList.take (ns.length * 1))[j]? = some (iN .i64 (ns.getD j 0)) := by rw [h6, List.getElem?_map]; simp [hj]
  rw [List.getElem?_take, if_pos (by omega)] at this
  simpa using this
theorem RTL.at {v : Value} {l : List Q4} {RL : BL} (h : RTL v l RL) {i : Nat} (hi : i < l.length) : ∃ g cap cur o c, v = .slice (some ⟨g, 0, none⟩) l.length cap ∧ (g, 74, cur) ∈ RL ∧ (∀ j u, (tmc l[i].k l[i].n l[i].s o l[i].ps.length c)[j]? = some u → cur[4 * i + j]? = some u) ∧ RIL RL o l[i].ps := by
 rcases h with ⟨_, rfl⟩ | ⟨g, cap, cur, pl, _, h1, h2, h3, h4, h5⟩
 ·simp at hi
 ·have hq : l[i]? = some l[i] := List.getElem?_eq_getElem hi
  have hp : pl[i]? = some pl[i] := List.getElem?_eq_getElem (by omega)
  refine ⟨g, cap, cur, pl[i].1, pl[i].2, h1, h2, fun j u hu => ?_, h5 i _ _ hq hp⟩
  have hj : j < 4 := (Array.getElem?_eq_some_iff.1 hu).1
  rw [← hu, ← tcl_get l pl i _ _ hq hp j hj, ← h4, List.getElem?_take, if_pos (by omega)]
  simp
theorem perm_row (p : Nat × TypeId × Array Value) (B Lr N N' : BL) : (p :: (B ++ ((Lr ++ N) ++ N'))).Perm (p :: (Lr ++ (B ++ (N ++ N')))) :=
 List.Perm.cons _ (by rw [List.append_assoc Lr N N', ← List.append_assoc B Lr, ← List.append_assoc Lr B]; exact List.Perm.append_right _ List.perm_append_comm)
theorem perm_back (B Lr N : BL) : (Lr ++ (B ++ N)).Perm (B ++ (Lr ++ N)) := by
 rw [← List.append_assoc, ← List.append_assoc]; exact List.Perm.append_right _ List.perm_append_comm
theorem getD_mem_lt {ns : List Nat} {m j : Nat} (h : ∀ x ∈ ns, x < m) (hj : j < ns.length) : ns.getD j 0 < m := by
 rw [List.getD_eq_getElem?_getD, List.getElem?_eq_getElem hj]; exact h _ (List.getElem_mem hj)
set_option linter.unusedSimpArgs false in
theorem res_cell_tmp2 {w : World} {fn : Func} {p r r2 : Tmp} {t ty : TypeId} {ts : Array Value} {q : Nat} {c : Array Value} {D : TypeDesc} {v u : Value} (hf : fn.results = #[.cell p ty, .tmp r, .tmp r2]) (ht : ts.getD p undef = .pointer (some ⟨q, 0, none⟩)) (hv : ts.getD r undef = v) (hu2 : ts.getD r2 undef = u) (h : Blk w q t c) (hu : Tryz.prog.underlying ty = some D) (hd : D.isRow = true) (hi : (Tryz.prog.info? ty).map (·.size) = some c.size) :
  (results fn ts).run Tryz.prog w = .ok (.tuple #[.agg c, v, u]) w := by
 have := run_loadVar_mid (P := Tryz.prog) w q 0 ty c.toList D h.range hu hd (by simpa using hi)
 have ht2 : ts[p]?.getD undef = .pointer (some ⟨q, 0, none⟩) := by simpa using ht
 have hv2 : ts[r]?.getD undef = v := by simpa using hv
 have hv3 : ts[r2]?.getD undef = u := by simpa using hu2
 simp [results, hf, Sem.run_bind, Sem.run_pure, Result.andThen_ok, asAddr, ht2, hv2, hv3, this]
theorem rmk_e {w : World} {ov : Option Addr} {cv : Nat} {l : List Q4} {RL : BL} (h : RTL (.slice ov l.length cv) l RL) (hS : Stand w RL) (hl : ∀ q ∈ l, q.ps.length ≤ 1000) (hll : l.length ≤ 50000) (k : Nat) (label : ByteArray) (ss : List ByteArray) (o : Option Addr) (c : Nat) (hp : ss = [] ∨ ∃ pq cs, o = some ⟨pq, 0, none⟩ ∧ PreS cs ss ∧ Blk w pq 9 cs) (hsl : ss.length ≤ 100) (hlab : label.size ≤ 65536) (hss : ∀ i, (ss.getD i ByteArray.empty).size ≤ 65536) (hcnt : cntB k ss.length = true) (hlb : label = { data := #[] }) (hk4 : ¬ k = 4) :
  Calls Tryz.prog 15 #[.agg #[.slice ov l.length cv], iN .i64 k, .string label, .slice o ss.length c] w fun e w' => ∃ v' N, e = .returned (.tuple #[.agg #[v'], .string (txt (putN (rfL l ss ss.length) (rmX (rfL l ss ss.length) k label (rfN l ss ss.length)))), iN .i64 0]) ∧ RTL v' (putL (rfL l ss ss.length) (rmX (rfL l ss ss.length) k label (rfN l ss ss.length))) (N ++ RL) ∧ Newer w.heap.size w' N ∧ Below w.heap.size w w' := by
 have H0 := HA.start w
 go_enter Tryz.func15, Tryz.ntmps15
 refine zsr ?_
 refine wl_make (c := #[.slice ov l.length cv]) H0 27 ?_
 intro q1 w2 (h3 : HA (bs w) [(q1, 27, #[.slice ov l.length cv])] w2)
 refine wl_make (c := #[.slice none 0 0]) h3 27 ?_
 intro q4 w5 (h6 : HA (bs w) [(q4, 27, #[.slice none 0 0]), (q1, 27, #[.slice ov l.length cv])] w5)
 refine zwv (.string ({ data := #[] })) ?_
 refine zwv (iN .i64 0) ?_
 refine znt ?_
 refine wp_seq ?_
 refine zsr ?_
 refine zwv (iN .i64 k) ?_
 refine zwv (.slice o ss.length c) ?_
 refine zwv (iN .i64 ss.length) ?_
 refine wl_call (v := .bool true) h6 enter38 #[iN .i64 k, iN .i64 ss.length] (by have := count_any k ss.length w5; rw [hcnt] at this; exact this) ?_
 intro w7 h8
 refine zwv (.bool false) ?_
 refine zwv (.bool false) ?_
 refine zwv (.string label) ?_
 refine zwu (run_nes (s := label) (t := { data := #[] }) false (decide_eq_true hlb)) ?_
 refine zwv (.bool false) ?_
 refine wl_skip ?_
 refine wl_skip ?_
 refine zwv (.bool false) ?_
 refine zwv (.bool false) ?_
 refine znt ?_
 refine zcf ?_
 refine wp_skip ?_
 refine then_at rfl ?_
 refine zsr ?_
 refine zwv (.string label) ?_
 refine zwu (run_len (s := label)) ?_
 refine zwu (run_gtr (k := .i64) (a := label.size) (b := 65536) false (decide_eq_false (by omega))) ?_
 refine zwv (.bool false) ?_
 refine znt ?_
 refine wp_seq ?_
 refine zsr ?_
 refine zwv (iN .i64 0) ?_
 refine znt ?_
 refine wp_block ?_
 refine wp_count (fun i A w' => ∃ u9 : Nat → Value, A = ⟨(.agg #[.slice ov l.length cv] :: iN .i64 k :: .string label :: .slice o ss.length c :: pt q1 :: un :: un :: un :: pt q4 :: .string ({ data := #[] }) :: iN .i64 0 :: .bool false :: iN .i64 i :: un :: un :: un :: un :: un :: un :: un :: un :: un :: iN .i64 k :: .slice o ss.length c :: iN .i64 ss.length :: .bool true :: .bool false :: .bool false :: .string label :: .bool false :: .bool false :: un :: un :: .bool false :: .bool false :: un :: .string label :: iN .i64 label.size :: .bool false :: u9 39 :: u9 40 :: u9 41 :: u9 42 :: u9 43 :: u9 44 :: u9 45 :: u9 46 :: u9 47 :: u9 48 :: u9 49 :: u9 50 :: u9 51 :: u9 52 :: u9 53 :: List.replicate 72 un).toArray, []⟩ ∧ HA (bs w) [(q4, 27, #[.slice none 0 0]), (q1, 27, #[.slice ov l.length cv])] w') ss.length ?_ ?_ ?_
 ·exact zex h8
 ·rintro i hk _ w10 ⟨u9, rfl, hA⟩
  obtain ⟨pq, cs, rfl, hps, hm⟩ := hp.resolve_left (by intro e; rw [e] at hk; simp at hk)
  have hsi := hss i
  refine wp_seq ?_
  refine zsr ?_
  refine zwv (iN .i64 i) ?_
  refine zwv (.slice (some ⟨pq, 0, none⟩) ss.length c) ?_
  refine zwv (iN .i64 ss.length) ?_
  refine zwu (run_lss (k := .i64) (a := i) (b := ss.length) true (decide_eq_true (by omega))) ?_
  refine znt ?_
  refine zct ?_
  refine wp_skip ?_
  refine then_at rfl ?_
  refine wp_seq ?_
  refine wp_block ?_
  refine wl_region ?_
  refine zwv (.bool false) ?_
  refine zwv (.bool false) ?_
  refine zwv (.slice (some ⟨pq, 0, none⟩) ss.length c) ?_
  refine zwv (iN .i64 i) ?_
  refine zwu (v := .pointer (some ⟨pq, i, none⟩)) (run_addr_slice (q := pq) (n := ss.length) (m := c) (a := i) Tryz.underlying30 Tryz.sizeOf9 (by omega)) ?_
  refine zwu (v := .string (ss.getD i ByteArray.empty)) (run_load1 Tryz.isAgg9 (((hm.keep hA.old.old).cell i).trans (hps i hk))) ?_
  refine zwu (run_len (s := ss.getD i ByteArray.empty)) ?_
  refine zwu (run_gtr (k := .i64) (a := (ss.getD i ByteArray.empty).size) (b := 65536) false (decide_eq_false (by omega))) ?_
  refine zwv (.bool false) ?_
  refine zwv (.bool false) ?_
  refine wl_nil ?_
  refine block_normal ?_
  refine then_at rfl ?_
  refine wl_region ?_
  refine zwv (iN .i64 i) ?_
  refine zwu (run_add (k := .i64) (a := i) (b := 1) (by simp only [top]; omega)) ?_
  refine zwv (iN .i64 (i + 1)) ?_
  refine wl_nil ?_
  exact then_I (zex hA)
 ·rintro _ w11 ⟨u9, rfl, hA⟩
  refine wp_seq ?_
  refine zsr ?_
  refine zwv (iN .i64 ss.length) ?_
  refine zwv (.slice o ss.length c) ?_
  refine zwv (iN .i64 ss.length) ?_
  refine zwu (run_lss (k := .i64) (a := ss.length) (b := ss.length) false (decide_eq_false (by omega))) ?_
  refine znt ?_
  refine zcf ?_
  refine wp_exit ?_
  repeat first | refine then_exit ?_ | refine block_exit ?_ | refine block_exit_ne (by decide) ?_
  refine then_at rfl ?_
  refine wp_seq ?_
  refine zsr ?_
  refine zwv (.bool false) ?_
  refine znt ?_
  refine zcf ?_
  refine wp_skip ?_
  refine then_at rfl ?_
  refine zsr ?_
  refine wl_load hA 1 rfl Tryz.underlying27 rfl ?_
  refine wl_make (c := #[.slice none 0 0]) hA 27 ?_
  intro q12 w13 (h14 : HA (bs w) [(q12, 27, #[.slice none 0 0]), (q4, 27, #[.slice none 0 0]), (q1, 27, #[.slice ov l.length cv])] w13)
  refine wl_fill (c' := #[.slice ov l.length cv]) h14 0 rfl rfl ?_
  intro w15 (h16 : HA (bs w) [(q12, 27, #[.slice ov l.length cv]), (q4, 27, #[.slice none 0 0]), (q1, 27, #[.slice ov l.length cv])] w15)
  refine znt ?_
  refine zsr ?_
  refine zwv (iN .i64 k) ?_
  refine zwv (.string label) ?_
  refine zwv (.agg #[iN .i64 k, iN .i64 0, .string label, .slice none 0 0]) ?_
  refine wl_make (c := #[iN .i64 0, iN .i64 0, .string ({ data := #[] }), .slice none 0 0]) h16 74 ?_
  intro q17 w18 (h19 : HA (bs w) [(q17, 74, #[iN .i64 0, iN .i64 0, .string ({ data := #[] }), .slice none 0 0]), (q12, 27, #[.slice ov l.length cv]), (q4, 27, #[.slice none 0 0]), (q1, 27, #[.slice ov l.length cv])] w18)
  refine wl_fill (c' := #[iN .i64 k, iN .i64 0, .string label, .slice none 0 0]) h19 0 rfl rfl ?_
  intro w20 (h21 : HA (bs w) [(q17, 74, #[iN .i64 k, iN .i64 0, .string label, .slice none 0 0]), (q12, 27, #[.slice ov l.length cv]), (q4, 27, #[.slice none 0 0]), (q1, 27, #[.slice ov l.length cv])] w20)
  refine znt ?_
  refine wp_seq ?_
  refine zsr ?_
  refine zwv (iN .i64 0) ?_
  refine znt ?_
  have HT0 := h21
  refine wp_block ?_
  refine wp_count (fun i A w' => ∃ u22 : Nat → Value, A = ⟨(.agg #[.slice ov l.length cv] :: iN .i64 k :: .string label :: .slice o ss.length c :: pt q1 :: un :: un :: un :: pt q4 :: .string ({ data := #[] }) :: iN .i64 0 :: .bool false :: iN .i64 ss.length :: pt q12 :: pt q17 :: iN .i64 i :: u22 16 :: u22 17 :: un :: un :: un :: un :: iN .i64 k :: .slice o ss.length c :: iN .i64 ss.length :: .bool true :: .bool false :: .bool false :: .string label :: .bool false :: .bool false :: un :: un :: .bool false :: .bool false :: un :: .string label :: iN .i64 label.size :: .bool false :: iN .i64 ss.length :: .slice o ss.length c :: iN .i64 ss.length :: .bool false :: u9 43 :: u9 44 :: u9 45 :: u9 46 :: u9 47 :: u9 48 :: u9 49 :: u9 50 :: u9 51 :: u9 52 :: u9 53 :: .bool false :: un :: .agg (#[.slice ov l.length cv]) :: iN .i64 k :: .string label :: .agg #[iN .i64 k, iN .i64 0, .string label, .slice none 0 0] :: u22 60 :: u22 61 :: u22 62 :: u22 63 :: u22 64 :: u22 65 :: u22 66 :: u22 67 :: u22 68 :: u22 69 :: u22 70 :: u22 71 :: u22 72 :: u22 73 :: u22 74 :: u22 75 :: u22 76 :: u22 77 :: u22 78 :: u22 79 :: u22 80 :: u22 81 :: List.replicate 44 un).toArray, []⟩ ∧ ∃ po pc to tc N Lr, RTL (.slice to (rfL l ss i).length tc) (rfL l ss i) (N ++ RL) ∧ Row 3 1 (.slice po (rfN l ss i).length pc) (rfN l ss i).length ((rfN l ss i).map (iN .i64 ·)) Lr ∧ HA (bs w) ((q17, 74, #[iN .i64 k, iN .i64 0, .string label, .slice po (rfN l ss i).length pc]) :: (q12, 27, #[.slice to (rfL l ss i).length tc]) :: (q4, 27, #[.slice none 0 0]) :: (q1, 27, #[.slice ov l.length cv]) :: (Lr ++ N)) w') ss.length ?_ ?_ ?_
  ·exact zex (⟨none, 0, ov, cv, [], [], h, Row.nil 3 1, HT0⟩)
  ·rintro i hk _ w23 ⟨u22, rfl, ⟨po, pc, to, tc, N, Lr, hr, hR, hA⟩⟩
   obtain ⟨pq, cs, rfl, hps, hm⟩ := hp.resolve_left (by intro e; rw [e] at hk; simp at hk)
   refine wp_seq ?_
   refine zsr ?_
   refine zwv (iN .i64 i) ?_
   refine zwv (.slice (some ⟨pq, 0, none⟩) ss.length c) ?_
   refine zwv (iN .i64 ss.length) ?_
   refine zwu (run_lss (k := .i64) (a := i) (b := ss.length) true (decide_eq_true (by omega))) ?_
   refine znt ?_
   refine zct ?_
   refine wp_skip ?_
   refine then_at rfl ?_
   refine wp_seq ?_
   refine wp_block ?_
   refine wp_seq ?_
   refine wp_region_wk (HA (bs w) ((q17, 74, #[iN .i64 k, iN .i64 0, .string label, .slice po (rfN l ss i).length pc]) :: (q12, 27, #[.slice to (rfL l ss i).length tc]) :: (q4, 27, #[.slice none 0 0]) :: (q1, 27, #[.slice ov l.length cv]) :: (Lr ++ N))) (fun A w' => ∃ (N32 : BL) (to37 : Option Addr) (tc38 : Nat) (q40 : Nat), A = ⟨(.agg #[.slice ov l.length cv] :: iN .i64 k :: .string label :: .slice (some ⟨pq, 0, none⟩) ss.length c :: pt q1 :: un :: un :: un :: pt q4 :: .string ({ data := #[] }) :: iN .i64 0 :: .bool false :: iN .i64 ss.length :: pt q12 :: pt q17 :: iN .i64 i :: pt q40 :: iN .i64 (rpN (rfL l ss i) (ss.getD i ByteArray.empty)) :: un :: un :: un :: un :: iN .i64 k :: .slice (some ⟨pq, 0, none⟩) ss.length c :: iN .i64 ss.length :: .bool true :: .bool false :: .bool false :: .string label :: .bool false :: .bool false :: un :: un :: .bool false :: .bool false :: un :: .string label :: iN .i64 label.size :: .bool false :: iN .i64 ss.length :: .slice (some ⟨pq, 0, none⟩) ss.length c :: iN .i64 ss.length :: .bool false :: u9 43 :: u9 44 :: u9 45 :: u9 46 :: u9 47 :: u9 48 :: u9 49 :: u9 50 :: u9 51 :: u9 52 :: u9 53 :: .bool false :: un :: .agg (#[.slice ov l.length cv]) :: iN .i64 k :: .string label :: .agg #[iN .i64 k, iN .i64 0, .string label, .slice none 0 0] :: iN .i64 i :: .slice (some ⟨pq, 0, none⟩) ss.length c :: iN .i64 ss.length :: .bool true :: u22 64 :: u22 65 :: .tuple #[.agg #[.slice to37 (rpL (rfL l ss i) (ss.getD i ByteArray.empty)).length tc38], iN .i64 (rpN (rfL l ss i) (ss.getD i ByteArray.empty))] :: .agg (#[.slice to (rfL l ss i).length tc]) :: .slice (some ⟨pq, 0, none⟩) ss.length c :: iN .i64 i :: .pointer (some ⟨pq, i, none⟩) :: .string (ss.getD i ByteArray.empty) :: .tuple #[.agg #[.slice to37 (rpL (rfL l ss i) (ss.getD i ByteArray.empty)).length tc38], iN .i64 (rpN (rfL l ss i) (ss.getD i ByteArray.empty))] :: .agg #[.slice to37 (rpL (rfL l ss i) (ss.getD i ByteArray.empty)).length tc38] :: iN .i64 (rpN (rfL l ss i) (ss.getD i ByteArray.empty)) :: u22 75 :: u22 76 :: u22 77 :: u22 78 :: u22 79 :: u22 80 :: u22 81 :: List.replicate 44 un).toArray, []⟩ ∧ RTL (.slice to37 (rpL (rfL l ss i) (ss.getD i ByteArray.empty)).length tc38) (rpL (rfL l ss i) (ss.getD i ByteArray.empty)) (N32 ++ (N ++ RL)) ∧ HA (bs w) ((q40, 27, #[.slice to37 (rpL (rfL l ss i) (ss.getD i ByteArray.empty)).length tc38]) :: (q17, 74, #[iN .i64 k, iN .i64 0, .string label, .slice po (rfN l ss i).length pc]) :: (q12, 27, #[.slice to (rfL l ss i).length tc]) :: (q4, 27, #[.slice none 0 0]) :: (q1, 27, #[.slice ov l.length cv]) :: ((Lr ++ N) ++ N32)) w') 12 (by kernel_rfl) (by kernel_rfl) (by kernel_rfl) (by kernel_rfl) (by kernel_rfl) (hA.drew) ?_ ?_
   ·have h24 := hA.drew
    refine wk_val (i := 0) (.agg (#[.slice to (rfL l ss i).length tc])) rfl rfl (by kernel_rfl) (by kernel_rfl) (fun w' h' => run_load_blk (h'.get 1 rfl) Tryz.underlying27 rfl) ?_
    refine wk_val (i := 1) (.slice (some ⟨pq, 0, none⟩) ss.length c) rfl rfl (by kernel_rfl) (by kernel_rfl) (fun _ _ => (by kernel_rfl)) ?_
    refine wk_val (i := 2) (iN .i64 i) rfl rfl (by kernel_rfl) (by kernel_rfl) (fun _ _ => (by kernel_rfl)) ?_
    refine wk_val (i := 3) (.pointer (some ⟨pq, i, none⟩)) rfl rfl (by kernel_rfl) (by kernel_rfl) (fun _ _ => (run_addr_slice (q := pq) (n := ss.length) (m := c) (a := i) Tryz.underlying30 Tryz.sizeOf9 (by omega))) ?_
    refine wk_val (i := 4) (.string (ss.getD i ByteArray.empty)) rfl rfl (by kernel_rfl) (by kernel_rfl) (fun w' h' => run_load1 Tryz.isAgg9 (((hm.keep h'.old.old).cell i).trans (hps i hk))) ?_
    refine wk_two 5 9 (by kernel_rfl) ?_ ?_
    ·refine ef_callx rfl (by kernel_rfl) h24 enter32 #[.agg (#[.slice to (rfL l ss i).length tc]), .string (ss.getD i ByteArray.empty)] (by kernel_rfl) (fun w33 h34 => rpart_any hr (hS.join h34 (N := N) (fun x hx => by simp [hx])) (rfL_ps hl i) (by have := rfL_len l ss i; omega) (ss.getD i ByteArray.empty)) ?_
     rintro w33 h34 _ w35 hpost
     obtain ⟨tv36, N32, rfl, hr29, hN31, hb30⟩ := hpost
     obtain ⟨to37, tc38, rfl⟩ := hr29.form
     have h39 : HA (bs w) ((q17, 74, #[iN .i64 k, iN .i64 0, .string label, .slice po (rfN l ss i).length pc]) :: (q12, 27, #[.slice to (rfL l ss i).length tc]) :: (q4, 27, #[.slice none 0 0]) :: (q1, 27, #[.slice ov l.length cv]) :: ((Lr ++ N) ++ N32)) w35 := HA.addL h34 hb30 hN31
     refine ⟨_, rfl, (HA.sub h39 (List.Sublist.cons_cons _ (List.Sublist.cons_cons _ (List.Sublist.cons_cons _ (List.Sublist.cons_cons _ (List.sublist_append_left _ _)))))), ?_⟩
     refine wk_val (i := 6) (.tuple #[.agg #[.slice to37 (rpL (rfL l ss i) (ss.getD i ByteArray.empty)).length tc38], iN .i64 (rpN (rfL l ss i) (ss.getD i ByteArray.empty))]) rfl rfl (by kernel_rfl) (by kernel_rfl) (fun _ _ => (by kernel_rfl)) ?_
     refine wk_val (i := 7) (.agg #[.slice to37 (rpL (rfL l ss i) (ss.getD i ByteArray.empty)).length tc38]) rfl rfl (by kernel_rfl) (by kernel_rfl) (fun _ _ => (by kernel_rfl)) ?_
     refine wk_val (i := 8) (iN .i64 (rpN (rfL l ss i) (ss.getD i ByteArray.empty))) rfl rfl (by kernel_rfl) (by kernel_rfl) (fun _ _ => (by kernel_rfl)) ?_
     refine wk_one 9 (by kernel_rfl) ?_
     refine ef_make (c := #[.slice none 0 0]) rfl (by kernel_rfl) h39 27 (fun _ => (by kernel_rfl)) (fun q w' h' => (HA.sub h' (List.Sublist.cons _ (List.Sublist.cons_cons _ (List.Sublist.cons_cons _ (List.Sublist.cons_cons _ (List.Sublist.cons_cons _ (List.sublist_append_left _ _)))))))) ?_
     intro q40 w42 (h41 : HA (bs w) ((q40, 27, #[.slice none 0 0]) :: (q17, 74, #[iN .i64 k, iN .i64 0, .string label, .slice po (rfN l ss i).length pc]) :: (q12, 27, #[.slice to (rfL l ss i).length tc]) :: (q4, 27, #[.slice none 0 0]) :: (q1, 27, #[.slice ov l.length cv]) :: ((Lr ++ N) ++ N32)) w42)
     refine wk_one 10 (by kernel_rfl) ?_
     refine ef_fill (c' := #[.slice to37 (rpL (rfL l ss i) (ss.getD i ByteArray.empty)).length tc38]) rfl (by kernel_rfl) ((q40, 27, #[.slice to37 (rpL (rfL l ss i) (ss.getD i ByteArray.empty)).length tc38]) :: (q17, 74, #[iN .i64 k, iN .i64 0, .string label, .slice po (rfN l ss i).length pc]) :: (q12, 27, #[.slice to (rfL l ss i).length tc]) :: (q4, 27, #[.slice none 0 0]) :: (q1, 27, #[.slice ov l.length cv]) :: ((Lr ++ N) ++ N32)) h41 0 rfl rfl (by kernel_rfl) (by kernel_rfl) rfl (by kernel_rfl) (by kernel_rfl) (fun w' h' => (HA.sub h' (List.Sublist.cons _ (List.Sublist.cons_cons _ (List.Sublist.cons_cons _ (List.Sublist.cons_cons _ (List.Sublist.cons_cons _ (List.sublist_append_left _ _)))))))) ?_
     intro w44 (h43 : HA (bs w) ((q40, 27, #[.slice to37 (rpL (rfL l ss i) (ss.getD i ByteArray.empty)).length tc38]) :: (q17, 74, #[iN .i64 k, iN .i64 0, .string label, .slice po (rfN l ss i).length pc]) :: (q12, 27, #[.slice to (rfL l ss i).length tc]) :: (q4, 27, #[.slice none 0 0]) :: (q1, 27, #[.slice ov l.length cv]) :: ((Lr ++ N) ++ N32)) w44)
     refine wk_val (i := 11) (iN .i64 (rpN (rfL l ss i) (ss.getD i ByteArray.empty))) rfl rfl (by kernel_rfl) (by kernel_rfl) (fun _ _ => (by kernel_rfl)) ?_
     refine wk_end fun w45 hbx hsx => ?_
     have h46 := HA.keep _ _ h43 hbx
     exact ⟨N32, to37, tc38, q40, by kernel_rfl, hr29, h46⟩
    ·refine ef_make (c := #[.slice none 0 0]) rfl (by kernel_rfl) h24 27 (fun _ => (by kernel_rfl)) (fun q w' h' => (HA.sub h' (List.Sublist.cons _ (List.Sublist.cons_cons _ (List.Sublist.cons_cons _ (List.Sublist.cons_cons _ (List.Sublist.cons_cons _ (List.Sublist.refl _)))))))) ?_
     intro q47 w49 (h48 : HA (bs w) ((q47, 27, #[.slice none 0 0]) :: (q17, 74, #[iN .i64 k, iN .i64 0, .string label, .slice po (rfN l ss i).length pc]) :: (q12, 27, #[.slice to (rfL l ss i).length tc]) :: (q4, 27, #[.slice none 0 0]) :: (q1, 27, #[.slice ov l.length cv]) :: (Lr ++ N)) w49)
     refine wk_one 5 (by kernel_rfl) ?_
     refine ef_callx rfl (by kernel_rfl) h48 enter32 #[.agg (#[.slice to (rfL l ss i).length tc]), .string (ss.getD i ByteArray.empty)] (by kernel_rfl) (fun w58 h59 => rpart_any hr (hS.join h59 (N := N) (fun x hx => by simp [hx])) (rfL_ps hl i) (by have := rfL_len l ss i; omega) (ss.getD i ByteArray.empty)) ?_
     rintro w58 h59 _ w60 hpost
     obtain ⟨tv61, N57, rfl, hr54, hN56, hb55⟩ := hpost
     obtain ⟨to62, tc63, rfl⟩ := hr54.form
     have h64 : HA (bs w) ((q47, 27, #[.slice none 0 0]) :: (q17, 74, #[iN .i64 k, iN .i64 0, .string label, .slice po (rfN l ss i).length pc]) :: (q12, 27, #[.slice to (rfL l ss i).length tc]) :: (q4, 27, #[.slice none 0 0]) :: (q1, 27, #[.slice ov l.length cv]) :: ((Lr ++ N) ++ N57)) w60 := HA.addL h59 hb55 hN56
     refine ⟨_, rfl, (HA.sub h64 (List.Sublist.cons _ (List.Sublist.cons_cons _ (List.Sublist.cons_cons _ (List.Sublist.cons_cons _ (List.Sublist.cons_cons _ (List.sublist_append_left _ _))))))), ?_⟩
     refine wk_val (i := 6) (.tuple #[.agg #[.slice to62 (rpL (rfL l ss i) (ss.getD i ByteArray.empty)).length tc63], iN .i64 (rpN (rfL l ss i) (ss.getD i ByteArray.empty))]) rfl rfl (by kernel_rfl) (by kernel_rfl) (fun _ _ => (by kernel_rfl)) ?_
     refine wk_val (i := 7) (.agg #[.slice to62 (rpL (rfL l ss i) (ss.getD i ByteArray.empty)).length tc63]) rfl rfl (by kernel_rfl) (by kernel_rfl) (fun _ _ => (by kernel_rfl)) ?_
     refine wk_val (i := 8) (iN .i64 (rpN (rfL l ss i) (ss.getD i ByteArray.empty))) rfl rfl (by kernel_rfl) (by kernel_rfl) (fun _ _ => (by kernel_rfl)) ?_
     refine wk_one 10 (by kernel_rfl) ?_
     refine ef_fill (c' := #[.slice to62 (rpL (rfL l ss i) (ss.getD i ByteArray.empty)).length tc63]) rfl (by kernel_rfl) ((q47, 27, #[.slice to62 (rpL (rfL l ss i) (ss.getD i ByteArray.empty)).length tc63]) :: (q17, 74, #[iN .i64 k, iN .i64 0, .string label, .slice po (rfN l ss i).length pc]) :: (q12, 27, #[.slice to (rfL l ss i).length tc]) :: (q4, 27, #[.slice none 0 0]) :: (q1, 27, #[.slice ov l.length cv]) :: ((Lr ++ N) ++ N57)) h64 0 rfl rfl (by kernel_rfl) (by kernel_rfl) rfl (by kernel_rfl) (by kernel_rfl) (fun w' h' => (HA.sub h' (List.Sublist.cons _ (List.Sublist.cons_cons _ (List.Sublist.cons_cons _ (List.Sublist.cons_cons _ (List.Sublist.cons_cons _ (List.sublist_append_left _ _)))))))) ?_
     intro w66 (h65 : HA (bs w) ((q47, 27, #[.slice to62 (rpL (rfL l ss i) (ss.getD i ByteArray.empty)).length tc63]) :: (q17, 74, #[iN .i64 k, iN .i64 0, .string label, .slice po (rfN l ss i).length pc]) :: (q12, 27, #[.slice to (rfL l ss i).length tc]) :: (q4, 27, #[.slice none 0 0]) :: (q1, 27, #[.slice ov l.length cv]) :: ((Lr ++ N) ++ N57)) w66)
     refine wk_val (i := 11) (iN .i64 (rpN (rfL l ss i) (ss.getD i ByteArray.empty))) rfl rfl (by kernel_rfl) (by kernel_rfl) (fun _ _ => (by kernel_rfl)) ?_
     refine wk_end fun w67 hbx hsx => ?_
     have h68 := HA.keep _ _ h65 hbx
     exact ⟨N57, to62, tc63, q47, by kernel_rfl, hr54, h68⟩
   ·rintro _ w69 ⟨N32, to37, tc38, q40, rfl, hr29, h70⟩
    refine then_at rfl ?_
    refine zsr ?_
    refine wl_load h70 0 rfl Tryz.underlying27 rfl ?_
    refine wl_fill (c' := #[.slice to37 (rpL (rfL l ss i) (ss.getD i ByteArray.empty)).length tc38]) h70 2 rfl rfl ?_
    intro w71 (h72 : HA (bs w) ((q40, 27, #[.slice to37 (rpL (rfL l ss i) (ss.getD i ByteArray.empty)).length tc38]) :: (q17, 74, #[iN .i64 k, iN .i64 0, .string label, .slice po (rfN l ss i).length pc]) :: (q12, 27, #[.slice to37 (rpL (rfL l ss i) (ss.getD i ByteArray.empty)).length tc38]) :: (q4, 27, #[.slice none 0 0]) :: (q1, 27, #[.slice ov l.length cv]) :: ((Lr ++ N) ++ N32)) w71)
    refine znt ?_
    refine wl_region ?_
    refine zwv (.pointer (some ⟨q17, 3, none⟩)) ?_
    refine zwu (v := .slice po (rfN l ss i).length pc) (run_load1 Tryz.isAgg63 (((h72.get 1 rfl).cell 3).trans rfl)) ?_
    refine zwv (iN .i64 (rpN (rfL l ss i) (ss.getD i ByteArray.empty))) ?_
    refine wl_mks (n := 1) (m := 1) (c := #[iN .i64 (rpN (rfL l ss i) (ss.getD i ByteArray.empty))]) h72 3 ?_
    intro q73 w74 (h75 : HA (bs w) ((q73, 3, #[iN .i64 (rpN (rfL l ss i) (ss.getD i ByteArray.empty))]) :: (q40, 27, #[.slice to37 (rpL (rfL l ss i) (ss.getD i ByteArray.empty)).length tc38]) :: (q17, 74, #[iN .i64 k, iN .i64 0, .string label, .slice po (rfN l ss i).length pc]) :: (q12, 27, #[.slice to37 (rpL (rfL l ss i) (ss.getD i ByteArray.empty)).length tc38]) :: (q4, 27, #[.slice none 0 0]) :: (q1, 27, #[.slice ov l.length cv]) :: ((Lr ++ N) ++ N32)) w74)
    have h76 : HA (bs w) ((q73, 3, #[iN .i64 (rpN (rfL l ss i) (ss.getD i ByteArray.empty))]) :: (Lr ++ ([(q40, 27, #[.slice to37 (rpL (rfL l ss i) (ss.getD i ByteArray.empty)).length tc38]), (q17, 74, #[iN .i64 k, iN .i64 0, .string label, .slice po (rfN l ss i).length pc]), (q12, 27, #[.slice to37 (rpL (rfL l ss i) (ss.getD i ByteArray.empty)).length tc38]), (q4, 27, #[.slice none 0 0]), (q1, 27, #[.slice ov l.length cv])] ++ (N ++ N32)))) w74 := HA.perm h75 (perm_row _ [(q40, 27, #[.slice to37 (rpL (rfL l ss i) (ss.getD i ByteArray.empty)).length tc38]), (q17, 74, #[iN .i64 k, iN .i64 0, .string label, .slice po (rfN l ss i).length pc]), (q12, 27, #[.slice to37 (rpL (rfL l ss i) (ss.getD i ByteArray.empty)).length tc38]), (q4, 27, #[.slice none 0 0]), (q1, 27, #[.slice ov l.length cv])] Lr N N32)
    refine wl_append (m := 1) (c := 1) (Lr := Lr) hR h76 _ 8 Tryz.underlying63 info3 rfl rfl (by rw [rfN_len]; unfold maxLen; omega) (by rw [rfN_len]; omega) ?_
    intro v2 w77 Lr2 hR2 h78
    have h79 : HA (bs w) ((q40, 27, #[.slice to37 (rpL (rfL l ss i) (ss.getD i ByteArray.empty)).length tc38]) :: (q17, 74, #[iN .i64 k, iN .i64 0, .string label, .slice po (rfN l ss i).length pc]) :: (q12, 27, #[.slice to37 (rpL (rfL l ss i) (ss.getD i ByteArray.empty)).length tc38]) :: (q4, 27, #[.slice none 0 0]) :: (q1, 27, #[.slice ov l.length cv]) :: (Lr2 ++ (N ++ N32))) w77 := HA.perm h78 (perm_back [(q40, 27, #[.slice to37 (rpL (rfL l ss i) (ss.getD i ByteArray.empty)).length tc38]), (q17, 74, #[iN .i64 k, iN .i64 0, .string label, .slice po (rfN l ss i).length pc]), (q12, 27, #[.slice to37 (rpL (rfL l ss i) (ss.getD i ByteArray.empty)).length tc38]), (q4, 27, #[.slice none 0 0]), (q1, 27, #[.slice ov l.length cv])] Lr2 (N ++ N32))
    obtain ⟨po2, pc2, rfl⟩ := hR2.form
    refine zwv (.pointer (some ⟨q17, 3, none⟩)) ?_
    refine wl_putv (v := .slice po2 ((rfN l ss i).length + 1) pc2) h79 1 rfl 3 (by show 3 < 4; decide) Tryz.sizeOf63 ?_
    intro w80 (h81 : HA (bs w) ((q40, 27, #[.slice to37 (rpL (rfL l ss i) (ss.getD i ByteArray.empty)).length tc38]) :: (q17, 74, #[iN .i64 k, iN .i64 0, .string label, .slice po2 ((rfN l ss i).length + 1) pc2]) :: (q12, 27, #[.slice to37 (rpL (rfL l ss i) (ss.getD i ByteArray.empty)).length tc38]) :: (q4, 27, #[.slice none 0 0]) :: (q1, 27, #[.slice ov l.length cv]) :: (Lr2 ++ (N ++ N32))) w80)
    refine wl_nil ?_
    refine block_normal ?_
    refine then_at rfl ?_
    refine wl_region ?_
    refine zwv (iN .i64 i) ?_
    refine zwu (run_add (k := .i64) (a := i) (b := 1) (by simp only [top]; omega)) ?_
    refine zwv (iN .i64 (i + 1)) ?_
    refine wl_nil ?_
    have e3 : (rfN l ss (i + 1)).length = (rfN l ss i).length + 1 := by rw [rfN, List.length_append]; rfl
    have hR3 : Row 3 1 (.slice po2 ((rfN l ss i).length + 1) pc2) ((rfN l ss i).length + 1) ((rfN l ss (i + 1)).map (iN .i64 ·)) Lr2 := by rw [rfN, List.map_append]; exact hR2
    rw [← e3] at hR3
    have h82 := h81.tl
    rw [← e3] at h82
    exact then_I (zex (⟨po2, pc2, to37, tc38, N ++ N32, Lr2, RTL.mono hr29 (fun x hx => by simp only [List.mem_append] at hx ⊢; rcases hx with h | h | h <;> simp [h]), hR3, h82⟩))
  ·rintro _ w83 ⟨u22, rfl, ⟨po, pc, to, tc, N, Lr, hr, hR, hA⟩⟩
   obtain ⟨po2, pc2, e1, hri⟩ := Row.ril (RL := Lr ++ (N ++ RL)) hR (fun x hx => List.mem_append_left _ hx)
   cases e1
   have hll2 := rfL_len l ss ss.length
   refine wp_seq ?_
   refine zsr ?_
   refine zwv (iN .i64 ss.length) ?_
   refine zwv (.slice o ss.length c) ?_
   refine zwv (iN .i64 ss.length) ?_
   refine zwu (run_lss (k := .i64) (a := ss.length) (b := ss.length) false (decide_eq_false (by omega))) ?_
   refine znt ?_
   refine zcf ?_
   refine wp_exit ?_
   repeat first | refine then_exit ?_ | refine block_exit ?_ | refine block_exit_ne (by decide) ?_
   refine then_at rfl ?_
   refine wp_seq ?_
   refine zsr ?_
   refine zwv (iN .i64 k) ?_
   refine zwu (run_eqi (k := .i64) (a := k) (b := 4) false (ht := (decide_eq_false (by omega)))) ?_
   refine znt ?_
   refine zcf ?_
   refine wp_skip ?_
   refine then_at rfl ?_
   refine zsr ?_
   refine wl_load hA 1 rfl Tryz.underlying27 rfl ?_
   refine wl_load hA 0 rfl Tryz.underlying74 rfl ?_
   refine wl_callx enter29 #[.agg (#[.slice to (rfL l ss ss.length).length tc]), .agg (#[iN .i64 k, iN .i64 0, .string label, .slice po (rfN l ss ss.length).length pc])] (putl_any (RL := Lr ++ (N ++ RL)) (RTL.mono hr (fun x hx => List.mem_append_right _ hx)) (fun x hx => (hS.join hA (N := Lr ++ N) (fun x hx => by simp only [List.mem_cons, List.mem_append] at hx ⊢; rcases hx with h | h <;> simp [h])) x (by rw [List.append_assoc]; exact hx)) (rfL_ps hl _) (by omega) (⟨k, 0, label, (rfN l ss ss.length)⟩ : Q4) (o := po) (c := pc) hri) ?_
   rintro _ w90 ⟨_, N87, rfl, hr84, hN86, hb85⟩
   refine ⟨_, rfl, ?_⟩
   obtain ⟨o88, c89, rfl⟩ := hr84.form
   have h91 : HA (bs w) ((q17, 74, #[iN .i64 k, iN .i64 0, .string label, .slice po (rfN l ss ss.length).length pc]) :: (q12, 27, #[.slice to (rfL l ss ss.length).length tc]) :: (q4, 27, #[.slice none 0 0]) :: (q1, 27, #[.slice ov l.length cv]) :: ((Lr ++ N) ++ N87)) w90 := HA.addL hA hb85 hN86
   have hpl2 := (putN_le (rfL l ss ss.length) (⟨k, 0, label, (rfN l ss ss.length)⟩ : Q4))
   refine zwv (.tuple #[.agg #[.slice o88 (putL (rfL l ss ss.length) (⟨k, 0, label, (rfN l ss ss.length)⟩ : Q4)).length c89], iN .i64 (putN (rfL l ss ss.length) (⟨k, 0, label, (rfN l ss ss.length)⟩ : Q4))]) ?_
   refine zwv (.agg #[.slice o88 (putL (rfL l ss ss.length) (⟨k, 0, label, (rfN l ss ss.length)⟩ : Q4)).length c89]) ?_
   refine zwv (iN .i64 (putN (rfL l ss ss.length) (⟨k, 0, label, (rfN l ss ss.length)⟩ : Q4))) ?_
   refine wl_fill (c' := #[.slice o88 (putL (rfL l ss ss.length) (⟨k, 0, label, (rfN l ss ss.length)⟩ : Q4)).length c89]) h91 1 rfl rfl ?_
   intro w92 (h93 : HA (bs w) ((q17, 74, #[iN .i64 k, iN .i64 0, .string label, .slice po (rfN l ss ss.length).length pc]) :: (q12, 27, #[.slice o88 (putL (rfL l ss ss.length) (⟨k, 0, label, (rfN l ss ss.length)⟩ : Q4)).length c89]) :: (q4, 27, #[.slice none 0 0]) :: (q1, 27, #[.slice ov l.length cv]) :: ((Lr ++ N) ++ N87)) w92)
   refine zwv (iN .i64 (putN (rfL l ss ss.length) (⟨k, 0, label, (rfN l ss ss.length)⟩ : Q4))) ?_
   refine znt ?_
   refine wp_seq ?_
   refine zsr ?_
   refine zwv (.pointer (some ⟨q12, 0, none⟩)) ?_
   refine zwu (v := .slice o88 (putL (rfL l ss ss.length) (⟨k, 0, label, (rfN l ss ss.length)⟩ : Q4)).length c89) (run_load1 Tryz.isAgg25 (((h93.get 1 rfl).cell 0).trans rfl)) ?_
   refine zwv (iN .i64 ((putL (rfL l ss ss.length) (⟨k, 0, label, (rfN l ss ss.length)⟩ : Q4)).length)) ?_
   refine zwu (run_gtr (k := .i64) (a := (putL (rfL l ss ss.length) (⟨k, 0, label, (rfN l ss ss.length)⟩ : Q4)).length) (b := 65536) false (decide_eq_false (by omega))) ?_
   refine znt ?_
   refine zcf ?_
   refine wp_skip ?_
   refine then_at rfl ?_
   refine wp_seq ?_
   refine wp_region_wk (HA (bs w) ((q17, 74, #[iN .i64 k, iN .i64 0, .string label, .slice po (rfN l ss ss.length).length pc]) :: (q12, 27, #[.slice o88 (putL (rfL l ss ss.length) (⟨k, 0, label, (rfN l ss ss.length)⟩ : Q4)).length c89]) :: (q1, 27, #[.slice ov l.length cv]) :: ((Lr ++ N) ++ N87))) (fun A w' => A = ⟨(.agg #[.slice ov l.length cv] :: iN .i64 k :: .string label :: .slice o ss.length c :: pt q1 :: un :: un :: un :: pt q4 :: .string (txt (putN (rfL l ss ss.length) (⟨k, 0, label, (rfN l ss ss.length)⟩ : Q4))) :: iN .i64 0 :: .bool false :: iN .i64 ss.length :: pt q12 :: pt q17 :: iN .i64 ss.length :: u22 16 :: u22 17 :: un :: un :: un :: iN .i64 (putN (rfL l ss ss.length) (⟨k, 0, label, (rfN l ss ss.length)⟩ : Q4)) :: iN .i64 k :: .slice o ss.length c :: iN .i64 ss.length :: .bool true :: .bool false :: .bool false :: .string label :: .bool false :: .bool false :: un :: un :: .bool false :: .bool false :: un :: .string label :: iN .i64 label.size :: .bool false :: iN .i64 ss.length :: .slice o ss.length c :: iN .i64 ss.length :: .bool false :: u9 43 :: u9 44 :: u9 45 :: u9 46 :: u9 47 :: u9 48 :: u9 49 :: u9 50 :: u9 51 :: u9 52 :: u9 53 :: .bool false :: un :: .agg (#[.slice ov l.length cv]) :: iN .i64 k :: .string label :: .agg #[iN .i64 k, iN .i64 0, .string label, .slice none 0 0] :: iN .i64 ss.length :: .slice o ss.length c :: iN .i64 ss.length :: .bool false :: u22 64 :: u22 65 :: u22 66 :: u22 67 :: u22 68 :: u22 69 :: u22 70 :: u22 71 :: u22 72 :: u22 73 :: u22 74 :: u22 75 :: u22 76 :: u22 77 :: u22 78 :: u22 79 :: u22 80 :: u22 81 :: iN .i64 k :: .bool false :: un :: un :: un :: un :: un :: un :: un :: un :: un :: un :: un :: un :: un :: un :: un :: un :: un :: un :: un :: un :: un :: un :: un :: un :: un :: un :: un :: un :: .tuple #[.agg #[.slice o88 (putL (rfL l ss ss.length) (⟨k, 0, label, (rfN l ss ss.length)⟩ : Q4)).length c89], iN .i64 (putN (rfL l ss ss.length) (⟨k, 0, label, (rfN l ss ss.length)⟩ : Q4))] :: .agg (#[.slice to (rfL l ss ss.length).length tc]) :: .agg (#[iN .i64 k, iN .i64 0, .string label, .slice po (rfN l ss ss.length).length pc]) :: .tuple #[.agg #[.slice o88 (putL (rfL l ss ss.length) (⟨k, 0, label, (rfN l ss ss.length)⟩ : Q4)).length c89], iN .i64 (putN (rfL l ss ss.length) (⟨k, 0, label, (rfN l ss ss.length)⟩ : Q4))] :: .agg #[.slice o88 (putL (rfL l ss ss.length) (⟨k, 0, label, (rfN l ss ss.length)⟩ : Q4)).length c89] :: iN .i64 (putN (rfL l ss ss.length) (⟨k, 0, label, (rfN l ss ss.length)⟩ : Q4)) :: pt q12 :: .slice o88 (putL (rfL l ss ss.length) (⟨k, 0, label, (rfN l ss ss.length)⟩ : Q4)).length c89 :: iN .i64 ((putL (rfL l ss ss.length) (⟨k, 0, label, (rfN l ss ss.length)⟩ : Q4)).length) :: .bool false :: un :: .agg (#[.slice o88 (putL (rfL l ss ss.length) (⟨k, 0, label, (rfN l ss ss.length)⟩ : Q4)).length c89]) :: iN .i64 (putN (rfL l ss ss.length) (⟨k, 0, label, (rfN l ss ss.length)⟩ : Q4)) :: .string (txt (putN (rfL l ss ss.length) (⟨k, 0, label, (rfN l ss ss.length)⟩ : Q4))) :: List.replicate 0 un).toArray, []⟩ ∧ HA (bs w) ((q17, 74, #[iN .i64 k, iN .i64 0, .string label, .slice po (rfN l ss ss.length).length pc]) :: (q12, 27, #[.slice o88 (putL (rfL l ss ss.length) (⟨k, 0, label, (rfN l ss ss.length)⟩ : Q4)).length c89]) :: (q4, 27, #[.slice o88 (putL (rfL l ss ss.length) (⟨k, 0, label, (rfN l ss ss.length)⟩ : Q4)).length c89]) :: (q1, 27, #[.slice ov l.length cv]) :: ((Lr ++ N) ++ N87)) w') 6 (by kernel_rfl) (by kernel_rfl) (by kernel_rfl) (by kernel_rfl) (by kernel_rfl) (HA.sub h93.drew (List.Sublist.cons_cons _ (List.Sublist.cons_cons _ (List.Sublist.cons _ (List.Sublist.cons_cons _ (List.Sublist.refl _)))))) ?_ ?_
   ·have h94 := h93.drew
    refine wk_val (i := 0) (.agg (#[.slice o88 (putL (rfL l ss ss.length) (⟨k, 0, label, (rfN l ss ss.length)⟩ : Q4)).length c89])) rfl rfl (by kernel_rfl) (by kernel_rfl) (fun w' h' => run_load_blk (h'.get 1 rfl) Tryz.underlying27 rfl) ?_
    refine wk_val (i := 1) (iN .i64 (putN (rfL l ss ss.length) (⟨k, 0, label, (rfN l ss ss.length)⟩ : Q4))) rfl rfl (by kernel_rfl) (by kernel_rfl) (fun _ _ => (by kernel_rfl)) ?_
    refine wk_call (i := 2) (.string (txt (putN (rfL l ss ss.length) (⟨k, 0, label, (rfN l ss ss.length)⟩ : Q4)))) HA.keep rfl rfl (by kernel_rfl) (by kernel_rfl) enter30 #[iN .i64 (putN (rfL l ss ss.length) (⟨k, 0, label, (rfN l ss ss.length)⟩ : Q4))] (by kernel_rfl) (fun w' h' => rtext_any (putN (rfL l ss ss.length) (⟨k, 0, label, (rfN l ss ss.length)⟩ : Q4)) (by omega) w') ?_
    refine wk_one 3 (by kernel_rfl) ?_
    refine ef_fill (c' := #[.slice o88 (putL (rfL l ss ss.length) (⟨k, 0, label, (rfN l ss ss.length)⟩ : Q4)).length c89]) rfl (by kernel_rfl) ((q17, 74, #[iN .i64 k, iN .i64 0, .string label, .slice po (rfN l ss ss.length).length pc]) :: (q12, 27, #[.slice o88 (putL (rfL l ss ss.length) (⟨k, 0, label, (rfN l ss ss.length)⟩ : Q4)).length c89]) :: (q4, 27, #[.slice o88 (putL (rfL l ss ss.length) (⟨k, 0, label, (rfN l ss ss.length)⟩ : Q4)).length c89]) :: (q1, 27, #[.slice ov l.length cv]) :: ((Lr ++ N) ++ N87)) h94 2 rfl rfl (by kernel_rfl) (by kernel_rfl) rfl (by kernel_rfl) (by kernel_rfl) (fun w' h' => (HA.sub h' (List.Sublist.cons_cons _ (List.Sublist.cons_cons _ (List.Sublist.cons _ (List.Sublist.cons_cons _ (List.Sublist.refl _))))))) ?_
    intro w96 (h95 : HA (bs w) ((q17, 74, #[iN .i64 k, iN .i64 0, .string label, .slice po (rfN l ss ss.length).length pc]) :: (q12, 27, #[.slice o88 (putL (rfL l ss ss.length) (⟨k, 0, label, (rfN l ss ss.length)⟩ : Q4)).length c89]) :: (q4, 27, #[.slice o88 (putL (rfL l ss ss.length) (⟨k, 0, label, (rfN l ss ss.length)⟩ : Q4)).length c89]) :: (q1, 27, #[.slice ov l.length cv]) :: ((Lr ++ N) ++ N87)) w96)
    refine wk_val (i := 4) (.string (txt (putN (rfL l ss ss.length) (⟨k, 0, label, (rfN l ss ss.length)⟩ : Q4)))) rfl rfl (by kernel_rfl) (by kernel_rfl) (fun _ _ => (by kernel_rfl)) ?_
    refine wk_val (i := 5) (iN .i64 0) rfl rfl (by kernel_rfl) (by kernel_rfl) (fun _ _ => (by kernel_rfl)) ?_
    refine wk_end fun w97 hbx hsx => ?_
    have h98 := HA.keep _ _ h95 hbx
    exact ⟨by kernel_rfl, h98⟩
   ·rintro _ w99 ⟨rfl, h100⟩
    refine then_at rfl ?_
    refine wp_ret ?_
    repeat first | refine then_ret ?_ | refine block_ret ?_
    have hX : (rmX (rfL l ss ss.length) k label (rfN l ss ss.length)) = (⟨k, 0, label, (rfN l ss ss.length)⟩ : Q4) := by unfold rmX rmN rmP; rw [if_neg hk4, if_neg hk4]
    rw [hX]
    exact bodyPost_ret (v := .tuple #[.agg #[.slice o88 (putL (rfL l ss ss.length) (⟨k, 0, label, (rfN l ss ss.length)⟩ : Q4)).length c89], .string (txt (putN (rfL l ss ss.length) (⟨k, 0, label, (rfN l ss ss.length)⟩ : Q4))), iN .i64 0]) (res_cell_tmp2 (p := 8) (r := 9) (r2 := 10) (by kernel_rfl) (by kernel_rfl) (by kernel_rfl) (by kernel_rfl) (h100.get 2 rfl) Tryz.underlying27 rfl (by kernel_rfl)) rfl ⟨_, ((Lr ++ N) ++ N87), rfl, RTL.mono hr84 (fun x hx => by simp only [List.mem_append] at hx ⊢; rcases hx with h | h | h | h <;> simp [h]), HA.newerS h100 (List.Sublist.cons _ (List.Sublist.cons _ (List.Sublist.cons _ (List.Sublist.cons _ (List.Sublist.refl _))))), h100.old.old⟩
theorem rmk_n {w : World} {ov : Option Addr} {cv : Nat} {l : List Q4} {RL : BL} (h : RTL (.slice ov l.length cv) l RL) (hS : Stand w RL) (hl : ∀ q ∈ l, q.ps.length ≤ 1000) (hll : l.length ≤ 50000) (k : Nat) (label : ByteArray) (ss : List ByteArray) (o : Option Addr) (c : Nat) (hp : ss = [] ∨ ∃ pq cs, o = some ⟨pq, 0, none⟩ ∧ PreS cs ss ∧ Blk w pq 9 cs) (hsl : ss.length ≤ 100) (hlab : label.size ≤ 65536) (hss : ∀ i, (ss.getD i ByteArray.empty).size ≤ 65536) (hcnt : cntB k ss.length = true) (hlb : ¬ label = { data := #[] }) (hk5 : k = 5) :
  Calls Tryz.prog 15 #[.agg #[.slice ov l.length cv], iN .i64 k, .string label, .slice o ss.length c] w fun e w' => ∃ v' N, e = .returned (.tuple #[.agg #[v'], .string (txt (putN (rfL l ss ss.length) (rmX (rfL l ss ss.length) k label (rfN l ss ss.length)))), iN .i64 0]) ∧ RTL v' (putL (rfL l ss ss.length) (rmX (rfL l ss ss.length) k label (rfN l ss ss.length))) (N ++ RL) ∧ Newer w.heap.size w' N ∧ Below w.heap.size w w' := by
 have H0 := HA.start w
 go_enter Tryz.func15, Tryz.ntmps15
 refine zsr ?_
 refine wl_make (c := #[.slice ov l.length cv]) H0 27 ?_
 intro q1 w2 (h3 : HA (bs w) [(q1, 27, #[.slice ov l.length cv])] w2)
 refine wl_make (c := #[.slice none 0 0]) h3 27 ?_
 intro q4 w5 (h6 : HA (bs w) [(q4, 27, #[.slice none 0 0]), (q1, 27, #[.slice ov l.length cv])] w5)
 refine zwv (.string ({ data := #[] })) ?_
 refine zwv (iN .i64 0) ?_
 refine znt ?_
 refine wp_seq ?_
 refine zsr ?_
 refine zwv (iN .i64 k) ?_
 refine zwv (.slice o ss.length c) ?_
 refine zwv (iN .i64 ss.length) ?_
 refine wl_call (v := .bool true) h6 enter38 #[iN .i64 k, iN .i64 ss.length] (by have := count_any k ss.length w5; rw [hcnt] at this; exact this) ?_
 intro w7 h8
 refine zwv (.bool false) ?_
 refine zwv (.bool false) ?_
 refine zwv (.string label) ?_
 refine zwu (run_nes (s := label) (t := { data := #[] }) true (decide_eq_false hlb)) ?_
 refine zwv (.bool true) ?_
 refine zwv (iN .i64 k) ?_
 refine zwu (run_nei (k := .i64) (a := k) (b := 5) false (by rw [hk5]; decide)) ?_
 refine zwv (.bool false) ?_
 refine zwv (.bool false) ?_
 refine znt ?_
 refine zcf ?_
 refine wp_skip ?_
 refine then_at rfl ?_
 refine zsr ?_
 refine zwv (.string label) ?_
 refine zwu (run_len (s := label)) ?_
 refine zwu (run_gtr (k := .i64) (a := label.size) (b := 65536) false (decide_eq_false (by omega))) ?_
 refine zwv (.bool false) ?_
 refine znt ?_
 refine wp_seq ?_
 refine zsr ?_
 refine zwv (iN .i64 0) ?_
 refine znt ?_
 refine wp_block ?_
 refine wp_count (fun i A w' => ∃ u9 : Nat → Value, A = ⟨(.agg #[.slice ov l.length cv] :: iN .i64 k :: .string label :: .slice o ss.length c :: pt q1 :: un :: un :: un :: pt q4 :: .string ({ data := #[] }) :: iN .i64 0 :: .bool false :: iN .i64 i :: un :: un :: un :: un :: un :: un :: un :: un :: un :: iN .i64 k :: .slice o ss.length c :: iN .i64 ss.length :: .bool true :: .bool false :: .bool false :: .string label :: .bool true :: .bool true :: iN .i64 k :: .bool false :: .bool false :: .bool false :: un :: .string label :: iN .i64 label.size :: .bool false :: u9 39 :: u9 40 :: u9 41 :: u9 42 :: u9 43 :: u9 44 :: u9 45 :: u9 46 :: u9 47 :: u9 48 :: u9 49 :: u9 50 :: u9 51 :: u9 52 :: u9 53 :: List.replicate 72 un).toArray, []⟩ ∧ HA (bs w) [(q4, 27, #[.slice none 0 0]), (q1, 27, #[.slice ov l.length cv])] w') ss.length ?_ ?_ ?_
 ·exact zex h8
 ·rintro i hk _ w10 ⟨u9, rfl, hA⟩
  obtain ⟨pq, cs, rfl, hps, hm⟩ := hp.resolve_left (by intro e; rw [e] at hk; simp at hk)
  have hsi := hss i
  refine wp_seq ?_
  refine zsr ?_
  refine zwv (iN .i64 i) ?_
  refine zwv (.slice (some ⟨pq, 0, none⟩) ss.length c) ?_
  refine zwv (iN .i64 ss.length) ?_
  refine zwu (run_lss (k := .i64) (a := i) (b := ss.length) true (decide_eq_true (by omega))) ?_
  refine znt ?_
  refine zct ?_
  refine wp_skip ?_
  refine then_at rfl ?_
  refine wp_seq ?_
  refine wp_block ?_
  refine wl_region ?_
  refine zwv (.bool false) ?_
  refine zwv (.bool false) ?_
  refine zwv (.slice (some ⟨pq, 0, none⟩) ss.length c) ?_
  refine zwv (iN .i64 i) ?_
  refine zwu (v := .pointer (some ⟨pq, i, none⟩)) (run_addr_slice (q := pq) (n := ss.length) (m := c) (a := i) Tryz.underlying30 Tryz.sizeOf9 (by omega)) ?_
  refine zwu (v := .string (ss.getD i ByteArray.empty)) (run_load1 Tryz.isAgg9 (((hm.keep hA.old.old).cell i).trans (hps i hk))) ?_
  refine zwu (run_len (s := ss.getD i ByteArray.empty)) ?_
  refine zwu (run_gtr (k := .i64) (a := (ss.getD i ByteArray.empty).size) (b := 65536) false (decide_eq_false (by omega))) ?_
  refine zwv (.bool false) ?_
  refine zwv (.bool false) ?_
  refine wl_nil ?_
  refine block_normal ?_
  refine then_at rfl ?_
  refine wl_region ?_
  refine zwv (iN .i64 i) ?_
  refine zwu (run_add (k := .i64) (a := i) (b := 1) (by simp only [top]; omega)) ?_
  refine zwv (iN .i64 (i + 1)) ?_
  refine wl_nil ?_
  exact then_I (zex hA)
 ·rintro _ w11 ⟨u9, rfl, hA⟩
  refine wp_seq ?_
  refine zsr ?_
  refine zwv (iN .i64 ss.length) ?_
  refine zwv (.slice o ss.length c) ?_
  refine zwv (iN .i64 ss.length) ?_
  refine zwu (run_lss (k := .i64) (a := ss.length) (b := ss.length) false (decide_eq_false (by omega))) ?_
  refine znt ?_
  refine zcf ?_
  refine wp_exit ?_
  repeat first | refine then_exit ?_ | refine block_exit ?_ | refine block_exit_ne (by decide) ?_
  refine then_at rfl ?_
  refine wp_seq ?_
  refine zsr ?_
  refine zwv (.bool false) ?_
  refine znt ?_
  refine zcf ?_
  refine wp_skip ?_
  refine then_at rfl ?_
  refine zsr ?_
  refine wl_load hA 1 rfl Tryz.underlying27 rfl ?_
  refine wl_make (c := #[.slice none 0 0]) hA 27 ?_
  intro q12 w13 (h14 : HA (bs w) [(q12, 27, #[.slice none 0 0]), (q4, 27, #[.slice none 0 0]), (q1, 27, #[.slice ov l.length cv])] w13)
  refine wl_fill (c' := #[.slice ov l.length cv]) h14 0 rfl rfl ?_
  intro w15 (h16 : HA (bs w) [(q12, 27, #[.slice ov l.length cv]), (q4, 27, #[.slice none 0 0]), (q1, 27, #[.slice ov l.length cv])] w15)
  refine znt ?_
  refine zsr ?_
  refine zwv (iN .i64 k) ?_
  refine zwv (.string label) ?_
  refine zwv (.agg #[iN .i64 k, iN .i64 0, .string label, .slice none 0 0]) ?_
  refine wl_make (c := #[iN .i64 0, iN .i64 0, .string ({ data := #[] }), .slice none 0 0]) h16 74 ?_
  intro q17 w18 (h19 : HA (bs w) [(q17, 74, #[iN .i64 0, iN .i64 0, .string ({ data := #[] }), .slice none 0 0]), (q12, 27, #[.slice ov l.length cv]), (q4, 27, #[.slice none 0 0]), (q1, 27, #[.slice ov l.length cv])] w18)
  refine wl_fill (c' := #[iN .i64 k, iN .i64 0, .string label, .slice none 0 0]) h19 0 rfl rfl ?_
  intro w20 (h21 : HA (bs w) [(q17, 74, #[iN .i64 k, iN .i64 0, .string label, .slice none 0 0]), (q12, 27, #[.slice ov l.length cv]), (q4, 27, #[.slice none 0 0]), (q1, 27, #[.slice ov l.length cv])] w20)
  refine znt ?_
  refine wp_seq ?_
  refine zsr ?_
  refine zwv (iN .i64 0) ?_
  refine znt ?_
  have HT0 := h21
  refine wp_block ?_
  refine wp_count (fun i A w' => ∃ u22 : Nat → Value, A = ⟨(.agg #[.slice ov l.length cv] :: iN .i64 k :: .string label :: .slice o ss.length c :: pt q1 :: un :: un :: un :: pt q4 :: .string ({ data := #[] }) :: iN .i64 0 :: .bool false :: iN .i64 ss.length :: pt q12 :: pt q17 :: iN .i64 i :: u22 16 :: u22 17 :: un :: un :: un :: un :: iN .i64 k :: .slice o ss.length c :: iN .i64 ss.length :: .bool true :: .bool false :: .bool false :: .string label :: .bool true :: .bool true :: iN .i64 k :: .bool false :: .bool false :: .bool false :: un :: .string label :: iN .i64 label.size :: .bool false :: iN .i64 ss.length :: .slice o ss.length c :: iN .i64 ss.length :: .bool false :: u9 43 :: u9 44 :: u9 45 :: u9 46 :: u9 47 :: u9 48 :: u9 49 :: u9 50 :: u9 51 :: u9 52 :: u9 53 :: .bool false :: un :: .agg (#[.slice ov l.length cv]) :: iN .i64 k :: .string label :: .agg #[iN .i64 k, iN .i64 0, .string label, .slice none 0 0] :: u22 60 :: u22 61 :: u22 62 :: u22 63 :: u22 64 :: u22 65 :: u22 66 :: u22 67 :: u22 68 :: u22 69 :: u22 70 :: u22 71 :: u22 72 :: u22 73 :: u22 74 :: u22 75 :: u22 76 :: u22 77 :: u22 78 :: u22 79 :: u22 80 :: u22 81 :: List.replicate 44 un).toArray, []⟩ ∧ ∃ po pc to tc N Lr, RTL (.slice to (rfL l ss i).length tc) (rfL l ss i) (N ++ RL) ∧ Row 3 1 (.slice po (rfN l ss i).length pc) (rfN l ss i).length ((rfN l ss i).map (iN .i64 ·)) Lr ∧ HA (bs w) ((q17, 74, #[iN .i64 k, iN .i64 0, .string label, .slice po (rfN l ss i).length pc]) :: (q12, 27, #[.slice to (rfL l ss i).length tc]) :: (q4, 27, #[.slice none 0 0]) :: (q1, 27, #[.slice ov l.length cv]) :: (Lr ++ N)) w') ss.length ?_ ?_ ?_
  ·exact zex (⟨none, 0, ov, cv, [], [], h, Row.nil 3 1, HT0⟩)
  ·rintro i hk _ w23 ⟨u22, rfl, ⟨po, pc, to, tc, N, Lr, hr, hR, hA⟩⟩
   obtain ⟨pq, cs, rfl, hps, hm⟩ := hp.resolve_left (by intro e; rw [e] at hk; simp at hk)
   refine wp_seq ?_
   refine zsr ?_
   refine zwv (iN .i64 i) ?_
   refine zwv (.slice (some ⟨pq, 0, none⟩) ss.length c) ?_
   refine zwv (iN .i64 ss.length) ?_
   refine zwu (run_lss (k := .i64) (a := i) (b := ss.length) true (decide_eq_true (by omega))) ?_
   refine znt ?_
   refine zct ?_
   refine wp_skip ?_
   refine then_at rfl ?_
   refine wp_seq ?_
   refine wp_block ?_
   refine wp_seq ?_
   refine wp_region_wk (HA (bs w) ((q17, 74, #[iN .i64 k, iN .i64 0, .string label, .slice po (rfN l ss i).length pc]) :: (q12, 27, #[.slice to (rfL l ss i).length tc]) :: (q4, 27, #[.slice none 0 0]) :: (q1, 27, #[.slice ov l.length cv]) :: (Lr ++ N))) (fun A w' => ∃ (N32 : BL) (to37 : Option Addr) (tc38 : Nat) (q40 : Nat), A = ⟨(.agg #[.slice ov l.length cv] :: iN .i64 k :: .string label :: .slice (some ⟨pq, 0, none⟩) ss.length c :: pt q1 :: un :: un :: un :: pt q4 :: .string ({ data := #[] }) :: iN .i64 0 :: .bool false :: iN .i64 ss.length :: pt q12 :: pt q17 :: iN .i64 i :: pt q40 :: iN .i64 (rpN (rfL l ss i) (ss.getD i ByteArray.empty)) :: un :: un :: un :: un :: iN .i64 k :: .slice (some ⟨pq, 0, none⟩) ss.length c :: iN .i64 ss.length :: .bool true :: .bool false :: .bool false :: .string label :: .bool true :: .bool true :: iN .i64 k :: .bool false :: .bool false :: .bool false :: un :: .string label :: iN .i64 label.size :: .bool false :: iN .i64 ss.length :: .slice (some ⟨pq, 0, none⟩) ss.length c :: iN .i64 ss.length :: .bool false :: u9 43 :: u9 44 :: u9 45 :: u9 46 :: u9 47 :: u9 48 :: u9 49 :: u9 50 :: u9 51 :: u9 52 :: u9 53 :: .bool false :: un :: .agg (#[.slice ov l.length cv]) :: iN .i64 k :: .string label :: .agg #[iN .i64 k, iN .i64 0, .string label, .slice none 0 0] :: iN .i64 i :: .slice (some ⟨pq, 0, none⟩) ss.length c :: iN .i64 ss.length :: .bool true :: u22 64 :: u22 65 :: .tuple #[.agg #[.slice to37 (rpL (rfL l ss i) (ss.getD i ByteArray.empty)).length tc38], iN .i64 (rpN (rfL l ss i) (ss.getD i ByteArray.empty))] :: .agg (#[.slice to (rfL l ss i).length tc]) :: .slice (some ⟨pq, 0, none⟩) ss.length c :: iN .i64 i :: .pointer (some ⟨pq, i, none⟩) :: .string (ss.getD i ByteArray.empty) :: .tuple #[.agg #[.slice to37 (rpL (rfL l ss i) (ss.getD i ByteArray.empty)).length tc38], iN .i64 (rpN (rfL l ss i) (ss.getD i ByteArray.empty))] :: .agg #[.slice to37 (rpL (rfL l ss i) (ss.getD i ByteArray.empty)).length tc38] :: iN .i64 (rpN (rfL l ss i) (ss.getD i ByteArray.empty)) :: u22 75 :: u22 76 :: u22 77 :: u22 78 :: u22 79 :: u22 80 :: u22 81 :: List.replicate 44 un).toArray, []⟩ ∧ RTL (.slice to37 (rpL (rfL l ss i) (ss.getD i ByteArray.empty)).length tc38) (rpL (rfL l ss i) (ss.getD i ByteArray.empty)) (N32 ++ (N ++ RL)) ∧ HA (bs w) ((q40, 27, #[.slice to37 (rpL (rfL l ss i) (ss.getD i ByteArray.empty)).length tc38]) :: (q17, 74, #[iN .i64 k, iN .i64 0, .string label, .slice po (rfN l ss i).length pc]) :: (q12, 27, #[.slice to (rfL l ss i).length tc]) :: (q4, 27, #[.slice none 0 0]) :: (q1, 27, #[.slice ov l.length cv]) :: ((Lr ++ N) ++ N32)) w') 12 (by kernel_rfl) (by kernel_rfl) (by kernel_rfl) (by kernel_rfl) (by kernel_rfl) (hA.drew) ?_ ?_
   ·have h24 := hA.drew
    refine wk_val (i := 0) (.agg (#[.slice to (rfL l ss i).length tc])) rfl rfl (by kernel_rfl) (by kernel_rfl) (fun w' h' => run_load_blk (h'.get 1 rfl) Tryz.underlying27 rfl) ?_
    refine wk_val (i := 1) (.slice (some ⟨pq, 0, none⟩) ss.length c) rfl rfl (by kernel_rfl) (by kernel_rfl) (fun _ _ => (by kernel_rfl)) ?_
    refine wk_val (i := 2) (iN .i64 i) rfl rfl (by kernel_rfl) (by kernel_rfl) (fun _ _ => (by kernel_rfl)) ?_
    refine wk_val (i := 3) (.pointer (some ⟨pq, i, none⟩)) rfl rfl (by kernel_rfl) (by kernel_rfl) (fun _ _ => (run_addr_slice (q := pq) (n := ss.length) (m := c) (a := i) Tryz.underlying30 Tryz.sizeOf9 (by omega))) ?_
    refine wk_val (i := 4) (.string (ss.getD i ByteArray.empty)) rfl rfl (by kernel_rfl) (by kernel_rfl) (fun w' h' => run_load1 Tryz.isAgg9 (((hm.keep h'.old.old).cell i).trans (hps i hk))) ?_
    refine wk_two 5 9 (by kernel_rfl) ?_ ?_
    ·refine ef_callx rfl (by kernel_rfl) h24 enter32 #[.agg (#[.slice to (rfL l ss i).length tc]), .string (ss.getD i ByteArray.empty)] (by kernel_rfl) (fun w33 h34 => rpart_any hr (hS.join h34 (N := N) (fun x hx => by simp [hx])) (rfL_ps hl i) (by have := rfL_len l ss i; omega) (ss.getD i ByteArray.empty)) ?_
     rintro w33 h34 _ w35 hpost
     obtain ⟨tv36, N32, rfl, hr29, hN31, hb30⟩ := hpost
     obtain ⟨to37, tc38, rfl⟩ := hr29.form
     have h39 : HA (bs w) ((q17, 74, #[iN .i64 k, iN .i64 0, .string label, .slice po (rfN l ss i).length pc]) :: (q12, 27, #[.slice to (rfL l ss i).length tc]) :: (q4, 27, #[.slice none 0 0]) :: (q1, 27, #[.slice ov l.length cv]) :: ((Lr ++ N) ++ N32)) w35 := HA.addL h34 hb30 hN31
     refine ⟨_, rfl, (HA.sub h39 (List.Sublist.cons_cons _ (List.Sublist.cons_cons _ (List.Sublist.cons_cons _ (List.Sublist.cons_cons _ (List.sublist_append_left _ _)))))), ?_⟩
     refine wk_val (i := 6) (.tuple #[.agg #[.slice to37 (rpL (rfL l ss i) (ss.getD i ByteArray.empty)).length tc38], iN .i64 (rpN (rfL l ss i) (ss.getD i ByteArray.empty))]) rfl rfl (by kernel_rfl) (by kernel_rfl) (fun _ _ => (by kernel_rfl)) ?_
     refine wk_val (i := 7) (.agg #[.slice to37 (rpL (rfL l ss i) (ss.getD i ByteArray.empty)).length tc38]) rfl rfl (by kernel_rfl) (by kernel_rfl) (fun _ _ => (by kernel_rfl)) ?_
     refine wk_val (i := 8) (iN .i64 (rpN (rfL l ss i) (ss.getD i ByteArray.empty))) rfl rfl (by kernel_rfl) (by kernel_rfl) (fun _ _ => (by kernel_rfl)) ?_
     refine wk_one 9 (by kernel_rfl) ?_
     refine ef_make (c := #[.slice none 0 0]) rfl (by kernel_rfl) h39 27 (fun _ => (by kernel_rfl)) (fun q w' h' => (HA.sub h' (List.Sublist.cons _ (List.Sublist.cons_cons _ (List.Sublist.cons_cons _ (List.Sublist.cons_cons _ (List.Sublist.cons_cons _ (List.sublist_append_left _ _)))))))) ?_
     intro q40 w42 (h41 : HA (bs w) ((q40, 27, #[.slice none 0 0]) :: (q17, 74, #[iN .i64 k, iN .i64 0, .string label, .slice po (rfN l ss i).length pc]) :: (q12, 27, #[.slice to (rfL l ss i).length tc]) :: (q4, 27, #[.slice none 0 0]) :: (q1, 27, #[.slice ov l.length cv]) :: ((Lr ++ N) ++ N32)) w42)
     refine wk_one 10 (by kernel_rfl) ?_
     refine ef_fill (c' := #[.slice to37 (rpL (rfL l ss i) (ss.getD i ByteArray.empty)).length tc38]) rfl (by kernel_rfl) ((q40, 27, #[.slice to37 (rpL (rfL l ss i) (ss.getD i ByteArray.empty)).length tc38]) :: (q17, 74, #[iN .i64 k, iN .i64 0, .string label, .slice po (rfN l ss i).length pc]) :: (q12, 27, #[.slice to (rfL l ss i).length tc]) :: (q4, 27, #[.slice none 0 0]) :: (q1, 27, #[.slice ov l.length cv]) :: ((Lr ++ N) ++ N32)) h41 0 rfl rfl (by kernel_rfl) (by kernel_rfl) rfl (by kernel_rfl) (by kernel_rfl) (fun w' h' => (HA.sub h' (List.Sublist.cons _ (List.Sublist.cons_cons _ (List.Sublist.cons_cons _ (List.Sublist.cons_cons _ (List.Sublist.cons_cons _ (List.sublist_append_left _ _)))))))) ?_
     intro w44 (h43 : HA (bs w) ((q40, 27, #[.slice to37 (rpL (rfL l ss i) (ss.getD i ByteArray.empty)).length tc38]) :: (q17, 74, #[iN .i64 k, iN .i64 0, .string label, .slice po (rfN l ss i).length pc]) :: (q12, 27, #[.slice to (rfL l ss i).length tc]) :: (q4, 27, #[.slice none 0 0]) :: (q1, 27, #[.slice ov l.length cv]) :: ((Lr ++ N) ++ N32)) w44)
     refine wk_val (i := 11) (iN .i64 (rpN (rfL l ss i) (ss.getD i ByteArray.empty))) rfl rfl (by kernel_rfl) (by kernel_rfl) (fun _ _ => (by kernel_rfl)) ?_
     refine wk_end fun w45 hbx hsx => ?_
     have h46 := HA.keep _ _ h43 hbx
     exact ⟨N32, to37, tc38, q40, by kernel_rfl, hr29, h46⟩
    ·refine ef_make (c := #[.slice none 0 0]) rfl (by kernel_rfl) h24 27 (fun _ => (by kernel_rfl)) (fun q w' h' => (HA.sub h' (List.Sublist.cons _ (List.Sublist.cons_cons _ (List.Sublist.cons_cons _ (List.Sublist.cons_cons _ (List.Sublist.cons_cons _ (List.Sublist.refl _)))))))) ?_
     intro q47 w49 (h48 : HA (bs w) ((q47, 27, #[.slice none 0 0]) :: (q17, 74, #[iN .i64 k, iN .i64 0, .string label, .slice po (rfN l ss i).length pc]) :: (q12, 27, #[.slice to (rfL l ss i).length tc]) :: (q4, 27, #[.slice none 0 0]) :: (q1, 27, #[.slice ov l.length cv]) :: (Lr ++ N)) w49)
     refine wk_one 5 (by kernel_rfl) ?_
     refine ef_callx rfl (by kernel_rfl) h48 enter32 #[.agg (#[.slice to (rfL l ss i).length tc]), .string (ss.getD i ByteArray.empty)] (by kernel_rfl) (fun w58 h59 => rpart_any hr (hS.join h59 (N := N) (fun x hx => by simp [hx])) (rfL_ps hl i) (by have := rfL_len l ss i; omega) (ss.getD i ByteArray.empty)) ?_
     rintro w58 h59 _ w60 hpost
     obtain ⟨tv61, N57, rfl, hr54, hN56, hb55⟩ := hpost
     obtain ⟨to62, tc63, rfl⟩ := hr54.form
     have h64 : HA (bs w) ((q47, 27, #[.slice none 0 0]) :: (q17, 74, #[iN .i64 k, iN .i64 0, .string label, .slice po (rfN l ss i).length pc]) :: (q12, 27, #[.slice to (rfL l ss i).length tc]) :: (q4, 27, #[.slice none 0 0]) :: (q1, 27, #[.slice ov l.length cv]) :: ((Lr ++ N) ++ N57)) w60 := HA.addL h59 hb55 hN56
     refine ⟨_, rfl, (HA.sub h64 (List.Sublist.cons _ (List.Sublist.cons_cons _ (List.Sublist.cons_cons _ (List.Sublist.cons_cons _ (List.Sublist.cons_cons _ (List.sublist_append_left _ _))))))), ?_⟩
     refine wk_val (i := 6) (.tuple #[.agg #[.slice to62 (rpL (rfL l ss i) (ss.getD i ByteArray.empty)).length tc63], iN .i64 (rpN (rfL l ss i) (ss.getD i ByteArray.empty))]) rfl rfl (by kernel_rfl) (by kernel_rfl) (fun _ _ => (by kernel_rfl)) ?_
     refine wk_val (i := 7) (.agg #[.slice to62 (rpL (rfL l ss i) (ss.getD i ByteArray.empty)).length tc63]) rfl rfl (by kernel_rfl) (by kernel_rfl) (fun _ _ => (by kernel_rfl)) ?_
     refine wk_val (i := 8) (iN .i64 (rpN (rfL l ss i) (ss.getD i ByteArray.empty))) rfl rfl (by kernel_rfl) (by kernel_rfl) (fun _ _ => (by kernel_rfl)) ?_
     refine wk_one 10 (by kernel_rfl) ?_
     refine ef_fill (c' := #[.slice to62 (rpL (rfL l ss i) (ss.getD i ByteArray.empty)).length tc63]) rfl (by kernel_rfl) ((q47, 27, #[.slice to62 (rpL (rfL l ss i) (ss.getD i ByteArray.empty)).length tc63]) :: (q17, 74, #[iN .i64 k, iN .i64 0, .string label, .slice po (rfN l ss i).length pc]) :: (q12, 27, #[.slice to (rfL l ss i).length tc]) :: (q4, 27, #[.slice none 0 0]) :: (q1, 27, #[.slice ov l.length cv]) :: ((Lr ++ N) ++ N57)) h64 0 rfl rfl (by kernel_rfl) (by kernel_rfl) rfl (by kernel_rfl) (by kernel_rfl) (fun w' h' => (HA.sub h' (List.Sublist.cons _ (List.Sublist.cons_cons _ (List.Sublist.cons_cons _ (List.Sublist.cons_cons _ (List.Sublist.cons_cons _ (List.sublist_append_left _ _)))))))) ?_
     intro w66 (h65 : HA (bs w) ((q47, 27, #[.slice to62 (rpL (rfL l ss i) (ss.getD i ByteArray.empty)).length tc63]) :: (q17, 74, #[iN .i64 k, iN .i64 0, .string label, .slice po (rfN l ss i).length pc]) :: (q12, 27, #[.slice to (rfL l ss i).length tc]) :: (q4, 27, #[.slice none 0 0]) :: (q1, 27, #[.slice ov l.length cv]) :: ((Lr ++ N) ++ N57)) w66)
     refine wk_val (i := 11) (iN .i64 (rpN (rfL l ss i) (ss.getD i ByteArray.empty))) rfl rfl (by kernel_rfl) (by kernel_rfl) (fun _ _ => (by kernel_rfl)) ?_
     refine wk_end fun w67 hbx hsx => ?_
     have h68 := HA.keep _ _ h65 hbx
     exact ⟨N57, to62, tc63, q47, by kernel_rfl, hr54, h68⟩
   ·rintro _ w69 ⟨N32, to37, tc38, q40, rfl, hr29, h70⟩
    refine then_at rfl ?_
    refine zsr ?_
    refine wl_load h70 0 rfl Tryz.underlying27 rfl ?_
    refine wl_fill (c' := #[.slice to37 (rpL (rfL l ss i) (ss.getD i ByteArray.empty)).length tc38]) h70 2 rfl rfl ?_
    intro w71 (h72 : HA (bs w) ((q40, 27, #[.slice to37 (rpL (rfL l ss i) (ss.getD i ByteArray.empty)).length tc38]) :: (q17, 74, #[iN .i64 k, iN .i64 0, .string label, .slice po (rfN l ss i).length pc]) :: (q12, 27, #[.slice to37 (rpL (rfL l ss i) (ss.getD i ByteArray.empty)).length tc38]) :: (q4, 27, #[.slice none 0 0]) :: (q1, 27, #[.slice ov l.length cv]) :: ((Lr ++ N) ++ N32)) w71)
    refine znt ?_
    refine wl_region ?_
    refine zwv (.pointer (some ⟨q17, 3, none⟩)) ?_
    refine zwu (v := .slice po (rfN l ss i).length pc) (run_load1 Tryz.isAgg63 (((h72.get 1 rfl).cell 3).trans rfl)) ?_
    refine zwv (iN .i64 (rpN (rfL l ss i) (ss.getD i ByteArray.empty))) ?_
    refine wl_mks (n := 1) (m := 1) (c := #[iN .i64 (rpN (rfL l ss i) (ss.getD i ByteArray.empty))]) h72 3 ?_
    intro q73 w74 (h75 : HA (bs w) ((q73, 3, #[iN .i64 (rpN (rfL l ss i) (ss.getD i ByteArray.empty))]) :: (q40, 27, #[.slice to37 (rpL (rfL l ss i) (ss.getD i ByteArray.empty)).length tc38]) :: (q17, 74, #[iN .i64 k, iN .i64 0, .string label, .slice po (rfN l ss i).length pc]) :: (q12, 27, #[.slice to37 (rpL (rfL l ss i) (ss.getD i ByteArray.empty)).length tc38]) :: (q4, 27, #[.slice none 0 0]) :: (q1, 27, #[.slice ov l.length cv]) :: ((Lr ++ N) ++ N32)) w74)
    have h76 : HA (bs w) ((q73, 3, #[iN .i64 (rpN (rfL l ss i) (ss.getD i ByteArray.empty))]) :: (Lr ++ ([(q40, 27, #[.slice to37 (rpL (rfL l ss i) (ss.getD i ByteArray.empty)).length tc38]), (q17, 74, #[iN .i64 k, iN .i64 0, .string label, .slice po (rfN l ss i).length pc]), (q12, 27, #[.slice to37 (rpL (rfL l ss i) (ss.getD i ByteArray.empty)).length tc38]), (q4, 27, #[.slice none 0 0]), (q1, 27, #[.slice ov l.length cv])] ++ (N ++ N32)))) w74 := HA.perm h75 (perm_row _ [(q40, 27, #[.slice to37 (rpL (rfL l ss i) (ss.getD i ByteArray.empty)).length tc38]), (q17, 74, #[iN .i64 k, iN .i64 0, .string label, .slice po (rfN l ss i).length pc]), (q12, 27, #[.slice to37 (rpL (rfL l ss i) (ss.getD i ByteArray.empty)).length tc38]), (q4, 27, #[.slice none 0 0]), (q1, 27, #[.slice ov l.length cv])] Lr N N32)
    refine wl_append (m := 1) (c := 1) (Lr := Lr) hR h76 _ 8 Tryz.underlying63 info3 rfl rfl (by rw [rfN_len]; unfold maxLen; omega) (by rw [rfN_len]; omega) ?_
    intro v2 w77 Lr2 hR2 h78
    have h79 : HA (bs w) ((q40, 27, #[.slice to37 (rpL (rfL l ss i) (ss.getD i ByteArray.empty)).length tc38]) :: (q17, 74, #[iN .i64 k, iN .i64 0, .string label, .slice po (rfN l ss i).length pc]) :: (q12, 27, #[.slice to37 (rpL (rfL l ss i) (ss.getD i ByteArray.empty)).length tc38]) :: (q4, 27, #[.slice none 0 0]) :: (q1, 27, #[.slice ov l.length cv]) :: (Lr2 ++ (N ++ N32))) w77 := HA.perm h78 (perm_back [(q40, 27, #[.slice to37 (rpL (rfL l ss i) (ss.getD i ByteArray.empty)).length tc38]), (q17, 74, #[iN .i64 k, iN .i64 0, .string label, .slice po (rfN l ss i).length pc]), (q12, 27, #[.slice to37 (rpL (rfL l ss i) (ss.getD i ByteArray.empty)).length tc38]), (q4, 27, #[.slice none 0 0]), (q1, 27, #[.slice ov l.length cv])] Lr2 (N ++ N32))
    obtain ⟨po2, pc2, rfl⟩ := hR2.form
    refine zwv (.pointer (some ⟨q17, 3, none⟩)) ?_
    refine wl_putv (v := .slice po2 ((rfN l ss i).length + 1) pc2) h79 1 rfl 3 (by show 3 < 4; decide) Tryz.sizeOf63 ?_
    intro w80 (h81 : HA (bs w) ((q40, 27, #[.slice to37 (rpL (rfL l ss i) (ss.getD i ByteArray.empty)).length tc38]) :: (q17, 74, #[iN .i64 k, iN .i64 0, .string label, .slice po2 ((rfN l ss i).length + 1) pc2]) :: (q12, 27, #[.slice to37 (rpL (rfL l ss i) (ss.getD i ByteArray.empty)).length tc38]) :: (q4, 27, #[.slice none 0 0]) :: (q1, 27, #[.slice ov l.length cv]) :: (Lr2 ++ (N ++ N32))) w80)
    refine wl_nil ?_
    refine block_normal ?_
    refine then_at rfl ?_
    refine wl_region ?_
    refine zwv (iN .i64 i) ?_
    refine zwu (run_add (k := .i64) (a := i) (b := 1) (by simp only [top]; omega)) ?_
    refine zwv (iN .i64 (i + 1)) ?_
    refine wl_nil ?_
    have e3 : (rfN l ss (i + 1)).length = (rfN l ss i).length + 1 := by rw [rfN, List.length_append]; rfl
    have hR3 : Row 3 1 (.slice po2 ((rfN l ss i).length + 1) pc2) ((rfN l ss i).length + 1) ((rfN l ss (i + 1)).map (iN .i64 ·)) Lr2 := by rw [rfN, List.map_append]; exact hR2
    rw [← e3] at hR3
    have h82 := h81.tl
    rw [← e3] at h82
    exact then_I (zex (⟨po2, pc2, to37, tc38, N ++ N32, Lr2, RTL.mono hr29 (fun x hx => by simp only [List.mem_append] at hx ⊢; rcases hx with h | h | h <;> simp [h]), hR3, h82⟩))
  ·rintro _ w83 ⟨u22, rfl, ⟨po, pc, to, tc, N, Lr, hr, hR, hA⟩⟩
   obtain ⟨po2, pc2, e1, hri⟩ := Row.ril (RL := Lr ++ (N ++ RL)) hR (fun x hx => List.mem_append_left _ hx)
   cases e1
   have hll2 := rfL_len l ss ss.length
   refine wp_seq ?_
   refine zsr ?_
   refine zwv (iN .i64 ss.length) ?_
   refine zwv (.slice o ss.length c) ?_
   refine zwv (iN .i64 ss.length) ?_
   refine zwu (run_lss (k := .i64) (a := ss.length) (b := ss.length) false (decide_eq_false (by omega))) ?_
   refine znt ?_
   refine zcf ?_
   refine wp_exit ?_
   repeat first | refine then_exit ?_ | refine block_exit ?_ | refine block_exit_ne (by decide) ?_
   refine then_at rfl ?_
   refine wp_seq ?_
   refine zsr ?_
   refine zwv (iN .i64 k) ?_
   refine zwu (run_eqi (k := .i64) (a := k) (b := 4) false (ht := (decide_eq_false (by omega)))) ?_
   refine znt ?_
   refine zcf ?_
   refine wp_skip ?_
   refine then_at rfl ?_
   refine zsr ?_
   refine wl_load hA 1 rfl Tryz.underlying27 rfl ?_
   refine wl_load hA 0 rfl Tryz.underlying74 rfl ?_
   refine wl_callx enter29 #[.agg (#[.slice to (rfL l ss ss.length).length tc]), .agg (#[iN .i64 k, iN .i64 0, .string label, .slice po (rfN l ss ss.length).length pc])] (putl_any (RL := Lr ++ (N ++ RL)) (RTL.mono hr (fun x hx => List.mem_append_right _ hx)) (fun x hx => (hS.join hA (N := Lr ++ N) (fun x hx => by simp only [List.mem_cons, List.mem_append] at hx ⊢; rcases hx with h | h <;> simp [h])) x (by rw [List.append_assoc]; exact hx)) (rfL_ps hl _) (by omega) (⟨k, 0, label, (rfN l ss ss.length)⟩ : Q4) (o := po) (c := pc) hri) ?_
   rintro _ w90 ⟨_, N87, rfl, hr84, hN86, hb85⟩
   refine ⟨_, rfl, ?_⟩
   obtain ⟨o88, c89, rfl⟩ := hr84.form
   have h91 : HA (bs w) ((q17, 74, #[iN .i64 k, iN .i64 0, .string label, .slice po (rfN l ss ss.length).length pc]) :: (q12, 27, #[.slice to (rfL l ss ss.length).length tc]) :: (q4, 27, #[.slice none 0 0]) :: (q1, 27, #[.slice ov l.length cv]) :: ((Lr ++ N) ++ N87)) w90 := HA.addL hA hb85 hN86
   have hpl2 := (putN_le (rfL l ss ss.length) (⟨k, 0, label, (rfN l ss ss.length)⟩ : Q4))
   refine zwv (.tuple #[.agg #[.slice o88 (putL (rfL l ss ss.length) (⟨k, 0, label, (rfN l ss ss.length)⟩ : Q4)).length c89], iN .i64 (putN (rfL l ss ss.length) (⟨k, 0, label, (rfN l ss ss.length)⟩ : Q4))]) ?_
   refine zwv (.agg #[.slice o88 (putL (rfL l ss ss.length) (⟨k, 0, label, (rfN l ss ss.length)⟩ : Q4)).length c89]) ?_
   refine zwv (iN .i64 (putN (rfL l ss ss.length) (⟨k, 0, label, (rfN l ss ss.length)⟩ : Q4))) ?_
   refine wl_fill (c' := #[.slice o88 (putL (rfL l ss ss.length) (⟨k, 0, label, (rfN l ss ss.length)⟩ : Q4)).length c89]) h91 1 rfl rfl ?_
   intro w92 (h93 : HA (bs w) ((q17, 74, #[iN .i64 k, iN .i64 0, .string label, .slice po (rfN l ss ss.length).length pc]) :: (q12, 27, #[.slice o88 (putL (rfL l ss ss.length) (⟨k, 0, label, (rfN l ss ss.length)⟩ : Q4)).length c89]) :: (q4, 27, #[.slice none 0 0]) :: (q1, 27, #[.slice ov l.length cv]) :: ((Lr ++ N) ++ N87)) w92)
   refine zwv (iN .i64 (putN (rfL l ss ss.length) (⟨k, 0, label, (rfN l ss ss.length)⟩ : Q4))) ?_
   refine znt ?_
   refine wp_seq ?_
   refine zsr ?_
   refine zwv (.pointer (some ⟨q12, 0, none⟩)) ?_
   refine zwu (v := .slice o88 (putL (rfL l ss ss.length) (⟨k, 0, label, (rfN l ss ss.length)⟩ : Q4)).length c89) (run_load1 Tryz.isAgg25 (((h93.get 1 rfl).cell 0).trans rfl)) ?_
   refine zwv (iN .i64 ((putL (rfL l ss ss.length) (⟨k, 0, label, (rfN l ss ss.length)⟩ : Q4)).length)) ?_
   refine zwu (run_gtr (k := .i64) (a := (putL (rfL l ss ss.length) (⟨k, 0, label, (rfN l ss ss.length)⟩ : Q4)).length) (b := 65536) false (decide_eq_false (by omega))) ?_
   refine znt ?_
   refine zcf ?_
   refine wp_skip ?_
   refine then_at rfl ?_
   refine wp_seq ?_
   refine wp_region_wk (HA (bs w) ((q17, 74, #[iN .i64 k, iN .i64 0, .string label, .slice po (rfN l ss ss.length).length pc]) :: (q12, 27, #[.slice o88 (putL (rfL l ss ss.length) (⟨k, 0, label, (rfN l ss ss.length)⟩ : Q4)).length c89]) :: (q1, 27, #[.slice ov l.length cv]) :: ((Lr ++ N) ++ N87))) (fun A w' => A = ⟨(.agg #[.slice ov l.length cv] :: iN .i64 k :: .string label :: .slice o ss.length c :: pt q1 :: un :: un :: un :: pt q4 :: .string (txt (putN (rfL l ss ss.length) (⟨k, 0, label, (rfN l ss ss.length)⟩ : Q4))) :: iN .i64 0 :: .bool false :: iN .i64 ss.length :: pt q12 :: pt q17 :: iN .i64 ss.length :: u22 16 :: u22 17 :: un :: un :: un :: iN .i64 (putN (rfL l ss ss.length) (⟨k, 0, label, (rfN l ss ss.length)⟩ : Q4)) :: iN .i64 k :: .slice o ss.length c :: iN .i64 ss.length :: .bool true :: .bool false :: .bool false :: .string label :: .bool true :: .bool true :: iN .i64 k :: .bool false :: .bool false :: .bool false :: un :: .string label :: iN .i64 label.size :: .bool false :: iN .i64 ss.length :: .slice o ss.length c :: iN .i64 ss.length :: .bool false :: u9 43 :: u9 44 :: u9 45 :: u9 46 :: u9 47 :: u9 48 :: u9 49 :: u9 50 :: u9 51 :: u9 52 :: u9 53 :: .bool false :: un :: .agg (#[.slice ov l.length cv]) :: iN .i64 k :: .string label :: .agg #[iN .i64 k, iN .i64 0, .string label, .slice none 0 0] :: iN .i64 ss.length :: .slice o ss.length c :: iN .i64 ss.length :: .bool false :: u22 64 :: u22 65 :: u22 66 :: u22 67 :: u22 68 :: u22 69 :: u22 70 :: u22 71 :: u22 72 :: u22 73 :: u22 74 :: u22 75 :: u22 76 :: u22 77 :: u22 78 :: u22 79 :: u22 80 :: u22 81 :: iN .i64 k :: .bool false :: un :: un :: un :: un :: un :: un :: un :: un :: un :: un :: un :: un :: un :: un :: un :: un :: un :: un :: un :: un :: un :: un :: un :: un :: un :: un :: un :: un :: .tuple #[.agg #[.slice o88 (putL (rfL l ss ss.length) (⟨k, 0, label, (rfN l ss ss.length)⟩ : Q4)).length c89], iN .i64 (putN (rfL l ss ss.length) (⟨k, 0, label, (rfN l ss ss.length)⟩ : Q4))] :: .agg (#[.slice to (rfL l ss ss.length).length tc]) :: .agg (#[iN .i64 k, iN .i64 0, .string label, .slice po (rfN l ss ss.length).length pc]) :: .tuple #[.agg #[.slice o88 (putL (rfL l ss ss.length) (⟨k, 0, label, (rfN l ss ss.length)⟩ : Q4)).length c89], iN .i64 (putN (rfL l ss ss.length) (⟨k, 0, label, (rfN l ss ss.length)⟩ : Q4))] :: .agg #[.slice o88 (putL (rfL l ss ss.length) (⟨k, 0, label, (rfN l ss ss.length)⟩ : Q4)).length c89] :: iN .i64 (putN (rfL l ss ss.length) (⟨k, 0, label, (rfN l ss ss.length)⟩ : Q4)) :: pt q12 :: .slice o88 (putL (rfL l ss ss.length) (⟨k, 0, label, (rfN l ss ss.length)⟩ : Q4)).length c89 :: iN .i64 ((putL (rfL l ss ss.length) (⟨k, 0, label, (rfN l ss ss.length)⟩ : Q4)).length) :: .bool false :: un :: .agg (#[.slice o88 (putL (rfL l ss ss.length) (⟨k, 0, label, (rfN l ss ss.length)⟩ : Q4)).length c89]) :: iN .i64 (putN (rfL l ss ss.length) (⟨k, 0, label, (rfN l ss ss.length)⟩ : Q4)) :: .string (txt (putN (rfL l ss ss.length) (⟨k, 0, label, (rfN l ss ss.length)⟩ : Q4))) :: List.replicate 0 un).toArray, []⟩ ∧ HA (bs w) ((q17, 74, #[iN .i64 k, iN .i64 0, .string label, .slice po (rfN l ss ss.length).length pc]) :: (q12, 27, #[.slice o88 (putL (rfL l ss ss.length) (⟨k, 0, label, (rfN l ss ss.length)⟩ : Q4)).length c89]) :: (q4, 27, #[.slice o88 (putL (rfL l ss ss.length) (⟨k, 0, label, (rfN l ss ss.length)⟩ : Q4)).length c89]) :: (q1, 27, #[.slice ov l.length cv]) :: ((Lr ++ N) ++ N87)) w') 6 (by kernel_rfl) (by kernel_rfl) (by kernel_rfl) (by kernel_rfl) (by kernel_rfl) (HA.sub h93.drew (List.Sublist.cons_cons _ (List.Sublist.cons_cons _ (List.Sublist.cons _ (List.Sublist.cons_cons _ (List.Sublist.refl _)))))) ?_ ?_
   ·have h94 := h93.drew
    refine wk_val (i := 0) (.agg (#[.slice o88 (putL (rfL l ss ss.length) (⟨k, 0, label, (rfN l ss ss.length)⟩ : Q4)).length c89])) rfl rfl (by kernel_rfl) (by kernel_rfl) (fun w' h' => run_load_blk (h'.get 1 rfl) Tryz.underlying27 rfl) ?_
    refine wk_val (i := 1) (iN .i64 (putN (rfL l ss ss.length) (⟨k, 0, label, (rfN l ss ss.length)⟩ : Q4))) rfl rfl (by kernel_rfl) (by kernel_rfl) (fun _ _ => (by kernel_rfl)) ?_
    refine wk_call (i := 2) (.string (txt (putN (rfL l ss ss.length) (⟨k, 0, label, (rfN l ss ss.length)⟩ : Q4)))) HA.keep rfl rfl (by kernel_rfl) (by kernel_rfl) enter30 #[iN .i64 (putN (rfL l ss ss.length) (⟨k, 0, label, (rfN l ss ss.length)⟩ : Q4))] (by kernel_rfl) (fun w' h' => rtext_any (putN (rfL l ss ss.length) (⟨k, 0, label, (rfN l ss ss.length)⟩ : Q4)) (by omega) w') ?_
    refine wk_one 3 (by kernel_rfl) ?_
    refine ef_fill (c' := #[.slice o88 (putL (rfL l ss ss.length) (⟨k, 0, label, (rfN l ss ss.length)⟩ : Q4)).length c89]) rfl (by kernel_rfl) ((q17, 74, #[iN .i64 k, iN .i64 0, .string label, .slice po (rfN l ss ss.length).length pc]) :: (q12, 27, #[.slice o88 (putL (rfL l ss ss.length) (⟨k, 0, label, (rfN l ss ss.length)⟩ : Q4)).length c89]) :: (q4, 27, #[.slice o88 (putL (rfL l ss ss.length) (⟨k, 0, label, (rfN l ss ss.length)⟩ : Q4)).length c89]) :: (q1, 27, #[.slice ov l.length cv]) :: ((Lr ++ N) ++ N87)) h94 2 rfl rfl (by kernel_rfl) (by kernel_rfl) rfl (by kernel_rfl) (by kernel_rfl) (fun w' h' => (HA.sub h' (List.Sublist.cons_cons _ (List.Sublist.cons_cons _ (List.Sublist.cons _ (List.Sublist.cons_cons _ (List.Sublist.refl _))))))) ?_
    intro w96 (h95 : HA (bs w) ((q17, 74, #[iN .i64 k, iN .i64 0, .string label, .slice po (rfN l ss ss.length).length pc]) :: (q12, 27, #[.slice o88 (putL (rfL l ss ss.length) (⟨k, 0, label, (rfN l ss ss.length)⟩ : Q4)).length c89]) :: (q4, 27, #[.slice o88 (putL (rfL l ss ss.length) (⟨k, 0, label, (rfN l ss ss.length)⟩ : Q4)).length c89]) :: (q1, 27, #[.slice ov l.length cv]) :: ((Lr ++ N) ++ N87)) w96)
    refine wk_val (i := 4) (.string (txt (putN (rfL l ss ss.length) (⟨k, 0, label, (rfN l ss ss.length)⟩ : Q4)))) rfl rfl (by kernel_rfl) (by kernel_rfl) (fun _ _ => (by kernel_rfl)) ?_
    refine wk_val (i := 5) (iN .i64 0) rfl rfl (by kernel_rfl) (by kernel_rfl) (fun _ _ => (by kernel_rfl)) ?_
    refine wk_end fun w97 hbx hsx => ?_
    have h98 := HA.keep _ _ h95 hbx
    exact ⟨by kernel_rfl, h98⟩
   ·rintro _ w99 ⟨rfl, h100⟩
    refine then_at rfl ?_
    refine wp_ret ?_
    repeat first | refine then_ret ?_ | refine block_ret ?_
    have hX : (rmX (rfL l ss ss.length) k label (rfN l ss ss.length)) = (⟨k, 0, label, (rfN l ss ss.length)⟩ : Q4) := by unfold rmX rmN rmP; rw [if_neg (by omega), if_neg (by omega)]
    rw [hX]
    exact bodyPost_ret (v := .tuple #[.agg #[.slice o88 (putL (rfL l ss ss.length) (⟨k, 0, label, (rfN l ss ss.length)⟩ : Q4)).length c89], .string (txt (putN (rfL l ss ss.length) (⟨k, 0, label, (rfN l ss ss.length)⟩ : Q4))), iN .i64 0]) (res_cell_tmp2 (p := 8) (r := 9) (r2 := 10) (by kernel_rfl) (by kernel_rfl) (by kernel_rfl) (by kernel_rfl) (h100.get 2 rfl) Tryz.underlying27 rfl (by kernel_rfl)) rfl ⟨_, ((Lr ++ N) ++ N87), rfl, RTL.mono hr84 (fun x hx => by simp only [List.mem_append] at hx ⊢; rcases hx with h | h | h | h <;> simp [h]), HA.newerS h100 (List.Sublist.cons _ (List.Sublist.cons _ (List.Sublist.cons _ (List.Sublist.cons _ (List.Sublist.refl _))))), h100.old.old⟩
theorem rmk_p {w : World} {ov : Option Addr} {cv : Nat} {l : List Q4} {RL : BL} (h : RTL (.slice ov l.length cv) l RL) (hS : Stand w RL) (hl : ∀ q ∈ l, q.ps.length ≤ 1000) (hll : l.length ≤ 50000) (k : Nat) (label : ByteArray) (ss : List ByteArray) (o : Option Addr) (c : Nat) (hp : ss = [] ∨ ∃ pq cs, o = some ⟨pq, 0, none⟩ ∧ PreS cs ss ∧ Blk w pq 9 cs) (hsl : ss.length ≤ 100) (hlab : label.size ≤ 65536) (hss : ∀ i, (ss.getD i ByteArray.empty).size ≤ 65536) (hcnt : cntB k ss.length = true) (hk4 : k = 4) (hs2 : ss.length = 2) (hlb : label = { data := #[] }) (hq : ∀ (hj : (rfN l ss ss.length).getD 1 0 < (rfL l ss ss.length).length), ((rfL l ss ss.length)[(rfN l ss ss.length).getD 1 0]).k = 3) (i3 : ∀ q ∈ (rfL l ss ss.length), q.k = 3 → q.ps.length = 1) :
  Calls Tryz.prog 15 #[.agg #[.slice ov l.length cv], iN .i64 k, .string label, .slice o ss.length c] w fun e w' => ∃ v' N, e = .returned (.tuple #[.agg #[v'], .string (txt (putN (rfL l ss ss.length) (rmX (rfL l ss ss.length) k label (rfN l ss ss.length)))), iN .i64 0]) ∧ RTL v' (putL (rfL l ss ss.length) (rmX (rfL l ss ss.length) k label (rfN l ss ss.length))) (N ++ RL) ∧ Newer w.heap.size w' N ∧ Below w.heap.size w w' := by
 have H0 := HA.start w
 go_enter Tryz.func15, Tryz.ntmps15
 refine zsr ?_
 refine wl_make (c := #[.slice ov l.length cv]) H0 27 ?_
 intro q1 w2 (h3 : HA (bs w) [(q1, 27, #[.slice ov l.length cv])] w2)
 refine wl_make (c := #[.slice none 0 0]) h3 27 ?_
 intro q4 w5 (h6 : HA (bs w) [(q4, 27, #[.slice none 0 0]), (q1, 27, #[.slice ov l.length cv])] w5)
 refine zwv (.string ({ data := #[] })) ?_
 refine zwv (iN .i64 0) ?_
 refine znt ?_
 refine wp_seq ?_
 refine zsr ?_
 refine zwv (iN .i64 k) ?_
 refine zwv (.slice o ss.length c) ?_
 refine zwv (iN .i64 ss.length) ?_
 refine wl_call (v := .bool true) h6 enter38 #[iN .i64 k, iN .i64 ss.length] (by have := count_any k ss.length w5; rw [hcnt] at this; exact this) ?_
 intro w7 h8
 refine zwv (.bool false) ?_
 refine zwv (.bool false) ?_
 refine zwv (.string label) ?_
 refine zwu (run_nes (s := label) (t := { data := #[] }) false (decide_eq_true hlb)) ?_
 refine zwv (.bool false) ?_
 refine wl_skip ?_
 refine wl_skip ?_
 refine zwv (.bool false) ?_
 refine zwv (.bool false) ?_
 refine znt ?_
 refine zcf ?_
 refine wp_skip ?_
 refine then_at rfl ?_
 refine zsr ?_
 refine zwv (.string label) ?_
 refine zwu (run_len (s := label)) ?_
 refine zwu (run_gtr (k := .i64) (a := label.size) (b := 65536) false (decide_eq_false (by omega))) ?_
 refine zwv (.bool false) ?_
 refine znt ?_
 refine wp_seq ?_
 refine zsr ?_
 refine zwv (iN .i64 0) ?_
 refine znt ?_
 refine wp_block ?_
 refine wp_count (fun i A w' => ∃ u9 : Nat → Value, A = ⟨(.agg #[.slice ov l.length cv] :: iN .i64 k :: .string label :: .slice o ss.length c :: pt q1 :: un :: un :: un :: pt q4 :: .string ({ data := #[] }) :: iN .i64 0 :: .bool false :: iN .i64 i :: un :: un :: un :: un :: un :: un :: un :: un :: un :: iN .i64 k :: .slice o ss.length c :: iN .i64 ss.length :: .bool true :: .bool false :: .bool false :: .string label :: .bool false :: .bool false :: un :: un :: .bool false :: .bool false :: un :: .string label :: iN .i64 label.size :: .bool false :: u9 39 :: u9 40 :: u9 41 :: u9 42 :: u9 43 :: u9 44 :: u9 45 :: u9 46 :: u9 47 :: u9 48 :: u9 49 :: u9 50 :: u9 51 :: u9 52 :: u9 53 :: List.replicate 72 un).toArray, []⟩ ∧ HA (bs w) [(q4, 27, #[.slice none 0 0]), (q1, 27, #[.slice ov l.length cv])] w') ss.length ?_ ?_ ?_
 ·exact zex h8
 ·rintro i hk _ w10 ⟨u9, rfl, hA⟩
  obtain ⟨pq, cs, rfl, hps, hm⟩ := hp.resolve_left (by intro e; rw [e] at hk; simp at hk)
  have hsi := hss i
  refine wp_seq ?_
  refine zsr ?_
  refine zwv (iN .i64 i) ?_
  refine zwv (.slice (some ⟨pq, 0, none⟩) ss.length c) ?_
  refine zwv (iN .i64 ss.length) ?_
  refine zwu (run_lss (k := .i64) (a := i) (b := ss.length) true (decide_eq_true (by omega))) ?_
  refine znt ?_
  refine zct ?_
  refine wp_skip ?_
  refine then_at rfl ?_
  refine wp_seq ?_
  refine wp_block ?_
  refine wl_region ?_
  refine zwv (.bool false) ?_
  refine zwv (.bool false) ?_
  refine zwv (.slice (some ⟨pq, 0, none⟩) ss.length c) ?_
  refine zwv (iN .i64 i) ?_
  refine zwu (v := .pointer (some ⟨pq, i, none⟩)) (run_addr_slice (q := pq) (n := ss.length) (m := c) (a := i) Tryz.underlying30 Tryz.sizeOf9 (by omega)) ?_
  refine zwu (v := .string (ss.getD i ByteArray.empty)) (run_load1 Tryz.isAgg9 (((hm.keep hA.old.old).cell i).trans (hps i hk))) ?_
  refine zwu (run_len (s := ss.getD i ByteArray.empty)) ?_
  refine zwu (run_gtr (k := .i64) (a := (ss.getD i ByteArray.empty).size) (b := 65536) false (decide_eq_false (by omega))) ?_
  refine zwv (.bool false) ?_
  refine zwv (.bool false) ?_
  refine wl_nil ?_
  refine block_normal ?_
  refine then_at rfl ?_
  refine wl_region ?_
  refine zwv (iN .i64 i) ?_
  refine zwu (run_add (k := .i64) (a := i) (b := 1) (by simp only [top]; omega)) ?_
  refine zwv (iN .i64 (i + 1)) ?_
  refine wl_nil ?_
  exact then_I (zex hA)
 ·rintro _ w11 ⟨u9, rfl, hA⟩
  refine wp_seq ?_
  refine zsr ?_
  refine zwv (iN .i64 ss.length) ?_
  refine zwv (.slice o ss.length c) ?_
  refine zwv (iN .i64 ss.length) ?_
  refine zwu (run_lss (k := .i64) (a := ss.length) (b := ss.length) false (decide_eq_false (by omega))) ?_
  refine znt ?_
  refine zcf ?_
  refine wp_exit ?_
  repeat first | refine then_exit ?_ | refine block_exit ?_ | refine block_exit_ne (by decide) ?_
  refine then_at rfl ?_
  refine wp_seq ?_
  refine zsr ?_
  refine zwv (.bool false) ?_
  refine znt ?_
  refine zcf ?_
  refine wp_skip ?_
  refine then_at rfl ?_
  refine zsr ?_
  refine wl_load hA 1 rfl Tryz.underlying27 rfl ?_
  refine wl_make (c := #[.slice none 0 0]) hA 27 ?_
  intro q12 w13 (h14 : HA (bs w) [(q12, 27, #[.slice none 0 0]), (q4, 27, #[.slice none 0 0]), (q1, 27, #[.slice ov l.length cv])] w13)
  refine wl_fill (c' := #[.slice ov l.length cv]) h14 0 rfl rfl ?_
  intro w15 (h16 : HA (bs w) [(q12, 27, #[.slice ov l.length cv]), (q4, 27, #[.slice none 0 0]), (q1, 27, #[.slice ov l.length cv])] w15)
  refine znt ?_
  refine zsr ?_
  refine zwv (iN .i64 k) ?_
  refine zwv (.string label) ?_
  refine zwv (.agg #[iN .i64 k, iN .i64 0, .string label, .slice none 0 0]) ?_
  refine wl_make (c := #[iN .i64 0, iN .i64 0, .string ({ data := #[] }), .slice none 0 0]) h16 74 ?_
  intro q17 w18 (h19 : HA (bs w) [(q17, 74, #[iN .i64 0, iN .i64 0, .string ({ data := #[] }), .slice none 0 0]), (q12, 27, #[.slice ov l.length cv]), (q4, 27, #[.slice none 0 0]), (q1, 27, #[.slice ov l.length cv])] w18)
  refine wl_fill (c' := #[iN .i64 k, iN .i64 0, .string label, .slice none 0 0]) h19 0 rfl rfl ?_
  intro w20 (h21 : HA (bs w) [(q17, 74, #[iN .i64 k, iN .i64 0, .string label, .slice none 0 0]), (q12, 27, #[.slice ov l.length cv]), (q4, 27, #[.slice none 0 0]), (q1, 27, #[.slice ov l.length cv])] w20)
  refine znt ?_
  refine wp_seq ?_
  refine zsr ?_
  refine zwv (iN .i64 0) ?_
  refine znt ?_
  have HT0 := h21
  refine wp_block ?_
  refine wp_count (fun i A w' => ∃ u22 : Nat → Value, A = ⟨(.agg #[.slice ov l.length cv] :: iN .i64 k :: .string label :: .slice o ss.length c :: pt q1 :: un :: un :: un :: pt q4 :: .string ({ data := #[] }) :: iN .i64 0 :: .bool false :: iN .i64 ss.length :: pt q12 :: pt q17 :: iN .i64 i :: u22 16 :: u22 17 :: un :: un :: un :: un :: iN .i64 k :: .slice o ss.length c :: iN .i64 ss.length :: .bool true :: .bool false :: .bool false :: .string label :: .bool false :: .bool false :: un :: un :: .bool false :: .bool false :: un :: .string label :: iN .i64 label.size :: .bool false :: iN .i64 ss.length :: .slice o ss.length c :: iN .i64 ss.length :: .bool false :: u9 43 :: u9 44 :: u9 45 :: u9 46 :: u9 47 :: u9 48 :: u9 49 :: u9 50 :: u9 51 :: u9 52 :: u9 53 :: .bool false :: un :: .agg (#[.slice ov l.length cv]) :: iN .i64 k :: .string label :: .agg #[iN .i64 k, iN .i64 0, .string label, .slice none 0 0] :: u22 60 :: u22 61 :: u22 62 :: u22 63 :: u22 64 :: u22 65 :: u22 66 :: u22 67 :: u22 68 :: u22 69 :: u22 70 :: u22 71 :: u22 72 :: u22 73 :: u22 74 :: u22 75 :: u22 76 :: u22 77 :: u22 78 :: u22 79 :: u22 80 :: u22 81 :: List.replicate 44 un).toArray, []⟩ ∧ ∃ po pc to tc N Lr, RTL (.slice to (rfL l ss i).length tc) (rfL l ss i) (N ++ RL) ∧ Row 3 1 (.slice po (rfN l ss i).length pc) (rfN l ss i).length ((rfN l ss i).map (iN .i64 ·)) Lr ∧ HA (bs w) ((q17, 74, #[iN .i64 k, iN .i64 0, .string label, .slice po (rfN l ss i).length pc]) :: (q12, 27, #[.slice to (rfL l ss i).length tc]) :: (q4, 27, #[.slice none 0 0]) :: (q1, 27, #[.slice ov l.length cv]) :: (Lr ++ N)) w') ss.length ?_ ?_ ?_
  ·exact zex (⟨none, 0, ov, cv, [], [], h, Row.nil 3 1, HT0⟩)
  ·rintro i hk _ w23 ⟨u22, rfl, ⟨po, pc, to, tc, N, Lr, hr, hR, hA⟩⟩
   obtain ⟨pq, cs, rfl, hps, hm⟩ := hp.resolve_left (by intro e; rw [e] at hk; simp at hk)
   refine wp_seq ?_
   refine zsr ?_
   refine zwv (iN .i64 i) ?_
   refine zwv (.slice (some ⟨pq, 0, none⟩) ss.length c) ?_
   refine zwv (iN .i64 ss.length) ?_
   refine zwu (run_lss (k := .i64) (a := i) (b := ss.length) true (decide_eq_true (by omega))) ?_
   refine znt ?_
   refine zct ?_
   refine wp_skip ?_
   refine then_at rfl ?_
   refine wp_seq ?_
   refine wp_block ?_
   refine wp_seq ?_
   refine wp_region_wk (HA (bs w) ((q17, 74, #[iN .i64 k, iN .i64 0, .string label, .slice po (rfN l ss i).length pc]) :: (q12, 27, #[.slice to (rfL l ss i).length tc]) :: (q4, 27, #[.slice none 0 0]) :: (q1, 27, #[.slice ov l.length cv]) :: (Lr ++ N))) (fun A w' => ∃ (N32 : BL) (to37 : Option Addr) (tc38 : Nat) (q40 : Nat), A = ⟨(.agg #[.slice ov l.length cv] :: iN .i64 k :: .string label :: .slice (some ⟨pq, 0, none⟩) ss.length c :: pt q1 :: un :: un :: un :: pt q4 :: .string ({ data := #[] }) :: iN .i64 0 :: .bool false :: iN .i64 ss.length :: pt q12 :: pt q17 :: iN .i64 i :: pt q40 :: iN .i64 (rpN (rfL l ss i) (ss.getD i ByteArray.empty)) :: un :: un :: un :: un :: iN .i64 k :: .slice (some ⟨pq, 0, none⟩) ss.length c :: iN .i64 ss.length :: .bool true :: .bool false :: .bool false :: .string label :: .bool false :: .bool false :: un :: un :: .bool false :: .bool false :: un :: .string label :: iN .i64 label.size :: .bool false :: iN .i64 ss.length :: .slice (some ⟨pq, 0, none⟩) ss.length c :: iN .i64 ss.length :: .bool false :: u9 43 :: u9 44 :: u9 45 :: u9 46 :: u9 47 :: u9 48 :: u9 49 :: u9 50 :: u9 51 :: u9 52 :: u9 53 :: .bool false :: un :: .agg (#[.slice ov l.length cv]) :: iN .i64 k :: .string label :: .agg #[iN .i64 k, iN .i64 0, .string label, .slice none 0 0] :: iN .i64 i :: .slice (some ⟨pq, 0, none⟩) ss.length c :: iN .i64 ss.length :: .bool true :: u22 64 :: u22 65 :: .tuple #[.agg #[.slice to37 (rpL (rfL l ss i) (ss.getD i ByteArray.empty)).length tc38], iN .i64 (rpN (rfL l ss i) (ss.getD i ByteArray.empty))] :: .agg (#[.slice to (rfL l ss i).length tc]) :: .slice (some ⟨pq, 0, none⟩) ss.length c :: iN .i64 i :: .pointer (some ⟨pq, i, none⟩) :: .string (ss.getD i ByteArray.empty) :: .tuple #[.agg #[.slice to37 (rpL (rfL l ss i) (ss.getD i ByteArray.empty)).length tc38], iN .i64 (rpN (rfL l ss i) (ss.getD i ByteArray.empty))] :: .agg #[.slice to37 (rpL (rfL l ss i) (ss.getD i ByteArray.empty)).length tc38] :: iN .i64 (rpN (rfL l ss i) (ss.getD i ByteArray.empty)) :: u22 75 :: u22 76 :: u22 77 :: u22 78 :: u22 79 :: u22 80 :: u22 81 :: List.replicate 44 un).toArray, []⟩ ∧ RTL (.slice to37 (rpL (rfL l ss i) (ss.getD i ByteArray.empty)).length tc38) (rpL (rfL l ss i) (ss.getD i ByteArray.empty)) (N32 ++ (N ++ RL)) ∧ HA (bs w) ((q40, 27, #[.slice to37 (rpL (rfL l ss i) (ss.getD i ByteArray.empty)).length tc38]) :: (q17, 74, #[iN .i64 k, iN .i64 0, .string label, .slice po (rfN l ss i).length pc]) :: (q12, 27, #[.slice to (rfL l ss i).length tc]) :: (q4, 27, #[.slice none 0 0]) :: (q1, 27, #[.slice ov l.length cv]) :: ((Lr ++ N) ++ N32)) w') 12 (by kernel_rfl) (by kernel_rfl) (by kernel_rfl) (by kernel_rfl) (by kernel_rfl) (hA.drew) ?_ ?_
   ·have h24 := hA.drew
    refine wk_val (i := 0) (.agg (#[.slice to (rfL l ss i).length tc])) rfl rfl (by kernel_rfl) (by kernel_rfl) (fun w' h' => run_load_blk (h'.get 1 rfl) Tryz.underlying27 rfl) ?_
    refine wk_val (i := 1) (.slice (some ⟨pq, 0, none⟩) ss.length c) rfl rfl (by kernel_rfl) (by kernel_rfl) (fun _ _ => (by kernel_rfl)) ?_
    refine wk_val (i := 2) (iN .i64 i) rfl rfl (by kernel_rfl) (by kernel_rfl) (fun _ _ => (by kernel_rfl)) ?_
    refine wk_val (i := 3) (.pointer (some ⟨pq, i, none⟩)) rfl rfl (by kernel_rfl) (by kernel_rfl) (fun _ _ => (run_addr_slice (q := pq) (n := ss.length) (m := c) (a := i) Tryz.underlying30 Tryz.sizeOf9 (by omega))) ?_
    refine wk_val (i := 4) (.string (ss.getD i ByteArray.empty)) rfl rfl (by kernel_rfl) (by kernel_rfl) (fun w' h' => run_load1 Tryz.isAgg9 (((hm.keep h'.old.old).cell i).trans (hps i hk))) ?_
    refine wk_two 5 9 (by kernel_rfl) ?_ ?_
    ·refine ef_callx rfl (by kernel_rfl) h24 enter32 #[.agg (#[.slice to (rfL l ss i).length tc]), .string (ss.getD i ByteArray.empty)] (by kernel_rfl) (fun w33 h34 => rpart_any hr (hS.join h34 (N := N) (fun x hx => by simp [hx])) (rfL_ps hl i) (by have := rfL_len l ss i; omega) (ss.getD i ByteArray.empty)) ?_
     rintro w33 h34 _ w35 hpost
     obtain ⟨tv36, N32, rfl, hr29, hN31, hb30⟩ := hpost
     obtain ⟨to37, tc38, rfl⟩ := hr29.form
     have h39 : HA (bs w) ((q17, 74, #[iN .i64 k, iN .i64 0, .string label, .slice po (rfN l ss i).length pc]) :: (q12, 27, #[.slice to (rfL l ss i).length tc]) :: (q4, 27, #[.slice none 0 0]) :: (q1, 27, #[.slice ov l.length cv]) :: ((Lr ++ N) ++ N32)) w35 := HA.addL h34 hb30 hN31
     refine ⟨_, rfl, (HA.sub h39 (List.Sublist.cons_cons _ (List.Sublist.cons_cons _ (List.Sublist.cons_cons _ (List.Sublist.cons_cons _ (List.sublist_append_left _ _)))))), ?_⟩
     refine wk_val (i := 6) (.tuple #[.agg #[.slice to37 (rpL (rfL l ss i) (ss.getD i ByteArray.empty)).length tc38], iN .i64 (rpN (rfL l ss i) (ss.getD i ByteArray.empty))]) rfl rfl (by kernel_rfl) (by kernel_rfl) (fun _ _ => (by kernel_rfl)) ?_
     refine wk_val (i := 7) (.agg #[.slice to37 (rpL (rfL l ss i) (ss.getD i ByteArray.empty)).length tc38]) rfl rfl (by kernel_rfl) (by kernel_rfl) (fun _ _ => (by kernel_rfl)) ?_
     refine wk_val (i := 8) (iN .i64 (rpN (rfL l ss i) (ss.getD i ByteArray.empty))) rfl rfl (by kernel_rfl) (by kernel_rfl) (fun _ _ => (by kernel_rfl)) ?_
     refine wk_one 9 (by kernel_rfl) ?_
     refine ef_make (c := #[.slice none 0 0]) rfl (by kernel_rfl) h39 27 (fun _ => (by kernel_rfl)) (fun q w' h' => (HA.sub h' (List.Sublist.cons _ (List.Sublist.cons_cons _ (List.Sublist.cons_cons _ (List.Sublist.cons_cons _ (List.Sublist.cons_cons _ (List.sublist_append_left _ _)))))))) ?_
     intro q40 w42 (h41 : HA (bs w) ((q40, 27, #[.slice none 0 0]) :: (q17, 74, #[iN .i64 k, iN .i64 0, .string label, .slice po (rfN l ss i).length pc]) :: (q12, 27, #[.slice to (rfL l ss i).length tc]) :: (q4, 27, #[.slice none 0 0]) :: (q1, 27, #[.slice ov l.length cv]) :: ((Lr ++ N) ++ N32)) w42)
     refine wk_one 10 (by kernel_rfl) ?_
     refine ef_fill (c' := #[.slice to37 (rpL (rfL l ss i) (ss.getD i ByteArray.empty)).length tc38]) rfl (by kernel_rfl) ((q40, 27, #[.slice to37 (rpL (rfL l ss i) (ss.getD i ByteArray.empty)).length tc38]) :: (q17, 74, #[iN .i64 k, iN .i64 0, .string label, .slice po (rfN l ss i).length pc]) :: (q12, 27, #[.slice to (rfL l ss i).length tc]) :: (q4, 27, #[.slice none 0 0]) :: (q1, 27, #[.slice ov l.length cv]) :: ((Lr ++ N) ++ N32)) h41 0 rfl rfl (by kernel_rfl) (by kernel_rfl) rfl (by kernel_rfl) (by kernel_rfl) (fun w' h' => (HA.sub h' (List.Sublist.cons _ (List.Sublist.cons_cons _ (List.Sublist.cons_cons _ (List.Sublist.cons_cons _ (List.Sublist.cons_cons _ (List.sublist_append_left _ _)))))))) ?_
     intro w44 (h43 : HA (bs w) ((q40, 27, #[.slice to37 (rpL (rfL l ss i) (ss.getD i ByteArray.empty)).length tc38]) :: (q17, 74, #[iN .i64 k, iN .i64 0, .string label, .slice po (rfN l ss i).length pc]) :: (q12, 27, #[.slice to (rfL l ss i).length tc]) :: (q4, 27, #[.slice none 0 0]) :: (q1, 27, #[.slice ov l.length cv]) :: ((Lr ++ N) ++ N32)) w44)
     refine wk_val (i := 11) (iN .i64 (rpN (rfL l ss i) (ss.getD i ByteArray.empty))) rfl rfl (by kernel_rfl) (by kernel_rfl) (fun _ _ => (by kernel_rfl)) ?_
     refine wk_end fun w45 hbx hsx => ?_
     have h46 := HA.keep _ _ h43 hbx
     exact ⟨N32, to37, tc38, q40, by kernel_rfl, hr29, h46⟩
    ·refine ef_make (c := #[.slice none 0 0]) rfl (by kernel_rfl) h24 27 (fun _ => (by kernel_rfl)) (fun q w' h' => (HA.sub h' (List.Sublist.cons _ (List.Sublist.cons_cons _ (List.Sublist.cons_cons _ (List.Sublist.cons_cons _ (List.Sublist.cons_cons _ (List.Sublist.refl _)))))))) ?_
     intro q47 w49 (h48 : HA (bs w) ((q47, 27, #[.slice none 0 0]) :: (q17, 74, #[iN .i64 k, iN .i64 0, .string label, .slice po (rfN l ss i).length pc]) :: (q12, 27, #[.slice to (rfL l ss i).length tc]) :: (q4, 27, #[.slice none 0 0]) :: (q1, 27, #[.slice ov l.length cv]) :: (Lr ++ N)) w49)
     refine wk_one 5 (by kernel_rfl) ?_
     refine ef_callx rfl (by kernel_rfl) h48 enter32 #[.agg (#[.slice to (rfL l ss i).length tc]), .string (ss.getD i ByteArray.empty)] (by kernel_rfl) (fun w58 h59 => rpart_any hr (hS.join h59 (N := N) (fun x hx => by simp [hx])) (rfL_ps hl i) (by have := rfL_len l ss i; omega) (ss.getD i ByteArray.empty)) ?_
     rintro w58 h59 _ w60 hpost
     obtain ⟨tv61, N57, rfl, hr54, hN56, hb55⟩ := hpost
     obtain ⟨to62, tc63, rfl⟩ := hr54.form
     have h64 : HA (bs w) ((q47, 27, #[.slice none 0 0]) :: (q17, 74, #[iN .i64 k, iN .i64 0, .string label, .slice po (rfN l ss i).length pc]) :: (q12, 27, #[.slice to (rfL l ss i).length tc]) :: (q4, 27, #[.slice none 0 0]) :: (q1, 27, #[.slice ov l.length cv]) :: ((Lr ++ N) ++ N57)) w60 := HA.addL h59 hb55 hN56
     refine ⟨_, rfl, (HA.sub h64 (List.Sublist.cons _ (List.Sublist.cons_cons _ (List.Sublist.cons_cons _ (List.Sublist.cons_cons _ (List.Sublist.cons_cons _ (List.sublist_append_left _ _))))))), ?_⟩
     refine wk_val (i := 6) (.tuple #[.agg #[.slice to62 (rpL (rfL l ss i) (ss.getD i ByteArray.empty)).length tc63], iN .i64 (rpN (rfL l ss i) (ss.getD i ByteArray.empty))]) rfl rfl (by kernel_rfl) (by kernel_rfl) (fun _ _ => (by kernel_rfl)) ?_
     refine wk_val (i := 7) (.agg #[.slice to62 (rpL (rfL l ss i) (ss.getD i ByteArray.empty)).length tc63]) rfl rfl (by kernel_rfl) (by kernel_rfl) (fun _ _ => (by kernel_rfl)) ?_
     refine wk_val (i := 8) (iN .i64 (rpN (rfL l ss i) (ss.getD i ByteArray.empty))) rfl rfl (by kernel_rfl) (by kernel_rfl) (fun _ _ => (by kernel_rfl)) ?_
     refine wk_one 10 (by kernel_rfl) ?_
     refine ef_fill (c' := #[.slice to62 (rpL (rfL l ss i) (ss.getD i ByteArray.empty)).length tc63]) rfl (by kernel_rfl) ((q47, 27, #[.slice to62 (rpL (rfL l ss i) (ss.getD i ByteArray.empty)).length tc63]) :: (q17, 74, #[iN .i64 k, iN .i64 0, .string label, .slice po (rfN l ss i).length pc]) :: (q12, 27, #[.slice to (rfL l ss i).length tc]) :: (q4, 27, #[.slice none 0 0]) :: (q1, 27, #[.slice ov l.length cv]) :: ((Lr ++ N) ++ N57)) h64 0 rfl rfl (by kernel_rfl) (by kernel_rfl) rfl (by kernel_rfl) (by kernel_rfl) (fun w' h' => (HA.sub h' (List.Sublist.cons _ (List.Sublist.cons_cons _ (List.Sublist.cons_cons _ (List.Sublist.cons_cons _ (List.Sublist.cons_cons _ (List.sublist_append_left _ _)))))))) ?_
     intro w66 (h65 : HA (bs w) ((q47, 27, #[.slice to62 (rpL (rfL l ss i) (ss.getD i ByteArray.empty)).length tc63]) :: (q17, 74, #[iN .i64 k, iN .i64 0, .string label, .slice po (rfN l ss i).length pc]) :: (q12, 27, #[.slice to (rfL l ss i).length tc]) :: (q4, 27, #[.slice none 0 0]) :: (q1, 27, #[.slice ov l.length cv]) :: ((Lr ++ N) ++ N57)) w66)
     refine wk_val (i := 11) (iN .i64 (rpN (rfL l ss i) (ss.getD i ByteArray.empty))) rfl rfl (by kernel_rfl) (by kernel_rfl) (fun _ _ => (by kernel_rfl)) ?_
     refine wk_end fun w67 hbx hsx => ?_
     have h68 := HA.keep _ _ h65 hbx
     exact ⟨N57, to62, tc63, q47, by kernel_rfl, hr54, h68⟩
   ·rintro _ w69 ⟨N32, to37, tc38, q40, rfl, hr29, h70⟩
    refine then_at rfl ?_
    refine zsr ?_
    refine wl_load h70 0 rfl Tryz.underlying27 rfl ?_
    refine wl_fill (c' := #[.slice to37 (rpL (rfL l ss i) (ss.getD i ByteArray.empty)).length tc38]) h70 2 rfl rfl ?_
    intro w71 (h72 : HA (bs w) ((q40, 27, #[.slice to37 (rpL (rfL l ss i) (ss.getD i ByteArray.empty)).length tc38]) :: (q17, 74, #[iN .i64 k, iN .i64 0, .string label, .slice po (rfN l ss i).length pc]) :: (q12, 27, #[.slice to37 (rpL (rfL l ss i) (ss.getD i ByteArray.empty)).length tc38]) :: (q4, 27, #[.slice none 0 0]) :: (q1, 27, #[.slice ov l.length cv]) :: ((Lr ++ N) ++ N32)) w71)
    refine znt ?_
    refine wl_region ?_
    refine zwv (.pointer (some ⟨q17, 3, none⟩)) ?_
    refine zwu (v := .slice po (rfN l ss i).length pc) (run_load1 Tryz.isAgg63 (((h72.get 1 rfl).cell 3).trans rfl)) ?_
    refine zwv (iN .i64 (rpN (rfL l ss i) (ss.getD i ByteArray.empty))) ?_
    refine wl_mks (n := 1) (m := 1) (c := #[iN .i64 (rpN (rfL l ss i) (ss.getD i ByteArray.empty))]) h72 3 ?_
    intro q73 w74 (h75 : HA (bs w) ((q73, 3, #[iN .i64 (rpN (rfL l ss i) (ss.getD i ByteArray.empty))]) :: (q40, 27, #[.slice to37 (rpL (rfL l ss i) (ss.getD i ByteArray.empty)).length tc38]) :: (q17, 74, #[iN .i64 k, iN .i64 0, .string label, .slice po (rfN l ss i).length pc]) :: (q12, 27, #[.slice to37 (rpL (rfL l ss i) (ss.getD i ByteArray.empty)).length tc38]) :: (q4, 27, #[.slice none 0 0]) :: (q1, 27, #[.slice ov l.length cv]) :: ((Lr ++ N) ++ N32)) w74)
    have h76 : HA (bs w) ((q73, 3, #[iN .i64 (rpN (rfL l ss i) (ss.getD i ByteArray.empty))]) :: (Lr ++ ([(q40, 27, #[.slice to37 (rpL (rfL l ss i) (ss.getD i ByteArray.empty)).length tc38]), (q17, 74, #[iN .i64 k, iN .i64 0, .string label, .slice po (rfN l ss i).length pc]), (q12, 27, #[.slice to37 (rpL (rfL l ss i) (ss.getD i ByteArray.empty)).length tc38]), (q4, 27, #[.slice none 0 0]), (q1, 27, #[.slice ov l.length cv])] ++ (N ++ N32)))) w74 := HA.perm h75 (perm_row _ [(q40, 27, #[.slice to37 (rpL (rfL l ss i) (ss.getD i ByteArray.empty)).length tc38]), (q17, 74, #[iN .i64 k, iN .i64 0, .string label, .slice po (rfN l ss i).length pc]), (q12, 27, #[.slice to37 (rpL (rfL l ss i) (ss.getD i ByteArray.empty)).length tc38]), (q4, 27, #[.slice none 0 0]), (q1, 27, #[.slice ov l.length cv])] Lr N N32)
    refine wl_append (m := 1) (c := 1) (Lr := Lr) hR h76 _ 8 Tryz.underlying63 info3 rfl rfl (by rw [rfN_len]; unfold maxLen; omega) (by rw [rfN_len]; omega) ?_
    intro v2 w77 Lr2 hR2 h78
    have h79 : HA (bs w) ((q40, 27, #[.slice to37 (rpL (rfL l ss i) (ss.getD i ByteArray.empty)).length tc38]) :: (q17, 74, #[iN .i64 k, iN .i64 0, .string label, .slice po (rfN l ss i).length pc]) :: (q12, 27, #[.slice to37 (rpL (rfL l ss i) (ss.getD i ByteArray.empty)).length tc38]) :: (q4, 27, #[.slice none 0 0]) :: (q1, 27, #[.slice ov l.length cv]) :: (Lr2 ++ (N ++ N32))) w77 := HA.perm h78 (perm_back [(q40, 27, #[.slice to37 (rpL (rfL l ss i) (ss.getD i ByteArray.empty)).length tc38]), (q17, 74, #[iN .i64 k, iN .i64 0, .string label, .slice po (rfN l ss i).length pc]), (q12, 27, #[.slice to37 (rpL (rfL l ss i) (ss.getD i ByteArray.empty)).length tc38]), (q4, 27, #[.slice none 0 0]), (q1, 27, #[.slice ov l.length cv])] Lr2 (N ++ N32))
    obtain ⟨po2, pc2, rfl⟩ := hR2.form
    refine zwv (.pointer (some ⟨q17, 3, none⟩)) ?_
    refine wl_putv (v := .slice po2 ((rfN l ss i).length + 1) pc2) h79 1 rfl 3 (by show 3 < 4; decide) Tryz.sizeOf63 ?_
    intro w80 (h81 : HA (bs w) ((q40, 27, #[.slice to37 (rpL (rfL l ss i) (ss.getD i ByteArray.empty)).length tc38]) :: (q17, 74, #[iN .i64 k, iN .i64 0, .string label, .slice po2 ((rfN l ss i).length + 1) pc2]) :: (q12, 27, #[.slice to37 (rpL (rfL l ss i) (ss.getD i ByteArray.empty)).length tc38]) :: (q4, 27, #[.slice none 0 0]) :: (q1, 27, #[.slice ov l.length cv]) :: (Lr2 ++ (N ++ N32))) w80)
    refine wl_nil ?_
    refine block_normal ?_
    refine then_at rfl ?_
    refine wl_region ?_
    refine zwv (iN .i64 i) ?_
    refine zwu (run_add (k := .i64) (a := i) (b := 1) (by simp only [top]; omega)) ?_
    refine zwv (iN .i64 (i + 1)) ?_
    refine wl_nil ?_
    have e3 : (rfN l ss (i + 1)).length = (rfN l ss i).length + 1 := by rw [rfN, List.length_append]; rfl
    have hR3 : Row 3 1 (.slice po2 ((rfN l ss i).length + 1) pc2) ((rfN l ss i).length + 1) ((rfN l ss (i + 1)).map (iN .i64 ·)) Lr2 := by rw [rfN, List.map_append]; exact hR2
    rw [← e3] at hR3
    have h82 := h81.tl
    rw [← e3] at h82
    exact then_I (zex (⟨po2, pc2, to37, tc38, N ++ N32, Lr2, RTL.mono hr29 (fun x hx => by simp only [List.mem_append] at hx ⊢; rcases hx with h | h | h <;> simp [h]), hR3, h82⟩))
  ·rintro _ w83 ⟨u22, rfl, ⟨po, pc, to, tc, N, Lr, hr, hR, hA⟩⟩
   obtain ⟨gp, pc2, cp, e1, rfl, hcp⟩ := Row.intsAt hR (by rw [rfN_len, hs2]; decide)
   cases e1
   have hlen2 : (rfN l ss ss.length).length = 2 := by rw [rfN_len, hs2]
   have hj : (rfN l ss ss.length).getD 1 0 < (rfL l ss ss.length).length := getD_mem_lt (rfN_lt l ss ss.length) (by omega)
   obtain ⟨gt, tc2, cur, oq, cq, e2, hgt, hcq, hrq⟩ := RTL.at hr hj
   cases e2
   have hq3 := hq hj
   have hq1 := i3 _ (List.getElem_mem hj) hq3
   obtain ⟨qb, cb, rfl, hqb, hcb⟩ := hrq.resolve_left (by intro e; rw [e] at hq1; simp at hq1)
   have hll2 := rfL_len l ss ss.length
   refine wp_seq ?_
   refine zsr ?_
   refine zwv (iN .i64 ss.length) ?_
   refine zwv (.slice o ss.length c) ?_
   refine zwv (iN .i64 ss.length) ?_
   refine zwu (run_lss (k := .i64) (a := ss.length) (b := ss.length) false (decide_eq_false (by omega))) ?_
   refine znt ?_
   refine zcf ?_
   refine wp_exit ?_
   repeat first | refine then_exit ?_ | refine block_exit ?_ | refine block_exit_ne (by decide) ?_
   refine then_at rfl ?_
   refine wp_seq ?_
   refine zsr ?_
   refine zwv (iN .i64 k) ?_
   refine zwu (run_eqi (k := .i64) (a := k) (b := 4) true (ht := (decide_eq_true (by omega)))) ?_
   refine znt ?_
   refine zct ?_
   refine wp_seq ?_
   refine wp_region_wk (HA (bs w) ((q17, 74, #[iN .i64 k, iN .i64 0, .string label, .slice (some ⟨gp, 0, none⟩) ((rfN l ss ss.length).length) pc]) :: (q12, 27, #[.slice (some ⟨gt, 0, none⟩) ((rfL l ss ss.length).length) tc]) :: (q4, 27, #[.slice none 0 0]) :: (q1, 27, #[.slice ov l.length cv]) :: ((gp, 3, cp) :: N))) (fun A w' => ∃ (q85 : Nat), A = ⟨(.agg #[.slice ov l.length cv] :: iN .i64 k :: .string label :: .slice o ss.length c :: pt q1 :: un :: un :: un :: pt q4 :: .string ({ data := #[] }) :: iN .i64 0 :: .bool false :: iN .i64 ss.length :: pt q12 :: pt q17 :: iN .i64 ss.length :: u22 16 :: u22 17 :: iN .i64 ((rfN l ss ss.length).getD 0 0) :: pt q85 :: un :: un :: iN .i64 k :: .slice o ss.length c :: iN .i64 ss.length :: .bool true :: .bool false :: .bool false :: .string label :: .bool false :: .bool false :: un :: un :: .bool false :: .bool false :: un :: .string label :: iN .i64 label.size :: .bool false :: iN .i64 ss.length :: .slice o ss.length c :: iN .i64 ss.length :: .bool false :: u9 43 :: u9 44 :: u9 45 :: u9 46 :: u9 47 :: u9 48 :: u9 49 :: u9 50 :: u9 51 :: u9 52 :: u9 53 :: .bool false :: un :: .agg (#[.slice ov l.length cv]) :: iN .i64 k :: .string label :: .agg #[iN .i64 k, iN .i64 0, .string label, .slice none 0 0] :: iN .i64 ss.length :: .slice o ss.length c :: iN .i64 ss.length :: .bool false :: u22 64 :: u22 65 :: u22 66 :: u22 67 :: u22 68 :: u22 69 :: u22 70 :: u22 71 :: u22 72 :: u22 73 :: u22 74 :: u22 75 :: u22 76 :: u22 77 :: u22 78 :: u22 79 :: u22 80 :: u22 81 :: iN .i64 k :: .bool true :: .pointer (some ⟨q17, 3, none⟩) :: .slice (some ⟨gp, 0, none⟩) ((rfN l ss ss.length).length) pc :: pt gp :: iN .i64 ((rfN l ss ss.length).getD 0 0) :: pt q12 :: .slice (some ⟨gt, 0, none⟩) ((rfL l ss ss.length).length) tc :: .pointer (some ⟨q17, 3, none⟩) :: .slice (some ⟨gp, 0, none⟩) ((rfN l ss ss.length).length) pc :: .pointer (some ⟨gp, 1, none⟩) :: iN .i64 ((rfN l ss ss.length).getD 1 0) :: .pointer (some ⟨gt, 4 * ((rfN l ss ss.length).getD 1 0), none⟩) :: .agg (tmc (rfL l ss ss.length)[(rfN l ss ss.length).getD 1 0].k (rfL l ss ss.length)[(rfN l ss ss.length).getD 1 0].n (rfL l ss ss.length)[(rfN l ss ss.length).getD 1 0].s (some ⟨qb, 0, none⟩) (rfL l ss ss.length)[(rfN l ss ss.length).getD 1 0].ps.length cq) :: List.replicate 30 un).toArray, []⟩ ∧ HA (bs w) ((q85, 74, tmc (rfL l ss ss.length)[(rfN l ss ss.length).getD 1 0].k (rfL l ss ss.length)[(rfN l ss ss.length).getD 1 0].n (rfL l ss ss.length)[(rfN l ss ss.length).getD 1 0].s (some ⟨qb, 0, none⟩) (rfL l ss ss.length)[(rfN l ss ss.length).getD 1 0].ps.length cq) :: (q17, 74, #[iN .i64 k, iN .i64 0, .string label, .slice (some ⟨gp, 0, none⟩) ((rfN l ss ss.length).length) pc]) :: (q12, 27, #[.slice (some ⟨gt, 0, none⟩) ((rfL l ss ss.length).length) tc]) :: (q4, 27, #[.slice none 0 0]) :: (q1, 27, #[.slice ov l.length cv]) :: ((gp, 3, cp) :: N)) w') 15 (by kernel_rfl) (by kernel_rfl) (by kernel_rfl) (by kernel_rfl) (by kernel_rfl) (hA.drew) ?_ ?_
   ·have h84 := hA.drew
    refine wk_val (i := 0) (.pointer (some ⟨q17, 3, none⟩)) rfl rfl (by kernel_rfl) (by kernel_rfl) (fun _ _ => (by kernel_rfl)) ?_
    refine wk_val (i := 1) (.slice (some ⟨gp, 0, none⟩) ((rfN l ss ss.length).length) pc) rfl rfl (by kernel_rfl) (by kernel_rfl) (fun w' h' => run_load1 Tryz.isAgg63 (((h'.get 0 rfl).cell 3).trans rfl)) ?_
    refine wk_val (i := 2) (.pointer (some ⟨gp, 0, none⟩)) rfl rfl (by kernel_rfl) (by kernel_rfl) (fun _ _ => (run_addr_slice (q := gp) (n := (rfN l ss ss.length).length) (m := pc) (a := 0) Tryz.underlying63 Tryz.sizeOf3 (by omega))) ?_
    refine wk_val (i := 3) (iN .i64 ((rfN l ss ss.length).getD 0 0)) rfl rfl (by kernel_rfl) (by kernel_rfl) (fun w' h' => run_load1 Tryz.isAgg3 (((h'.blk (gp, 3, cp) (by simp)).cell 0).trans (hcp 0 (by omega)))) ?_
    refine wk_val (i := 4) (.pointer (some ⟨q12, 0, none⟩)) rfl rfl (by kernel_rfl) (by kernel_rfl) (fun _ _ => (by kernel_rfl)) ?_
    refine wk_val (i := 5) (.slice (some ⟨gt, 0, none⟩) ((rfL l ss ss.length).length) tc) rfl rfl (by kernel_rfl) (by kernel_rfl) (fun w' h' => run_load1 Tryz.isAgg25 (((h'.get 1 rfl).cell 0).trans rfl)) ?_
    refine wk_val (i := 6) (.pointer (some ⟨q17, 3, none⟩)) rfl rfl (by kernel_rfl) (by kernel_rfl) (fun _ _ => (by kernel_rfl)) ?_
    refine wk_val (i := 7) (.slice (some ⟨gp, 0, none⟩) ((rfN l ss ss.length).length) pc) rfl rfl (by kernel_rfl) (by kernel_rfl) (fun w' h' => run_load1 Tryz.isAgg63 (((h'.get 0 rfl).cell 3).trans rfl)) ?_
    refine wk_val (i := 8) (.pointer (some ⟨gp, 1, none⟩)) rfl rfl (by kernel_rfl) (by kernel_rfl) (fun _ _ => (run_addr_slice (q := gp) (n := (rfN l ss ss.length).length) (m := pc) (a := 1) Tryz.underlying63 Tryz.sizeOf3 (by omega))) ?_
    refine wk_val (i := 9) (iN .i64 ((rfN l ss ss.length).getD 1 0)) rfl rfl (by kernel_rfl) (by kernel_rfl) (fun w' h' => run_load1 Tryz.isAgg3 (((h'.blk (gp, 3, cp) (by simp)).cell 1).trans (hcp 1 (by omega)))) ?_
    refine wk_val (i := 10) (.pointer (some ⟨gt, 4 * ((rfN l ss ss.length).getD 1 0), none⟩)) rfl rfl (by kernel_rfl) (by kernel_rfl) (fun _ _ => (run_addr24 (n := (rfL l ss ss.length).length) (m := tc) (a := (rfN l ss ss.length).getD 1 0) hj)) ?_
    refine wk_val (i := 11) (.agg (tmc (rfL l ss ss.length)[(rfN l ss ss.length).getD 1 0].k (rfL l ss ss.length)[(rfN l ss ss.length).getD 1 0].n (rfL l ss ss.length)[(rfN l ss ss.length).getD 1 0].s (some ⟨qb, 0, none⟩) (rfL l ss ss.length)[(rfN l ss ss.length).getD 1 0].ps.length cq)) rfl rfl (by kernel_rfl) (by kernel_rfl) (fun w' h' => run_part (hS.join h' (N := N) (fun x hx => by simp [hx]) _ hgt) hcq Tryz.underlying74 rfl) ?_
    refine wk_one 12 (by kernel_rfl) ?_
    refine ef_make (c := #[iN .i64 0, iN .i64 0, .string ({ data := #[] }), .slice none 0 0]) rfl (by kernel_rfl) h84 74 (fun _ => (by kernel_rfl)) (fun q w' h' => (HA.sub h' (List.Sublist.cons _ (List.Sublist.cons_cons _ (List.Sublist.cons_cons _ (List.Sublist.cons_cons _ (List.Sublist.cons_cons _ (List.Sublist.refl _)))))))) ?_
    intro q85 w87 (h86 : HA (bs w) ((q85, 74, #[iN .i64 0, iN .i64 0, .string ({ data := #[] }), .slice none 0 0]) :: (q17, 74, #[iN .i64 k, iN .i64 0, .string label, .slice (some ⟨gp, 0, none⟩) ((rfN l ss ss.length).length) pc]) :: (q12, 27, #[.slice (some ⟨gt, 0, none⟩) ((rfL l ss ss.length).length) tc]) :: (q4, 27, #[.slice none 0 0]) :: (q1, 27, #[.slice ov l.length cv]) :: ((gp, 3, cp) :: N)) w87)
    refine wk_val (i := 13) (iN .i64 ((rfN l ss ss.length).getD 0 0)) rfl rfl (by kernel_rfl) (by kernel_rfl) (fun _ _ => (by kernel_rfl)) ?_
    refine wk_one 14 (by kernel_rfl) ?_
    refine ef_fill (c' := tmc (rfL l ss ss.length)[(rfN l ss ss.length).getD 1 0].k (rfL l ss ss.length)[(rfN l ss ss.length).getD 1 0].n (rfL l ss ss.length)[(rfN l ss ss.length).getD 1 0].s (some ⟨qb, 0, none⟩) (rfL l ss ss.length)[(rfN l ss ss.length).getD 1 0].ps.length cq) rfl (by kernel_rfl) ((q85, 74, tmc (rfL l ss ss.length)[(rfN l ss ss.length).getD 1 0].k (rfL l ss ss.length)[(rfN l ss ss.length).getD 1 0].n (rfL l ss ss.length)[(rfN l ss ss.length).getD 1 0].s (some ⟨qb, 0, none⟩) (rfL l ss ss.length)[(rfN l ss ss.length).getD 1 0].ps.length cq) :: (q17, 74, #[iN .i64 k, iN .i64 0, .string label, .slice (some ⟨gp, 0, none⟩) ((rfN l ss ss.length).length) pc]) :: (q12, 27, #[.slice (some ⟨gt, 0, none⟩) ((rfL l ss ss.length).length) tc]) :: (q4, 27, #[.slice none 0 0]) :: (q1, 27, #[.slice ov l.length cv]) :: ((gp, 3, cp) :: N)) h86 0 rfl rfl (by kernel_rfl) (by kernel_rfl) rfl (by kernel_rfl) (by kernel_rfl) (fun w' h' => (HA.sub h' (List.Sublist.cons _ (List.Sublist.cons_cons _ (List.Sublist.cons_cons _ (List.Sublist.cons_cons _ (List.Sublist.cons_cons _ (List.Sublist.refl _)))))))) ?_
    intro w89 (h88 : HA (bs w) ((q85, 74, tmc (rfL l ss ss.length)[(rfN l ss ss.length).getD 1 0].k (rfL l ss ss.length)[(rfN l ss ss.length).getD 1 0].n (rfL l ss ss.length)[(rfN l ss ss.length).getD 1 0].s (some ⟨qb, 0, none⟩) (rfL l ss ss.length)[(rfN l ss ss.length).getD 1 0].ps.length cq) :: (q17, 74, #[iN .i64 k, iN .i64 0, .string label, .slice (some ⟨gp, 0, none⟩) ((rfN l ss ss.length).length) pc]) :: (q12, 27, #[.slice (some ⟨gt, 0, none⟩) ((rfL l ss ss.length).length) tc]) :: (q4, 27, #[.slice none 0 0]) :: (q1, 27, #[.slice ov l.length cv]) :: ((gp, 3, cp) :: N)) w89)
    refine wk_end fun w90 hbx hsx => ?_
    have h91 := HA.keep _ _ h88 hbx
    exact ⟨q85, by kernel_rfl, h91⟩
   ·rintro _ w92 ⟨q85, rfl, h93⟩
    refine then_at rfl ?_
    refine zsr ?_
    refine zwv (.pointer (some ⟨q85, 0, none⟩)) ?_
    refine zwu (v := iN .i64 ((rfL l ss ss.length)[(rfN l ss ss.length).getD 1 0].k)) (run_load1 Tryz.isAgg3 (((h93.get 0 rfl).cell 0).trans rfl)) ?_
    refine zwu (run_eqi (k := .i64) (a := (rfL l ss ss.length)[(rfN l ss ss.length).getD 1 0].k) (b := 3) true (ht := (decide_eq_true hq3))) ?_
    refine znt ?_
    refine zct ?_
    refine zsr ?_
    refine zwv (.pointer (some ⟨q85, 3, none⟩)) ?_
    refine zwu (v := .slice (some ⟨qb, 0, none⟩) ((rfL l ss ss.length)[(rfN l ss ss.length).getD 1 0].ps.length) cq) (run_load1 Tryz.isAgg63 (((h93.get 0 rfl).cell 3).trans rfl)) ?_
    refine zwu (v := .pointer (some ⟨qb, 0, none⟩)) (run_addr_slice (q := qb) (n := (rfL l ss ss.length)[(rfN l ss ss.length).getD 1 0].ps.length) (m := cq) (a := 0) Tryz.underlying63 Tryz.sizeOf3 (by omega)) ?_
    refine zwu (v := iN .i64 ((rfL l ss ss.length)[(rfN l ss ss.length).getD 1 0].ps.getD 0 0)) (run_load1 Tryz.isAgg3 (((hS.join h93 (N := N) (fun x hx => by simp [hx]) _ hqb).cell 0).trans (hcb 0 (by omega)))) ?_
    refine zwv (iN .i64 ((rfL l ss ss.length)[(rfN l ss ss.length).getD 1 0].ps.getD 0 0)) ?_
    refine znt ?_
    refine wl_region ?_
    refine zwv (iN .i64 ((rfN l ss ss.length).getD 0 0)) ?_
    refine zwv (iN .i64 ((rfL l ss ss.length)[(rfN l ss ss.length).getD 1 0].ps.getD 0 0)) ?_
    refine zwu (run_min (i := (rfN l ss ss.length).getD 0 0) (j := (rfL l ss ss.length)[(rfN l ss ss.length).getD 1 0].ps.getD 0 0)) ?_
    refine zwv (iN .i64 ((rfN l ss ss.length).getD 0 0)) ?_
    refine zwv (iN .i64 ((rfL l ss ss.length)[(rfN l ss ss.length).getD 1 0].ps.getD 0 0)) ?_
    refine zwu (run_max (i := (rfN l ss ss.length).getD 0 0) (j := (rfL l ss ss.length)[(rfN l ss ss.length).getD 1 0].ps.getD 0 0) (by kernel_rfl) (by kernel_rfl)) ?_
    refine wl_mks (n := 2) (m := 2) (c := #[iN .i64 (min ((rfN l ss ss.length).getD 0 0) ((rfL l ss ss.length)[(rfN l ss ss.length).getD 1 0].ps.getD 0 0)), iN .i64 (max ((rfN l ss ss.length).getD 0 0) ((rfL l ss ss.length)[(rfN l ss ss.length).getD 1 0].ps.getD 0 0))]) h93 3 ?_
    intro q94 w95 (h96 : HA (bs w) ((q94, 3, #[iN .i64 (min ((rfN l ss ss.length).getD 0 0) ((rfL l ss ss.length)[(rfN l ss ss.length).getD 1 0].ps.getD 0 0)), iN .i64 (max ((rfN l ss ss.length).getD 0 0) ((rfL l ss ss.length)[(rfN l ss ss.length).getD 1 0].ps.getD 0 0))]) :: (q85, 74, tmc (rfL l ss ss.length)[(rfN l ss ss.length).getD 1 0].k (rfL l ss ss.length)[(rfN l ss ss.length).getD 1 0].n (rfL l ss ss.length)[(rfN l ss ss.length).getD 1 0].s (some ⟨qb, 0, none⟩) (rfL l ss ss.length)[(rfN l ss ss.length).getD 1 0].ps.length cq) :: (q17, 74, #[iN .i64 k, iN .i64 0, .string label, .slice (some ⟨gp, 0, none⟩) ((rfN l ss ss.length).length) pc]) :: (q12, 27, #[.slice (some ⟨gt, 0, none⟩) ((rfL l ss ss.length).length) tc]) :: (q4, 27, #[.slice none 0 0]) :: (q1, 27, #[.slice ov l.length cv]) :: ((gp, 3, cp) :: N)) w95)
    refine zwv (.pointer (some ⟨q17, 3, none⟩)) ?_
    refine wl_putv (v := .slice (some ⟨q94, 0, none⟩) 2 2) h96 2 rfl 3 (by show 3 < 4; decide) Tryz.sizeOf63 ?_
    intro w97 (h98 : HA (bs w) ((q94, 3, #[iN .i64 (min ((rfN l ss ss.length).getD 0 0) ((rfL l ss ss.length)[(rfN l ss ss.length).getD 1 0].ps.getD 0 0)), iN .i64 (max ((rfN l ss ss.length).getD 0 0) ((rfL l ss ss.length)[(rfN l ss ss.length).getD 1 0].ps.getD 0 0))]) :: (q85, 74, tmc (rfL l ss ss.length)[(rfN l ss ss.length).getD 1 0].k (rfL l ss ss.length)[(rfN l ss ss.length).getD 1 0].n (rfL l ss ss.length)[(rfN l ss ss.length).getD 1 0].s (some ⟨qb, 0, none⟩) (rfL l ss ss.length)[(rfN l ss ss.length).getD 1 0].ps.length cq) :: (q17, 74, #[iN .i64 k, iN .i64 0, .string label, .slice (some ⟨q94, 0, none⟩) 2 2]) :: (q12, 27, #[.slice (some ⟨gt, 0, none⟩) ((rfL l ss ss.length).length) tc]) :: (q4, 27, #[.slice none 0 0]) :: (q1, 27, #[.slice ov l.length cv]) :: ((gp, 3, cp) :: N)) w97)
    refine znt ?_
    refine zsr ?_
    refine wl_load h98 3 rfl Tryz.underlying27 rfl ?_
    refine wl_load h98 2 rfl Tryz.underlying74 rfl ?_
    refine wl_callx enter29 #[.agg (#[.slice (some ⟨gt, 0, none⟩) ((rfL l ss ss.length).length) tc]), .agg (#[iN .i64 k, iN .i64 0, .string label, .slice (some ⟨q94, 0, none⟩) 2 2])] (putl_any (RL := (q94, 3, #[iN .i64 (min ((rfN l ss ss.length).getD 0 0) ((rfL l ss ss.length)[(rfN l ss ss.length).getD 1 0].ps.getD 0 0)), iN .i64 (max ((rfN l ss ss.length).getD 0 0) ((rfL l ss ss.length)[(rfN l ss ss.length).getD 1 0].ps.getD 0 0))]) :: (N ++ RL)) (RTL.mono hr (fun x hx => List.mem_cons_of_mem _ hx)) (hS.join h98 (N := (q94, 3, #[iN .i64 (min ((rfN l ss ss.length).getD 0 0) ((rfL l ss ss.length)[(rfN l ss ss.length).getD 1 0].ps.getD 0 0)), iN .i64 (max ((rfN l ss ss.length).getD 0 0) ((rfL l ss ss.length)[(rfN l ss ss.length).getD 1 0].ps.getD 0 0))]) :: N) (fun x hx => by simp only [List.mem_cons] at hx ⊢; rcases hx with h | h <;> simp [h])) (rfL_ps hl _) (by omega) (⟨k, 0, label, [min ((rfN l ss ss.length).getD 0 0) ((rfL l ss ss.length)[(rfN l ss ss.length).getD 1 0].ps.getD 0 0), max ((rfN l ss ss.length).getD 0 0) ((rfL l ss ss.length)[(rfN l ss ss.length).getD 1 0].ps.getD 0 0)]⟩ : Q4) (o := some ⟨q94, 0, none⟩) (c := 2) (.inr ⟨_, _, rfl, List.mem_cons_self .., fun j hj => by match j, hj with | 0, _ => rfl | 1, _ => rfl⟩)) ?_
    rintro _ w105 ⟨_, N102, rfl, hr99, hN101, hb100⟩
    refine ⟨_, rfl, ?_⟩
    obtain ⟨o103, c104, rfl⟩ := hr99.form
    have h106 : HA (bs w) ((q94, 3, #[iN .i64 (min ((rfN l ss ss.length).getD 0 0) ((rfL l ss ss.length)[(rfN l ss ss.length).getD 1 0].ps.getD 0 0)), iN .i64 (max ((rfN l ss ss.length).getD 0 0) ((rfL l ss ss.length)[(rfN l ss ss.length).getD 1 0].ps.getD 0 0))]) :: (q85, 74, tmc (rfL l ss ss.length)[(rfN l ss ss.length).getD 1 0].k (rfL l ss ss.length)[(rfN l ss ss.length).getD 1 0].n (rfL l ss ss.length)[(rfN l ss ss.length).getD 1 0].s (some ⟨qb, 0, none⟩) (rfL l ss ss.length)[(rfN l ss ss.length).getD 1 0].ps.length cq) :: (q17, 74, #[iN .i64 k, iN .i64 0, .string label, .slice (some ⟨q94, 0, none⟩) 2 2]) :: (q12, 27, #[.slice (some ⟨gt, 0, none⟩) ((rfL l ss ss.length).length) tc]) :: (q4, 27, #[.slice none 0 0]) :: (q1, 27, #[.slice ov l.length cv]) :: (((gp, 3, cp) :: N) ++ N102)) w105 := HA.addL h98 hb100 hN101
    have hpl2 := (putN_le (rfL l ss ss.length) (⟨k, 0, label, [min ((rfN l ss ss.length).getD 0 0) ((rfL l ss ss.length)[(rfN l ss ss.length).getD 1 0].ps.getD 0 0), max ((rfN l ss ss.length).getD 0 0) ((rfL l ss ss.length)[(rfN l ss ss.length).getD 1 0].ps.getD 0 0)]⟩ : Q4))
    refine zwv (.tuple #[.agg #[.slice o103 (putL (rfL l ss ss.length) (⟨k, 0, label, [min ((rfN l ss ss.length).getD 0 0) ((rfL l ss ss.length)[(rfN l ss ss.length).getD 1 0].ps.getD 0 0), max ((rfN l ss ss.length).getD 0 0) ((rfL l ss ss.length)[(rfN l ss ss.length).getD 1 0].ps.getD 0 0)]⟩ : Q4)).length c104], iN .i64 (putN (rfL l ss ss.length) (⟨k, 0, label, [min ((rfN l ss ss.length).getD 0 0) ((rfL l ss ss.length)[(rfN l ss ss.length).getD 1 0].ps.getD 0 0), max ((rfN l ss ss.length).getD 0 0) ((rfL l ss ss.length)[(rfN l ss ss.length).getD 1 0].ps.getD 0 0)]⟩ : Q4))]) ?_
    refine zwv (.agg #[.slice o103 (putL (rfL l ss ss.length) (⟨k, 0, label, [min ((rfN l ss ss.length).getD 0 0) ((rfL l ss ss.length)[(rfN l ss ss.length).getD 1 0].ps.getD 0 0), max ((rfN l ss ss.length).getD 0 0) ((rfL l ss ss.length)[(rfN l ss ss.length).getD 1 0].ps.getD 0 0)]⟩ : Q4)).length c104]) ?_
    refine zwv (iN .i64 (putN (rfL l ss ss.length) (⟨k, 0, label, [min ((rfN l ss ss.length).getD 0 0) ((rfL l ss ss.length)[(rfN l ss ss.length).getD 1 0].ps.getD 0 0), max ((rfN l ss ss.length).getD 0 0) ((rfL l ss ss.length)[(rfN l ss ss.length).getD 1 0].ps.getD 0 0)]⟩ : Q4))) ?_
    refine wl_fill (c' := #[.slice o103 (putL (rfL l ss ss.length) (⟨k, 0, label, [min ((rfN l ss ss.length).getD 0 0) ((rfL l ss ss.length)[(rfN l ss ss.length).getD 1 0].ps.getD 0 0), max ((rfN l ss ss.length).getD 0 0) ((rfL l ss ss.length)[(rfN l ss ss.length).getD 1 0].ps.getD 0 0)]⟩ : Q4)).length c104]) h106 3 rfl rfl ?_
    intro w107 (h108 : HA (bs w) ((q94, 3, #[iN .i64 (min ((rfN l ss ss.length).getD 0 0) ((rfL l ss ss.length)[(rfN l ss ss.length).getD 1 0].ps.getD 0 0)), iN .i64 (max ((rfN l ss ss.length).getD 0 0) ((rfL l ss ss.length)[(rfN l ss ss.length).getD 1 0].ps.getD 0 0))]) :: (q85, 74, tmc (rfL l ss ss.length)[(rfN l ss ss.length).getD 1 0].k (rfL l ss ss.length)[(rfN l ss ss.length).getD 1 0].n (rfL l ss ss.length)[(rfN l ss ss.length).getD 1 0].s (some ⟨qb, 0, none⟩) (rfL l ss ss.length)[(rfN l ss ss.length).getD 1 0].ps.length cq) :: (q17, 74, #[iN .i64 k, iN .i64 0, .string label, .slice (some ⟨q94, 0, none⟩) 2 2]) :: (q12, 27, #[.slice o103 (putL (rfL l ss ss.length) (⟨k, 0, label, [min ((rfN l ss ss.length).getD 0 0) ((rfL l ss ss.length)[(rfN l ss ss.length).getD 1 0].ps.getD 0 0), max ((rfN l ss ss.length).getD 0 0) ((rfL l ss ss.length)[(rfN l ss ss.length).getD 1 0].ps.getD 0 0)]⟩ : Q4)).length c104]) :: (q4, 27, #[.slice none 0 0]) :: (q1, 27, #[.slice ov l.length cv]) :: (((gp, 3, cp) :: N) ++ N102)) w107)
    refine zwv (iN .i64 (putN (rfL l ss ss.length) (⟨k, 0, label, [min ((rfN l ss ss.length).getD 0 0) ((rfL l ss ss.length)[(rfN l ss ss.length).getD 1 0].ps.getD 0 0), max ((rfN l ss ss.length).getD 0 0) ((rfL l ss ss.length)[(rfN l ss ss.length).getD 1 0].ps.getD 0 0)]⟩ : Q4))) ?_
    refine znt ?_
    refine wp_seq ?_
    refine zsr ?_
    refine zwv (.pointer (some ⟨q12, 0, none⟩)) ?_
    refine zwu (v := .slice o103 (putL (rfL l ss ss.length) (⟨k, 0, label, [min ((rfN l ss ss.length).getD 0 0) ((rfL l ss ss.length)[(rfN l ss ss.length).getD 1 0].ps.getD 0 0), max ((rfN l ss ss.length).getD 0 0) ((rfL l ss ss.length)[(rfN l ss ss.length).getD 1 0].ps.getD 0 0)]⟩ : Q4)).length c104) (run_load1 Tryz.isAgg25 (((h108.get 3 rfl).cell 0).trans rfl)) ?_
    refine zwv (iN .i64 ((putL (rfL l ss ss.length) (⟨k, 0, label, [min ((rfN l ss ss.length).getD 0 0) ((rfL l ss ss.length)[(rfN l ss ss.length).getD 1 0].ps.getD 0 0), max ((rfN l ss ss.length).getD 0 0) ((rfL l ss ss.length)[(rfN l ss ss.length).getD 1 0].ps.getD 0 0)]⟩ : Q4)).length)) ?_
    refine zwu (run_gtr (k := .i64) (a := (putL (rfL l ss ss.length) (⟨k, 0, label, [min ((rfN l ss ss.length).getD 0 0) ((rfL l ss ss.length)[(rfN l ss ss.length).getD 1 0].ps.getD 0 0), max ((rfN l ss ss.length).getD 0 0) ((rfL l ss ss.length)[(rfN l ss ss.length).getD 1 0].ps.getD 0 0)]⟩ : Q4)).length) (b := 65536) false (decide_eq_false (by omega))) ?_
    refine znt ?_
    refine zcf ?_
    refine wp_skip ?_
    refine then_at rfl ?_
    refine wp_seq ?_
    refine wp_region_wk (HA (bs w) ((q94, 3, #[iN .i64 (min ((rfN l ss ss.length).getD 0 0) ((rfL l ss ss.length)[(rfN l ss ss.length).getD 1 0].ps.getD 0 0)), iN .i64 (max ((rfN l ss ss.length).getD 0 0) ((rfL l ss ss.length)[(rfN l ss ss.length).getD 1 0].ps.getD 0 0))]) :: (q85, 74, tmc (rfL l ss ss.length)[(rfN l ss ss.length).getD 1 0].k (rfL l ss ss.length)[(rfN l ss ss.length).getD 1 0].n (rfL l ss ss.length)[(rfN l ss ss.length).getD 1 0].s (some ⟨qb, 0, none⟩) (rfL l ss ss.length)[(rfN l ss ss.length).getD 1 0].ps.length cq) :: (q17, 74, #[iN .i64 k, iN .i64 0, .string label, .slice (some ⟨q94, 0, none⟩) 2 2]) :: (q12, 27, #[.slice o103 (putL (rfL l ss ss.length) (⟨k, 0, label, [min ((rfN l ss ss.length).getD 0 0) ((rfL l ss ss.length)[(rfN l ss ss.length).getD 1 0].ps.getD 0 0), max ((rfN l ss ss.length).getD 0 0) ((rfL l ss ss.length)[(rfN l ss ss.length).getD 1 0].ps.getD 0 0)]⟩ : Q4)).length c104]) :: (q1, 27, #[.slice ov l.length cv]) :: (((gp, 3, cp) :: N) ++ N102))) (fun A w' => A = ⟨(.agg #[.slice ov l.length cv] :: iN .i64 k :: .string label :: .slice o ss.length c :: pt q1 :: un :: un :: un :: pt q4 :: .string (txt (putN (rfL l ss ss.length) (⟨k, 0, label, [min ((rfN l ss ss.length).getD 0 0) ((rfL l ss ss.length)[(rfN l ss ss.length).getD 1 0].ps.getD 0 0), max ((rfN l ss ss.length).getD 0 0) ((rfL l ss ss.length)[(rfN l ss ss.length).getD 1 0].ps.getD 0 0)]⟩ : Q4))) :: iN .i64 0 :: .bool false :: iN .i64 ss.length :: pt q12 :: pt q17 :: iN .i64 ss.length :: u22 16 :: u22 17 :: iN .i64 ((rfN l ss ss.length).getD 0 0) :: pt q85 :: iN .i64 ((rfL l ss ss.length)[(rfN l ss ss.length).getD 1 0].ps.getD 0 0) :: iN .i64 (putN (rfL l ss ss.length) (⟨k, 0, label, [min ((rfN l ss ss.length).getD 0 0) ((rfL l ss ss.length)[(rfN l ss ss.length).getD 1 0].ps.getD 0 0), max ((rfN l ss ss.length).getD 0 0) ((rfL l ss ss.length)[(rfN l ss ss.length).getD 1 0].ps.getD 0 0)]⟩ : Q4)) :: iN .i64 k :: .slice o ss.length c :: iN .i64 ss.length :: .bool true :: .bool false :: .bool false :: .string label :: .bool false :: .bool false :: un :: un :: .bool false :: .bool false :: un :: .string label :: iN .i64 label.size :: .bool false :: iN .i64 ss.length :: .slice o ss.length c :: iN .i64 ss.length :: .bool false :: u9 43 :: u9 44 :: u9 45 :: u9 46 :: u9 47 :: u9 48 :: u9 49 :: u9 50 :: u9 51 :: u9 52 :: u9 53 :: .bool false :: un :: .agg (#[.slice ov l.length cv]) :: iN .i64 k :: .string label :: .agg #[iN .i64 k, iN .i64 0, .string label, .slice none 0 0] :: iN .i64 ss.length :: .slice o ss.length c :: iN .i64 ss.length :: .bool false :: u22 64 :: u22 65 :: u22 66 :: u22 67 :: u22 68 :: u22 69 :: u22 70 :: u22 71 :: u22 72 :: u22 73 :: u22 74 :: u22 75 :: u22 76 :: u22 77 :: u22 78 :: u22 79 :: u22 80 :: u22 81 :: iN .i64 k :: .bool true :: .pointer (some ⟨q17, 3, none⟩) :: .slice (some ⟨gp, 0, none⟩) ((rfN l ss ss.length).length) pc :: pt gp :: iN .i64 ((rfN l ss ss.length).getD 0 0) :: pt q12 :: .slice (some ⟨gt, 0, none⟩) ((rfL l ss ss.length).length) tc :: .pointer (some ⟨q17, 3, none⟩) :: .slice (some ⟨gp, 0, none⟩) ((rfN l ss ss.length).length) pc :: .pointer (some ⟨gp, 1, none⟩) :: iN .i64 ((rfN l ss ss.length).getD 1 0) :: .pointer (some ⟨gt, 4 * ((rfN l ss ss.length).getD 1 0), none⟩) :: .agg (tmc (rfL l ss ss.length)[(rfN l ss ss.length).getD 1 0].k (rfL l ss ss.length)[(rfN l ss ss.length).getD 1 0].n (rfL l ss ss.length)[(rfN l ss ss.length).getD 1 0].s (some ⟨qb, 0, none⟩) (rfL l ss ss.length)[(rfN l ss ss.length).getD 1 0].ps.length cq) :: pt q85 :: iN .i64 ((rfL l ss ss.length)[(rfN l ss ss.length).getD 1 0].k) :: .bool true :: .pointer (some ⟨q85, 3, none⟩) :: .slice (some ⟨qb, 0, none⟩) ((rfL l ss ss.length)[(rfN l ss ss.length).getD 1 0].ps.length) cq :: pt qb :: iN .i64 ((rfL l ss ss.length)[(rfN l ss ss.length).getD 1 0].ps.getD 0 0) :: iN .i64 ((rfN l ss ss.length).getD 0 0) :: iN .i64 ((rfL l ss ss.length)[(rfN l ss ss.length).getD 1 0].ps.getD 0 0) :: iN .i64 (min ((rfN l ss ss.length).getD 0 0) ((rfL l ss ss.length)[(rfN l ss ss.length).getD 1 0].ps.getD 0 0)) :: iN .i64 ((rfN l ss ss.length).getD 0 0) :: iN .i64 ((rfL l ss ss.length)[(rfN l ss ss.length).getD 1 0].ps.getD 0 0) :: iN .i64 (max ((rfN l ss ss.length).getD 0 0) ((rfL l ss ss.length)[(rfN l ss ss.length).getD 1 0].ps.getD 0 0)) :: .slice (some ⟨q94, 0, none⟩) 2 2 :: .pointer (some ⟨q17, 3, none⟩) :: un :: .tuple #[.agg #[.slice o103 (putL (rfL l ss ss.length) (⟨k, 0, label, [min ((rfN l ss ss.length).getD 0 0) ((rfL l ss ss.length)[(rfN l ss ss.length).getD 1 0].ps.getD 0 0), max ((rfN l ss ss.length).getD 0 0) ((rfL l ss ss.length)[(rfN l ss ss.length).getD 1 0].ps.getD 0 0)]⟩ : Q4)).length c104], iN .i64 (putN (rfL l ss ss.length) (⟨k, 0, label, [min ((rfN l ss ss.length).getD 0 0) ((rfL l ss ss.length)[(rfN l ss ss.length).getD 1 0].ps.getD 0 0), max ((rfN l ss ss.length).getD 0 0) ((rfL l ss ss.length)[(rfN l ss ss.length).getD 1 0].ps.getD 0 0)]⟩ : Q4))] :: .agg (#[.slice (some ⟨gt, 0, none⟩) ((rfL l ss ss.length).length) tc]) :: .agg (#[iN .i64 k, iN .i64 0, .string label, .slice (some ⟨q94, 0, none⟩) 2 2]) :: .tuple #[.agg #[.slice o103 (putL (rfL l ss ss.length) (⟨k, 0, label, [min ((rfN l ss ss.length).getD 0 0) ((rfL l ss ss.length)[(rfN l ss ss.length).getD 1 0].ps.getD 0 0), max ((rfN l ss ss.length).getD 0 0) ((rfL l ss ss.length)[(rfN l ss ss.length).getD 1 0].ps.getD 0 0)]⟩ : Q4)).length c104], iN .i64 (putN (rfL l ss ss.length) (⟨k, 0, label, [min ((rfN l ss ss.length).getD 0 0) ((rfL l ss ss.length)[(rfN l ss ss.length).getD 1 0].ps.getD 0 0), max ((rfN l ss ss.length).getD 0 0) ((rfL l ss ss.length)[(rfN l ss ss.length).getD 1 0].ps.getD 0 0)]⟩ : Q4))] :: .agg #[.slice o103 (putL (rfL l ss ss.length) (⟨k, 0, label, [min ((rfN l ss ss.length).getD 0 0) ((rfL l ss ss.length)[(rfN l ss ss.length).getD 1 0].ps.getD 0 0), max ((rfN l ss ss.length).getD 0 0) ((rfL l ss ss.length)[(rfN l ss ss.length).getD 1 0].ps.getD 0 0)]⟩ : Q4)).length c104] :: iN .i64 (putN (rfL l ss ss.length) (⟨k, 0, label, [min ((rfN l ss ss.length).getD 0 0) ((rfL l ss ss.length)[(rfN l ss ss.length).getD 1 0].ps.getD 0 0), max ((rfN l ss ss.length).getD 0 0) ((rfL l ss ss.length)[(rfN l ss ss.length).getD 1 0].ps.getD 0 0)]⟩ : Q4)) :: pt q12 :: .slice o103 (putL (rfL l ss ss.length) (⟨k, 0, label, [min ((rfN l ss ss.length).getD 0 0) ((rfL l ss ss.length)[(rfN l ss ss.length).getD 1 0].ps.getD 0 0), max ((rfN l ss ss.length).getD 0 0) ((rfL l ss ss.length)[(rfN l ss ss.length).getD 1 0].ps.getD 0 0)]⟩ : Q4)).length c104 :: iN .i64 ((putL (rfL l ss ss.length) (⟨k, 0, label, [min ((rfN l ss ss.length).getD 0 0) ((rfL l ss ss.length)[(rfN l ss ss.length).getD 1 0].ps.getD 0 0), max ((rfN l ss ss.length).getD 0 0) ((rfL l ss ss.length)[(rfN l ss ss.length).getD 1 0].ps.getD 0 0)]⟩ : Q4)).length) :: .bool false :: un :: .agg (#[.slice o103 (putL (rfL l ss ss.length) (⟨k, 0, label, [min ((rfN l ss ss.length).getD 0 0) ((rfL l ss ss.length)[(rfN l ss ss.length).getD 1 0].ps.getD 0 0), max ((rfN l ss ss.length).getD 0 0) ((rfL l ss ss.length)[(rfN l ss ss.length).getD 1 0].ps.getD 0 0)]⟩ : Q4)).length c104]) :: iN .i64 (putN (rfL l ss ss.length) (⟨k, 0, label, [min ((rfN l ss ss.length).getD 0 0) ((rfL l ss ss.length)[(rfN l ss ss.length).getD 1 0].ps.getD 0 0), max ((rfN l ss ss.length).getD 0 0) ((rfL l ss ss.length)[(rfN l ss ss.length).getD 1 0].ps.getD 0 0)]⟩ : Q4)) :: .string (txt (putN (rfL l ss ss.length) (⟨k, 0, label, [min ((rfN l ss ss.length).getD 0 0) ((rfL l ss ss.length)[(rfN l ss ss.length).getD 1 0].ps.getD 0 0), max ((rfN l ss ss.length).getD 0 0) ((rfL l ss ss.length)[(rfN l ss ss.length).getD 1 0].ps.getD 0 0)]⟩ : Q4))) :: List.replicate 0 un).toArray, []⟩ ∧ HA (bs w) ((q94, 3, #[iN .i64 (min ((rfN l ss ss.length).getD 0 0) ((rfL l ss ss.length)[(rfN l ss ss.length).getD 1 0].ps.getD 0 0)), iN .i64 (max ((rfN l ss ss.length).getD 0 0) ((rfL l ss ss.length)[(rfN l ss ss.length).getD 1 0].ps.getD 0 0))]) :: (q85, 74, tmc (rfL l ss ss.length)[(rfN l ss ss.length).getD 1 0].k (rfL l ss ss.length)[(rfN l ss ss.length).getD 1 0].n (rfL l ss ss.length)[(rfN l ss ss.length).getD 1 0].s (some ⟨qb, 0, none⟩) (rfL l ss ss.length)[(rfN l ss ss.length).getD 1 0].ps.length cq) :: (q17, 74, #[iN .i64 k, iN .i64 0, .string label, .slice (some ⟨q94, 0, none⟩) 2 2]) :: (q12, 27, #[.slice o103 (putL (rfL l ss ss.length) (⟨k, 0, label, [min ((rfN l ss ss.length).getD 0 0) ((rfL l ss ss.length)[(rfN l ss ss.length).getD 1 0].ps.getD 0 0), max ((rfN l ss ss.length).getD 0 0) ((rfL l ss ss.length)[(rfN l ss ss.length).getD 1 0].ps.getD 0 0)]⟩ : Q4)).length c104]) :: (q4, 27, #[.slice o103 (putL (rfL l ss ss.length) (⟨k, 0, label, [min ((rfN l ss ss.length).getD 0 0) ((rfL l ss ss.length)[(rfN l ss ss.length).getD 1 0].ps.getD 0 0), max ((rfN l ss ss.length).getD 0 0) ((rfL l ss ss.length)[(rfN l ss ss.length).getD 1 0].ps.getD 0 0)]⟩ : Q4)).length c104]) :: (q1, 27, #[.slice ov l.length cv]) :: (((gp, 3, cp) :: N) ++ N102)) w') 6 (by kernel_rfl) (by kernel_rfl) (by kernel_rfl) (by kernel_rfl) (by kernel_rfl) (HA.sub h108.drew (List.Sublist.cons_cons _ (List.Sublist.cons_cons _ (List.Sublist.cons_cons _ (List.Sublist.cons_cons _ (List.Sublist.cons _ (List.Sublist.cons_cons _ (List.Sublist.refl _)))))))) ?_ ?_
    ·have h109 := h108.drew
     refine wk_val (i := 0) (.agg (#[.slice o103 (putL (rfL l ss ss.length) (⟨k, 0, label, [min ((rfN l ss ss.length).getD 0 0) ((rfL l ss ss.length)[(rfN l ss ss.length).getD 1 0].ps.getD 0 0), max ((rfN l ss ss.length).getD 0 0) ((rfL l ss ss.length)[(rfN l ss ss.length).getD 1 0].ps.getD 0 0)]⟩ : Q4)).length c104])) rfl rfl (by kernel_rfl) (by kernel_rfl) (fun w' h' => run_load_blk (h'.get 3 rfl) Tryz.underlying27 rfl) ?_
     refine wk_val (i := 1) (iN .i64 (putN (rfL l ss ss.length) (⟨k, 0, label, [min ((rfN l ss ss.length).getD 0 0) ((rfL l ss ss.length)[(rfN l ss ss.length).getD 1 0].ps.getD 0 0), max ((rfN l ss ss.length).getD 0 0) ((rfL l ss ss.length)[(rfN l ss ss.length).getD 1 0].ps.getD 0 0)]⟩ : Q4))) rfl rfl (by kernel_rfl) (by kernel_rfl) (fun _ _ => (by kernel_rfl)) ?_
     refine wk_call (i := 2) (.string (txt (putN (rfL l ss ss.length) (⟨k, 0, label, [min ((rfN l ss ss.length).getD 0 0) ((rfL l ss ss.length)[(rfN l ss ss.length).getD 1 0].ps.getD 0 0), max ((rfN l ss ss.length).getD 0 0) ((rfL l ss ss.length)[(rfN l ss ss.length).getD 1 0].ps.getD 0 0)]⟩ : Q4)))) HA.keep rfl rfl (by kernel_rfl) (by kernel_rfl) enter30 #[iN .i64 (putN (rfL l ss ss.length) (⟨k, 0, label, [min ((rfN l ss ss.length).getD 0 0) ((rfL l ss ss.length)[(rfN l ss ss.length).getD 1 0].ps.getD 0 0), max ((rfN l ss ss.length).getD 0 0) ((rfL l ss ss.length)[(rfN l ss ss.length).getD 1 0].ps.getD 0 0)]⟩ : Q4))] (by kernel_rfl) (fun w' h' => rtext_any (putN (rfL l ss ss.length) (⟨k, 0, label, [min ((rfN l ss ss.length).getD 0 0) ((rfL l ss ss.length)[(rfN l ss ss.length).getD 1 0].ps.getD 0 0), max ((rfN l ss ss.length).getD 0 0) ((rfL l ss ss.length)[(rfN l ss ss.length).getD 1 0].ps.getD 0 0)]⟩ : Q4)) (by omega) w') ?_
     refine wk_one 3 (by kernel_rfl) ?_
     refine ef_fill (c' := #[.slice o103 (putL (rfL l ss ss.length) (⟨k, 0, label, [min ((rfN l ss ss.length).getD 0 0) ((rfL l ss ss.length)[(rfN l ss ss.length).getD 1 0].ps.getD 0 0), max ((rfN l ss ss.length).getD 0 0) ((rfL l ss ss.length)[(rfN l ss ss.length).getD 1 0].ps.getD 0 0)]⟩ : Q4)).length c104]) rfl (by kernel_rfl) ((q94, 3, #[iN .i64 (min ((rfN l ss ss.length).getD 0 0) ((rfL l ss ss.length)[(rfN l ss ss.length).getD 1 0].ps.getD 0 0)), iN .i64 (max ((rfN l ss ss.length).getD 0 0) ((rfL l ss ss.length)[(rfN l ss ss.length).getD 1 0].ps.getD 0 0))]) :: (q85, 74, tmc (rfL l ss ss.length)[(rfN l ss ss.length).getD 1 0].k (rfL l ss ss.length)[(rfN l ss ss.length).getD 1 0].n (rfL l ss ss.length)[(rfN l ss ss.length).getD 1 0].s (some ⟨qb, 0, none⟩) (rfL l ss ss.length)[(rfN l ss ss.length).getD 1 0].ps.length cq) :: (q17, 74, #[iN .i64 k, iN .i64 0, .string label, .slice (some ⟨q94, 0, none⟩) 2 2]) :: (q12, 27, #[.slice o103 (putL (rfL l ss ss.length) (⟨k, 0, label, [min ((rfN l ss ss.length).getD 0 0) ((rfL l ss ss.length)[(rfN l ss ss.length).getD 1 0].ps.getD 0 0), max ((rfN l ss ss.length).getD 0 0) ((rfL l ss ss.length)[(rfN l ss ss.length).getD 1 0].ps.getD 0 0)]⟩ : Q4)).length c104]) :: (q4, 27, #[.slice o103 (putL (rfL l ss ss.length) (⟨k, 0, label, [min ((rfN l ss ss.length).getD 0 0) ((rfL l ss ss.length)[(rfN l ss ss.length).getD 1 0].ps.getD 0 0), max ((rfN l ss ss.length).getD 0 0) ((rfL l ss ss.length)[(rfN l ss ss.length).getD 1 0].ps.getD 0 0)]⟩ : Q4)).length c104]) :: (q1, 27, #[.slice ov l.length cv]) :: (((gp, 3, cp) :: N) ++ N102)) h109 4 rfl rfl (by kernel_rfl) (by kernel_rfl) rfl (by kernel_rfl) (by kernel_rfl) (fun w' h' => (HA.sub h' (List.Sublist.cons_cons _ (List.Sublist.cons_cons _ (List.Sublist.cons_cons _ (List.Sublist.cons_cons _ (List.Sublist.cons _ (List.Sublist.cons_cons _ (List.Sublist.refl _))))))))) ?_
     intro w111 (h110 : HA (bs w) ((q94, 3, #[iN .i64 (min ((rfN l ss ss.length).getD 0 0) ((rfL l ss ss.length)[(rfN l ss ss.length).getD 1 0].ps.getD 0 0)), iN .i64 (max ((rfN l ss ss.length).getD 0 0) ((rfL l ss ss.length)[(rfN l ss ss.length).getD 1 0].ps.getD 0 0))]) :: (q85, 74, tmc (rfL l ss ss.length)[(rfN l ss ss.length).getD 1 0].k (rfL l ss ss.length)[(rfN l ss ss.length).getD 1 0].n (rfL l ss ss.length)[(rfN l ss ss.length).getD 1 0].s (some ⟨qb, 0, none⟩) (rfL l ss ss.length)[(rfN l ss ss.length).getD 1 0].ps.length cq) :: (q17, 74, #[iN .i64 k, iN .i64 0, .string label, .slice (some ⟨q94, 0, none⟩) 2 2]) :: (q12, 27, #[.slice o103 (putL (rfL l ss ss.length) (⟨k, 0, label, [min ((rfN l ss ss.length).getD 0 0) ((rfL l ss ss.length)[(rfN l ss ss.length).getD 1 0].ps.getD 0 0), max ((rfN l ss ss.length).getD 0 0) ((rfL l ss ss.length)[(rfN l ss ss.length).getD 1 0].ps.getD 0 0)]⟩ : Q4)).length c104]) :: (q4, 27, #[.slice o103 (putL (rfL l ss ss.length) (⟨k, 0, label, [min ((rfN l ss ss.length).getD 0 0) ((rfL l ss ss.length)[(rfN l ss ss.length).getD 1 0].ps.getD 0 0), max ((rfN l ss ss.length).getD 0 0) ((rfL l ss ss.length)[(rfN l ss ss.length).getD 1 0].ps.getD 0 0)]⟩ : Q4)).length c104]) :: (q1, 27, #[.slice ov l.length cv]) :: (((gp, 3, cp) :: N) ++ N102)) w111)
     refine wk_val (i := 4) (.string (txt (putN (rfL l ss ss.length) (⟨k, 0, label, [min ((rfN l ss ss.length).getD 0 0) ((rfL l ss ss.length)[(rfN l ss ss.length).getD 1 0].ps.getD 0 0), max ((rfN l ss ss.length).getD 0 0) ((rfL l ss ss.length)[(rfN l ss ss.length).getD 1 0].ps.getD 0 0)]⟩ : Q4)))) rfl rfl (by kernel_rfl) (by kernel_rfl) (fun _ _ => (by kernel_rfl)) ?_
     refine wk_val (i := 5) (iN .i64 0) rfl rfl (by kernel_rfl) (by kernel_rfl) (fun _ _ => (by kernel_rfl)) ?_
     refine wk_end fun w112 hbx hsx => ?_
     have h113 := HA.keep _ _ h110 hbx
     exact ⟨by kernel_rfl, h113⟩
    ·rintro _ w114 ⟨rfl, h115⟩
     refine then_at rfl ?_
     refine wp_ret ?_
     repeat first | refine then_ret ?_ | refine block_ret ?_
     have hX : (rmX (rfL l ss ss.length) k label (rfN l ss ss.length)) = (⟨k, 0, label, [min ((rfN l ss ss.length).getD 0 0) ((rfL l ss ss.length)[(rfN l ss ss.length).getD 1 0].ps.getD 0 0), max ((rfN l ss ss.length).getD 0 0) ((rfL l ss ss.length)[(rfN l ss ss.length).getD 1 0].ps.getD 0 0)]⟩ : Q4) := by unfold rmX rmN rmP; rw [if_pos hk4, if_pos hk4, List.getElem?_eq_getElem hj]; simp only [hq3, if_true]
     rw [hX]
     exact bodyPost_ret (v := .tuple #[.agg #[.slice o103 (putL (rfL l ss ss.length) (⟨k, 0, label, [min ((rfN l ss ss.length).getD 0 0) ((rfL l ss ss.length)[(rfN l ss ss.length).getD 1 0].ps.getD 0 0), max ((rfN l ss ss.length).getD 0 0) ((rfL l ss ss.length)[(rfN l ss ss.length).getD 1 0].ps.getD 0 0)]⟩ : Q4)).length c104], .string (txt (putN (rfL l ss ss.length) (⟨k, 0, label, [min ((rfN l ss ss.length).getD 0 0) ((rfL l ss ss.length)[(rfN l ss ss.length).getD 1 0].ps.getD 0 0), max ((rfN l ss ss.length).getD 0 0) ((rfL l ss ss.length)[(rfN l ss ss.length).getD 1 0].ps.getD 0 0)]⟩ : Q4))), iN .i64 0]) (res_cell_tmp2 (p := 8) (r := 9) (r2 := 10) (by kernel_rfl) (by kernel_rfl) (by kernel_rfl) (by kernel_rfl) (h115.get 4 rfl) Tryz.underlying27 rfl (by kernel_rfl)) rfl ⟨_, ((q94, 3, #[iN .i64 (min ((rfN l ss ss.length).getD 0 0) ((rfL l ss ss.length)[(rfN l ss ss.length).getD 1 0].ps.getD 0 0)), iN .i64 (max ((rfN l ss ss.length).getD 0 0) ((rfL l ss ss.length)[(rfN l ss ss.length).getD 1 0].ps.getD 0 0))]) :: (((gp, 3, cp) :: N) ++ N102)), rfl, RTL.mono hr99 (fun x hx => by simp only [List.mem_append, List.mem_cons] at hx ⊢; rcases hx with h | h | h | h <;> simp [h]), HA.newerS h115 (List.Sublist.cons_cons _ (List.Sublist.cons _ (List.Sublist.cons _ (List.Sublist.cons _ (List.Sublist.cons _ (List.Sublist.cons _ (List.Sublist.refl _))))))), h115.old.old⟩
theorem rmk_q {w : World} {ov : Option Addr} {cv : Nat} {l : List Q4} {RL : BL} (h : RTL (.slice ov l.length cv) l RL) (hS : Stand w RL) (hl : ∀ q ∈ l, q.ps.length ≤ 1000) (hll : l.length ≤ 50000) (k : Nat) (label : ByteArray) (ss : List ByteArray) (o : Option Addr) (c : Nat) (hp : ss = [] ∨ ∃ pq cs, o = some ⟨pq, 0, none⟩ ∧ PreS cs ss ∧ Blk w pq 9 cs) (hsl : ss.length ≤ 100) (hlab : label.size ≤ 65536) (hss : ∀ i, (ss.getD i ByteArray.empty).size ≤ 65536) (hcnt : cntB k ss.length = true) (hk4 : k = 4) (hs2 : ss.length = 2) (hlb : label = { data := #[] }) (hq : ∀ (hj : (rfN l ss ss.length).getD 1 0 < (rfL l ss ss.length).length), ¬ ((rfL l ss ss.length)[(rfN l ss ss.length).getD 1 0]).k = 3) :
  Calls Tryz.prog 15 #[.agg #[.slice ov l.length cv], iN .i64 k, .string label, .slice o ss.length c] w fun e w' => ∃ v' N, e = .returned (.tuple #[.agg #[v'], .string (txt (putN (rfL l ss ss.length) (rmX (rfL l ss ss.length) k label (rfN l ss ss.length)))), iN .i64 0]) ∧ RTL v' (putL (rfL l ss ss.length) (rmX (rfL l ss ss.length) k label (rfN l ss ss.length))) (N ++ RL) ∧ Newer w.heap.size w' N ∧ Below w.heap.size w w' := by
 have H0 := HA.start w
 go_enter Tryz.func15, Tryz.ntmps15
 refine zsr ?_
 refine wl_make (c := #[.slice ov l.length cv]) H0 27 ?_
 intro q1 w2 (h3 : HA (bs w) [(q1, 27, #[.slice ov l.length cv])] w2)
 refine wl_make (c := #[.slice none 0 0]) h3 27 ?_
 intro q4 w5 (h6 : HA (bs w) [(q4, 27, #[.slice none 0 0]), (q1, 27, #[.slice ov l.length cv])] w5)
 refine zwv (.string ({ data := #[] })) ?_
 refine zwv (iN .i64 0) ?_
 refine znt ?_
 refine wp_seq ?_
 refine zsr ?_
 refine zwv (iN .i64 k) ?_
 refine zwv (.slice o ss.length c) ?_
 refine zwv (iN .i64 ss.length) ?_
 refine wl_call (v := .bool true) h6 enter38 #[iN .i64 k, iN .i64 ss.length] (by have := count_any k ss.length w5; rw [hcnt] at this; exact this) ?_
 intro w7 h8
 refine zwv (.bool false) ?_
 refine zwv (.bool false) ?_
 refine zwv (.string label) ?_
 refine zwu (run_nes (s := label) (t := { data := #[] }) false (decide_eq_true hlb)) ?_
 refine zwv (.bool false) ?_
 refine wl_skip ?_
 refine wl_skip ?_
 refine zwv (.bool false) ?_
 refine zwv (.bool false) ?_
 refine znt ?_
 refine zcf ?_
 refine wp_skip ?_
 refine then_at rfl ?_
 refine zsr ?_
 refine zwv (.string label) ?_
 refine zwu (run_len (s := label)) ?_
 refine zwu (run_gtr (k := .i64) (a := label.size) (b := 65536) false (decide_eq_false (by omega))) ?_
 refine zwv (.bool false) ?_
 refine znt ?_
 refine wp_seq ?_
 refine zsr ?_
 refine zwv (iN .i64 0) ?_
 refine znt ?_
 refine wp_block ?_
 refine wp_count (fun i A w' => ∃ u9 : Nat → Value, A = ⟨(.agg #[.slice ov l.length cv] :: iN .i64 k :: .string label :: .slice o ss.length c :: pt q1 :: un :: un :: un :: pt q4 :: .string ({ data := #[] }) :: iN .i64 0 :: .bool false :: iN .i64 i :: un :: un :: un :: un :: un :: un :: un :: un :: un :: iN .i64 k :: .slice o ss.length c :: iN .i64 ss.length :: .bool true :: .bool false :: .bool false :: .string label :: .bool false :: .bool false :: un :: un :: .bool false :: .bool false :: un :: .string label :: iN .i64 label.size :: .bool false :: u9 39 :: u9 40 :: u9 41 :: u9 42 :: u9 43 :: u9 44 :: u9 45 :: u9 46 :: u9 47 :: u9 48 :: u9 49 :: u9 50 :: u9 51 :: u9 52 :: u9 53 :: List.replicate 72 un).toArray, []⟩ ∧ HA (bs w) [(q4, 27, #[.slice none 0 0]), (q1, 27, #[.slice ov l.length cv])] w') ss.length ?_ ?_ ?_
 ·exact zex h8
 ·rintro i hk _ w10 ⟨u9, rfl, hA⟩
  obtain ⟨pq, cs, rfl, hps, hm⟩ := hp.resolve_left (by intro e; rw [e] at hk; simp at hk)
  have hsi := hss i
  refine wp_seq ?_
  refine zsr ?_
  refine zwv (iN .i64 i) ?_
  refine zwv (.slice (some ⟨pq, 0, none⟩) ss.length c) ?_
  refine zwv (iN .i64 ss.length) ?_
  refine zwu (run_lss (k := .i64) (a := i) (b := ss.length) true (decide_eq_true (by omega))) ?_
  refine znt ?_
  refine zct ?_
  refine wp_skip ?_
  refine then_at rfl ?_
  refine wp_seq ?_
  refine wp_block ?_
  refine wl_region ?_
  refine zwv (.bool false) ?_
  refine zwv (.bool false) ?_
  refine zwv (.slice (some ⟨pq, 0, none⟩) ss.length c) ?_
  refine zwv (iN .i64 i) ?_
  refine zwu (v := .pointer (some ⟨pq, i, none⟩)) (run_addr_slice (q := pq) (n := ss.length) (m := c) (a := i) Tryz.underlying30 Tryz.sizeOf9 (by omega)) ?_
  refine zwu (v := .string (ss.getD i ByteArray.empty)) (run_load1 Tryz.isAgg9 (((hm.keep hA.old.old).cell i).trans (hps i hk))) ?_
  refine zwu (run_len (s := ss.getD i ByteArray.empty)) ?_
  refine zwu (run_gtr (k := .i64) (a := (ss.getD i ByteArray.empty).size) (b := 65536) false (decide_eq_false (by omega))) ?_
  refine zwv (.bool false) ?_
  refine zwv (.bool false) ?_
  refine wl_nil ?_
  refine block_normal ?_
  refine then_at rfl ?_
  refine wl_region ?_
  refine zwv (iN .i64 i) ?_
  refine zwu (run_add (k := .i64) (a := i) (b := 1) (by simp only [top]; omega)) ?_
  refine zwv (iN .i64 (i + 1)) ?_
  refine wl_nil ?_
  exact then_I (zex hA)
 ·rintro _ w11 ⟨u9, rfl, hA⟩
  refine wp_seq ?_
  refine zsr ?_
  refine zwv (iN .i64 ss.length) ?_
  refine zwv (.slice o ss.length c) ?_
  refine zwv (iN .i64 ss.length) ?_
  refine zwu (run_lss (k := .i64) (a := ss.length) (b := ss.length) false (decide_eq_false (by omega))) ?_
  refine znt ?_
  refine zcf ?_
  refine wp_exit ?_
  repeat first | refine then_exit ?_ | refine block_exit ?_ | refine block_exit_ne (by decide) ?_
  refine then_at rfl ?_
  refine wp_seq ?_
  refine zsr ?_
  refine zwv (.bool false) ?_
  refine znt ?_
  refine zcf ?_
  refine wp_skip ?_
  refine then_at rfl ?_
  refine zsr ?_
  refine wl_load hA 1 rfl Tryz.underlying27 rfl ?_
  refine wl_make (c := #[.slice none 0 0]) hA 27 ?_
  intro q12 w13 (h14 : HA (bs w) [(q12, 27, #[.slice none 0 0]), (q4, 27, #[.slice none 0 0]), (q1, 27, #[.slice ov l.length cv])] w13)
  refine wl_fill (c' := #[.slice ov l.length cv]) h14 0 rfl rfl ?_
  intro w15 (h16 : HA (bs w) [(q12, 27, #[.slice ov l.length cv]), (q4, 27, #[.slice none 0 0]), (q1, 27, #[.slice ov l.length cv])] w15)
  refine znt ?_
  refine zsr ?_
  refine zwv (iN .i64 k) ?_
  refine zwv (.string label) ?_
  refine zwv (.agg #[iN .i64 k, iN .i64 0, .string label, .slice none 0 0]) ?_
  refine wl_make (c := #[iN .i64 0, iN .i64 0, .string ({ data := #[] }), .slice none 0 0]) h16 74 ?_
  intro q17 w18 (h19 : HA (bs w) [(q17, 74, #[iN .i64 0, iN .i64 0, .string ({ data := #[] }), .slice none 0 0]), (q12, 27, #[.slice ov l.length cv]), (q4, 27, #[.slice none 0 0]), (q1, 27, #[.slice ov l.length cv])] w18)
  refine wl_fill (c' := #[iN .i64 k, iN .i64 0, .string label, .slice none 0 0]) h19 0 rfl rfl ?_
  intro w20 (h21 : HA (bs w) [(q17, 74, #[iN .i64 k, iN .i64 0, .string label, .slice none 0 0]), (q12, 27, #[.slice ov l.length cv]), (q4, 27, #[.slice none 0 0]), (q1, 27, #[.slice ov l.length cv])] w20)
  refine znt ?_
  refine wp_seq ?_
  refine zsr ?_
  refine zwv (iN .i64 0) ?_
  refine znt ?_
  have HT0 := h21
  refine wp_block ?_
  refine wp_count (fun i A w' => ∃ u22 : Nat → Value, A = ⟨(.agg #[.slice ov l.length cv] :: iN .i64 k :: .string label :: .slice o ss.length c :: pt q1 :: un :: un :: un :: pt q4 :: .string ({ data := #[] }) :: iN .i64 0 :: .bool false :: iN .i64 ss.length :: pt q12 :: pt q17 :: iN .i64 i :: u22 16 :: u22 17 :: un :: un :: un :: un :: iN .i64 k :: .slice o ss.length c :: iN .i64 ss.length :: .bool true :: .bool false :: .bool false :: .string label :: .bool false :: .bool false :: un :: un :: .bool false :: .bool false :: un :: .string label :: iN .i64 label.size :: .bool false :: iN .i64 ss.length :: .slice o ss.length c :: iN .i64 ss.length :: .bool false :: u9 43 :: u9 44 :: u9 45 :: u9 46 :: u9 47 :: u9 48 :: u9 49 :: u9 50 :: u9 51 :: u9 52 :: u9 53 :: .bool false :: un :: .agg (#[.slice ov l.length cv]) :: iN .i64 k :: .string label :: .agg #[iN .i64 k, iN .i64 0, .string label, .slice none 0 0] :: u22 60 :: u22 61 :: u22 62 :: u22 63 :: u22 64 :: u22 65 :: u22 66 :: u22 67 :: u22 68 :: u22 69 :: u22 70 :: u22 71 :: u22 72 :: u22 73 :: u22 74 :: u22 75 :: u22 76 :: u22 77 :: u22 78 :: u22 79 :: u22 80 :: u22 81 :: List.replicate 44 un).toArray, []⟩ ∧ ∃ po pc to tc N Lr, RTL (.slice to (rfL l ss i).length tc) (rfL l ss i) (N ++ RL) ∧ Row 3 1 (.slice po (rfN l ss i).length pc) (rfN l ss i).length ((rfN l ss i).map (iN .i64 ·)) Lr ∧ HA (bs w) ((q17, 74, #[iN .i64 k, iN .i64 0, .string label, .slice po (rfN l ss i).length pc]) :: (q12, 27, #[.slice to (rfL l ss i).length tc]) :: (q4, 27, #[.slice none 0 0]) :: (q1, 27, #[.slice ov l.length cv]) :: (Lr ++ N)) w') ss.length ?_ ?_ ?_
  ·exact zex (⟨none, 0, ov, cv, [], [], h, Row.nil 3 1, HT0⟩)
  ·rintro i hk _ w23 ⟨u22, rfl, ⟨po, pc, to, tc, N, Lr, hr, hR, hA⟩⟩
   obtain ⟨pq, cs, rfl, hps, hm⟩ := hp.resolve_left (by intro e; rw [e] at hk; simp at hk)
   refine wp_seq ?_
   refine zsr ?_
   refine zwv (iN .i64 i) ?_
   refine zwv (.slice (some ⟨pq, 0, none⟩) ss.length c) ?_
   refine zwv (iN .i64 ss.length) ?_
   refine zwu (run_lss (k := .i64) (a := i) (b := ss.length) true (decide_eq_true (by omega))) ?_
   refine znt ?_
   refine zct ?_
   refine wp_skip ?_
   refine then_at rfl ?_
   refine wp_seq ?_
   refine wp_block ?_
   refine wp_seq ?_
   refine wp_region_wk (HA (bs w) ((q17, 74, #[iN .i64 k, iN .i64 0, .string label, .slice po (rfN l ss i).length pc]) :: (q12, 27, #[.slice to (rfL l ss i).length tc]) :: (q4, 27, #[.slice none 0 0]) :: (q1, 27, #[.slice ov l.length cv]) :: (Lr ++ N))) (fun A w' => ∃ (N32 : BL) (to37 : Option Addr) (tc38 : Nat) (q40 : Nat), A = ⟨(.agg #[.slice ov l.length cv] :: iN .i64 k :: .string label :: .slice (some ⟨pq, 0, none⟩) ss.length c :: pt q1 :: un :: un :: un :: pt q4 :: .string ({ data := #[] }) :: iN .i64 0 :: .bool false :: iN .i64 ss.length :: pt q12 :: pt q17 :: iN .i64 i :: pt q40 :: iN .i64 (rpN (rfL l ss i) (ss.getD i ByteArray.empty)) :: un :: un :: un :: un :: iN .i64 k :: .slice (some ⟨pq, 0, none⟩) ss.length c :: iN .i64 ss.length :: .bool true :: .bool false :: .bool false :: .string label :: .bool false :: .bool false :: un :: un :: .bool false :: .bool false :: un :: .string label :: iN .i64 label.size :: .bool false :: iN .i64 ss.length :: .slice (some ⟨pq, 0, none⟩) ss.length c :: iN .i64 ss.length :: .bool false :: u9 43 :: u9 44 :: u9 45 :: u9 46 :: u9 47 :: u9 48 :: u9 49 :: u9 50 :: u9 51 :: u9 52 :: u9 53 :: .bool false :: un :: .agg (#[.slice ov l.length cv]) :: iN .i64 k :: .string label :: .agg #[iN .i64 k, iN .i64 0, .string label, .slice none 0 0] :: iN .i64 i :: .slice (some ⟨pq, 0, none⟩) ss.length c :: iN .i64 ss.length :: .bool true :: u22 64 :: u22 65 :: .tuple #[.agg #[.slice to37 (rpL (rfL l ss i) (ss.getD i ByteArray.empty)).length tc38], iN .i64 (rpN (rfL l ss i) (ss.getD i ByteArray.empty))] :: .agg (#[.slice to (rfL l ss i).length tc]) :: .slice (some ⟨pq, 0, none⟩) ss.length c :: iN .i64 i :: .pointer (some ⟨pq, i, none⟩) :: .string (ss.getD i ByteArray.empty) :: .tuple #[.agg #[.slice to37 (rpL (rfL l ss i) (ss.getD i ByteArray.empty)).length tc38], iN .i64 (rpN (rfL l ss i) (ss.getD i ByteArray.empty))] :: .agg #[.slice to37 (rpL (rfL l ss i) (ss.getD i ByteArray.empty)).length tc38] :: iN .i64 (rpN (rfL l ss i) (ss.getD i ByteArray.empty)) :: u22 75 :: u22 76 :: u22 77 :: u22 78 :: u22 79 :: u22 80 :: u22 81 :: List.replicate 44 un).toArray, []⟩ ∧ RTL (.slice to37 (rpL (rfL l ss i) (ss.getD i ByteArray.empty)).length tc38) (rpL (rfL l ss i) (ss.getD i ByteArray.empty)) (N32 ++ (N ++ RL)) ∧ HA (bs w) ((q40, 27, #[.slice to37 (rpL (rfL l ss i) (ss.getD i ByteArray.empty)).length tc38]) :: (q17, 74, #[iN .i64 k, iN .i64 0, .string label, .slice po (rfN l ss i).length pc]) :: (q12, 27, #[.slice to (rfL l ss i).length tc]) :: (q4, 27, #[.slice none 0 0]) :: (q1, 27, #[.slice ov l.length cv]) :: ((Lr ++ N) ++ N32)) w') 12 (by kernel_rfl) (by kernel_rfl) (by kernel_rfl) (by kernel_rfl) (by kernel_rfl) (hA.drew) ?_ ?_
   ·have h24 := hA.drew
    refine wk_val (i := 0) (.agg (#[.slice to (rfL l ss i).length tc])) rfl rfl (by kernel_rfl) (by kernel_rfl) (fun w' h' => run_load_blk (h'.get 1 rfl) Tryz.underlying27 rfl) ?_
    refine wk_val (i := 1) (.slice (some ⟨pq, 0, none⟩) ss.length c) rfl rfl (by kernel_rfl) (by kernel_rfl) (fun _ _ => (by kernel_rfl)) ?_
    refine wk_val (i := 2) (iN .i64 i) rfl rfl (by kernel_rfl) (by kernel_rfl) (fun _ _ => (by kernel_rfl)) ?_
    refine wk_val (i := 3) (.pointer (some ⟨pq, i, none⟩)) rfl rfl (by kernel_rfl) (by kernel_rfl) (fun _ _ => (run_addr_slice (q := pq) (n := ss.length) (m := c) (a := i) Tryz.underlying30 Tryz.sizeOf9 (by omega))) ?_
    refine wk_val (i := 4) (.string (ss.getD i ByteArray.empty)) rfl rfl (by kernel_rfl) (by kernel_rfl) (fun w' h' => run_load1 Tryz.isAgg9 (((hm.keep h'.old.old).cell i).trans (hps i hk))) ?_
    refine wk_two 5 9 (by kernel_rfl) ?_ ?_
    ·refine ef_callx rfl (by kernel_rfl) h24 enter32 #[.agg (#[.slice to (rfL l ss i).length tc]), .string (ss.getD i ByteArray.empty)] (by kernel_rfl) (fun w33 h34 => rpart_any hr (hS.join h34 (N := N) (fun x hx => by simp [hx])) (rfL_ps hl i) (by have := rfL_len l ss i; omega) (ss.getD i ByteArray.empty)) ?_
     rintro w33 h34 _ w35 hpost
     obtain ⟨tv36, N32, rfl, hr29, hN31, hb30⟩ := hpost
     obtain ⟨to37, tc38, rfl⟩ := hr29.form
     have h39 : HA (bs w) ((q17, 74, #[iN .i64 k, iN .i64 0, .string label, .slice po (rfN l ss i).length pc]) :: (q12, 27, #[.slice to (rfL l ss i).length tc]) :: (q4, 27, #[.slice none 0 0]) :: (q1, 27, #[.slice ov l.length cv]) :: ((Lr ++ N) ++ N32)) w35 := HA.addL h34 hb30 hN31
     refine ⟨_, rfl, (HA.sub h39 (List.Sublist.cons_cons _ (List.Sublist.cons_cons _ (List.Sublist.cons_cons _ (List.Sublist.cons_cons _ (List.sublist_append_left _ _)))))), ?_⟩
     refine wk_val (i := 6) (.tuple #[.agg #[.slice to37 (rpL (rfL l ss i) (ss.getD i ByteArray.empty)).length tc38], iN .i64 (rpN (rfL l ss i) (ss.getD i ByteArray.empty))]) rfl rfl (by kernel_rfl) (by kernel_rfl) (fun _ _ => (by kernel_rfl)) ?_
     refine wk_val (i := 7) (.agg #[.slice to37 (rpL (rfL l ss i) (ss.getD i ByteArray.empty)).length tc38]) rfl rfl (by kernel_rfl) (by kernel_rfl) (fun _ _ => (by kernel_rfl)) ?_
     refine wk_val (i := 8) (iN .i64 (rpN (rfL l ss i) (ss.getD i ByteArray.empty))) rfl rfl (by kernel_rfl) (by kernel_rfl) (fun _ _ => (by kernel_rfl)) ?_
     refine wk_one 9 (by kernel_rfl) ?_
     refine ef_make (c := #[.slice none 0 0]) rfl (by kernel_rfl) h39 27 (fun _ => (by kernel_rfl)) (fun q w' h' => (HA.sub h' (List.Sublist.cons _ (List.Sublist.cons_cons _ (List.Sublist.cons_cons _ (List.Sublist.cons_cons _ (List.Sublist.cons_cons _ (List.sublist_append_left _ _)))))))) ?_
     intro q40 w42 (h41 : HA (bs w) ((q40, 27, #[.slice none 0 0]) :: (q17, 74, #[iN .i64 k, iN .i64 0, .string label, .slice po (rfN l ss i).length pc]) :: (q12, 27, #[.slice to (rfL l ss i).length tc]) :: (q4, 27, #[.slice none 0 0]) :: (q1, 27, #[.slice ov l.length cv]) :: ((Lr ++ N) ++ N32)) w42)
     refine wk_one 10 (by kernel_rfl) ?_
     refine ef_fill (c' := #[.slice to37 (rpL (rfL l ss i) (ss.getD i ByteArray.empty)).length tc38]) rfl (by kernel_rfl) ((q40, 27, #[.slice to37 (rpL (rfL l ss i) (ss.getD i ByteArray.empty)).length tc38]) :: (q17, 74, #[iN .i64 k, iN .i64 0, .string label, .slice po (rfN l ss i).length pc]) :: (q12, 27, #[.slice to (rfL l ss i).length tc]) :: (q4, 27, #[.slice none 0 0]) :: (q1, 27, #[.slice ov l.length cv]) :: ((Lr ++ N) ++ N32)) h41 0 rfl rfl (by kernel_rfl) (by kernel_rfl) rfl (by kernel_rfl) (by kernel_rfl) (fun w' h' => (HA.sub h' (List.Sublist.cons _ (List.Sublist.cons_cons _ (List.Sublist.cons_cons _ (List.Sublist.cons_cons _ (List.Sublist.cons_cons _ (List.sublist_append_left _ _)))))))) ?_
     intro w44 (h43 : HA (bs w) ((q40, 27, #[.slice to37 (rpL (rfL l ss i) (ss.getD i ByteArray.empty)).length tc38]) :: (q17, 74, #[iN .i64 k, iN .i64 0, .string label, .slice po (rfN l ss i).length pc]) :: (q12, 27, #[.slice to (rfL l ss i).length tc]) :: (q4, 27, #[.slice none 0 0]) :: (q1, 27, #[.slice ov l.length cv]) :: ((Lr ++ N) ++ N32)) w44)
     refine wk_val (i := 11) (iN .i64 (rpN (rfL l ss i) (ss.getD i ByteArray.empty))) rfl rfl (by kernel_rfl) (by kernel_rfl) (fun _ _ => (by kernel_rfl)) ?_
     refine wk_end fun w45 hbx hsx => ?_
     have h46 := HA.keep _ _ h43 hbx
     exact ⟨N32, to37, tc38, q40, by kernel_rfl, hr29, h46⟩
    ·refine ef_make (c := #[.slice none 0 0]) rfl (by kernel_rfl) h24 27 (fun _ => (by kernel_rfl)) (fun q w' h' => (HA.sub h' (List.Sublist.cons _ (List.Sublist.cons_cons _ (List.Sublist.cons_cons _ (List.Sublist.cons_cons _ (List.Sublist.cons_cons _ (List.Sublist.refl _)))))))) ?_
     intro q47 w49 (h48 : HA (bs w) ((q47, 27, #[.slice none 0 0]) :: (q17, 74, #[iN .i64 k, iN .i64 0, .string label, .slice po (rfN l ss i).length pc]) :: (q12, 27, #[.slice to (rfL l ss i).length tc]) :: (q4, 27, #[.slice none 0 0]) :: (q1, 27, #[.slice ov l.length cv]) :: (Lr ++ N)) w49)
     refine wk_one 5 (by kernel_rfl) ?_
     refine ef_callx rfl (by kernel_rfl) h48 enter32 #[.agg (#[.slice to (rfL l ss i).length tc]), .string (ss.getD i ByteArray.empty)] (by kernel_rfl) (fun w58 h59 => rpart_any hr (hS.join h59 (N := N) (fun x hx => by simp [hx])) (rfL_ps hl i) (by have := rfL_len l ss i; omega) (ss.getD i ByteArray.empty)) ?_
     rintro w58 h59 _ w60 hpost
     obtain ⟨tv61, N57, rfl, hr54, hN56, hb55⟩ := hpost
     obtain ⟨to62, tc63, rfl⟩ := hr54.form
     have h64 : HA (bs w) ((q47, 27, #[.slice none 0 0]) :: (q17, 74, #[iN .i64 k, iN .i64 0, .string label, .slice po (rfN l ss i).length pc]) :: (q12, 27, #[.slice to (rfL l ss i).length tc]) :: (q4, 27, #[.slice none 0 0]) :: (q1, 27, #[.slice ov l.length cv]) :: ((Lr ++ N) ++ N57)) w60 := HA.addL h59 hb55 hN56
     refine ⟨_, rfl, (HA.sub h64 (List.Sublist.cons _ (List.Sublist.cons_cons _ (List.Sublist.cons_cons _ (List.Sublist.cons_cons _ (List.Sublist.cons_cons _ (List.sublist_append_left _ _))))))), ?_⟩
     refine wk_val (i := 6) (.tuple #[.agg #[.slice to62 (rpL (rfL l ss i) (ss.getD i ByteArray.empty)).length tc63], iN .i64 (rpN (rfL l ss i) (ss.getD i ByteArray.empty))]) rfl rfl (by kernel_rfl) (by kernel_rfl) (fun _ _ => (by kernel_rfl)) ?_
     refine wk_val (i := 7) (.agg #[.slice to62 (rpL (rfL l ss i) (ss.getD i ByteArray.empty)).length tc63]) rfl rfl (by kernel_rfl) (by kernel_rfl) (fun _ _ => (by kernel_rfl)) ?_
     refine wk_val (i := 8) (iN .i64 (rpN (rfL l ss i) (ss.getD i ByteArray.empty))) rfl rfl (by kernel_rfl) (by kernel_rfl) (fun _ _ => (by kernel_rfl)) ?_
     refine wk_one 10 (by kernel_rfl) ?_
     refine ef_fill (c' := #[.slice to62 (rpL (rfL l ss i) (ss.getD i ByteArray.empty)).length tc63]) rfl (by kernel_rfl) ((q47, 27, #[.slice to62 (rpL (rfL l ss i) (ss.getD i ByteArray.empty)).length tc63]) :: (q17, 74, #[iN .i64 k, iN .i64 0, .string label, .slice po (rfN l ss i).length pc]) :: (q12, 27, #[.slice to (rfL l ss i).length tc]) :: (q4, 27, #[.slice none 0 0]) :: (q1, 27, #[.slice ov l.length cv]) :: ((Lr ++ N) ++ N57)) h64 0 rfl rfl (by kernel_rfl) (by kernel_rfl) rfl (by kernel_rfl) (by kernel_rfl) (fun w' h' => (HA.sub h' (List.Sublist.cons _ (List.Sublist.cons_cons _ (List.Sublist.cons_cons _ (List.Sublist.cons_cons _ (List.Sublist.cons_cons _ (List.sublist_append_left _ _)))))))) ?_
     intro w66 (h65 : HA (bs w) ((q47, 27, #[.slice to62 (rpL (rfL l ss i) (ss.getD i ByteArray.empty)).length tc63]) :: (q17, 74, #[iN .i64 k, iN .i64 0, .string label, .slice po (rfN l ss i).length pc]) :: (q12, 27, #[.slice to (rfL l ss i).length tc]) :: (q4, 27, #[.slice none 0 0]) :: (q1, 27, #[.slice ov l.length cv]) :: ((Lr ++ N) ++ N57)) w66)
     refine wk_val (i := 11) (iN .i64 (rpN (rfL l ss i) (ss.getD i ByteArray.empty))) rfl rfl (by kernel_rfl) (by kernel_rfl) (fun _ _ => (by kernel_rfl)) ?_
     refine wk_end fun w67 hbx hsx => ?_
     have h68 := HA.keep _ _ h65 hbx
     exact ⟨N57, to62, tc63, q47, by kernel_rfl, hr54, h68⟩
   ·rintro _ w69 ⟨N32, to37, tc38, q40, rfl, hr29, h70⟩
    refine then_at rfl ?_
    refine zsr ?_
    refine wl_load h70 0 rfl Tryz.underlying27 rfl ?_
    refine wl_fill (c' := #[.slice to37 (rpL (rfL l ss i) (ss.getD i ByteArray.empty)).length tc38]) h70 2 rfl rfl ?_
    intro w71 (h72 : HA (bs w) ((q40, 27, #[.slice to37 (rpL (rfL l ss i) (ss.getD i ByteArray.empty)).length tc38]) :: (q17, 74, #[iN .i64 k, iN .i64 0, .string label, .slice po (rfN l ss i).length pc]) :: (q12, 27, #[.slice to37 (rpL (rfL l ss i) (ss.getD i ByteArray.empty)).length tc38]) :: (q4, 27, #[.slice none 0 0]) :: (q1, 27, #[.slice ov l.length cv]) :: ((Lr ++ N) ++ N32)) w71)
    refine znt ?_
    refine wl_region ?_
    refine zwv (.pointer (some ⟨q17, 3, none⟩)) ?_
    refine zwu (v := .slice po (rfN l ss i).length pc) (run_load1 Tryz.isAgg63 (((h72.get 1 rfl).cell 3).trans rfl)) ?_
    refine zwv (iN .i64 (rpN (rfL l ss i) (ss.getD i ByteArray.empty))) ?_
    refine wl_mks (n := 1) (m := 1) (c := #[iN .i64 (rpN (rfL l ss i) (ss.getD i ByteArray.empty))]) h72 3 ?_
    intro q73 w74 (h75 : HA (bs w) ((q73, 3, #[iN .i64 (rpN (rfL l ss i) (ss.getD i ByteArray.empty))]) :: (q40, 27, #[.slice to37 (rpL (rfL l ss i) (ss.getD i ByteArray.empty)).length tc38]) :: (q17, 74, #[iN .i64 k, iN .i64 0, .string label, .slice po (rfN l ss i).length pc]) :: (q12, 27, #[.slice to37 (rpL (rfL l ss i) (ss.getD i ByteArray.empty)).length tc38]) :: (q4, 27, #[.slice none 0 0]) :: (q1, 27, #[.slice ov l.length cv]) :: ((Lr ++ N) ++ N32)) w74)
    have h76 : HA (bs w) ((q73, 3, #[iN .i64 (rpN (rfL l ss i) (ss.getD i ByteArray.empty))]) :: (Lr ++ ([(q40, 27, #[.slice to37 (rpL (rfL l ss i) (ss.getD i ByteArray.empty)).length tc38]), (q17, 74, #[iN .i64 k, iN .i64 0, .string label, .slice po (rfN l ss i).length pc]), (q12, 27, #[.slice to37 (rpL (rfL l ss i) (ss.getD i ByteArray.empty)).length tc38]), (q4, 27, #[.slice none 0 0]), (q1, 27, #[.slice ov l.length cv])] ++ (N ++ N32)))) w74 := HA.perm h75 (perm_row _ [(q40, 27, #[.slice to37 (rpL (rfL l ss i) (ss.getD i ByteArray.empty)).length tc38]), (q17, 74, #[iN .i64 k, iN .i64 0, .string label, .slice po (rfN l ss i).length pc]), (q12, 27, #[.slice to37 (rpL (rfL l ss i) (ss.getD i ByteArray.empty)).length tc38]), (q4, 27, #[.slice none 0 0]), (q1, 27, #[.slice ov l.length cv])] Lr N N32)
    refine wl_append (m := 1) (c := 1) (Lr := Lr) hR h76 _ 8 Tryz.underlying63 info3 rfl rfl (by rw [rfN_len]; unfold maxLen; omega) (by rw [rfN_len]; omega) ?_
    intro v2 w77 Lr2 hR2 h78
    have h79 : HA (bs w) ((q40, 27, #[.slice to37 (rpL (rfL l ss i) (ss.getD i ByteArray.empty)).length tc38]) :: (q17, 74, #[iN .i64 k, iN .i64 0, .string label, .slice po (rfN l ss i).length pc]) :: (q12, 27, #[.slice to37 (rpL (rfL l ss i) (ss.getD i ByteArray.empty)).length tc38]) :: (q4, 27, #[.slice none 0 0]) :: (q1, 27, #[.slice ov l.length cv]) :: (Lr2 ++ (N ++ N32))) w77 := HA.perm h78 (perm_back [(q40, 27, #[.slice to37 (rpL (rfL l ss i) (ss.getD i ByteArray.empty)).length tc38]), (q17, 74, #[iN .i64 k, iN .i64 0, .string label, .slice po (rfN l ss i).length pc]), (q12, 27, #[.slice to37 (rpL (rfL l ss i) (ss.getD i ByteArray.empty)).length tc38]), (q4, 27, #[.slice none 0 0]), (q1, 27, #[.slice ov l.length cv])] Lr2 (N ++ N32))
    obtain ⟨po2, pc2, rfl⟩ := hR2.form
    refine zwv (.pointer (some ⟨q17, 3, none⟩)) ?_
    refine wl_putv (v := .slice po2 ((rfN l ss i).length + 1) pc2) h79 1 rfl 3 (by show 3 < 4; decide) Tryz.sizeOf63 ?_
    intro w80 (h81 : HA (bs w) ((q40, 27, #[.slice to37 (rpL (rfL l ss i) (ss.getD i ByteArray.empty)).length tc38]) :: (q17, 74, #[iN .i64 k, iN .i64 0, .string label, .slice po2 ((rfN l ss i).length + 1) pc2]) :: (q12, 27, #[.slice to37 (rpL (rfL l ss i) (ss.getD i ByteArray.empty)).length tc38]) :: (q4, 27, #[.slice none 0 0]) :: (q1, 27, #[.slice ov l.length cv]) :: (Lr2 ++ (N ++ N32))) w80)
    refine wl_nil ?_
    refine block_normal ?_
    refine then_at rfl ?_
    refine wl_region ?_
    refine zwv (iN .i64 i) ?_
    refine zwu (run_add (k := .i64) (a := i) (b := 1) (by simp only [top]; omega)) ?_
    refine zwv (iN .i64 (i + 1)) ?_
    refine wl_nil ?_
    have e3 : (rfN l ss (i + 1)).length = (rfN l ss i).length + 1 := by rw [rfN, List.length_append]; rfl
    have hR3 : Row 3 1 (.slice po2 ((rfN l ss i).length + 1) pc2) ((rfN l ss i).length + 1) ((rfN l ss (i + 1)).map (iN .i64 ·)) Lr2 := by rw [rfN, List.map_append]; exact hR2
    rw [← e3] at hR3
    have h82 := h81.tl
    rw [← e3] at h82
    exact then_I (zex (⟨po2, pc2, to37, tc38, N ++ N32, Lr2, RTL.mono hr29 (fun x hx => by simp only [List.mem_append] at hx ⊢; rcases hx with h | h | h <;> simp [h]), hR3, h82⟩))
  ·rintro _ w83 ⟨u22, rfl, ⟨po, pc, to, tc, N, Lr, hr, hR, hA⟩⟩
   obtain ⟨gp, pc2, cp, e1, rfl, hcp⟩ := Row.intsAt hR (by rw [rfN_len, hs2]; decide)
   cases e1
   have hlen2 : (rfN l ss ss.length).length = 2 := by rw [rfN_len, hs2]
   have hj : (rfN l ss ss.length).getD 1 0 < (rfL l ss ss.length).length := getD_mem_lt (rfN_lt l ss ss.length) (by omega)
   obtain ⟨gt, tc2, cur, oq, cq, e2, hgt, hcq, hrq⟩ := RTL.at hr hj
   cases e2
   have hq3 := hq hj
   have hll2 := rfL_len l ss ss.length
   refine wp_seq ?_
   refine zsr ?_
   refine zwv (iN .i64 ss.length) ?_
   refine zwv (.slice o ss.length c) ?_
   refine zwv (iN .i64 ss.length) ?_
   refine zwu (run_lss (k := .i64) (a := ss.length) (b := ss.length) false (decide_eq_false (by omega))) ?_
   refine znt ?_
   refine zcf ?_
   refine wp_exit ?_
   repeat first | refine then_exit ?_ | refine block_exit ?_ | refine block_exit_ne (by decide) ?_
   refine then_at rfl ?_
   refine wp_seq ?_
   refine zsr ?_
   refine zwv (iN .i64 k) ?_
   refine zwu (run_eqi (k := .i64) (a := k) (b := 4) true (ht := (decide_eq_true (by omega)))) ?_
   refine znt ?_
   refine zct ?_
   refine wp_seq ?_
   refine wp_region_wk (HA (bs w) ((q17, 74, #[iN .i64 k, iN .i64 0, .string label, .slice (some ⟨gp, 0, none⟩) ((rfN l ss ss.length).length) pc]) :: (q12, 27, #[.slice (some ⟨gt, 0, none⟩) ((rfL l ss ss.length).length) tc]) :: (q4, 27, #[.slice none 0 0]) :: (q1, 27, #[.slice ov l.length cv]) :: ((gp, 3, cp) :: N))) (fun A w' => ∃ (q85 : Nat), A = ⟨(.agg #[.slice ov l.length cv] :: iN .i64 k :: .string label :: .slice o ss.length c :: pt q1 :: un :: un :: un :: pt q4 :: .string ({ data := #[] }) :: iN .i64 0 :: .bool false :: iN .i64 ss.length :: pt q12 :: pt q17 :: iN .i64 ss.length :: u22 16 :: u22 17 :: iN .i64 ((rfN l ss ss.length).getD 0 0) :: pt q85 :: un :: un :: iN .i64 k :: .slice o ss.length c :: iN .i64 ss.length :: .bool true :: .bool false :: .bool false :: .string label :: .bool false :: .bool false :: un :: un :: .bool false :: .bool false :: un :: .string label :: iN .i64 label.size :: .bool false :: iN .i64 ss.length :: .slice o ss.length c :: iN .i64 ss.length :: .bool false :: u9 43 :: u9 44 :: u9 45 :: u9 46 :: u9 47 :: u9 48 :: u9 49 :: u9 50 :: u9 51 :: u9 52 :: u9 53 :: .bool false :: un :: .agg (#[.slice ov l.length cv]) :: iN .i64 k :: .string label :: .agg #[iN .i64 k, iN .i64 0, .string label, .slice none 0 0] :: iN .i64 ss.length :: .slice o ss.length c :: iN .i64 ss.length :: .bool false :: u22 64 :: u22 65 :: u22 66 :: u22 67 :: u22 68 :: u22 69 :: u22 70 :: u22 71 :: u22 72 :: u22 73 :: u22 74 :: u22 75 :: u22 76 :: u22 77 :: u22 78 :: u22 79 :: u22 80 :: u22 81 :: iN .i64 k :: .bool true :: .pointer (some ⟨q17, 3, none⟩) :: .slice (some ⟨gp, 0, none⟩) ((rfN l ss ss.length).length) pc :: pt gp :: iN .i64 ((rfN l ss ss.length).getD 0 0) :: pt q12 :: .slice (some ⟨gt, 0, none⟩) ((rfL l ss ss.length).length) tc :: .pointer (some ⟨q17, 3, none⟩) :: .slice (some ⟨gp, 0, none⟩) ((rfN l ss ss.length).length) pc :: .pointer (some ⟨gp, 1, none⟩) :: iN .i64 ((rfN l ss ss.length).getD 1 0) :: .pointer (some ⟨gt, 4 * ((rfN l ss ss.length).getD 1 0), none⟩) :: .agg (tmc (rfL l ss ss.length)[(rfN l ss ss.length).getD 1 0].k (rfL l ss ss.length)[(rfN l ss ss.length).getD 1 0].n (rfL l ss ss.length)[(rfN l ss ss.length).getD 1 0].s oq (rfL l ss ss.length)[(rfN l ss ss.length).getD 1 0].ps.length cq) :: List.replicate 30 un).toArray, []⟩ ∧ HA (bs w) ((q85, 74, tmc (rfL l ss ss.length)[(rfN l ss ss.length).getD 1 0].k (rfL l ss ss.length)[(rfN l ss ss.length).getD 1 0].n (rfL l ss ss.length)[(rfN l ss ss.length).getD 1 0].s oq (rfL l ss ss.length)[(rfN l ss ss.length).getD 1 0].ps.length cq) :: (q17, 74, #[iN .i64 k, iN .i64 0, .string label, .slice (some ⟨gp, 0, none⟩) ((rfN l ss ss.length).length) pc]) :: (q12, 27, #[.slice (some ⟨gt, 0, none⟩) ((rfL l ss ss.length).length) tc]) :: (q4, 27, #[.slice none 0 0]) :: (q1, 27, #[.slice ov l.length cv]) :: ((gp, 3, cp) :: N)) w') 15 (by kernel_rfl) (by kernel_rfl) (by kernel_rfl) (by kernel_rfl) (by kernel_rfl) (hA.drew) ?_ ?_
   ·have h84 := hA.drew
    refine wk_val (i := 0) (.pointer (some ⟨q17, 3, none⟩)) rfl rfl (by kernel_rfl) (by kernel_rfl) (fun _ _ => (by kernel_rfl)) ?_
    refine wk_val (i := 1) (.slice (some ⟨gp, 0, none⟩) ((rfN l ss ss.length).length) pc) rfl rfl (by kernel_rfl) (by kernel_rfl) (fun w' h' => run_load1 Tryz.isAgg63 (((h'.get 0 rfl).cell 3).trans rfl)) ?_
    refine wk_val (i := 2) (.pointer (some ⟨gp, 0, none⟩)) rfl rfl (by kernel_rfl) (by kernel_rfl) (fun _ _ => (run_addr_slice (q := gp) (n := (rfN l ss ss.length).length) (m := pc) (a := 0) Tryz.underlying63 Tryz.sizeOf3 (by omega))) ?_
    refine wk_val (i := 3) (iN .i64 ((rfN l ss ss.length).getD 0 0)) rfl rfl (by kernel_rfl) (by kernel_rfl) (fun w' h' => run_load1 Tryz.isAgg3 (((h'.blk (gp, 3, cp) (by simp)).cell 0).trans (hcp 0 (by omega)))) ?_
    refine wk_val (i := 4) (.pointer (some ⟨q12, 0, none⟩)) rfl rfl (by kernel_rfl) (by kernel_rfl) (fun _ _ => (by kernel_rfl)) ?_
    refine wk_val (i := 5) (.slice (some ⟨gt, 0, none⟩) ((rfL l ss ss.length).length) tc) rfl rfl (by kernel_rfl) (by kernel_rfl) (fun w' h' => run_load1 Tryz.isAgg25 (((h'.get 1 rfl).cell 0).trans rfl)) ?_
    refine wk_val (i := 6) (.pointer (some ⟨q17, 3, none⟩)) rfl rfl (by kernel_rfl) (by kernel_rfl) (fun _ _ => (by kernel_rfl)) ?_
    refine wk_val (i := 7) (.slice (some ⟨gp, 0, none⟩) ((rfN l ss ss.length).length) pc) rfl rfl (by kernel_rfl) (by kernel_rfl) (fun w' h' => run_load1 Tryz.isAgg63 (((h'.get 0 rfl).cell 3).trans rfl)) ?_
    refine wk_val (i := 8) (.pointer (some ⟨gp, 1, none⟩)) rfl rfl (by kernel_rfl) (by kernel_rfl) (fun _ _ => (run_addr_slice (q := gp) (n := (rfN l ss ss.length).length) (m := pc) (a := 1) Tryz.underlying63 Tryz.sizeOf3 (by omega))) ?_
    refine wk_val (i := 9) (iN .i64 ((rfN l ss ss.length).getD 1 0)) rfl rfl (by kernel_rfl) (by kernel_rfl) (fun w' h' => run_load1 Tryz.isAgg3 (((h'.blk (gp, 3, cp) (by simp)).cell 1).trans (hcp 1 (by omega)))) ?_
    refine wk_val (i := 10) (.pointer (some ⟨gt, 4 * ((rfN l ss ss.length).getD 1 0), none⟩)) rfl rfl (by kernel_rfl) (by kernel_rfl) (fun _ _ => (run_addr24 (n := (rfL l ss ss.length).length) (m := tc) (a := (rfN l ss ss.length).getD 1 0) hj)) ?_
    refine wk_val (i := 11) (.agg (tmc (rfL l ss ss.length)[(rfN l ss ss.length).getD 1 0].k (rfL l ss ss.length)[(rfN l ss ss.length).getD 1 0].n (rfL l ss ss.length)[(rfN l ss ss.length).getD 1 0].s oq (rfL l ss ss.length)[(rfN l ss ss.length).getD 1 0].ps.length cq)) rfl rfl (by kernel_rfl) (by kernel_rfl) (fun w' h' => run_part (hS.join h' (N := N) (fun x hx => by simp [hx]) _ hgt) hcq Tryz.underlying74 rfl) ?_
    refine wk_one 12 (by kernel_rfl) ?_
    refine ef_make (c := #[iN .i64 0, iN .i64 0, .string ({ data := #[] }), .slice none 0 0]) rfl (by kernel_rfl) h84 74 (fun _ => (by kernel_rfl)) (fun q w' h' => (HA.sub h' (List.Sublist.cons _ (List.Sublist.cons_cons _ (List.Sublist.cons_cons _ (List.Sublist.cons_cons _ (List.Sublist.cons_cons _ (List.Sublist.refl _)))))))) ?_
    intro q85 w87 (h86 : HA (bs w) ((q85, 74, #[iN .i64 0, iN .i64 0, .string ({ data := #[] }), .slice none 0 0]) :: (q17, 74, #[iN .i64 k, iN .i64 0, .string label, .slice (some ⟨gp, 0, none⟩) ((rfN l ss ss.length).length) pc]) :: (q12, 27, #[.slice (some ⟨gt, 0, none⟩) ((rfL l ss ss.length).length) tc]) :: (q4, 27, #[.slice none 0 0]) :: (q1, 27, #[.slice ov l.length cv]) :: ((gp, 3, cp) :: N)) w87)
    refine wk_val (i := 13) (iN .i64 ((rfN l ss ss.length).getD 0 0)) rfl rfl (by kernel_rfl) (by kernel_rfl) (fun _ _ => (by kernel_rfl)) ?_
    refine wk_one 14 (by kernel_rfl) ?_
    refine ef_fill (c' := tmc (rfL l ss ss.length)[(rfN l ss ss.length).getD 1 0].k (rfL l ss ss.length)[(rfN l ss ss.length).getD 1 0].n (rfL l ss ss.length)[(rfN l ss ss.length).getD 1 0].s oq (rfL l ss ss.length)[(rfN l ss ss.length).getD 1 0].ps.length cq) rfl (by kernel_rfl) ((q85, 74, tmc (rfL l ss ss.length)[(rfN l ss ss.length).getD 1 0].k (rfL l ss ss.length)[(rfN l ss ss.length).getD 1 0].n (rfL l ss ss.length)[(rfN l ss ss.length).getD 1 0].s oq (rfL l ss ss.length)[(rfN l ss ss.length).getD 1 0].ps.length cq) :: (q17, 74, #[iN .i64 k, iN .i64 0, .string label, .slice (some ⟨gp, 0, none⟩) ((rfN l ss ss.length).length) pc]) :: (q12, 27, #[.slice (some ⟨gt, 0, none⟩) ((rfL l ss ss.length).length) tc]) :: (q4, 27, #[.slice none 0 0]) :: (q1, 27, #[.slice ov l.length cv]) :: ((gp, 3, cp) :: N)) h86 0 rfl rfl (by kernel_rfl) (by kernel_rfl) rfl (by kernel_rfl) (by kernel_rfl) (fun w' h' => (HA.sub h' (List.Sublist.cons _ (List.Sublist.cons_cons _ (List.Sublist.cons_cons _ (List.Sublist.cons_cons _ (List.Sublist.cons_cons _ (List.Sublist.refl _)))))))) ?_
    intro w89 (h88 : HA (bs w) ((q85, 74, tmc (rfL l ss ss.length)[(rfN l ss ss.length).getD 1 0].k (rfL l ss ss.length)[(rfN l ss ss.length).getD 1 0].n (rfL l ss ss.length)[(rfN l ss ss.length).getD 1 0].s oq (rfL l ss ss.length)[(rfN l ss ss.length).getD 1 0].ps.length cq) :: (q17, 74, #[iN .i64 k, iN .i64 0, .string label, .slice (some ⟨gp, 0, none⟩) ((rfN l ss ss.length).length) pc]) :: (q12, 27, #[.slice (some ⟨gt, 0, none⟩) ((rfL l ss ss.length).length) tc]) :: (q4, 27, #[.slice none 0 0]) :: (q1, 27, #[.slice ov l.length cv]) :: ((gp, 3, cp) :: N)) w89)
    refine wk_end fun w90 hbx hsx => ?_
    have h91 := HA.keep _ _ h88 hbx
    exact ⟨q85, by kernel_rfl, h91⟩
   ·rintro _ w92 ⟨q85, rfl, h93⟩
    refine then_at rfl ?_
    refine zsr ?_
    refine zwv (.pointer (some ⟨q85, 0, none⟩)) ?_
    refine zwu (v := iN .i64 ((rfL l ss ss.length)[(rfN l ss ss.length).getD 1 0].k)) (run_load1 Tryz.isAgg3 (((h93.get 0 rfl).cell 0).trans rfl)) ?_
    refine zwu (run_eqi (k := .i64) (a := (rfL l ss ss.length)[(rfN l ss ss.length).getD 1 0].k) (b := 3) false (ht := (decide_eq_false hq3))) ?_
    refine znt ?_
    refine zcf ?_
    refine wl_region ?_
    refine zwv (.pointer (some ⟨q17, 1, none⟩)) ?_
    refine wl_putv (v := iN .i64 1) h93 1 rfl 1 (by show 1 < 4; decide) Tryz.sizeOf3 ?_
    intro w94 (h95 : HA (bs w) ((q85, 74, tmc (rfL l ss ss.length)[(rfN l ss ss.length).getD 1 0].k (rfL l ss ss.length)[(rfN l ss ss.length).getD 1 0].n (rfL l ss ss.length)[(rfN l ss ss.length).getD 1 0].s oq (rfL l ss ss.length)[(rfN l ss ss.length).getD 1 0].ps.length cq) :: (q17, 74, #[iN .i64 k, iN .i64 1, .string label, .slice (some ⟨gp, 0, none⟩) ((rfN l ss ss.length).length) pc]) :: (q12, 27, #[.slice (some ⟨gt, 0, none⟩) ((rfL l ss ss.length).length) tc]) :: (q4, 27, #[.slice none 0 0]) :: (q1, 27, #[.slice ov l.length cv]) :: ((gp, 3, cp) :: N)) w94)
    refine znt ?_
    refine zsr ?_
    refine wl_load h95 2 rfl Tryz.underlying27 rfl ?_
    refine wl_load h95 1 rfl Tryz.underlying74 rfl ?_
    refine wl_callx enter29 #[.agg (#[.slice (some ⟨gt, 0, none⟩) ((rfL l ss ss.length).length) tc]), .agg (#[iN .i64 k, iN .i64 1, .string label, .slice (some ⟨gp, 0, none⟩) ((rfN l ss ss.length).length) pc])] (putl_any (RL := (gp, 3, cp) :: (N ++ RL)) (RTL.mono hr (fun x hx => List.mem_cons_of_mem _ hx)) (hS.join h95 (N := (gp, 3, cp) :: N) (fun x hx => by simp only [List.mem_cons] at hx ⊢; rcases hx with h | h <;> simp [h])) (rfL_ps hl _) (by omega) (⟨k, 1, label, (rfN l ss ss.length)⟩ : Q4) (o := some ⟨gp, 0, none⟩) (c := pc) (.inr ⟨gp, cp, rfl, List.mem_cons_self .., hcp⟩)) ?_
    rintro _ w102 ⟨_, N99, rfl, hr96, hN98, hb97⟩
    refine ⟨_, rfl, ?_⟩
    obtain ⟨o100, c101, rfl⟩ := hr96.form
    have h103 : HA (bs w) ((q85, 74, tmc (rfL l ss ss.length)[(rfN l ss ss.length).getD 1 0].k (rfL l ss ss.length)[(rfN l ss ss.length).getD 1 0].n (rfL l ss ss.length)[(rfN l ss ss.length).getD 1 0].s oq (rfL l ss ss.length)[(rfN l ss ss.length).getD 1 0].ps.length cq) :: (q17, 74, #[iN .i64 k, iN .i64 1, .string label, .slice (some ⟨gp, 0, none⟩) ((rfN l ss ss.length).length) pc]) :: (q12, 27, #[.slice (some ⟨gt, 0, none⟩) ((rfL l ss ss.length).length) tc]) :: (q4, 27, #[.slice none 0 0]) :: (q1, 27, #[.slice ov l.length cv]) :: (((gp, 3, cp) :: N) ++ N99)) w102 := HA.addL h95 hb97 hN98
    have hpl2 := (putN_le (rfL l ss ss.length) (⟨k, 1, label, (rfN l ss ss.length)⟩ : Q4))
    refine zwv (.tuple #[.agg #[.slice o100 (putL (rfL l ss ss.length) (⟨k, 1, label, (rfN l ss ss.length)⟩ : Q4)).length c101], iN .i64 (putN (rfL l ss ss.length) (⟨k, 1, label, (rfN l ss ss.length)⟩ : Q4))]) ?_
    refine zwv (.agg #[.slice o100 (putL (rfL l ss ss.length) (⟨k, 1, label, (rfN l ss ss.length)⟩ : Q4)).length c101]) ?_
    refine zwv (iN .i64 (putN (rfL l ss ss.length) (⟨k, 1, label, (rfN l ss ss.length)⟩ : Q4))) ?_
    refine wl_fill (c' := #[.slice o100 (putL (rfL l ss ss.length) (⟨k, 1, label, (rfN l ss ss.length)⟩ : Q4)).length c101]) h103 2 rfl rfl ?_
    intro w104 (h105 : HA (bs w) ((q85, 74, tmc (rfL l ss ss.length)[(rfN l ss ss.length).getD 1 0].k (rfL l ss ss.length)[(rfN l ss ss.length).getD 1 0].n (rfL l ss ss.length)[(rfN l ss ss.length).getD 1 0].s oq (rfL l ss ss.length)[(rfN l ss ss.length).getD 1 0].ps.length cq) :: (q17, 74, #[iN .i64 k, iN .i64 1, .string label, .slice (some ⟨gp, 0, none⟩) ((rfN l ss ss.length).length) pc]) :: (q12, 27, #[.slice o100 (putL (rfL l ss ss.length) (⟨k, 1, label, (rfN l ss ss.length)⟩ : Q4)).length c101]) :: (q4, 27, #[.slice none 0 0]) :: (q1, 27, #[.slice ov l.length cv]) :: (((gp, 3, cp) :: N) ++ N99)) w104)
    refine zwv (iN .i64 (putN (rfL l ss ss.length) (⟨k, 1, label, (rfN l ss ss.length)⟩ : Q4))) ?_
    refine znt ?_
    refine wp_seq ?_
    refine zsr ?_
    refine zwv (.pointer (some ⟨q12, 0, none⟩)) ?_
    refine zwu (v := .slice o100 (putL (rfL l ss ss.length) (⟨k, 1, label, (rfN l ss ss.length)⟩ : Q4)).length c101) (run_load1 Tryz.isAgg25 (((h105.get 2 rfl).cell 0).trans rfl)) ?_
    refine zwv (iN .i64 ((putL (rfL l ss ss.length) (⟨k, 1, label, (rfN l ss ss.length)⟩ : Q4)).length)) ?_
    refine zwu (run_gtr (k := .i64) (a := (putL (rfL l ss ss.length) (⟨k, 1, label, (rfN l ss ss.length)⟩ : Q4)).length) (b := 65536) false (decide_eq_false (by omega))) ?_
    refine znt ?_
    refine zcf ?_
    refine wp_skip ?_
    refine then_at rfl ?_
    refine wp_seq ?_
    refine wp_region_wk (HA (bs w) ((q85, 74, tmc (rfL l ss ss.length)[(rfN l ss ss.length).getD 1 0].k (rfL l ss ss.length)[(rfN l ss ss.length).getD 1 0].n (rfL l ss ss.length)[(rfN l ss ss.length).getD 1 0].s oq (rfL l ss ss.length)[(rfN l ss ss.length).getD 1 0].ps.length cq) :: (q17, 74, #[iN .i64 k, iN .i64 1, .string label, .slice (some ⟨gp, 0, none⟩) ((rfN l ss ss.length).length) pc]) :: (q12, 27, #[.slice o100 (putL (rfL l ss ss.length) (⟨k, 1, label, (rfN l ss ss.length)⟩ : Q4)).length c101]) :: (q1, 27, #[.slice ov l.length cv]) :: (((gp, 3, cp) :: N) ++ N99))) (fun A w' => A = ⟨(.agg #[.slice ov l.length cv] :: iN .i64 k :: .string label :: .slice o ss.length c :: pt q1 :: un :: un :: un :: pt q4 :: .string (txt (putN (rfL l ss ss.length) (⟨k, 1, label, (rfN l ss ss.length)⟩ : Q4))) :: iN .i64 0 :: .bool false :: iN .i64 ss.length :: pt q12 :: pt q17 :: iN .i64 ss.length :: u22 16 :: u22 17 :: iN .i64 ((rfN l ss ss.length).getD 0 0) :: pt q85 :: un :: iN .i64 (putN (rfL l ss ss.length) (⟨k, 1, label, (rfN l ss ss.length)⟩ : Q4)) :: iN .i64 k :: .slice o ss.length c :: iN .i64 ss.length :: .bool true :: .bool false :: .bool false :: .string label :: .bool false :: .bool false :: un :: un :: .bool false :: .bool false :: un :: .string label :: iN .i64 label.size :: .bool false :: iN .i64 ss.length :: .slice o ss.length c :: iN .i64 ss.length :: .bool false :: u9 43 :: u9 44 :: u9 45 :: u9 46 :: u9 47 :: u9 48 :: u9 49 :: u9 50 :: u9 51 :: u9 52 :: u9 53 :: .bool false :: un :: .agg (#[.slice ov l.length cv]) :: iN .i64 k :: .string label :: .agg #[iN .i64 k, iN .i64 0, .string label, .slice none 0 0] :: iN .i64 ss.length :: .slice o ss.length c :: iN .i64 ss.length :: .bool false :: u22 64 :: u22 65 :: u22 66 :: u22 67 :: u22 68 :: u22 69 :: u22 70 :: u22 71 :: u22 72 :: u22 73 :: u22 74 :: u22 75 :: u22 76 :: u22 77 :: u22 78 :: u22 79 :: u22 80 :: u22 81 :: iN .i64 k :: .bool true :: .pointer (some ⟨q17, 3, none⟩) :: .slice (some ⟨gp, 0, none⟩) ((rfN l ss ss.length).length) pc :: pt gp :: iN .i64 ((rfN l ss ss.length).getD 0 0) :: pt q12 :: .slice (some ⟨gt, 0, none⟩) ((rfL l ss ss.length).length) tc :: .pointer (some ⟨q17, 3, none⟩) :: .slice (some ⟨gp, 0, none⟩) ((rfN l ss ss.length).length) pc :: .pointer (some ⟨gp, 1, none⟩) :: iN .i64 ((rfN l ss ss.length).getD 1 0) :: .pointer (some ⟨gt, 4 * ((rfN l ss ss.length).getD 1 0), none⟩) :: .agg (tmc (rfL l ss ss.length)[(rfN l ss ss.length).getD 1 0].k (rfL l ss ss.length)[(rfN l ss ss.length).getD 1 0].n (rfL l ss ss.length)[(rfN l ss ss.length).getD 1 0].s oq (rfL l ss ss.length)[(rfN l ss ss.length).getD 1 0].ps.length cq) :: pt q85 :: iN .i64 ((rfL l ss ss.length)[(rfN l ss ss.length).getD 1 0].k) :: .bool false :: un :: un :: un :: un :: un :: un :: un :: un :: un :: un :: un :: un :: .pointer (some ⟨q17, 1, none⟩) :: .tuple #[.agg #[.slice o100 (putL (rfL l ss ss.length) (⟨k, 1, label, (rfN l ss ss.length)⟩ : Q4)).length c101], iN .i64 (putN (rfL l ss ss.length) (⟨k, 1, label, (rfN l ss ss.length)⟩ : Q4))] :: .agg (#[.slice (some ⟨gt, 0, none⟩) ((rfL l ss ss.length).length) tc]) :: .agg (#[iN .i64 k, iN .i64 1, .string label, .slice (some ⟨gp, 0, none⟩) ((rfN l ss ss.length).length) pc]) :: .tuple #[.agg #[.slice o100 (putL (rfL l ss ss.length) (⟨k, 1, label, (rfN l ss ss.length)⟩ : Q4)).length c101], iN .i64 (putN (rfL l ss ss.length) (⟨k, 1, label, (rfN l ss ss.length)⟩ : Q4))] :: .agg #[.slice o100 (putL (rfL l ss ss.length) (⟨k, 1, label, (rfN l ss ss.length)⟩ : Q4)).length c101] :: iN .i64 (putN (rfL l ss ss.length) (⟨k, 1, label, (rfN l ss ss.length)⟩ : Q4)) :: pt q12 :: .slice o100 (putL (rfL l ss ss.length) (⟨k, 1, label, (rfN l ss ss.length)⟩ : Q4)).length c101 :: iN .i64 ((putL (rfL l ss ss.length) (⟨k, 1, label, (rfN l ss ss.length)⟩ : Q4)).length) :: .bool false :: un :: .agg (#[.slice o100 (putL (rfL l ss ss.length) (⟨k, 1, label, (rfN l ss ss.length)⟩ : Q4)).length c101]) :: iN .i64 (putN (rfL l ss ss.length) (⟨k, 1, label, (rfN l ss ss.length)⟩ : Q4)) :: .string (txt (putN (rfL l ss ss.length) (⟨k, 1, label, (rfN l ss ss.length)⟩ : Q4))) :: List.replicate 0 un).toArray, []⟩ ∧ HA (bs w) ((q85, 74, tmc (rfL l ss ss.length)[(rfN l ss ss.length).getD 1 0].k (rfL l ss ss.length)[(rfN l ss ss.length).getD 1 0].n (rfL l ss ss.length)[(rfN l ss ss.length).getD 1 0].s oq (rfL l ss ss.length)[(rfN l ss ss.length).getD 1 0].ps.length cq) :: (q17, 74, #[iN .i64 k, iN .i64 1, .string label, .slice (some ⟨gp, 0, none⟩) ((rfN l ss ss.length).length) pc]) :: (q12, 27, #[.slice o100 (putL (rfL l ss ss.length) (⟨k, 1, label, (rfN l ss ss.length)⟩ : Q4)).length c101]) :: (q4, 27, #[.slice o100 (putL (rfL l ss ss.length) (⟨k, 1, label, (rfN l ss ss.length)⟩ : Q4)).length c101]) :: (q1, 27, #[.slice ov l.length cv]) :: (((gp, 3, cp) :: N) ++ N99)) w') 6 (by kernel_rfl) (by kernel_rfl) (by kernel_rfl) (by kernel_rfl) (by kernel_rfl) (HA.sub h105.drew (List.Sublist.cons_cons _ (List.Sublist.cons_cons _ (List.Sublist.cons_cons _ (List.Sublist.cons _ (List.Sublist.cons_cons _ (List.Sublist.refl _))))))) ?_ ?_
    ·have h106 := h105.drew
     refine wk_val (i := 0) (.agg (#[.slice o100 (putL (rfL l ss ss.length) (⟨k, 1, label, (rfN l ss ss.length)⟩ : Q4)).length c101])) rfl rfl (by kernel_rfl) (by kernel_rfl) (fun w' h' => run_load_blk (h'.get 2 rfl) Tryz.underlying27 rfl) ?_
     refine wk_val (i := 1) (iN .i64 (putN (rfL l ss ss.length) (⟨k, 1, label, (rfN l ss ss.length)⟩ : Q4))) rfl rfl (by kernel_rfl) (by kernel_rfl) (fun _ _ => (by kernel_rfl)) ?_
     refine wk_call (i := 2) (.string (txt (putN (rfL l ss ss.length) (⟨k, 1, label, (rfN l ss ss.length)⟩ : Q4)))) HA.keep rfl rfl (by kernel_rfl) (by kernel_rfl) enter30 #[iN .i64 (putN (rfL l ss ss.length) (⟨k, 1, label, (rfN l ss ss.length)⟩ : Q4))] (by kernel_rfl) (fun w' h' => rtext_any (putN (rfL l ss ss.length) (⟨k, 1, label, (rfN l ss ss.length)⟩ : Q4)) (by omega) w') ?_
     refine wk_one 3 (by kernel_rfl) ?_
     refine ef_fill (c' := #[.slice o100 (putL (rfL l ss ss.length) (⟨k, 1, label, (rfN l ss ss.length)⟩ : Q4)).length c101]) rfl (by kernel_rfl) ((q85, 74, tmc (rfL l ss ss.length)[(rfN l ss ss.length).getD 1 0].k (rfL l ss ss.length)[(rfN l ss ss.length).getD 1 0].n (rfL l ss ss.length)[(rfN l ss ss.length).getD 1 0].s oq (rfL l ss ss.length)[(rfN l ss ss.length).getD 1 0].ps.length cq) :: (q17, 74, #[iN .i64 k, iN .i64 1, .string label, .slice (some ⟨gp, 0, none⟩) ((rfN l ss ss.length).length) pc]) :: (q12, 27, #[.slice o100 (putL (rfL l ss ss.length) (⟨k, 1, label, (rfN l ss ss.length)⟩ : Q4)).length c101]) :: (q4, 27, #[.slice o100 (putL (rfL l ss ss.length) (⟨k, 1, label, (rfN l ss ss.length)⟩ : Q4)).length c101]) :: (q1, 27, #[.slice ov l.length cv]) :: (((gp, 3, cp) :: N) ++ N99)) h106 3 rfl rfl (by kernel_rfl) (by kernel_rfl) rfl (by kernel_rfl) (by kernel_rfl) (fun w' h' => (HA.sub h' (List.Sublist.cons_cons _ (List.Sublist.cons_cons _ (List.Sublist.cons_cons _ (List.Sublist.cons _ (List.Sublist.cons_cons _ (List.Sublist.refl _)))))))) ?_
     intro w108 (h107 : HA (bs w) ((q85, 74, tmc (rfL l ss ss.length)[(rfN l ss ss.length).getD 1 0].k (rfL l ss ss.length)[(rfN l ss ss.length).getD 1 0].n (rfL l ss ss.length)[(rfN l ss ss.length).getD 1 0].s oq (rfL l ss ss.length)[(rfN l ss ss.length).getD 1 0].ps.length cq) :: (q17, 74, #[iN .i64 k, iN .i64 1, .string label, .slice (some ⟨gp, 0, none⟩) ((rfN l ss ss.length).length) pc]) :: (q12, 27, #[.slice o100 (putL (rfL l ss ss.length) (⟨k, 1, label, (rfN l ss ss.length)⟩ : Q4)).length c101]) :: (q4, 27, #[.slice o100 (putL (rfL l ss ss.length) (⟨k, 1, label, (rfN l ss ss.length)⟩ : Q4)).length c101]) :: (q1, 27, #[.slice ov l.length cv]) :: (((gp, 3, cp) :: N) ++ N99)) w108)
     refine wk_val (i := 4) (.string (txt (putN (rfL l ss ss.length) (⟨k, 1, label, (rfN l ss ss.length)⟩ : Q4)))) rfl rfl (by kernel_rfl) (by kernel_rfl) (fun _ _ => (by kernel_rfl)) ?_
     refine wk_val (i := 5) (iN .i64 0) rfl rfl (by kernel_rfl) (by kernel_rfl) (fun _ _ => (by kernel_rfl)) ?_
     refine wk_end fun w109 hbx hsx => ?_
     have h110 := HA.keep _ _ h107 hbx
     exact ⟨by kernel_rfl, h110⟩
    ·rintro _ w111 ⟨rfl, h112⟩
     refine then_at rfl ?_
     refine wp_ret ?_
     repeat first | refine then_ret ?_ | refine block_ret ?_
     have hX : (rmX (rfL l ss ss.length) k label (rfN l ss ss.length)) = (⟨k, 1, label, (rfN l ss ss.length)⟩ : Q4) := by unfold rmX rmN rmP; rw [if_pos hk4, if_pos hk4, List.getElem?_eq_getElem hj]; simp only [hq3, if_false]
     rw [hX]
     exact bodyPost_ret (v := .tuple #[.agg #[.slice o100 (putL (rfL l ss ss.length) (⟨k, 1, label, (rfN l ss ss.length)⟩ : Q4)).length c101], .string (txt (putN (rfL l ss ss.length) (⟨k, 1, label, (rfN l ss ss.length)⟩ : Q4))), iN .i64 0]) (res_cell_tmp2 (p := 8) (r := 9) (r2 := 10) (by kernel_rfl) (by kernel_rfl) (by kernel_rfl) (by kernel_rfl) (h112.get 3 rfl) Tryz.underlying27 rfl (by kernel_rfl)) rfl ⟨_, (((gp, 3, cp) :: N) ++ N99), rfl, RTL.mono hr96 (fun x hx => by simp only [List.mem_append, List.mem_cons] at hx ⊢; rcases hx with h | h | h | h <;> simp [h]), HA.newerS h112 (List.Sublist.cons _ (List.Sublist.cons _ (List.Sublist.cons _ (List.Sublist.cons _ (List.Sublist.cons _ (List.Sublist.refl _)))))), h112.old.old⟩
end Go.Proofs.YtihfeoanognonaaGreat
