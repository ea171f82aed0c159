/-
  FieldBack: the walk.
-/
import Derived.Test.YtbmfmamhidccbaaDoorWorksM
import Derived.Test.YtbmfmamhidccbaaDoorAny1
namespace Go.Proofs.YtbmfmamhidccbaaDoor
open Go.RowKit Num

theorem anyP_lt (l : List UInt8) : anyP l < P := Nat.mod_lt _ P_pos
theorem bytesOf_size (n : Nat) : (bytesOf n).size = 32 := by
  show (les 32 n).toArray.size = 32
  simp [les_length]
theorem bts_bytesOf (n : Nat) : bts (bytesOf n) = digs 256 32 n := by
  unfold bts bytesOf les
  show List.map _ (List.map UInt8.ofNat (digs 256 32 n)).toArray.toList = _
  rw [List.toList_toArray, List.map_map]
  have : ∀ x ∈ digs 256 32 n, ((fun u : UInt8 => u.toNat) ∘ UInt8.ofNat) x = id x := fun x hx => by
    have := digs_lt 256 (by decide) 32 n x hx
    show (UInt8.ofNat x).toNat = x
    rw [UInt8.toNat_ofNat']; omega
  rw [List.map_congr_left this, List.map_id]
theorem of_bytesOf (n : Nat) (h : n < P) : ofP (bytesOf n) = some n := by
  have e : numS (bytesOf n) = n := by
    unfold numS
    rw [bts_bytesOf, num_digs]
    exact Nat.mod_eq_of_lt (Nat.lt_trans h (by decide))
  unfold ofP
  rw [e]
  exact if_pos ⟨bytesOf_size n, h⟩
theorem bytesOf_num (s : ByteArray) (h : s.size = 32) : bytesOf (numS s) = s := by
  have h1 : digs 256 32 (numS s) = bts s := digs_num 256 (bts s) (bts_lt s) 32 (by rw [bts_length, h])
  unfold bytesOf les
  rw [h1]
  unfold bts
  rw [List.map_map]
  have : ((fun u : UInt8 => UInt8.ofNat u.toNat)) = id := by funext u; simp
  show (⟨(List.map (fun u : UInt8 => UInt8.ofNat u.toNat) s.data.toList).toArray⟩ : ByteArray) = s
  rw [this, List.map_id]
theorem ofP_some {s : ByteArray} {n : Nat} (h : ofP s = some n) : n < P ∧ bytesOf n = s := by
  unfold ofP at h
  split at h
  · rename_i hc
    have e := Option.some.inj h
    rw [← e]
    exact ⟨hc.2, bytesOf_num s hc.1⟩
  · cases h

theorem kp1 {w w1 w2 : World} {q a b c d : Nat} {p : Prop} (hb : Below w1.heap.size w1 w2) (h : p ∧ Row w1 q 26 .u64 [a, b, c, d] ∧ Held w w1) :
    (w2.cell? ⟨q, 0, none⟩ = some (.int .u64 a) ∧ w2.cell? ⟨q, 1, none⟩ = some (.int .u64 b) ∧ w2.cell? ⟨q, 2, none⟩ = some (.int .u64 c) ∧ w2.cell? ⟨q, 3, none⟩ = some (.int .u64 d)) ∧ Row w2 q 26 .u64 [a, b, c, d] ∧ Held w w2 :=
  keep0 (h.2.1.below hb h.2.1.lt) (h.2.2.step hb)
theorem kp2 {w w1 : World} {q a b c d : Nat} {p : Prop} (h : p ∧ Row w1 q 26 .u64 [a, b, c, d] ∧ Held w w1) :
    (w1.drew.cell? ⟨q, 0, none⟩ = some (.int .u64 a) ∧ w1.drew.cell? ⟨q, 1, none⟩ = some (.int .u64 b) ∧ w1.drew.cell? ⟨q, 2, none⟩ = some (.int .u64 c) ∧ w1.drew.cell? ⟨q, 3, none⟩ = some (.int .u64 d)) ∧ Row w1.drew q 26 .u64 [a, b, c, d] ∧ Held w w1.drew :=
  keep0 h.2.1.drew h.2.2.drew

attribute [-simp] Tryd.isAgg40 Tryd.sizeOf40
set_option linter.unusedSimpArgs false in
set_option maxHeartbeats 4000000 in
theorem FieldBack_any (s : ByteArray) (l : List UInt8) (hl : l.length = 32) (w : World) (V : Vars w) :
    Calls Tryd.prog 9 #[.string s, .agg (cs l).toArray] w fun e w' => e = .returned (.bool true) ∧ Below w.heap.size w w' := by
  have hV := V.big
  obtain ⟨c, hc⟩ : ∃ c, c = (cs l).toArray := ⟨_, rfl⟩
  have KA := hide (fun w V => any1_any l hl w V)
  rw [← hc] at KA
  rw [← hc]
  have KW := hide (fun w V => works_any w V)
  have H0 := hide (Held.start V)
  have hcz : c.size = 32 := by rw [hc]; simp [cs, hl]
  clear hc V
  go_enter Tryd.func9, Tryd.ntmps9
  go_wp2_with fail
  refine (KW.out _ H0.out.new.2).mono ?_
  rintro e w1 ⟨rfl, hb1⟩
  have q1 : w1.heap[w.heap.size]? = some (.cells c 40 (0, 0)) := (hb1.block w.heap.size (by simp)).trans (heap_alloc_last w _)
  have H1 := hide (H0.out.new.step hb1)
  have hL : (loadCellsFrom ⟨w.heap.size, 0, none⟩ 0 32 #[]).run Tryd.prog w1 = .ok c w1 := by
    have := run_loadCells_list (P := Tryd.prog) w1 ⟨w.heap.size, 0, none⟩ c.toList (fun j v hv => by
      have hadd : (⟨w.heap.size, 0, none⟩ : Addr).add j = ⟨w.heap.size, j, none⟩ := by unfold Addr.add; split <;> simp_all
      rw [hadd, cell_of_row w1 w.heap.size j c 40 _ q1]
      simpa using hv)
    simpa [loadCells, hcz] using this
  clear hb1 KW H0 q1
  go_wp2_with fail
  simp only [Tryd.isAgg40, Tryd.sizeOf40, hL, Result.andThen_ok, if_true]
  rw [Oper.upon_value]
  clear hL
  have haP := anyP_lt l
  have KB := hide (fun w => Bytes_any (anyP l) w)
  have KO := hide (fun w V => Of_any (bytesOf (anyP l)) w V)
  rw [of_bytesOf _ haP] at KO
  have KO' : Hid (∀ w, Vars w → Calls Tryd.prog 11 #[.string (bytesOf (anyP l))] w fun e w' => e = .returned (.tuple #[arr (anyP l), .bool true]) ∧ Below w.heap.size w w') := KO
  have KS := hide (fun w => Same_any (anyP l) (anyP l) (Nat.lt_trans haP P_lt) (Nat.lt_trans haP P_lt) w)
  rw [decide_eq_true (rfl : anyP l = anyP l)] at KS
  have hBz := bytesOf_size (anyP l)
  generalize bytesOf (anyP l) = bs at *
  obtain ⟨a0, a1, a2, a3, ea, ea'⟩ := arr_open (anyP l)
  rw [ea'] at KA KB KO' KS
  clear ea ea' haP KO hl
  go_wp2_with fail
  refine (KA.out _ H1.out.2).mono ?_
  rintro e w2 ⟨rfl, hb2⟩
  have H2 := hide (H1.out.step hb2)
  clear hb2 H1 KA
  go_wp2_with fail
  refine (KB.out _).mono ?_
  rintro e w3 ⟨rfl, hb3⟩
  have H3 := hide (H2.out.new.step hb3)
  have q3 : Row w3 w2.heap.size 26 .u64 [a0, a1, a2, a3] := Row.below (Row.mk rfl rfl) hb3 (by simp)
  clear hb3 H2
  go_wp2_with fail
  refine (KO'.out _ H3.out.2).mono ?_
  rintro e w4 ⟨rfl, hb4⟩
  have H4 := hide (H3.out.step hb4)
  have q4 : Row w4 w2.heap.size 26 .u64 [a0, a1, a2, a3] := q3.below hb4 q3.lt
  have hs4 : w2.heap.size < w4.heap.size := q4.lt
  clear hb4 H3 q3 KO'
  generalize w2.heap.size = q at *
  obtain ⟨c0, c1, c2, c3⟩ := q4.four
  go_wp2_with fail
  refine (KS.out _).mono ?_
  rintro e w5 ⟨rfl, hb5⟩
  have H5 := hide (H4.out.new.step hb5)
  have q5 : Row w5 q 26 .u64 [a0, a1, a2, a3] := Row.below (q4.alloc _) hb5 (by simp; omega)
  clear hb5 H4 q4 KS c0 c1 c2 c3
  obtain ⟨c0, c1, c2, c3⟩ := q5.four
  go_wp2_with fail
  refine (KB.out _).mono ?_
  rintro e w6 ⟨rfl, hb6⟩
  have H6 := hide (H5.out.step hb6)
  clear hb6 H5 q5 KB c0 c1 c2 c3 hs4
  have K0 := hide (fun w => Small_any 0 (by omega) w)
  have KF := hide (fun w V => Of_any s w V)
  rcases ho : ofP s with _ | m
  · rw [ho] at KF
    have KF' : Hid (∀ w, Vars w → Calls Tryd.prog 11 #[.string s] w fun e w' => e = .returned (.tuple #[.agg #[.int .u64 0, .int .u64 0, .int .u64 0, .int .u64 0], .bool false]) ∧ Below w.heap.size w w') := KF
    have KS := hide (fun w => Same_any 0 0 (by decide) (by decide) w)
    rw [show decide ((0 : Nat) = 0) = true from rfl] at KS
    have ez : arr 0 = .agg #[.int .u64 0, .int .u64 0, .int .u64 0, .int .u64 0] := rfl
    rw [ez] at KS K0
    clear KF ho ez
    go_wp2_with fail
    refine (KF'.out _ H6.out.2).mono ?_
    rintro e w7 ⟨rfl, hb7⟩
    have H7 := hide (H6.out.step hb7)
    clear hb7 H6 KF'
    go_wp2_with fail
    have HS := hide (keep0 (Row.mk (w := w7) (t := 26) (k := .u64) (l := [0, 0, 0, 0]) (c := #[.int .u64 0, .int .u64 0, .int .u64 0, .int .u64 0]) rfl rfl) H7.out.new)
    obtain ⟨q7, hq7⟩ : ∃ q7, q7 = w7.heap.size := ⟨_, rfl⟩
    rw [← hq7] at HS ⊢
    generalize w7.alloc (.cells #[.int .u64 0, .int .u64 0, .int .u64 0, .int .u64 0] 26) = wx at *
    clear hq7 H7
    refine wp_region_held_drew (S := fun w' => (w'.cell? ⟨q7, 0, none⟩ = some (.int .u64 0) ∧ w'.cell? ⟨q7, 1, none⟩ = some (.int .u64 0) ∧ w'.cell? ⟨q7, 2, none⟩ = some (.int .u64 0) ∧ w'.cell? ⟨q7, 3, none⟩ = some (.int .u64 0)) ∧ Row w' q7 26 .u64 [0, 0, 0, 0] ∧ Held w w') (by kernel_rfl) (kp2 HS.out) (fun hS => ?_)
    clear HS
    refine wpAnyH_take (i := 0) (v := (.bool false)) rfl (by kernel_rfl) (by kernel_rfl) (by kernel_rfl) (fun _ _ _ h => h) (Or.inl ⟨by rfl, ?_⟩) hS ?_
    · intro w hSw
      try dsimp only at hSw
      go_simp
    try simp only [Act.put, List.getElem_toArray, List.getElem_cons_zero, List.getElem_cons_succ, List.setIfInBounds_toArray, List.set_cons_zero, List.set_cons_succ]
    refine wpAnyH_take (i := 1) (v := (.bool true)) rfl (by kernel_rfl) (by kernel_rfl) (by kernel_rfl) (fun _ _ _ h => h) (Or.inl ⟨by rfl, ?_⟩) hS ?_
    · intro w hSw
      try dsimp only at hSw
      go_simp
    try simp only [Act.put, List.getElem_toArray, List.getElem_cons_zero, List.getElem_cons_succ, List.setIfInBounds_toArray, List.set_cons_zero, List.set_cons_succ]
    refine wpAnyH_take (i := 2) (v := (.bool true)) rfl (by kernel_rfl) (by kernel_rfl) (by kernel_rfl) (fun _ _ _ h => h) (Or.inl ⟨by rfl, ?_⟩) hS ?_
    · intro w hSw
      try dsimp only at hSw
      go_simp
    try simp only [Act.put, List.getElem_toArray, List.getElem_cons_zero, List.getElem_cons_succ, List.setIfInBounds_toArray, List.set_cons_zero, List.set_cons_succ]
    refine wpAnyH_take (i := 3) (v := (.agg #[.int .u64 0, .int .u64 0, .int .u64 0, .int .u64 0])) rfl (by kernel_rfl) (by kernel_rfl) (by kernel_rfl) (fun _ _ _ h => h) (Or.inl ⟨by rfl, ?_⟩) hS ?_
    · intro w hSw
      try dsimp only at hSw
      go_simp
    try simp only [Act.put, List.getElem_toArray, List.getElem_cons_zero, List.getElem_cons_succ, List.setIfInBounds_toArray, List.set_cons_zero, List.set_cons_succ]
    refine wpAnyH_ready (rs := [4]) (by kernel_rfl) (by simp) (AllReadyH.cons (o := _) rfl (fun K hK => ?_) AllReadyH.nil)
    go_simp
    refine (K0.out _).mono ?_
    rintro e w8 ⟨rfl, hb⟩
    have hS8 := kp1 hb hS
    clear hS hb
    try dsimp only
    refine hK.out _ _ hS8 (fun _ => ?_)
    clear hK K
    try simp only [Act.put, List.getElem_toArray, List.getElem_cons_zero, List.getElem_cons_succ, List.setIfInBounds_toArray, List.set_cons_zero, List.set_cons_succ]
    refine wpAnyH_ready (rs := [5]) (by kernel_rfl) (by simp) (AllReadyH.cons (o := _) rfl (fun K hK => ?_) AllReadyH.nil)
    go_simp
    refine (KS.out _).mono ?_
    rintro e w9 ⟨rfl, hb⟩
    have hS9 := kp1 hb hS8
    clear hS8 hb
    try dsimp only
    refine hK.out _ _ hS9 (fun _ => ?_)
    clear hK K
    try simp only [Act.put, List.getElem_toArray, List.getElem_cons_zero, List.getElem_cons_succ, List.setIfInBounds_toArray, List.set_cons_zero, List.set_cons_succ]
    refine wpAnyH_take (i := 6) (v := (.bool true)) rfl (by kernel_rfl) (by kernel_rfl) (by kernel_rfl) (fun _ _ _ h => h) (Or.inl ⟨by rfl, ?_⟩) hS9 ?_
    · intro w hSw
      try dsimp only at hSw
      go_simp
    try simp only [Act.put, List.getElem_toArray, List.getElem_cons_zero, List.getElem_cons_succ, List.setIfInBounds_toArray, List.set_cons_zero, List.set_cons_succ]
    refine wpAnyH_take (i := 7) (v := (.bool true)) rfl (by kernel_rfl) (by kernel_rfl) (by kernel_rfl) (fun _ _ _ h => h) (Or.inl ⟨by rfl, ?_⟩) hS9 ?_
    · intro w hSw
      try dsimp only at hSw
      go_simp
    try simp only [Act.put, List.getElem_toArray, List.getElem_cons_zero, List.getElem_cons_succ, List.setIfInBounds_toArray, List.set_cons_zero, List.set_cons_succ]
    refine wpAnyH_take (i := 8) (v := undef) rfl (by kernel_rfl) (by kernel_rfl) (by kernel_rfl) (fun _ _ _ h => h) (Or.inr ⟨by kernel_rfl, rfl⟩) hS9 ?_
    try simp only [Act.put, List.getElem_toArray, List.getElem_cons_zero, List.getElem_cons_succ, List.setIfInBounds_toArray, List.set_cons_zero, List.set_cons_succ]
    refine wpAnyH_take (i := 9) (v := undef) rfl (by kernel_rfl) (by kernel_rfl) (by kernel_rfl) (fun _ _ _ h => h) (Or.inr ⟨by kernel_rfl, rfl⟩) hS9 ?_
    try simp only [Act.put, List.getElem_toArray, List.getElem_cons_zero, List.getElem_cons_succ, List.setIfInBounds_toArray, List.set_cons_zero, List.set_cons_succ]
    refine wpAnyH_take (i := 10) (v := undef) rfl (by kernel_rfl) (by kernel_rfl) (by kernel_rfl) (fun _ _ _ h => h) (Or.inr ⟨by kernel_rfl, rfl⟩) hS9 ?_
    try simp only [Act.put, List.getElem_toArray, List.getElem_cons_zero, List.getElem_cons_succ, List.setIfInBounds_toArray, List.set_cons_zero, List.set_cons_succ]
    refine wpAnyH_take (i := 11) (v := undef) rfl (by kernel_rfl) (by kernel_rfl) (by kernel_rfl) (fun _ _ _ h => h) (Or.inr ⟨by kernel_rfl, rfl⟩) hS9 ?_
    try simp only [Act.put, List.getElem_toArray, List.getElem_cons_zero, List.getElem_cons_succ, List.setIfInBounds_toArray, List.set_cons_zero, List.set_cons_succ]
    refine wpAnyH_take (i := 12) (v := undef) rfl (by kernel_rfl) (by kernel_rfl) (by kernel_rfl) (fun _ _ _ h => h) (Or.inr ⟨by kernel_rfl, rfl⟩) hS9 ?_
    try simp only [Act.put, List.getElem_toArray, List.getElem_cons_zero, List.getElem_cons_succ, List.setIfInBounds_toArray, List.set_cons_zero, List.set_cons_succ]
    refine wpAnyH_take (i := 13) (v := undef) rfl (by kernel_rfl) (by kernel_rfl) (by kernel_rfl) (fun _ _ _ h => h) (Or.inr ⟨by kernel_rfl, rfl⟩) hS9 ?_
    try simp only [Act.put, List.getElem_toArray, List.getElem_cons_zero, List.getElem_cons_succ, List.setIfInBounds_toArray, List.set_cons_zero, List.set_cons_succ]
    refine wpAnyH_take (i := 14) (v := undef) rfl (by kernel_rfl) (by kernel_rfl) (by kernel_rfl) (fun _ _ _ h => h) (Or.inr ⟨by kernel_rfl, rfl⟩) hS9 ?_
    try simp only [Act.put, List.getElem_toArray, List.getElem_cons_zero, List.getElem_cons_succ, List.setIfInBounds_toArray, List.set_cons_zero, List.set_cons_succ]
    refine wpAnyH_take (i := 15) (v := (.bool true)) rfl (by kernel_rfl) (by kernel_rfl) (by kernel_rfl) (fun _ _ _ h => h) (Or.inl ⟨by rfl, ?_⟩) hS9 ?_
    · intro w hSw
      try dsimp only at hSw
      go_simp
    try simp only [Act.put, List.getElem_toArray, List.getElem_cons_zero, List.getElem_cons_succ, List.setIfInBounds_toArray, List.set_cons_zero, List.set_cons_succ]
    refine wpAnyH_take (i := 16) (v := (.bool true)) rfl (by kernel_rfl) (by kernel_rfl) (by kernel_rfl) (fun _ _ _ h => h) (Or.inl ⟨by rfl, ?_⟩) hS9 ?_
    · intro w hSw
      try dsimp only at hSw
      go_simp
    try simp only [Act.put, List.getElem_toArray, List.getElem_cons_zero, List.getElem_cons_succ, List.setIfInBounds_toArray, List.set_cons_zero, List.set_cons_succ]
    refine wpAnyH_done (by kernel_rfl) ?_ _
    have hBel := hS9.2.2.1
    clear hS9
    go_wp2
    go_ret
    exact ⟨rfl, hBel⟩
  · obtain ⟨hmP, hms⟩ := ofP_some ho
    rw [ho] at KF
    have KF' : Hid (∀ w, Vars w → Calls Tryd.prog 11 #[.string s] w fun e w' => e = .returned (.tuple #[arr m, .bool true]) ∧ Below w.heap.size w w') := KF
    have KB := hide (fun w => Bytes_any m w)
    rw [hms] at KB
    obtain ⟨m0, m1, m2, m3, em, em'⟩ := arr_open m
    rw [em'] at KF' KB
    clear KF ho hms hmP em em' K0
    go_wp2_with fail
    refine (KF'.out _ H6.out.2).mono ?_
    rintro e w7 ⟨rfl, hb7⟩
    have H7 := hide (H6.out.step hb7)
    clear hb7 H6 KF'
    go_wp2_with fail
    have HS := hide (keep0 (Row.mk (w := w7) (t := 26) (k := .u64) (l := [m0, m1, m2, m3]) (c := #[.int .u64 m0, .int .u64 m1, .int .u64 m2, .int .u64 m3]) rfl rfl) H7.out.new)
    obtain ⟨q7, hq7⟩ : ∃ q7, q7 = w7.heap.size := ⟨_, rfl⟩
    rw [← hq7] at HS ⊢
    generalize w7.alloc (.cells #[.int .u64 m0, .int .u64 m1, .int .u64 m2, .int .u64 m3] 26) = wx at *
    clear hq7 H7
    refine wp_region_held_drew (S := fun w' => (w'.cell? ⟨q7, 0, none⟩ = some (.int .u64 m0) ∧ w'.cell? ⟨q7, 1, none⟩ = some (.int .u64 m1) ∧ w'.cell? ⟨q7, 2, none⟩ = some (.int .u64 m2) ∧ w'.cell? ⟨q7, 3, none⟩ = some (.int .u64 m3)) ∧ Row w' q7 26 .u64 [m0, m1, m2, m3] ∧ Held w w') (by kernel_rfl) (kp2 HS.out) (fun hS => ?_)
    clear HS
    refine wpAnyH_take (i := 0) (v := (.bool true)) rfl (by kernel_rfl) (by kernel_rfl) (by kernel_rfl) (fun _ _ _ h => h) (Or.inl ⟨by rfl, ?_⟩) hS ?_
    · intro w hSw
      try dsimp only at hSw
      go_simp
    try simp only [Act.put, List.getElem_toArray, List.getElem_cons_zero, List.getElem_cons_succ, List.setIfInBounds_toArray, List.set_cons_zero, List.set_cons_succ]
    refine wpAnyH_take (i := 1) (v := (.bool false)) rfl (by kernel_rfl) (by kernel_rfl) (by kernel_rfl) (fun _ _ _ h => h) (Or.inl ⟨by rfl, ?_⟩) hS ?_
    · intro w hSw
      try dsimp only at hSw
      go_simp
    try simp only [Act.put, List.getElem_toArray, List.getElem_cons_zero, List.getElem_cons_succ, List.setIfInBounds_toArray, List.set_cons_zero, List.set_cons_succ]
    refine wpAnyH_take (i := 2) (v := (.bool false)) rfl (by kernel_rfl) (by kernel_rfl) (by kernel_rfl) (fun _ _ _ h => h) (Or.inl ⟨by rfl, ?_⟩) hS ?_
    · intro w hSw
      try dsimp only at hSw
      go_simp
    try simp only [Act.put, List.getElem_toArray, List.getElem_cons_zero, List.getElem_cons_succ, List.setIfInBounds_toArray, List.set_cons_zero, List.set_cons_succ]
    refine wpAnyH_take (i := 3) (v := undef) rfl (by kernel_rfl) (by kernel_rfl) (by kernel_rfl) (fun _ _ _ h => h) (Or.inr ⟨by kernel_rfl, rfl⟩) hS ?_
    try simp only [Act.put, List.getElem_toArray, List.getElem_cons_zero, List.getElem_cons_succ, List.setIfInBounds_toArray, List.set_cons_zero, List.set_cons_succ]
    refine wpAnyH_take (i := 4) (v := undef) rfl (by kernel_rfl) (by kernel_rfl) (by kernel_rfl) (fun _ _ _ h => h) (Or.inr ⟨by kernel_rfl, rfl⟩) hS ?_
    try simp only [Act.put, List.getElem_toArray, List.getElem_cons_zero, List.getElem_cons_succ, List.setIfInBounds_toArray, List.set_cons_zero, List.set_cons_succ]
    refine wpAnyH_take (i := 5) (v := undef) rfl (by kernel_rfl) (by kernel_rfl) (by kernel_rfl) (fun _ _ _ h => h) (Or.inr ⟨by kernel_rfl, rfl⟩) hS ?_
    try simp only [Act.put, List.getElem_toArray, List.getElem_cons_zero, List.getElem_cons_succ, List.setIfInBounds_toArray, List.set_cons_zero, List.set_cons_succ]
    refine wpAnyH_take (i := 6) (v := (.bool false)) rfl (by kernel_rfl) (by kernel_rfl) (by kernel_rfl) (fun _ _ _ h => h) (Or.inl ⟨by rfl, ?_⟩) hS ?_
    · intro w hSw
      try dsimp only at hSw
      go_simp
    try simp only [Act.put, List.getElem_toArray, List.getElem_cons_zero, List.getElem_cons_succ, List.setIfInBounds_toArray, List.set_cons_zero, List.set_cons_succ]
    refine wpAnyH_take (i := 7) (v := (.bool false)) rfl (by kernel_rfl) (by kernel_rfl) (by kernel_rfl) (fun _ _ _ h => h) (Or.inl ⟨by rfl, ?_⟩) hS ?_
    · intro w hSw
      try dsimp only at hSw
      go_simp
    try simp only [Act.put, List.getElem_toArray, List.getElem_cons_zero, List.getElem_cons_succ, List.setIfInBounds_toArray, List.set_cons_zero, List.set_cons_succ]
    refine wpAnyH_take (i := 8) (v := (.bool true)) rfl (by kernel_rfl) (by kernel_rfl) (by kernel_rfl) (fun _ _ _ h => h) (Or.inl ⟨by rfl, ?_⟩) hS ?_
    · intro w hSw
      try dsimp only at hSw
      go_simp
    try simp only [Act.put, List.getElem_toArray, List.getElem_cons_zero, List.getElem_cons_succ, List.setIfInBounds_toArray, List.set_cons_zero, List.set_cons_succ]
    refine wpAnyH_take (i := 9) (v := (.bool true)) rfl (by kernel_rfl) (by kernel_rfl) (by kernel_rfl) (fun _ _ _ h => h) (Or.inl ⟨by rfl, ?_⟩) hS ?_
    · intro w hSw
      try dsimp only at hSw
      go_simp
    try simp only [Act.put, List.getElem_toArray, List.getElem_cons_zero, List.getElem_cons_succ, List.setIfInBounds_toArray, List.set_cons_zero, List.set_cons_succ]
    refine wpAnyH_take (i := 10) (v := (.agg #[.int .u64 m0, .int .u64 m1, .int .u64 m2, .int .u64 m3])) rfl (by kernel_rfl) (by kernel_rfl) (by kernel_rfl) (fun _ _ _ h => h) (Or.inl ⟨by rfl, ?_⟩) hS ?_
    · intro w hSw
      try dsimp only at hSw
      go_simp
    try simp only [Act.put, List.getElem_toArray, List.getElem_cons_zero, List.getElem_cons_succ, List.setIfInBounds_toArray, List.set_cons_zero, List.set_cons_succ]
    refine wpAnyH_take (i := 12) (v := (.string s)) rfl (by kernel_rfl) (by kernel_rfl) (by kernel_rfl) (fun _ _ _ h => h) (Or.inl ⟨by rfl, ?_⟩) hS ?_
    · intro w hSw
      try dsimp only at hSw
      go_simp
    try simp only [Act.put, List.getElem_toArray, List.getElem_cons_zero, List.getElem_cons_succ, List.setIfInBounds_toArray, List.set_cons_zero, List.set_cons_succ]
    refine wpAnyH_ready (rs := [11]) (by kernel_rfl) (by simp) (AllReadyH.cons (o := _) rfl (fun K hK => ?_) AllReadyH.nil)
    go_simp
    refine (KB.out _).mono ?_
    rintro e w8 ⟨rfl, hb⟩
    have hS9 := kp1 hb hS
    clear hS hb
    try dsimp only
    refine hK.out _ _ hS9 (fun _ => ?_)
    clear hK K
    try simp only [Act.put, List.getElem_toArray, List.getElem_cons_zero, List.getElem_cons_succ, List.setIfInBounds_toArray, List.set_cons_zero, List.set_cons_succ]
    refine wpAnyH_take (i := 13) (v := (.bool true)) rfl (by kernel_rfl) (by kernel_rfl) (by kernel_rfl) (fun _ _ _ h => h) (Or.inl ⟨by rfl, ?_⟩) hS9 ?_
    · intro w hSw
      try dsimp only at hSw
      go_simp
    try simp only [Act.put, List.getElem_toArray, List.getElem_cons_zero, List.getElem_cons_succ, List.setIfInBounds_toArray, List.set_cons_zero, List.set_cons_succ]
    refine wpAnyH_take (i := 14) (v := (.bool true)) rfl (by kernel_rfl) (by kernel_rfl) (by kernel_rfl) (fun _ _ _ h => h) (Or.inl ⟨by rfl, ?_⟩) hS9 ?_
    · intro w hSw
      try dsimp only at hSw
      go_simp
    try simp only [Act.put, List.getElem_toArray, List.getElem_cons_zero, List.getElem_cons_succ, List.setIfInBounds_toArray, List.set_cons_zero, List.set_cons_succ]
    refine wpAnyH_take (i := 15) (v := (.bool true)) rfl (by kernel_rfl) (by kernel_rfl) (by kernel_rfl) (fun _ _ _ h => h) (Or.inl ⟨by rfl, ?_⟩) hS9 ?_
    · intro w hSw
      try dsimp only at hSw
      go_simp
    try simp only [Act.put, List.getElem_toArray, List.getElem_cons_zero, List.getElem_cons_succ, List.setIfInBounds_toArray, List.set_cons_zero, List.set_cons_succ]
    refine wpAnyH_take (i := 16) (v := (.bool true)) rfl (by kernel_rfl) (by kernel_rfl) (by kernel_rfl) (fun _ _ _ h => h) (Or.inl ⟨by rfl, ?_⟩) hS9 ?_
    · intro w hSw
      try dsimp only at hSw
      go_simp
    try simp only [Act.put, List.getElem_toArray, List.getElem_cons_zero, List.getElem_cons_succ, List.setIfInBounds_toArray, List.set_cons_zero, List.set_cons_succ]
    refine wpAnyH_done (by kernel_rfl) ?_ _
    have hBel := hS9.2.2.1
    clear hS9
    go_wp2
    go_ret
    exact ⟨rfl, hBel⟩
end Go.Proofs.YtbmfmamhidccbaaDoor
