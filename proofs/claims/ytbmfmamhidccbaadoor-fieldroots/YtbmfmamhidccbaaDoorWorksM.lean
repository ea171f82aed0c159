/-
  works: the chapter's first rows.
-/
import Derived.Test.YtbmfmamhidccbaaDoorBytes
import Derived.Deep.OwnRows
namespace Go.Proofs.YtbmfmamhidccbaaDoor
open Go.RowKit Num

/-! the contracts, of values that are elements -/
theorem Add_val {v1 v2 : Value} {a b : Nat} (h1 : v1 = arr a) (h2 : v2 = arr b) (ha : a < P) (hb : b < P) (w : World) (V : Vars w) :
    Calls Tryd.prog 22 #[v1, v2] w fun e w' => e = .returned (arr (addP a b)) ∧ Below w.heap.size w w' := by subst h1 h2; exact Add_any a b ha hb w V
theorem Sub_val {v1 v2 : Value} {a b : Nat} (h1 : v1 = arr a) (h2 : v2 = arr b) (ha : a < P) (hb : b < P) (w : World) (V : Vars w) :
    Calls Tryd.prog 24 #[v1, v2] w fun e w' => e = .returned (arr (subP a b)) ∧ Below w.heap.size w w' := by subst h1 h2; exact Sub_any a b ha hb w V
theorem Mul_val {v1 v2 : Value} {a b : Nat} (h1 : v1 = arr a) (h2 : v2 = arr b) (ha : a < P) (hb : b < P) (w : World) (V : Vars w) :
    Calls Tryd.prog 26 #[v1, v2] w fun e w' => e = .returned (arr (mulP a b)) ∧ Below w.heap.size w w' := by subst h1 h2; exact Mul_any a b ha hb w V
theorem Neg_val {v1 : Value} {a : Nat} (h1 : v1 = arr a) (ha : a < P) (w : World) (V : Vars w) :
    Calls Tryd.prog 28 #[v1] w fun e w' => e = .returned (arr (negP a)) ∧ Below w.heap.size w w' := by subst h1; exact Neg_any a ha w V
theorem Inv_val {v1 : Value} {a : Nat} (h1 : v1 = arr a) (ha : a < P) (w : World) (V : Vars w) :
    Calls Tryd.prog 33 #[v1] w fun e w' => e = .returned (arr (invE a)) ∧ Below w.heap.size w w' := by subst h1; exact Inv_any a ha w V
theorem Same_val {v1 v2 : Value} {a b : Nat} (h1 : v1 = arr a) (h2 : v2 = arr b) (ha : a < P) (hb : b < P) (w : World) :
    Calls Tryd.prog 30 #[v1, v2] w fun e w' => e = .returned (.bool (decide (a = b))) ∧ Below w.heap.size w w' := by subst h1 h2; exact Same_any a b (Nat.lt_trans ha P_lt) (Nat.lt_trans hb P_lt) w
theorem Bytes_val {v1 : Value} {a : Nat} (h1 : v1 = arr a) (w : World) :
    Calls Tryd.prog 13 #[v1] w fun e w' => e = .returned (.string (bytesOf a)) ∧ Below w.heap.size w w' := by subst h1; exact Bytes_any a w
theorem Odd_val {v1 : Value} {a : Nat} (h1 : v1 = arr a) (w : World) :
    Calls Tryd.prog 15 #[v1] w fun e w' => e = .returned (.bool (decide (a % 2 = 1))) ∧ Below w.heap.size w w' := by subst h1; exact Odd_any a w
theorem Root_yes {v1 : Value} {a r : Nat} (h1 : v1 = arr a) (ha : a < P) (hr : rootP a = some r) (w : World) (V : Vars w) :
    Calls Tryd.prog 31 #[v1] w fun e w' => e = .returned (.tuple #[arr r, .bool true]) ∧ Below w.heap.size w w' := by
  subst h1
  have h := Root_any a ha w V
  rw [hr] at h
  exact h
theorem Root_no {v1 : Value} {a : Nat} (h1 : v1 = arr a) (ha : a < P) (hr : rootP a = none) (w : World) (V : Vars w) :
    Calls Tryd.prog 31 #[v1] w fun e w' => e = .returned (.tuple #[arr 0, .bool false]) ∧ Below w.heap.size w w' := by
  subst h1
  have h := Root_any a ha w V
  rw [hr] at h
  exact h
theorem Small_val {x : Int} {n : Nat} (hx : x = (n : Int)) (hn : n < 4294967296) (w : World) :
    Calls Tryd.prog 17 #[.int .u32 x] w fun e w' => e = .returned (arr n) ∧ Below w.heap.size w w' := by subst hx; exact Small_any n hn w

/-- what is held: old memory and the variables -/
def Held (w w' : World) : Prop := Below w.heap.size w w' ∧ Vars w'
theorem Held.start {w : World} (V : Vars w) : Held w w := ⟨Below.refl _ w, V⟩
theorem Held.step {w w1 w2 : World} (h : Held w w1) (hb : Below w1.heap.size w1 w2) : Held w w2 := ⟨h.1.trans (hb.mono h.1.size), h.2.below hb h.2.big⟩
theorem Held.below {w w1 : World} (h : Held w w1) : Below w.heap.size w w1 := h.1
theorem Held.vars {w w1 : World} (h : Held w w1) : Vars w1 := h.2
theorem Held.new {w w1 : World} (h : Held w w1) {o : Obj} : Held w (w1.alloc o) := h.step (new_below (Below.refl _ w1) (Nat.le_refl _))
theorem Held.drew {w w1 : World} (h : Held w w1) : Held w w1.drew := ⟨h.1.drew, h.2.below (Below.refl _ w1).drew h.2.big⟩

/-- bytes that are nought, and a block of them -/
def zs (n : Nat) : ByteArray := ⟨(List.replicate n 0).toArray⟩
def zr (n : Nat) : Array Value := madeCells #[.int .u8 0] n
def ZB (n : Nat) (w : World) (b : Nat) : Prop := w.heap[b]? = some (.cells (zr n) 5 (0, 0))
theorem ZB.below {n : Nat} {w w' : World} {b : Nat} (h : ZB n w b) (hb : Below w.heap.size w w') : ZB n w' b := by
  unfold ZB
  rw [hb.block b (lt_of_block h)]
  exact h
theorem ZB.new (n : Nat) (w : World) : ZB n (w.alloc (.cells (zr n) 5)) w.heap.size := by
  show (w.heap.push _)[w.heap.size]? = _
  simp
theorem run_make (n : Nat) (hn : n ≤ 1000) (w : World) : (Instr.makeSlice 55 (.int .i64 (n : Int)) (.int .i64 (n : Int))).run Tryd.prog w = .ok (.slice (some ⟨w.heap.size, 0, none⟩) n n) (w.alloc (.cells (zr n) 5)) :=
  run_make_row' 55 5 (.int .u8 0) 1 Tryd.underlying55 info5 rfl .i64 .i64 n (by omega) (by omega) w
theorem zr_get (n j : Nat) (h : j < n) : (zr n)[j]? = some (.int .u8 0) := by
  unfold zr madeCells
  simp [h, Nat.mod_one]
theorem run_zeros (n : Nat) (w : World) (b : Nat) (h : ZB n w b) : (convert 55 9 (.slice (some ⟨b, 0, none⟩) n n)).run Tryd.prog w = .ok (.string (zs n)) w := by
  have hc : ∀ j (hj : j < (List.replicate n (0 : UInt8)).length), w.cell? ((⟨b, 0, none⟩ : Addr).add j) = some (.int .u8 (((List.replicate n (0 : UInt8))[j]).toNat : Int)) := fun j hj => by
    have hj' : j < n := by simpa using hj
    have hadd : (⟨b, 0, none⟩ : Addr).add j = ⟨b, j, none⟩ := by unfold Addr.add; split <;> simp_all
    rw [hadd, cell_of_row w b j _ 5 _ h, zr_get n j hj', List.getElem_replicate]
    rfl
  have := run_convert_bytes_back (P := Tryd.prog) w 55 9 5 ⟨b, 0, none⟩ n (List.replicate n 0) Tryd.underlying55 Tryd.underlying5 Tryd.underlying9 hc
  rw [List.length_replicate] at this
  exact this

theorem rowK {w1 w2 : World} {q : Nat} {l : List Nat} (h : Row w1 q 26 .u64 l) (hb : Below w1.heap.size w1 w2) : Row w2 q 26 .u64 l := h.below hb h.lt
theorem wpAnyH_S {Q : Exit → Act → World → Prop} {md : Region.Mode} {ops : Array Oper} {S S2 : World → Prop} (hS : ∀ w, S2 w → S w) :
    ∀ {fuel : Nat} {listed : Array Bool} {a : Act} {w : World}, wpAnyH Tryd.prog md ops Q S2 fuel listed a w → wpAnyH Tryd.prog md ops Q S fuel listed a w
  | 0, _, _, _, h => h
  | _ + 1, _, _, _, h => ⟨h.1, fun i hi => wpOp_mono (fun _ w' h' => ⟨hS w' h'.1, wpAnyH_S hS h'.2⟩) (h.2 i hi)⟩
theorem keep0 {w w1 : World} {q a b c d : Nat} (hr : Row w1 q 26 .u64 [a, b, c, d]) (h : Held w w1) :
    (w1.cell? ⟨q, 0, none⟩ = some (.int .u64 a) ∧ w1.cell? ⟨q, 1, none⟩ = some (.int .u64 b) ∧ w1.cell? ⟨q, 2, none⟩ = some (.int .u64 c) ∧ w1.cell? ⟨q, 3, none⟩ = some (.int .u64 d)) ∧ Row w1 q 26 .u64 [a, b, c, d] ∧ Held w w1 := ⟨hr.four, hr, h⟩
theorem keep1 {w w1 w2 : World} {q : Nat} {p : Prop} (hb : Below w1.heap.size w1 w2) (h : p ∧ Row w1 q 26 .u64 [2, 0, 0, 0] ∧ Held w w1) :
    (w2.cell? ⟨q, 0, none⟩ = some (.int .u64 2) ∧ w2.cell? ⟨q, 1, none⟩ = some (.int .u64 0) ∧ w2.cell? ⟨q, 2, none⟩ = some (.int .u64 0) ∧ w2.cell? ⟨q, 3, none⟩ = some (.int .u64 0)) ∧ Row w2 q 26 .u64 [2, 0, 0, 0] ∧ Held w w2 :=
  keep0 (h.2.1.below hb h.2.1.lt) (h.2.2.step hb)
theorem keep2 {w w1 : World} {q : Nat} {p : Prop} (h : p ∧ Row w1 q 26 .u64 [2, 0, 0, 0] ∧ Held w w1) :
    (w1.drew.cell? ⟨q, 0, none⟩ = some (.int .u64 2) ∧ w1.drew.cell? ⟨q, 1, none⟩ = some (.int .u64 0) ∧ w1.drew.cell? ⟨q, 2, none⟩ = some (.int .u64 0) ∧ w1.drew.cell? ⟨q, 3, none⟩ = some (.int .u64 0)) ∧ Row w1.drew q 26 .u64 [2, 0, 0, 0] ∧ Held w w1.drew :=
  keep0 h.2.1.drew h.2.2.drew
theorem keep3 {w w1 : World} {q : Nat} {p : Prop} {o : Obj} (h : p ∧ Row w1 q 26 .u64 [2, 0, 0, 0] ∧ Held w w1) :
    ((w1.alloc o).cell? ⟨q, 0, none⟩ = some (.int .u64 2) ∧ (w1.alloc o).cell? ⟨q, 1, none⟩ = some (.int .u64 0) ∧ (w1.alloc o).cell? ⟨q, 2, none⟩ = some (.int .u64 0) ∧ (w1.alloc o).cell? ⟨q, 3, none⟩ = some (.int .u64 0)) ∧ Row (w1.alloc o) q 26 .u64 [2, 0, 0, 0] ∧ Held w (w1.alloc o) :=
  keep0 (h.2.1.alloc o) h.2.2.new
theorem keepZ {w w1 w2 : World} {q b : Nat} {p : Prop} (hb : Below w1.heap.size w1 w2) (h : (p ∧ Row w1 q 26 .u64 [2, 0, 0, 0] ∧ Held w w1) ∧ ZB 31 w1 b) :
    ((w2.cell? ⟨q, 0, none⟩ = some (.int .u64 2) ∧ w2.cell? ⟨q, 1, none⟩ = some (.int .u64 0) ∧ w2.cell? ⟨q, 2, none⟩ = some (.int .u64 0) ∧ w2.cell? ⟨q, 3, none⟩ = some (.int .u64 0)) ∧ Row w2 q 26 .u64 [2, 0, 0, 0] ∧ Held w w2) ∧ ZB 31 w2 b :=
  ⟨keep1 hb h.1, h.2.below hb⟩
theorem keep4 {w w1 : World} {p r : Prop} (h : p ∧ r ∧ Held w w1) : Vars w1 := h.2.2.2

set_option linter.unusedSimpArgs false in
set_option maxRecDepth 100000 in
set_option maxHeartbeats 20000000 in
theorem works_any (w : World) (V : Vars w) :
    Calls Tryd.prog 19 #[] w fun e w' => e = .returned (.bool true) ∧ Below w.heap.size w w' := by
  have a2 : arr 2 = .agg #[.int .u64 2, .int .u64 0, .int .u64 0, .int .u64 0] := rfl
  have a0 : arr 0 = .agg #[.int .u64 0, .int .u64 0, .int .u64 0, .int .u64 0] := rfl
  have C4 := hide (fun w => Small_any 4 (by omega) w)
  have C2 := hide (fun w => Small_any 2 (by omega) w)
  have R4 := hide (fun w V => Root_yes (v1 := arr 4) rfl (by decide) root4 w V)
  have R2 := hide (fun w V => Root_no (v1 := arr 2) rfl (by decide) root2 w V)
  rw [a2] at R4
  rw [a0] at R2
  have H0 := hide (Held.start V)
  clear V a2 a0
  go_enter Tryd.func19, Tryd.ntmps19
  go_wp2_with fail
  refine (C4.out _).mono ?_
  rintro e w1 ⟨rfl, hb1⟩
  have H1 := hide (H0.out.step hb1)
  clear hb1 H0
  go_wp2_with fail
  refine (R4.out _ H1.out.2).mono ?_
  rintro e w2 ⟨rfl, hb2⟩
  have H2 := hide (H1.out.step hb2)
  clear hb2 H1 R4 C4
  go_wp2_with fail
  refine (C2.out _).mono ?_
  rintro e w3 ⟨rfl, hb3⟩
  have q3 : Row w3 w2.heap.size 26 .u64 [2, 0, 0, 0] := Row.below (Row.mk rfl rfl) hb3 (by simp)
  have H3 := hide (H2.out.new.step hb3)
  clear hb3 H2
  go_wp2_with fail
  refine (R2.out _ H3.out.2).mono ?_
  rintro e w4 ⟨rfl, hb4⟩
  have q4 : Row w4 w2.heap.size 26 .u64 [2, 0, 0, 0] := Row.below q3 hb4 q3.lt
  have H4 := hide (H3.out.step hb4)
  clear hb4 H3 q3 R2 C2
  have hq : w2.heap.size < w4.heap.size := q4.lt
  generalize w2.heap.size = q at *
  go_wp2_with fail
  have q5 := hide (q4.alloc (.cells #[.int .u64 0, .int .u64 0, .int .u64 0, .int .u64 0] 26))
  have H5 := hide (H4.out.new (o := .cells #[.int .u64 0, .int .u64 0, .int .u64 0, .int .u64 0] 26))
  clear q4 H4
  generalize w4.alloc (.cells #[.int .u64 0, .int .u64 0, .int .u64 0, .int .u64 0] 26) = wx at *
  clear hq
  obtain ⟨y0, y1, y2, y3⟩ := q5.out.four
  have HS := hide (keep0 q5.out H5.out)
  obtain ⟨i, hi⟩ : ∃ i, i = invE 2 := ⟨_, rfl⟩
  have hI := invE_lt 2
  have hinv2 := inv2
  rw [← hi] at hinv2 hI
  have a1 : arr 1 = .agg #[.int .u64 1, .int .u64 0, .int .u64 0, .int .u64 0] := rfl
  have a2 : arr 2 = .agg #[.int .u64 2, .int .u64 0, .int .u64 0, .int .u64 0] := rfl
  have K1 := hide (fun w => Small_any 1 (by omega) w)
  have K2 := hide (fun w => Small_any 2 (by omega) w)
  have K5 := hide (fun w => Small_any 5 (by omega) w)
  have KB := hide (fun w => Bytes_any 5 w)
  have KI := hide (fun w V => Inv_any 2 (by decide) w V)
  rw [← hi, a2] at KI
  have KM := hide (fun w V => Mul_any i 2 hI (by decide) w V)
  rw [hinv2, a1, a2] at KM
  have S22 := hide (fun w => Same_any 2 2 (by decide) (by decide) w)
  have S11 := hide (fun w => Same_any 1 1 (by decide) (by decide) w)
  have S12 := hide (fun w => Same_any 1 2 (by decide) (by decide) w)
  rw [show decide ((2 : Nat) = 2) = true from rfl, a2] at S22
  rw [show decide ((1 : Nat) = 1) = true from rfl, a1] at S11
  rw [show decide ((1 : Nat) = 2) = false from rfl, a1, a2] at S12
  rw [a1] at K1
  rw [a2] at K2
  have hzsz : (zs 31).size = 31 := rfl
  have heq5 : ((bytesOf 5).toList == ((⟨#[5]⟩ : ByteArray) ++ zs 31).toList) = true := by decide +kernel
  have hmk : ∀ w, (Instr.makeSlice 55 (.int .i64 31) (.int .i64 31)).run Tryd.prog w = .ok (.slice (some ⟨w.heap.size, 0, none⟩) 31 31) (w.alloc (.cells (zr 31) 5)) := fun w => run_make 31 (by omega) w
  have hcv := hide (fun w b h => run_zeros 31 w b h)
  clear hi hinv2 hI a1 a2 y0 y1 y2 y3 q5 H5
  refine wp_region_held_drew (S := fun w' => (w'.cell? ⟨q, 0, none⟩ = some (.int .u64 2) ∧ w'.cell? ⟨q, 1, none⟩ = some (.int .u64 0) ∧ w'.cell? ⟨q, 2, none⟩ = some (.int .u64 0) ∧ w'.cell? ⟨q, 3, none⟩ = some (.int .u64 0)) ∧ Row w' q 26 .u64 [2, 0, 0, 0] ∧ Held w w') (by kernel_rfl) (keep2 HS.out) (fun hS => ?_)
  clear HS
  refine wpAnyH_ready (rs := [0, 2]) (by kernel_rfl) (by simp) ?_
  refine AllReadyH.cons (o := _) rfl (fun K hK => ?_) ?_
  · skip
    go_simp
    refine (K5.out _).mono ?_
    rintro e v1 ⟨rfl, hb⟩
    have hS1 := keep1 hb hS
    clear hS hb
    try dsimp only
    refine hK.out _ _ hS1 (fun _ => ?_)
    clear hK K
    try simp only [Act.put, List.getElem_toArray, List.getElem_cons_zero, List.getElem_cons_succ, List.setIfInBounds_toArray, List.set_cons_zero, List.set_cons_succ]
    refine wpAnyH_ready (rs := [1, 2]) (by kernel_rfl) (by simp) ?_
    refine AllReadyH.cons (o := _) rfl (fun K hK => ?_) ?_
    · go_simp
      refine (KB.out _).mono ?_
      rintro e v2 ⟨rfl, hb⟩
      have hS2 := keep1 hb hS1
      clear hS1 hb
      try dsimp only
      refine hK.out _ _ hS2 (fun _ => ?_)
      clear hK K
      try simp only [Act.put, List.getElem_toArray, List.getElem_cons_zero, List.getElem_cons_succ, List.setIfInBounds_toArray, List.set_cons_zero, List.set_cons_succ]
      refine wpAnyH_ready (rs := [2]) (by kernel_rfl) (by simp) ?_
      refine AllReadyH.cons (o := _) rfl (fun K hK => ?_) ?_
      · go_simp
        have hT3 := keep3 (o := .cells (zr 31) 5) hS2
        refine hK.out _ _ hT3 (fun _ => ?_)
        clear hK K
        try simp only [Act.put, List.getElem_toArray, List.getElem_cons_zero, List.getElem_cons_succ, List.setIfInBounds_toArray, List.set_cons_zero, List.set_cons_succ]
        have hZ3 := And.intro hT3 (ZB.new 31 (v2))
        clear hS2 hT3
        refine wpAnyH_S (S2 := fun w' => ((w'.cell? ⟨q, 0, none⟩ = some (.int .u64 2) ∧ w'.cell? ⟨q, 1, none⟩ = some (.int .u64 0) ∧ w'.cell? ⟨q, 2, none⟩ = some (.int .u64 0) ∧ w'.cell? ⟨q, 3, none⟩ = some (.int .u64 0)) ∧ Row w' q 26 .u64 [2, 0, 0, 0] ∧ Held w w') ∧ ZB 31 w' v2.heap.size) (fun _ h => And.left h) ?_
        refine wpAnyH_take (i := 3) (v := .string (zs 31)) rfl (by kernel_rfl) (by kernel_rfl) (by kernel_rfl) (fun _ _ _ h => h) (Or.inl ⟨by rfl, ?_⟩) hZ3 ?_
        · intro w hSw
          have hcz := hcv.out w _ hSw.2
          go_simp
        try simp only [Act.put, List.getElem_toArray, List.getElem_cons_zero, List.getElem_cons_succ, List.setIfInBounds_toArray, List.set_cons_zero, List.set_cons_succ]
        refine wpAnyH_take (i := 4) (v := (.string ((⟨#[5]⟩ : ByteArray) ++ zs 31))) rfl (by kernel_rfl) (by kernel_rfl) (by kernel_rfl) (fun _ _ _ h => h) (Or.inl ⟨by rfl, ?_⟩) hZ3 ?_
        · intro w hSw
          try dsimp only at hSw
          go_simp
        try simp only [Act.put, List.getElem_toArray, List.getElem_cons_zero, List.getElem_cons_succ, List.setIfInBounds_toArray, List.set_cons_zero, List.set_cons_succ]
        refine wpAnyH_take (i := 5) (v := (.bool true)) rfl (by kernel_rfl) (by kernel_rfl) (by kernel_rfl) (fun _ _ _ h => h) (Or.inl ⟨by rfl, ?_⟩) hZ3 ?_
        · intro w hSw
          try dsimp only at hSw
          go_simp
        try simp only [Act.put, List.getElem_toArray, List.getElem_cons_zero, List.getElem_cons_succ, List.setIfInBounds_toArray, List.set_cons_zero, List.set_cons_succ]
        refine wpAnyH_take (i := 6) (v := (.bool true)) rfl (by kernel_rfl) (by kernel_rfl) (by kernel_rfl) (fun _ _ _ h => h) (Or.inl ⟨by rfl, ?_⟩) hZ3 ?_
        · intro w hSw
          try dsimp only at hSw
          go_simp
        try simp only [Act.put, List.getElem_toArray, List.getElem_cons_zero, List.getElem_cons_succ, List.setIfInBounds_toArray, List.set_cons_zero, List.set_cons_succ]
        refine wpAnyH_take (i := 7) (v := (.bool true)) rfl (by kernel_rfl) (by kernel_rfl) (by kernel_rfl) (fun _ _ _ h => h) (Or.inl ⟨by rfl, ?_⟩) hZ3 ?_
        · intro w hSw
          try dsimp only at hSw
          go_simp
        try simp only [Act.put, List.getElem_toArray, List.getElem_cons_zero, List.getElem_cons_succ, List.setIfInBounds_toArray, List.set_cons_zero, List.set_cons_succ]
        refine wpAnyH_take (i := 8) (v := (.bool true)) rfl (by kernel_rfl) (by kernel_rfl) (by kernel_rfl) (fun _ _ _ h => h) (Or.inl ⟨by rfl, ?_⟩) hZ3 ?_
        · intro w hSw
          try dsimp only at hSw
          go_simp
        try simp only [Act.put, List.getElem_toArray, List.getElem_cons_zero, List.getElem_cons_succ, List.setIfInBounds_toArray, List.set_cons_zero, List.set_cons_succ]
        refine wpAnyH_take (i := 9) (v := (.bool true)) rfl (by kernel_rfl) (by kernel_rfl) (by kernel_rfl) (fun _ _ _ h => h) (Or.inl ⟨by rfl, ?_⟩) hZ3 ?_
        · intro w hSw
          try dsimp only at hSw
          go_simp
        try simp only [Act.put, List.getElem_toArray, List.getElem_cons_zero, List.getElem_cons_succ, List.setIfInBounds_toArray, List.set_cons_zero, List.set_cons_succ]
        refine wpAnyH_take (i := 10) (v := (.agg #[.int .u64 2, .int .u64 0, .int .u64 0, .int .u64 0])) rfl (by kernel_rfl) (by kernel_rfl) (by kernel_rfl) (fun _ _ _ h => h) (Or.inl ⟨by rfl, ?_⟩) hZ3 ?_
        · intro w hSw
          try dsimp only at hSw
          go_simp
        try simp only [Act.put, List.getElem_toArray, List.getElem_cons_zero, List.getElem_cons_succ, List.setIfInBounds_toArray, List.set_cons_zero, List.set_cons_succ]
        refine wpAnyH_ready (rs := [11]) (by kernel_rfl) (by simp) (AllReadyH.cons (o := _) rfl (fun K hK => ?_) AllReadyH.nil)
        go_simp
        refine (K2.out _).mono ?_
        rintro e v4 ⟨rfl, hb⟩
        have hS4 := keepZ hb hZ3
        clear hZ3 hb
        try dsimp only
        refine hK.out _ _ hS4 (fun _ => ?_)
        clear hK K
        try simp only [Act.put, List.getElem_toArray, List.getElem_cons_zero, List.getElem_cons_succ, List.setIfInBounds_toArray, List.set_cons_zero, List.set_cons_succ]
        refine wpAnyH_ready (rs := [12]) (by kernel_rfl) (by simp) (AllReadyH.cons (o := _) rfl (fun K hK => ?_) AllReadyH.nil)
        go_simp
        refine (S22.out _).mono ?_
        rintro e v5 ⟨rfl, hb⟩
        have hS5 := keepZ hb hS4
        clear hS4 hb
        try dsimp only
        refine hK.out _ _ hS5 (fun _ => ?_)
        clear hK K
        try simp only [Act.put, List.getElem_toArray, List.getElem_cons_zero, List.getElem_cons_succ, List.setIfInBounds_toArray, List.set_cons_zero, List.set_cons_succ]
        refine wpAnyH_take (i := 13) (v := (.bool true)) rfl (by kernel_rfl) (by kernel_rfl) (by kernel_rfl) (fun _ _ _ h => h) (Or.inl ⟨by rfl, ?_⟩) hS5 ?_
        · intro w hSw
          try dsimp only at hSw
          go_simp
        try simp only [Act.put, List.getElem_toArray, List.getElem_cons_zero, List.getElem_cons_succ, List.setIfInBounds_toArray, List.set_cons_zero, List.set_cons_succ]
        refine wpAnyH_take (i := 14) (v := (.bool true)) rfl (by kernel_rfl) (by kernel_rfl) (by kernel_rfl) (fun _ _ _ h => h) (Or.inl ⟨by rfl, ?_⟩) hS5 ?_
        · intro w hSw
          try dsimp only at hSw
          go_simp
        try simp only [Act.put, List.getElem_toArray, List.getElem_cons_zero, List.getElem_cons_succ, List.setIfInBounds_toArray, List.set_cons_zero, List.set_cons_succ]
        refine wpAnyH_take (i := 15) (v := (.bool false)) rfl (by kernel_rfl) (by kernel_rfl) (by kernel_rfl) (fun _ _ _ h => h) (Or.inl ⟨by rfl, ?_⟩) hS5 ?_
        · intro w hSw
          try dsimp only at hSw
          go_simp
        try simp only [Act.put, List.getElem_toArray, List.getElem_cons_zero, List.getElem_cons_succ, List.setIfInBounds_toArray, List.set_cons_zero, List.set_cons_succ]
        refine wpAnyH_take (i := 16) (v := (.bool true)) rfl (by kernel_rfl) (by kernel_rfl) (by kernel_rfl) (fun _ _ _ h => h) (Or.inl ⟨by rfl, ?_⟩) hS5 ?_
        · intro w hSw
          try dsimp only at hSw
          go_simp
        try simp only [Act.put, List.getElem_toArray, List.getElem_cons_zero, List.getElem_cons_succ, List.setIfInBounds_toArray, List.set_cons_zero, List.set_cons_succ]
        refine wpAnyH_take (i := 17) (v := (.bool true)) rfl (by kernel_rfl) (by kernel_rfl) (by kernel_rfl) (fun _ _ _ h => h) (Or.inl ⟨by rfl, ?_⟩) hS5 ?_
        · intro w hSw
          try dsimp only at hSw
          go_simp
        try simp only [Act.put, List.getElem_toArray, List.getElem_cons_zero, List.getElem_cons_succ, List.setIfInBounds_toArray, List.set_cons_zero, List.set_cons_succ]
        refine wpAnyH_take (i := 18) (v := (.bool true)) rfl (by kernel_rfl) (by kernel_rfl) (by kernel_rfl) (fun _ _ _ h => h) (Or.inl ⟨by rfl, ?_⟩) hS5 ?_
        · intro w hSw
          try dsimp only at hSw
          go_simp
        try simp only [Act.put, List.getElem_toArray, List.getElem_cons_zero, List.getElem_cons_succ, List.setIfInBounds_toArray, List.set_cons_zero, List.set_cons_succ]
        refine wpAnyH_ready (rs := [19]) (by kernel_rfl) (by simp) (AllReadyH.cons (o := _) rfl (fun K hK => ?_) AllReadyH.nil)
        go_simp
        refine (K2.out _).mono ?_
        rintro e v6 ⟨rfl, hb⟩
        have hS6 := keepZ hb hS5
        clear hS5 hb
        try dsimp only
        refine hK.out _ _ hS6 (fun _ => ?_)
        clear hK K
        try simp only [Act.put, List.getElem_toArray, List.getElem_cons_zero, List.getElem_cons_succ, List.setIfInBounds_toArray, List.set_cons_zero, List.set_cons_succ]
        refine wpAnyH_ready (rs := [20]) (by kernel_rfl) (by simp) (AllReadyH.cons (o := _) rfl (fun K hK => ?_) AllReadyH.nil)
        go_simp
        refine (KI.out _ hS6.1.2.2.2).mono ?_
        rintro e v7 ⟨rfl, hb⟩
        have hS7 := keepZ hb hS6
        clear hS6 hb
        try dsimp only
        refine hK.out _ _ hS7 (fun _ => ?_)
        clear hK K
        try simp only [Act.put, List.getElem_toArray, List.getElem_cons_zero, List.getElem_cons_succ, List.setIfInBounds_toArray, List.set_cons_zero, List.set_cons_succ]
        refine wpAnyH_ready (rs := [21]) (by kernel_rfl) (by simp) (AllReadyH.cons (o := _) rfl (fun K hK => ?_) AllReadyH.nil)
        go_simp
        refine (K2.out _).mono ?_
        rintro e v8 ⟨rfl, hb⟩
        have hS8 := keepZ hb hS7
        clear hS7 hb
        try dsimp only
        refine hK.out _ _ hS8 (fun _ => ?_)
        clear hK K
        try simp only [Act.put, List.getElem_toArray, List.getElem_cons_zero, List.getElem_cons_succ, List.setIfInBounds_toArray, List.set_cons_zero, List.set_cons_succ]
        refine wpAnyH_ready (rs := [22]) (by kernel_rfl) (by simp) (AllReadyH.cons (o := _) rfl (fun K hK => ?_) AllReadyH.nil)
        go_simp
        refine (KM.out _ hS8.1.2.2.2).mono ?_
        rintro e v9 ⟨rfl, hb⟩
        have hS9 := keepZ hb hS8
        clear hS8 hb
        try dsimp only
        refine hK.out _ _ hS9 (fun _ => ?_)
        clear hK K
        try simp only [Act.put, List.getElem_toArray, List.getElem_cons_zero, List.getElem_cons_succ, List.setIfInBounds_toArray, List.set_cons_zero, List.set_cons_succ]
        refine wpAnyH_ready (rs := [23]) (by kernel_rfl) (by simp) (AllReadyH.cons (o := _) rfl (fun K hK => ?_) AllReadyH.nil)
        go_simp
        refine (K1.out _).mono ?_
        rintro e v10 ⟨rfl, hb⟩
        have hS10 := keepZ hb hS9
        clear hS9 hb
        try dsimp only
        refine hK.out _ _ hS10 (fun _ => ?_)
        clear hK K
        try simp only [Act.put, List.getElem_toArray, List.getElem_cons_zero, List.getElem_cons_succ, List.setIfInBounds_toArray, List.set_cons_zero, List.set_cons_succ]
        refine wpAnyH_ready (rs := [24]) (by kernel_rfl) (by simp) (AllReadyH.cons (o := _) rfl (fun K hK => ?_) AllReadyH.nil)
        go_simp
        refine (S11.out _).mono ?_
        rintro e v11 ⟨rfl, hb⟩
        have hS11 := keepZ hb hS10
        clear hS10 hb
        try dsimp only
        refine hK.out _ _ hS11 (fun _ => ?_)
        clear hK K
        try simp only [Act.put, List.getElem_toArray, List.getElem_cons_zero, List.getElem_cons_succ, List.setIfInBounds_toArray, List.set_cons_zero, List.set_cons_succ]
        refine wpAnyH_take (i := 25) (v := (.bool true)) rfl (by kernel_rfl) (by kernel_rfl) (by kernel_rfl) (fun _ _ _ h => h) (Or.inl ⟨by rfl, ?_⟩) hS11 ?_
        · intro w hSw
          try dsimp only at hSw
          go_simp
        try simp only [Act.put, List.getElem_toArray, List.getElem_cons_zero, List.getElem_cons_succ, List.setIfInBounds_toArray, List.set_cons_zero, List.set_cons_succ]
        refine wpAnyH_take (i := 26) (v := (.bool true)) rfl (by kernel_rfl) (by kernel_rfl) (by kernel_rfl) (fun _ _ _ h => h) (Or.inl ⟨by rfl, ?_⟩) hS11 ?_
        · intro w hSw
          try dsimp only at hSw
          go_simp
        try simp only [Act.put, List.getElem_toArray, List.getElem_cons_zero, List.getElem_cons_succ, List.setIfInBounds_toArray, List.set_cons_zero, List.set_cons_succ]
        refine wpAnyH_ready (rs := [27]) (by kernel_rfl) (by simp) (AllReadyH.cons (o := _) rfl (fun K hK => ?_) AllReadyH.nil)
        go_simp
        refine (K1.out _).mono ?_
        rintro e v12 ⟨rfl, hb⟩
        have hS12 := keepZ hb hS11
        clear hS11 hb
        try dsimp only
        refine hK.out _ _ hS12 (fun _ => ?_)
        clear hK K
        try simp only [Act.put, List.getElem_toArray, List.getElem_cons_zero, List.getElem_cons_succ, List.setIfInBounds_toArray, List.set_cons_zero, List.set_cons_succ]
        refine wpAnyH_ready (rs := [28]) (by kernel_rfl) (by simp) (AllReadyH.cons (o := _) rfl (fun K hK => ?_) AllReadyH.nil)
        go_simp
        refine (K2.out _).mono ?_
        rintro e v13 ⟨rfl, hb⟩
        have hS13 := keepZ hb hS12
        clear hS12 hb
        try dsimp only
        refine hK.out _ _ hS13 (fun _ => ?_)
        clear hK K
        try simp only [Act.put, List.getElem_toArray, List.getElem_cons_zero, List.getElem_cons_succ, List.setIfInBounds_toArray, List.set_cons_zero, List.set_cons_succ]
        refine wpAnyH_ready (rs := [29]) (by kernel_rfl) (by simp) (AllReadyH.cons (o := _) rfl (fun K hK => ?_) AllReadyH.nil)
        go_simp
        refine (S12.out _).mono ?_
        rintro e v14 ⟨rfl, hb⟩
        have hS14 := keepZ hb hS13
        clear hS13 hb
        try dsimp only
        refine hK.out _ _ hS14 (fun _ => ?_)
        clear hK K
        try simp only [Act.put, List.getElem_toArray, List.getElem_cons_zero, List.getElem_cons_succ, List.setIfInBounds_toArray, List.set_cons_zero, List.set_cons_succ]
        refine wpAnyH_take (i := 30) (v := (.bool true)) rfl (by kernel_rfl) (by kernel_rfl) (by kernel_rfl) (fun _ _ _ h => h) (Or.inl ⟨by rfl, ?_⟩) hS14 ?_
        · intro w hSw
          try dsimp only at hSw
          go_simp
        try simp only [Act.put, List.getElem_toArray, List.getElem_cons_zero, List.getElem_cons_succ, List.setIfInBounds_toArray, List.set_cons_zero, List.set_cons_succ]
        refine wpAnyH_take (i := 31) (v := (.bool true)) rfl (by kernel_rfl) (by kernel_rfl) (by kernel_rfl) (fun _ _ _ h => h) (Or.inl ⟨by rfl, ?_⟩) hS14 ?_
        · intro w hSw
          try dsimp only at hSw
          go_simp
        try simp only [Act.put, List.getElem_toArray, List.getElem_cons_zero, List.getElem_cons_succ, List.setIfInBounds_toArray, List.set_cons_zero, List.set_cons_succ]
        refine wpAnyH_take (i := 32) (v := (.bool true)) rfl (by kernel_rfl) (by kernel_rfl) (by kernel_rfl) (fun _ _ _ h => h) (Or.inl ⟨by rfl, ?_⟩) hS14 ?_
        · intro w hSw
          try dsimp only at hSw
          go_simp
        try simp only [Act.put, List.getElem_toArray, List.getElem_cons_zero, List.getElem_cons_succ, List.setIfInBounds_toArray, List.set_cons_zero, List.set_cons_succ]
        refine wpAnyH_done (by kernel_rfl) ?_ _
        have hBel := hS14.1.2.2.1
        clear hS14
        go_wp2
        go_ret
        exact ⟨rfl, hBel⟩
      exact AllReadyH.nil
    refine AllReadyH.cons (o := _) rfl (fun K hK => ?_) ?_
    · go_simp
      have hT15 := keep3 (o := .cells (zr 31) 5) hS1
      refine hK.out _ _ hT15 (fun _ => ?_)
      clear hK K
      try simp only [Act.put, List.getElem_toArray, List.getElem_cons_zero, List.getElem_cons_succ, List.setIfInBounds_toArray, List.set_cons_zero, List.set_cons_succ]
      have hZ15 := And.intro hT15 (ZB.new 31 (v1))
      clear hS1 hT15
      refine wpAnyH_S (S2 := fun w' => ((w'.cell? ⟨q, 0, none⟩ = some (.int .u64 2) ∧ w'.cell? ⟨q, 1, none⟩ = some (.int .u64 0) ∧ w'.cell? ⟨q, 2, none⟩ = some (.int .u64 0) ∧ w'.cell? ⟨q, 3, none⟩ = some (.int .u64 0)) ∧ Row w' q 26 .u64 [2, 0, 0, 0] ∧ Held w w') ∧ ZB 31 w' v1.heap.size) (fun _ h => And.left h) ?_
      refine wpAnyH_take (i := 3) (v := .string (zs 31)) rfl (by kernel_rfl) (by kernel_rfl) (by kernel_rfl) (fun _ _ _ h => h) (Or.inl ⟨by rfl, ?_⟩) hZ15 ?_
      · intro w hSw
        have hcz := hcv.out w _ hSw.2
        go_simp
      try simp only [Act.put, List.getElem_toArray, List.getElem_cons_zero, List.getElem_cons_succ, List.setIfInBounds_toArray, List.set_cons_zero, List.set_cons_succ]
      refine wpAnyH_take (i := 4) (v := (.string ((⟨#[5]⟩ : ByteArray) ++ zs 31))) rfl (by kernel_rfl) (by kernel_rfl) (by kernel_rfl) (fun _ _ _ h => h) (Or.inl ⟨by rfl, ?_⟩) hZ15 ?_
      · intro w hSw
        try dsimp only at hSw
        go_simp
      try simp only [Act.put, List.getElem_toArray, List.getElem_cons_zero, List.getElem_cons_succ, List.setIfInBounds_toArray, List.set_cons_zero, List.set_cons_succ]
      refine wpAnyH_ready (rs := [1]) (by kernel_rfl) (by simp) ?_
      refine AllReadyH.cons (o := _) rfl (fun K hK => ?_) ?_
      · go_simp
        refine (KB.out _).mono ?_
        rintro e v16 ⟨rfl, hb⟩
        have hS16 := keepZ hb hZ15
        clear hZ15 hb
        try dsimp only
        refine hK.out _ _ hS16 (fun _ => ?_)
        clear hK K
        try simp only [Act.put, List.getElem_toArray, List.getElem_cons_zero, List.getElem_cons_succ, List.setIfInBounds_toArray, List.set_cons_zero, List.set_cons_succ]
        refine wpAnyH_take (i := 5) (v := (.bool true)) rfl (by kernel_rfl) (by kernel_rfl) (by kernel_rfl) (fun _ _ _ h => h) (Or.inl ⟨by rfl, ?_⟩) hS16 ?_
        · intro w hSw
          try dsimp only at hSw
          go_simp
        try simp only [Act.put, List.getElem_toArray, List.getElem_cons_zero, List.getElem_cons_succ, List.setIfInBounds_toArray, List.set_cons_zero, List.set_cons_succ]
        refine wpAnyH_take (i := 6) (v := (.bool true)) rfl (by kernel_rfl) (by kernel_rfl) (by kernel_rfl) (fun _ _ _ h => h) (Or.inl ⟨by rfl, ?_⟩) hS16 ?_
        · intro w hSw
          try dsimp only at hSw
          go_simp
        try simp only [Act.put, List.getElem_toArray, List.getElem_cons_zero, List.getElem_cons_succ, List.setIfInBounds_toArray, List.set_cons_zero, List.set_cons_succ]
        refine wpAnyH_take (i := 7) (v := (.bool true)) rfl (by kernel_rfl) (by kernel_rfl) (by kernel_rfl) (fun _ _ _ h => h) (Or.inl ⟨by rfl, ?_⟩) hS16 ?_
        · intro w hSw
          try dsimp only at hSw
          go_simp
        try simp only [Act.put, List.getElem_toArray, List.getElem_cons_zero, List.getElem_cons_succ, List.setIfInBounds_toArray, List.set_cons_zero, List.set_cons_succ]
        refine wpAnyH_take (i := 8) (v := (.bool true)) rfl (by kernel_rfl) (by kernel_rfl) (by kernel_rfl) (fun _ _ _ h => h) (Or.inl ⟨by rfl, ?_⟩) hS16 ?_
        · intro w hSw
          try dsimp only at hSw
          go_simp
        try simp only [Act.put, List.getElem_toArray, List.getElem_cons_zero, List.getElem_cons_succ, List.setIfInBounds_toArray, List.set_cons_zero, List.set_cons_succ]
        refine wpAnyH_take (i := 9) (v := (.bool true)) rfl (by kernel_rfl) (by kernel_rfl) (by kernel_rfl) (fun _ _ _ h => h) (Or.inl ⟨by rfl, ?_⟩) hS16 ?_
        · intro w hSw
          try dsimp only at hSw
          go_simp
        try simp only [Act.put, List.getElem_toArray, List.getElem_cons_zero, List.getElem_cons_succ, List.setIfInBounds_toArray, List.set_cons_zero, List.set_cons_succ]
        refine wpAnyH_take (i := 10) (v := (.agg #[.int .u64 2, .int .u64 0, .int .u64 0, .int .u64 0])) rfl (by kernel_rfl) (by kernel_rfl) (by kernel_rfl) (fun _ _ _ h => h) (Or.inl ⟨by rfl, ?_⟩) hS16 ?_
        · intro w hSw
          try dsimp only at hSw
          go_simp
        try simp only [Act.put, List.getElem_toArray, List.getElem_cons_zero, List.getElem_cons_succ, List.setIfInBounds_toArray, List.set_cons_zero, List.set_cons_succ]
        refine wpAnyH_ready (rs := [11]) (by kernel_rfl) (by simp) (AllReadyH.cons (o := _) rfl (fun K hK => ?_) AllReadyH.nil)
        go_simp
        refine (K2.out _).mono ?_
        rintro e v17 ⟨rfl, hb⟩
        have hS17 := keepZ hb hS16
        clear hS16 hb
        try dsimp only
        refine hK.out _ _ hS17 (fun _ => ?_)
        clear hK K
        try simp only [Act.put, List.getElem_toArray, List.getElem_cons_zero, List.getElem_cons_succ, List.setIfInBounds_toArray, List.set_cons_zero, List.set_cons_succ]
        refine wpAnyH_ready (rs := [12]) (by kernel_rfl) (by simp) (AllReadyH.cons (o := _) rfl (fun K hK => ?_) AllReadyH.nil)
        go_simp
        refine (S22.out _).mono ?_
        rintro e v18 ⟨rfl, hb⟩
        have hS18 := keepZ hb hS17
        clear hS17 hb
        try dsimp only
        refine hK.out _ _ hS18 (fun _ => ?_)
        clear hK K
        try simp only [Act.put, List.getElem_toArray, List.getElem_cons_zero, List.getElem_cons_succ, List.setIfInBounds_toArray, List.set_cons_zero, List.set_cons_succ]
        refine wpAnyH_take (i := 13) (v := (.bool true)) rfl (by kernel_rfl) (by kernel_rfl) (by kernel_rfl) (fun _ _ _ h => h) (Or.inl ⟨by rfl, ?_⟩) hS18 ?_
        · intro w hSw
          try dsimp only at hSw
          go_simp
        try simp only [Act.put, List.getElem_toArray, List.getElem_cons_zero, List.getElem_cons_succ, List.setIfInBounds_toArray, List.set_cons_zero, List.set_cons_succ]
        refine wpAnyH_take (i := 14) (v := (.bool true)) rfl (by kernel_rfl) (by kernel_rfl) (by kernel_rfl) (fun _ _ _ h => h) (Or.inl ⟨by rfl, ?_⟩) hS18 ?_
        · intro w hSw
          try dsimp only at hSw
          go_simp
        try simp only [Act.put, List.getElem_toArray, List.getElem_cons_zero, List.getElem_cons_succ, List.setIfInBounds_toArray, List.set_cons_zero, List.set_cons_succ]
        refine wpAnyH_take (i := 15) (v := (.bool false)) rfl (by kernel_rfl) (by kernel_rfl) (by kernel_rfl) (fun _ _ _ h => h) (Or.inl ⟨by rfl, ?_⟩) hS18 ?_
        · intro w hSw
          try dsimp only at hSw
          go_simp
        try simp only [Act.put, List.getElem_toArray, List.getElem_cons_zero, List.getElem_cons_succ, List.setIfInBounds_toArray, List.set_cons_zero, List.set_cons_succ]
        refine wpAnyH_take (i := 16) (v := (.bool true)) rfl (by kernel_rfl) (by kernel_rfl) (by kernel_rfl) (fun _ _ _ h => h) (Or.inl ⟨by rfl, ?_⟩) hS18 ?_
        · intro w hSw
          try dsimp only at hSw
          go_simp
        try simp only [Act.put, List.getElem_toArray, List.getElem_cons_zero, List.getElem_cons_succ, List.setIfInBounds_toArray, List.set_cons_zero, List.set_cons_succ]
        refine wpAnyH_take (i := 17) (v := (.bool true)) rfl (by kernel_rfl) (by kernel_rfl) (by kernel_rfl) (fun _ _ _ h => h) (Or.inl ⟨by rfl, ?_⟩) hS18 ?_
        · intro w hSw
          try dsimp only at hSw
          go_simp
        try simp only [Act.put, List.getElem_toArray, List.getElem_cons_zero, List.getElem_cons_succ, List.setIfInBounds_toArray, List.set_cons_zero, List.set_cons_succ]
        refine wpAnyH_take (i := 18) (v := (.bool true)) rfl (by kernel_rfl) (by kernel_rfl) (by kernel_rfl) (fun _ _ _ h => h) (Or.inl ⟨by rfl, ?_⟩) hS18 ?_
        · intro w hSw
          try dsimp only at hSw
          go_simp
        try simp only [Act.put, List.getElem_toArray, List.getElem_cons_zero, List.getElem_cons_succ, List.setIfInBounds_toArray, List.set_cons_zero, List.set_cons_succ]
        refine wpAnyH_ready (rs := [19]) (by kernel_rfl) (by simp) (AllReadyH.cons (o := _) rfl (fun K hK => ?_) AllReadyH.nil)
        go_simp
        refine (K2.out _).mono ?_
        rintro e v19 ⟨rfl, hb⟩
        have hS19 := keepZ hb hS18
        clear hS18 hb
        try dsimp only
        refine hK.out _ _ hS19 (fun _ => ?_)
        clear hK K
        try simp only [Act.put, List.getElem_toArray, List.getElem_cons_zero, List.getElem_cons_succ, List.setIfInBounds_toArray, List.set_cons_zero, List.set_cons_succ]
        refine wpAnyH_ready (rs := [20]) (by kernel_rfl) (by simp) (AllReadyH.cons (o := _) rfl (fun K hK => ?_) AllReadyH.nil)
        go_simp
        refine (KI.out _ hS19.1.2.2.2).mono ?_
        rintro e v20 ⟨rfl, hb⟩
        have hS20 := keepZ hb hS19
        clear hS19 hb
        try dsimp only
        refine hK.out _ _ hS20 (fun _ => ?_)
        clear hK K
        try simp only [Act.put, List.getElem_toArray, List.getElem_cons_zero, List.getElem_cons_succ, List.setIfInBounds_toArray, List.set_cons_zero, List.set_cons_succ]
        refine wpAnyH_ready (rs := [21]) (by kernel_rfl) (by simp) (AllReadyH.cons (o := _) rfl (fun K hK => ?_) AllReadyH.nil)
        go_simp
        refine (K2.out _).mono ?_
        rintro e v21 ⟨rfl, hb⟩
        have hS21 := keepZ hb hS20
        clear hS20 hb
        try dsimp only
        refine hK.out _ _ hS21 (fun _ => ?_)
        clear hK K
        try simp only [Act.put, List.getElem_toArray, List.getElem_cons_zero, List.getElem_cons_succ, List.setIfInBounds_toArray, List.set_cons_zero, List.set_cons_succ]
        refine wpAnyH_ready (rs := [22]) (by kernel_rfl) (by simp) (AllReadyH.cons (o := _) rfl (fun K hK => ?_) AllReadyH.nil)
        go_simp
        refine (KM.out _ hS21.1.2.2.2).mono ?_
        rintro e v22 ⟨rfl, hb⟩
        have hS22 := keepZ hb hS21
        clear hS21 hb
        try dsimp only
        refine hK.out _ _ hS22 (fun _ => ?_)
        clear hK K
        try simp only [Act.put, List.getElem_toArray, List.getElem_cons_zero, List.getElem_cons_succ, List.setIfInBounds_toArray, List.set_cons_zero, List.set_cons_succ]
        refine wpAnyH_ready (rs := [23]) (by kernel_rfl) (by simp) (AllReadyH.cons (o := _) rfl (fun K hK => ?_) AllReadyH.nil)
        go_simp
        refine (K1.out _).mono ?_
        rintro e v23 ⟨rfl, hb⟩
        have hS23 := keepZ hb hS22
        clear hS22 hb
        try dsimp only
        refine hK.out _ _ hS23 (fun _ => ?_)
        clear hK K
        try simp only [Act.put, List.getElem_toArray, List.getElem_cons_zero, List.getElem_cons_succ, List.setIfInBounds_toArray, List.set_cons_zero, List.set_cons_succ]
        refine wpAnyH_ready (rs := [24]) (by kernel_rfl) (by simp) (AllReadyH.cons (o := _) rfl (fun K hK => ?_) AllReadyH.nil)
        go_simp
        refine (S11.out _).mono ?_
        rintro e v24 ⟨rfl, hb⟩
        have hS24 := keepZ hb hS23
        clear hS23 hb
        try dsimp only
        refine hK.out _ _ hS24 (fun _ => ?_)
        clear hK K
        try simp only [Act.put, List.getElem_toArray, List.getElem_cons_zero, List.getElem_cons_succ, List.setIfInBounds_toArray, List.set_cons_zero, List.set_cons_succ]
        refine wpAnyH_take (i := 25) (v := (.bool true)) rfl (by kernel_rfl) (by kernel_rfl) (by kernel_rfl) (fun _ _ _ h => h) (Or.inl ⟨by rfl, ?_⟩) hS24 ?_
        · intro w hSw
          try dsimp only at hSw
          go_simp
        try simp only [Act.put, List.getElem_toArray, List.getElem_cons_zero, List.getElem_cons_succ, List.setIfInBounds_toArray, List.set_cons_zero, List.set_cons_succ]
        refine wpAnyH_take (i := 26) (v := (.bool true)) rfl (by kernel_rfl) (by kernel_rfl) (by kernel_rfl) (fun _ _ _ h => h) (Or.inl ⟨by rfl, ?_⟩) hS24 ?_
        · intro w hSw
          try dsimp only at hSw
          go_simp
        try simp only [Act.put, List.getElem_toArray, List.getElem_cons_zero, List.getElem_cons_succ, List.setIfInBounds_toArray, List.set_cons_zero, List.set_cons_succ]
        refine wpAnyH_ready (rs := [27]) (by kernel_rfl) (by simp) (AllReadyH.cons (o := _) rfl (fun K hK => ?_) AllReadyH.nil)
        go_simp
        refine (K1.out _).mono ?_
        rintro e v25 ⟨rfl, hb⟩
        have hS25 := keepZ hb hS24
        clear hS24 hb
        try dsimp only
        refine hK.out _ _ hS25 (fun _ => ?_)
        clear hK K
        try simp only [Act.put, List.getElem_toArray, List.getElem_cons_zero, List.getElem_cons_succ, List.setIfInBounds_toArray, List.set_cons_zero, List.set_cons_succ]
        refine wpAnyH_ready (rs := [28]) (by kernel_rfl) (by simp) (AllReadyH.cons (o := _) rfl (fun K hK => ?_) AllReadyH.nil)
        go_simp
        refine (K2.out _).mono ?_
        rintro e v26 ⟨rfl, hb⟩
        have hS26 := keepZ hb hS25
        clear hS25 hb
        try dsimp only
        refine hK.out _ _ hS26 (fun _ => ?_)
        clear hK K
        try simp only [Act.put, List.getElem_toArray, List.getElem_cons_zero, List.getElem_cons_succ, List.setIfInBounds_toArray, List.set_cons_zero, List.set_cons_succ]
        refine wpAnyH_ready (rs := [29]) (by kernel_rfl) (by simp) (AllReadyH.cons (o := _) rfl (fun K hK => ?_) AllReadyH.nil)
        go_simp
        refine (S12.out _).mono ?_
        rintro e v27 ⟨rfl, hb⟩
        have hS27 := keepZ hb hS26
        clear hS26 hb
        try dsimp only
        refine hK.out _ _ hS27 (fun _ => ?_)
        clear hK K
        try simp only [Act.put, List.getElem_toArray, List.getElem_cons_zero, List.getElem_cons_succ, List.setIfInBounds_toArray, List.set_cons_zero, List.set_cons_succ]
        refine wpAnyH_take (i := 30) (v := (.bool true)) rfl (by kernel_rfl) (by kernel_rfl) (by kernel_rfl) (fun _ _ _ h => h) (Or.inl ⟨by rfl, ?_⟩) hS27 ?_
        · intro w hSw
          try dsimp only at hSw
          go_simp
        try simp only [Act.put, List.getElem_toArray, List.getElem_cons_zero, List.getElem_cons_succ, List.setIfInBounds_toArray, List.set_cons_zero, List.set_cons_succ]
        refine wpAnyH_take (i := 31) (v := (.bool true)) rfl (by kernel_rfl) (by kernel_rfl) (by kernel_rfl) (fun _ _ _ h => h) (Or.inl ⟨by rfl, ?_⟩) hS27 ?_
        · intro w hSw
          try dsimp only at hSw
          go_simp
        try simp only [Act.put, List.getElem_toArray, List.getElem_cons_zero, List.getElem_cons_succ, List.setIfInBounds_toArray, List.set_cons_zero, List.set_cons_succ]
        refine wpAnyH_take (i := 32) (v := (.bool true)) rfl (by kernel_rfl) (by kernel_rfl) (by kernel_rfl) (fun _ _ _ h => h) (Or.inl ⟨by rfl, ?_⟩) hS27 ?_
        · intro w hSw
          try dsimp only at hSw
          go_simp
        try simp only [Act.put, List.getElem_toArray, List.getElem_cons_zero, List.getElem_cons_succ, List.setIfInBounds_toArray, List.set_cons_zero, List.set_cons_succ]
        refine wpAnyH_done (by kernel_rfl) ?_ _
        have hBel := hS27.1.2.2.1
        clear hS27
        go_wp2
        go_ret
        exact ⟨rfl, hBel⟩
      exact AllReadyH.nil
    exact AllReadyH.nil
  refine AllReadyH.cons (o := _) rfl (fun K hK => ?_) ?_
  · go_simp
    have hT28 := keep3 (o := .cells (zr 31) 5) hS
    refine hK.out _ _ hT28 (fun _ => ?_)
    clear hK K
    try simp only [Act.put, List.getElem_toArray, List.getElem_cons_zero, List.getElem_cons_succ, List.setIfInBounds_toArray, List.set_cons_zero, List.set_cons_succ]
    have hZ28 := And.intro hT28 (ZB.new 31 (wx.drew))
    clear hS hT28
    refine wpAnyH_S (S2 := fun w' => ((w'.cell? ⟨q, 0, none⟩ = some (.int .u64 2) ∧ w'.cell? ⟨q, 1, none⟩ = some (.int .u64 0) ∧ w'.cell? ⟨q, 2, none⟩ = some (.int .u64 0) ∧ w'.cell? ⟨q, 3, none⟩ = some (.int .u64 0)) ∧ Row w' q 26 .u64 [2, 0, 0, 0] ∧ Held w w') ∧ ZB 31 w' wx.heap.size) (fun _ h => And.left h) ?_
    refine wpAnyH_take (i := 3) (v := .string (zs 31)) rfl (by kernel_rfl) (by kernel_rfl) (by kernel_rfl) (fun _ _ _ h => h) (Or.inl ⟨by rfl, ?_⟩) hZ28 ?_
    · intro w hSw
      have hcz := hcv.out w _ hSw.2
      go_simp
    try simp only [Act.put, List.getElem_toArray, List.getElem_cons_zero, List.getElem_cons_succ, List.setIfInBounds_toArray, List.set_cons_zero, List.set_cons_succ]
    refine wpAnyH_take (i := 4) (v := (.string ((⟨#[5]⟩ : ByteArray) ++ zs 31))) rfl (by kernel_rfl) (by kernel_rfl) (by kernel_rfl) (fun _ _ _ h => h) (Or.inl ⟨by rfl, ?_⟩) hZ28 ?_
    · intro w hSw
      try dsimp only at hSw
      go_simp
    try simp only [Act.put, List.getElem_toArray, List.getElem_cons_zero, List.getElem_cons_succ, List.setIfInBounds_toArray, List.set_cons_zero, List.set_cons_succ]
    refine wpAnyH_ready (rs := [0]) (by kernel_rfl) (by simp) ?_
    refine AllReadyH.cons (o := _) rfl (fun K hK => ?_) ?_
    · go_simp
      refine (K5.out _).mono ?_
      rintro e v29 ⟨rfl, hb⟩
      have hS29 := keepZ hb hZ28
      clear hZ28 hb
      try dsimp only
      refine hK.out _ _ hS29 (fun _ => ?_)
      clear hK K
      try simp only [Act.put, List.getElem_toArray, List.getElem_cons_zero, List.getElem_cons_succ, List.setIfInBounds_toArray, List.set_cons_zero, List.set_cons_succ]
      refine wpAnyH_ready (rs := [1]) (by kernel_rfl) (by simp) ?_
      refine AllReadyH.cons (o := _) rfl (fun K hK => ?_) ?_
      · go_simp
        refine (KB.out _).mono ?_
        rintro e v30 ⟨rfl, hb⟩
        have hS30 := keepZ hb hS29
        clear hS29 hb
        try dsimp only
        refine hK.out _ _ hS30 (fun _ => ?_)
        clear hK K
        try simp only [Act.put, List.getElem_toArray, List.getElem_cons_zero, List.getElem_cons_succ, List.setIfInBounds_toArray, List.set_cons_zero, List.set_cons_succ]
        refine wpAnyH_take (i := 5) (v := (.bool true)) rfl (by kernel_rfl) (by kernel_rfl) (by kernel_rfl) (fun _ _ _ h => h) (Or.inl ⟨by rfl, ?_⟩) hS30 ?_
        · intro w hSw
          try dsimp only at hSw
          go_simp
        try simp only [Act.put, List.getElem_toArray, List.getElem_cons_zero, List.getElem_cons_succ, List.setIfInBounds_toArray, List.set_cons_zero, List.set_cons_succ]
        refine wpAnyH_take (i := 6) (v := (.bool true)) rfl (by kernel_rfl) (by kernel_rfl) (by kernel_rfl) (fun _ _ _ h => h) (Or.inl ⟨by rfl, ?_⟩) hS30 ?_
        · intro w hSw
          try dsimp only at hSw
          go_simp
        try simp only [Act.put, List.getElem_toArray, List.getElem_cons_zero, List.getElem_cons_succ, List.setIfInBounds_toArray, List.set_cons_zero, List.set_cons_succ]
        refine wpAnyH_take (i := 7) (v := (.bool true)) rfl (by kernel_rfl) (by kernel_rfl) (by kernel_rfl) (fun _ _ _ h => h) (Or.inl ⟨by rfl, ?_⟩) hS30 ?_
        · intro w hSw
          try dsimp only at hSw
          go_simp
        try simp only [Act.put, List.getElem_toArray, List.getElem_cons_zero, List.getElem_cons_succ, List.setIfInBounds_toArray, List.set_cons_zero, List.set_cons_succ]
        refine wpAnyH_take (i := 8) (v := (.bool true)) rfl (by kernel_rfl) (by kernel_rfl) (by kernel_rfl) (fun _ _ _ h => h) (Or.inl ⟨by rfl, ?_⟩) hS30 ?_
        · intro w hSw
          try dsimp only at hSw
          go_simp
        try simp only [Act.put, List.getElem_toArray, List.getElem_cons_zero, List.getElem_cons_succ, List.setIfInBounds_toArray, List.set_cons_zero, List.set_cons_succ]
        refine wpAnyH_take (i := 9) (v := (.bool true)) rfl (by kernel_rfl) (by kernel_rfl) (by kernel_rfl) (fun _ _ _ h => h) (Or.inl ⟨by rfl, ?_⟩) hS30 ?_
        · intro w hSw
          try dsimp only at hSw
          go_simp
        try simp only [Act.put, List.getElem_toArray, List.getElem_cons_zero, List.getElem_cons_succ, List.setIfInBounds_toArray, List.set_cons_zero, List.set_cons_succ]
        refine wpAnyH_take (i := 10) (v := (.agg #[.int .u64 2, .int .u64 0, .int .u64 0, .int .u64 0])) rfl (by kernel_rfl) (by kernel_rfl) (by kernel_rfl) (fun _ _ _ h => h) (Or.inl ⟨by rfl, ?_⟩) hS30 ?_
        · intro w hSw
          try dsimp only at hSw
          go_simp
        try simp only [Act.put, List.getElem_toArray, List.getElem_cons_zero, List.getElem_cons_succ, List.setIfInBounds_toArray, List.set_cons_zero, List.set_cons_succ]
        refine wpAnyH_ready (rs := [11]) (by kernel_rfl) (by simp) (AllReadyH.cons (o := _) rfl (fun K hK => ?_) AllReadyH.nil)
        go_simp
        refine (K2.out _).mono ?_
        rintro e v31 ⟨rfl, hb⟩
        have hS31 := keepZ hb hS30
        clear hS30 hb
        try dsimp only
        refine hK.out _ _ hS31 (fun _ => ?_)
        clear hK K
        try simp only [Act.put, List.getElem_toArray, List.getElem_cons_zero, List.getElem_cons_succ, List.setIfInBounds_toArray, List.set_cons_zero, List.set_cons_succ]
        refine wpAnyH_ready (rs := [12]) (by kernel_rfl) (by simp) (AllReadyH.cons (o := _) rfl (fun K hK => ?_) AllReadyH.nil)
        go_simp
        refine (S22.out _).mono ?_
        rintro e v32 ⟨rfl, hb⟩
        have hS32 := keepZ hb hS31
        clear hS31 hb
        try dsimp only
        refine hK.out _ _ hS32 (fun _ => ?_)
        clear hK K
        try simp only [Act.put, List.getElem_toArray, List.getElem_cons_zero, List.getElem_cons_succ, List.setIfInBounds_toArray, List.set_cons_zero, List.set_cons_succ]
        refine wpAnyH_take (i := 13) (v := (.bool true)) rfl (by kernel_rfl) (by kernel_rfl) (by kernel_rfl) (fun _ _ _ h => h) (Or.inl ⟨by rfl, ?_⟩) hS32 ?_
        · intro w hSw
          try dsimp only at hSw
          go_simp
        try simp only [Act.put, List.getElem_toArray, List.getElem_cons_zero, List.getElem_cons_succ, List.setIfInBounds_toArray, List.set_cons_zero, List.set_cons_succ]
        refine wpAnyH_take (i := 14) (v := (.bool true)) rfl (by kernel_rfl) (by kernel_rfl) (by kernel_rfl) (fun _ _ _ h => h) (Or.inl ⟨by rfl, ?_⟩) hS32 ?_
        · intro w hSw
          try dsimp only at hSw
          go_simp
        try simp only [Act.put, List.getElem_toArray, List.getElem_cons_zero, List.getElem_cons_succ, List.setIfInBounds_toArray, List.set_cons_zero, List.set_cons_succ]
        refine wpAnyH_take (i := 15) (v := (.bool false)) rfl (by kernel_rfl) (by kernel_rfl) (by kernel_rfl) (fun _ _ _ h => h) (Or.inl ⟨by rfl, ?_⟩) hS32 ?_
        · intro w hSw
          try dsimp only at hSw
          go_simp
        try simp only [Act.put, List.getElem_toArray, List.getElem_cons_zero, List.getElem_cons_succ, List.setIfInBounds_toArray, List.set_cons_zero, List.set_cons_succ]
        refine wpAnyH_take (i := 16) (v := (.bool true)) rfl (by kernel_rfl) (by kernel_rfl) (by kernel_rfl) (fun _ _ _ h => h) (Or.inl ⟨by rfl, ?_⟩) hS32 ?_
        · intro w hSw
          try dsimp only at hSw
          go_simp
        try simp only [Act.put, List.getElem_toArray, List.getElem_cons_zero, List.getElem_cons_succ, List.setIfInBounds_toArray, List.set_cons_zero, List.set_cons_succ]
        refine wpAnyH_take (i := 17) (v := (.bool true)) rfl (by kernel_rfl) (by kernel_rfl) (by kernel_rfl) (fun _ _ _ h => h) (Or.inl ⟨by rfl, ?_⟩) hS32 ?_
        · intro w hSw
          try dsimp only at hSw
          go_simp
        try simp only [Act.put, List.getElem_toArray, List.getElem_cons_zero, List.getElem_cons_succ, List.setIfInBounds_toArray, List.set_cons_zero, List.set_cons_succ]
        refine wpAnyH_take (i := 18) (v := (.bool true)) rfl (by kernel_rfl) (by kernel_rfl) (by kernel_rfl) (fun _ _ _ h => h) (Or.inl ⟨by rfl, ?_⟩) hS32 ?_
        · intro w hSw
          try dsimp only at hSw
          go_simp
        try simp only [Act.put, List.getElem_toArray, List.getElem_cons_zero, List.getElem_cons_succ, List.setIfInBounds_toArray, List.set_cons_zero, List.set_cons_succ]
        refine wpAnyH_ready (rs := [19]) (by kernel_rfl) (by simp) (AllReadyH.cons (o := _) rfl (fun K hK => ?_) AllReadyH.nil)
        go_simp
        refine (K2.out _).mono ?_
        rintro e v33 ⟨rfl, hb⟩
        have hS33 := keepZ hb hS32
        clear hS32 hb
        try dsimp only
        refine hK.out _ _ hS33 (fun _ => ?_)
        clear hK K
        try simp only [Act.put, List.getElem_toArray, List.getElem_cons_zero, List.getElem_cons_succ, List.setIfInBounds_toArray, List.set_cons_zero, List.set_cons_succ]
        refine wpAnyH_ready (rs := [20]) (by kernel_rfl) (by simp) (AllReadyH.cons (o := _) rfl (fun K hK => ?_) AllReadyH.nil)
        go_simp
        refine (KI.out _ hS33.1.2.2.2).mono ?_
        rintro e v34 ⟨rfl, hb⟩
        have hS34 := keepZ hb hS33
        clear hS33 hb
        try dsimp only
        refine hK.out _ _ hS34 (fun _ => ?_)
        clear hK K
        try simp only [Act.put, List.getElem_toArray, List.getElem_cons_zero, List.getElem_cons_succ, List.setIfInBounds_toArray, List.set_cons_zero, List.set_cons_succ]
        refine wpAnyH_ready (rs := [21]) (by kernel_rfl) (by simp) (AllReadyH.cons (o := _) rfl (fun K hK => ?_) AllReadyH.nil)
        go_simp
        refine (K2.out _).mono ?_
        rintro e v35 ⟨rfl, hb⟩
        have hS35 := keepZ hb hS34
        clear hS34 hb
        try dsimp only
        refine hK.out _ _ hS35 (fun _ => ?_)
        clear hK K
        try simp only [Act.put, List.getElem_toArray, List.getElem_cons_zero, List.getElem_cons_succ, List.setIfInBounds_toArray, List.set_cons_zero, List.set_cons_succ]
        refine wpAnyH_ready (rs := [22]) (by kernel_rfl) (by simp) (AllReadyH.cons (o := _) rfl (fun K hK => ?_) AllReadyH.nil)
        go_simp
        refine (KM.out _ hS35.1.2.2.2).mono ?_
        rintro e v36 ⟨rfl, hb⟩
        have hS36 := keepZ hb hS35
        clear hS35 hb
        try dsimp only
        refine hK.out _ _ hS36 (fun _ => ?_)
        clear hK K
        try simp only [Act.put, List.getElem_toArray, List.getElem_cons_zero, List.getElem_cons_succ, List.setIfInBounds_toArray, List.set_cons_zero, List.set_cons_succ]
        refine wpAnyH_ready (rs := [23]) (by kernel_rfl) (by simp) (AllReadyH.cons (o := _) rfl (fun K hK => ?_) AllReadyH.nil)
        go_simp
        refine (K1.out _).mono ?_
        rintro e v37 ⟨rfl, hb⟩
        have hS37 := keepZ hb hS36
        clear hS36 hb
        try dsimp only
        refine hK.out _ _ hS37 (fun _ => ?_)
        clear hK K
        try simp only [Act.put, List.getElem_toArray, List.getElem_cons_zero, List.getElem_cons_succ, List.setIfInBounds_toArray, List.set_cons_zero, List.set_cons_succ]
        refine wpAnyH_ready (rs := [24]) (by kernel_rfl) (by simp) (AllReadyH.cons (o := _) rfl (fun K hK => ?_) AllReadyH.nil)
        go_simp
        refine (S11.out _).mono ?_
        rintro e v38 ⟨rfl, hb⟩
        have hS38 := keepZ hb hS37
        clear hS37 hb
        try dsimp only
        refine hK.out _ _ hS38 (fun _ => ?_)
        clear hK K
        try simp only [Act.put, List.getElem_toArray, List.getElem_cons_zero, List.getElem_cons_succ, List.setIfInBounds_toArray, List.set_cons_zero, List.set_cons_succ]
        refine wpAnyH_take (i := 25) (v := (.bool true)) rfl (by kernel_rfl) (by kernel_rfl) (by kernel_rfl) (fun _ _ _ h => h) (Or.inl ⟨by rfl, ?_⟩) hS38 ?_
        · intro w hSw
          try dsimp only at hSw
          go_simp
        try simp only [Act.put, List.getElem_toArray, List.getElem_cons_zero, List.getElem_cons_succ, List.setIfInBounds_toArray, List.set_cons_zero, List.set_cons_succ]
        refine wpAnyH_take (i := 26) (v := (.bool true)) rfl (by kernel_rfl) (by kernel_rfl) (by kernel_rfl) (fun _ _ _ h => h) (Or.inl ⟨by rfl, ?_⟩) hS38 ?_
        · intro w hSw
          try dsimp only at hSw
          go_simp
        try simp only [Act.put, List.getElem_toArray, List.getElem_cons_zero, List.getElem_cons_succ, List.setIfInBounds_toArray, List.set_cons_zero, List.set_cons_succ]
        refine wpAnyH_ready (rs := [27]) (by kernel_rfl) (by simp) (AllReadyH.cons (o := _) rfl (fun K hK => ?_) AllReadyH.nil)
        go_simp
        refine (K1.out _).mono ?_
        rintro e v39 ⟨rfl, hb⟩
        have hS39 := keepZ hb hS38
        clear hS38 hb
        try dsimp only
        refine hK.out _ _ hS39 (fun _ => ?_)
        clear hK K
        try simp only [Act.put, List.getElem_toArray, List.getElem_cons_zero, List.getElem_cons_succ, List.setIfInBounds_toArray, List.set_cons_zero, List.set_cons_succ]
        refine wpAnyH_ready (rs := [28]) (by kernel_rfl) (by simp) (AllReadyH.cons (o := _) rfl (fun K hK => ?_) AllReadyH.nil)
        go_simp
        refine (K2.out _).mono ?_
        rintro e v40 ⟨rfl, hb⟩
        have hS40 := keepZ hb hS39
        clear hS39 hb
        try dsimp only
        refine hK.out _ _ hS40 (fun _ => ?_)
        clear hK K
        try simp only [Act.put, List.getElem_toArray, List.getElem_cons_zero, List.getElem_cons_succ, List.setIfInBounds_toArray, List.set_cons_zero, List.set_cons_succ]
        refine wpAnyH_ready (rs := [29]) (by kernel_rfl) (by simp) (AllReadyH.cons (o := _) rfl (fun K hK => ?_) AllReadyH.nil)
        go_simp
        refine (S12.out _).mono ?_
        rintro e v41 ⟨rfl, hb⟩
        have hS41 := keepZ hb hS40
        clear hS40 hb
        try dsimp only
        refine hK.out _ _ hS41 (fun _ => ?_)
        clear hK K
        try simp only [Act.put, List.getElem_toArray, List.getElem_cons_zero, List.getElem_cons_succ, List.setIfInBounds_toArray, List.set_cons_zero, List.set_cons_succ]
        refine wpAnyH_take (i := 30) (v := (.bool true)) rfl (by kernel_rfl) (by kernel_rfl) (by kernel_rfl) (fun _ _ _ h => h) (Or.inl ⟨by rfl, ?_⟩) hS41 ?_
        · intro w hSw
          try dsimp only at hSw
          go_simp
        try simp only [Act.put, List.getElem_toArray, List.getElem_cons_zero, List.getElem_cons_succ, List.setIfInBounds_toArray, List.set_cons_zero, List.set_cons_succ]
        refine wpAnyH_take (i := 31) (v := (.bool true)) rfl (by kernel_rfl) (by kernel_rfl) (by kernel_rfl) (fun _ _ _ h => h) (Or.inl ⟨by rfl, ?_⟩) hS41 ?_
        · intro w hSw
          try dsimp only at hSw
          go_simp
        try simp only [Act.put, List.getElem_toArray, List.getElem_cons_zero, List.getElem_cons_succ, List.setIfInBounds_toArray, List.set_cons_zero, List.set_cons_succ]
        refine wpAnyH_take (i := 32) (v := (.bool true)) rfl (by kernel_rfl) (by kernel_rfl) (by kernel_rfl) (fun _ _ _ h => h) (Or.inl ⟨by rfl, ?_⟩) hS41 ?_
        · intro w hSw
          try dsimp only at hSw
          go_simp
        try simp only [Act.put, List.getElem_toArray, List.getElem_cons_zero, List.getElem_cons_succ, List.setIfInBounds_toArray, List.set_cons_zero, List.set_cons_succ]
        refine wpAnyH_done (by kernel_rfl) ?_ _
        have hBel := hS41.1.2.2.1
        clear hS41
        go_wp2
        go_ret
        exact ⟨rfl, hBel⟩
      exact AllReadyH.nil
    exact AllReadyH.nil
  exact AllReadyH.nil
end Go.Proofs.YtbmfmamhidccbaaDoor
