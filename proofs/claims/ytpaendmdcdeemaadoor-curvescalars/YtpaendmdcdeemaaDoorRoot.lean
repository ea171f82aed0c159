/-
  Inv and Root.
-/
import Derived.Test.YtpaendmdcdeemaaDoorPow2
import Derived.Test.YtpaendmdcdeemaaDoorSub
namespace Go.Proofs.YtpaendmdcdeemaaDoor
open Go.RowKit Num
set_option linter.unusedSimpArgs false

set_option maxHeartbeats 2000000 in
theorem Inv_any (a : Nat) (ha : a < P) (w : World) (V : Vars w) :
    Calls Tryd.prog 81 #[arr a] w fun e w' => e = .returned (arr (invE a)) ∧ Below w.heap.size w w' := by
  have hV := V.big
  have h3 : 1 < w.heap.size := by omega
  have h0 : 0 < w.heap.size := by omega
  have hz : ¬ (w.heap.size = 0) := by omega
  have hz1 : ¬ (0 = w.heap.size) := by omega
  have hz2 : ¬ (1 = w.heap.size) := by omega
  have C1 := fun w V => power_any a (P - 2) ha (by decide) w V
  obtain ⟨a0, a1, a2, a3, ea, ea'⟩ := arr_open a
  obtain ⟨x0, x1, x2, x3, ex, ex'⟩ := arr_open (P - 2)
  obtain ⟨r0, r1, r2, r3, er, er'⟩ := arr_open (a ^ (P - 2) % P)
  obtain ⟨g0, g1, g2, g3⟩ := V.i.four ex
  rw [ea', ex', er'] at C1
  rw [ea']
  have ER : Hid (arr (invE a) = _) := er'
  have C1' := hide C1
  have VV := hide V
  clear C1 ea ea' er er' ex ex' V
  go_enter Tryd.func81, Tryd.ntmps81
  go_wp2_with fail
  refine (C1'.out _ (VV.out.below (show Below w.heap.size w _ by repeat (first | exact Below.refl _ _ | refine new_below ?_ (Nat.le_refl _))) hV)).mono ?_
  rintro e w1 ⟨rfl, hb1⟩
  have q1 : Row w1 (w.heap.size + 1) 25 .u64 [0, 0, 0, 0] := Row.below (by repeat (first | (refine Row.mk ?_ rfl; simp; done) | refine Row.alloc ?_ _)) hb1 (by simp)
  have hB1 : Below w.heap.size w w1 := (show Below w.heap.size w _ by repeat (first | exact Below.refl _ _ | refine new_below ?_ (Nat.le_refl _))).trans (hb1.mono (by simp; omega))
  obtain ⟨z0, z1, z2, z3⟩ := q1.four
  have f := fun i => q1.free i
  clear hb1 C1' q1 g0 g1 g2 g3
  go_wp2
  refine bodyPost_ret (v := .agg #[.int .u64 r0, .int .u64 r1, .int .u64 r2, .int .u64 r3]) (by simp [results, Tryd.results81, go_sem, z0, z1, z2, z3]) rfl ⟨by rw [ER.out], ?_⟩
  repeat (first | refine put_below ?_ (by omega) | refine new_below ?_ (Nat.le_refl _) | exact hB1)

/-- a root, and whether there is one -/
def two (o : Option Nat) : Value := match o with
  | some r => .tuple #[arr r, .bool true]
  | none => .tuple #[arr 0, .bool false]

/-- what is held within Root -/
def RS (w : World) (q : Nat) (b a : List Nat) (w' : World) : Prop := Row w' q 25 .u64 b ∧ Row w' w.heap.size 25 .u64 a ∧ Row w' (w.heap.size + 1) 25 .u64 [0, 0, 0, 0] ∧ Below w.heap.size w w'
theorem RS.step {w w1 w2 : World} {q : Nat} {b a : List Nat} (h : RS w q b a w1) (hb : Below w1.heap.size w1 w2) : RS w q b a w2 :=
  ⟨h.1.below hb h.1.lt, h.2.1.below hb h.2.1.lt, h.2.2.1.below hb h.2.2.1.lt, h.2.2.2.trans (hb.mono h.2.2.2.size)⟩
theorem RS.drew {w w1 : World} {q : Nat} {b a : List Nat} (h : RS w q b a w1) : RS w q b a w1.drew := ⟨h.1, h.2.1, h.2.2.1, h.2.2.2.drew⟩
theorem RS.cells {w w' : World} {q b0 b1 b2 b3 a0 a1 a2 a3 : Nat} (h : RS w q [b0, b1, b2, b3] [a0, a1, a2, a3] w') :
    (w'.cell? ⟨q, 0, none⟩ = some (.int .u64 b0) ∧ w'.cell? ⟨q, 1, none⟩ = some (.int .u64 b1) ∧ w'.cell? ⟨q, 2, none⟩ = some (.int .u64 b2) ∧ w'.cell? ⟨q, 3, none⟩ = some (.int .u64 b3)) ∧
    (w'.cell? ⟨w.heap.size, 0, none⟩ = some (.int .u64 a0) ∧ w'.cell? ⟨w.heap.size, 1, none⟩ = some (.int .u64 a1) ∧ w'.cell? ⟨w.heap.size, 2, none⟩ = some (.int .u64 a2) ∧ w'.cell? ⟨w.heap.size, 3, none⟩ = some (.int .u64 a3)) ∧ RS w q [b0, b1, b2, b3] [a0, a1, a2, a3] w' :=
  ⟨h.1.four, h.2.1.four, h⟩
theorem RS.keep {w w1 w2 : World} {q b0 b1 b2 b3 a0 a1 a2 a3 : Nat} (hb : Below w1.heap.size w1 w2)
    (h : (w1.cell? ⟨q, 0, none⟩ = some (.int .u64 b0) ∧ w1.cell? ⟨q, 1, none⟩ = some (.int .u64 b1) ∧ w1.cell? ⟨q, 2, none⟩ = some (.int .u64 b2) ∧ w1.cell? ⟨q, 3, none⟩ = some (.int .u64 b3)) ∧
    (w1.cell? ⟨w.heap.size, 0, none⟩ = some (.int .u64 a0) ∧ w1.cell? ⟨w.heap.size, 1, none⟩ = some (.int .u64 a1) ∧ w1.cell? ⟨w.heap.size, 2, none⟩ = some (.int .u64 a2) ∧ w1.cell? ⟨w.heap.size, 3, none⟩ = some (.int .u64 a3)) ∧ RS w q [b0, b1, b2, b3] [a0, a1, a2, a3] w1) :
    (w2.cell? ⟨q, 0, none⟩ = some (.int .u64 b0) ∧ w2.cell? ⟨q, 1, none⟩ = some (.int .u64 b1) ∧ w2.cell? ⟨q, 2, none⟩ = some (.int .u64 b2) ∧ w2.cell? ⟨q, 3, none⟩ = some (.int .u64 b3)) ∧
    (w2.cell? ⟨w.heap.size, 0, none⟩ = some (.int .u64 a0) ∧ w2.cell? ⟨w.heap.size, 1, none⟩ = some (.int .u64 a1) ∧ w2.cell? ⟨w.heap.size, 2, none⟩ = some (.int .u64 a2) ∧ w2.cell? ⟨w.heap.size, 3, none⟩ = some (.int .u64 a3)) ∧ RS w q [b0, b1, b2, b3] [a0, a1, a2, a3] w2 := (h.2.2.step hb).cells
theorem RS.keepD {w w1 : World} {q b0 b1 b2 b3 a0 a1 a2 a3 : Nat}
    (h : (w1.cell? ⟨q, 0, none⟩ = some (.int .u64 b0) ∧ w1.cell? ⟨q, 1, none⟩ = some (.int .u64 b1) ∧ w1.cell? ⟨q, 2, none⟩ = some (.int .u64 b2) ∧ w1.cell? ⟨q, 3, none⟩ = some (.int .u64 b3)) ∧
    (w1.cell? ⟨w.heap.size, 0, none⟩ = some (.int .u64 a0) ∧ w1.cell? ⟨w.heap.size, 1, none⟩ = some (.int .u64 a1) ∧ w1.cell? ⟨w.heap.size, 2, none⟩ = some (.int .u64 a2) ∧ w1.cell? ⟨w.heap.size, 3, none⟩ = some (.int .u64 a3)) ∧ RS w q [b0, b1, b2, b3] [a0, a1, a2, a3] w1) :
    (w1.drew.cell? ⟨q, 0, none⟩ = some (.int .u64 b0) ∧ w1.drew.cell? ⟨q, 1, none⟩ = some (.int .u64 b1) ∧ w1.drew.cell? ⟨q, 2, none⟩ = some (.int .u64 b2) ∧ w1.drew.cell? ⟨q, 3, none⟩ = some (.int .u64 b3)) ∧
    (w1.drew.cell? ⟨w.heap.size, 0, none⟩ = some (.int .u64 a0) ∧ w1.drew.cell? ⟨w.heap.size, 1, none⟩ = some (.int .u64 a1) ∧ w1.drew.cell? ⟨w.heap.size, 2, none⟩ = some (.int .u64 a2) ∧ w1.drew.cell? ⟨w.heap.size, 3, none⟩ = some (.int .u64 a3)) ∧ RS w q [b0, b1, b2, b3] [a0, a1, a2, a3] w1.drew := h.2.2.drew.cells
theorem RS.vars {w w1 : World} {q : Nat} {b a : List Nat} {p r : Prop} (h : p ∧ r ∧ RS w q b a w1) (V : Vars w) : Vars w1 := V.below h.2.2.2.2.2 V.big

set_option maxHeartbeats 4000000 in
theorem Root_any (a : Nat) (ha : a < P) (w : World) (V : Vars w) :
    Calls Tryd.prog 82 #[arr a] w fun e w' => e = .returned (two (rootP a)) ∧ Below w.heap.size w w' := by
  have hV := V.big
  have h0 : 0 < w.heap.size := by omega
  have h1 : 2 < w.heap.size := by omega
  have h2 : 3 < w.heap.size := by omega
  have C1 := fun w V => power_any a eighth ha (by decide) w V
  have hb0P := try0_lt a
  obtain ⟨b, hbe⟩ : ∃ b, b = try0 a := ⟨_, rfl⟩
  have C1e : a ^ eighth % P = b := hbe.symm
  rw [C1e] at C1
  rw [← hbe] at hb0P
  have CM := fun w V => Mul_any b b hb0P hb0P w V
  have CS := fun w => Same_any (mulP b b) a (Nat.lt_trans (mulP_lt b b) P_lt) (Nat.lt_trans ha P_lt) w
  obtain ⟨a0, a1, a2, a3, ea, ea'⟩ := arr_open a
  obtain ⟨b0, b1, b2, b3, eb, eb'⟩ := arr_open b
  obtain ⟨m0, m1, m2, m3, em, em'⟩ := arr_open (mulP b b)
  obtain ⟨x0, x1, x2, x3, ex, ex'⟩ := arr_open eighth
  obtain ⟨i0, i1, i2, i3, ei, ei'⟩ := arr_open rootI
  obtain ⟨g0, g1, g2, g3⟩ := V.r.four ex
  obtain ⟨k0, k1, k2, k3⟩ := V.m.four ei
  rw [ea', ex', eb'] at C1
  rw [eb', em'] at CM
  rw [em', ea'] at CS
  rw [ea']
  have C1' := hide C1
  have CM' := hide CM
  have CS' := hide CS
  have VV := hide V
  have HBE := hide hbe
  clear C1 CM CS V C1e em em' ex ex' hbe
  go_enter Tryd.func82, Tryd.ntmps82
  go_wp2_with fail
  refine (C1'.out _ (VV.out.below (show Below w.heap.size w _ by repeat (first | exact Below.refl _ _ | refine new_below ?_ (Nat.le_refl _))) hV)).mono ?_
  rintro e w1 ⟨rfl, hb1⟩
  have qa : Row w1 w.heap.size 25 .u64 [a0, a1, a2, a3] := Row.below (by repeat (first | (refine Row.mk ?_ rfl; simp; done) | refine Row.alloc ?_ _)) hb1 (by simp <;> omega)
  have qz : Row w1 (w.heap.size + 1) 25 .u64 [0, 0, 0, 0] := Row.below (by repeat (first | (refine Row.mk ?_ rfl; simp; done) | refine Row.alloc ?_ _)) hb1 (by simp <;> omega)
  have hB1 : Below w.heap.size w w1 := (show Below w.heap.size w _ by repeat (first | exact Below.refl _ _ | refine new_below ?_ (Nat.le_refl _))).trans (hb1.mono (by simp; omega))
  have hs1 : w.heap.size + 1 < w1.heap.size := qz.lt
  have R1 : RS w w1.heap.size [b0, b1, b2, b3] [a0, a1, a2, a3] (w1.alloc (.cells #[.int .u64 b0, .int .u64 b1, .int .u64 b2, .int .u64 b3] 25)) := ⟨Row.mk rfl rfl, qa.alloc _, qz.alloc _, new_below hB1 (Nat.le_refl _)⟩
  have R1' := hide R1
  clear hb1 C1' qa qz g0 g1 g2 g3 hB1 R1
  generalize hq : w1.heap.size = q at *
  go_wp2_with fail
  generalize w1.alloc (.cells #[.int .u64 b0, .int .u64 b1, .int .u64 b2, .int .u64 b3] 25) = wx at *
  go_region_held3 (fun w' => (w'.cell? ⟨q, 0, none⟩ = some (.int .u64 b0) ∧ w'.cell? ⟨q, 1, none⟩ = some (.int .u64 b1) ∧ w'.cell? ⟨q, 2, none⟩ = some (.int .u64 b2) ∧ w'.cell? ⟨q, 3, none⟩ = some (.int .u64 b3)) ∧
    (w'.cell? ⟨w.heap.size, 0, none⟩ = some (.int .u64 a0) ∧ w'.cell? ⟨w.heap.size, 1, none⟩ = some (.int .u64 a1) ∧ w'.cell? ⟨w.heap.size, 2, none⟩ = some (.int .u64 a2) ∧ w'.cell? ⟨w.heap.size, 3, none⟩ = some (.int .u64 a3)) ∧ RS w q [b0, b1, b2, b3] [a0, a1, a2, a3] w')
    (first | exact RS.keep hb (by assumption) | exact RS.keepD (by assumption) | exact R1'.out.cells | exact R1'.out.drew.cells)
    (first
      | (go_at_call 80; refine (CM'.out _ (RS.vars (by assumption) VV.out)).mono ?_; rintro e w3 ⟨rfl, hb⟩)
      | (go_at_call 40; refine (CS'.out _).mono ?_; rintro e w3 ⟨rfl, hb⟩))
  have R3 : RS w q [b0, b1, b2, b3] [a0, a1, a2, a3] w3 := RS.step (RS.step R1'.out.drew (by assumption)) (by assumption)
  have hqw : w.heap.size + 1 < q := by omega
  have hnq : ¬ (w.heap.size + 1 = q) := by omega
  have hnq2 : ¬ (q = w.heap.size + 1) := by omega
  have R3' := hide R3
  clear R3
  by_cases hs : mulP b b = a
  · have hs1 : decide (mulP b b = a) = true := decide_eq_true hs
    have HR : Hid (rootP a = some (if b % 2 = 1 then negP b else b)) := by
      show _ = _
      have hB : rootB a = b := by unfold rootB; rw [← HBE.out]; exact if_pos hs
      unfold rootP
      rw [hB]
      exact if_pos hs
    rw [hs1]
    go_wp2_with fail
    go_region_held3 (fun w' => (w'.cell? ⟨q, 0, none⟩ = some (.int .u64 b0) ∧ w'.cell? ⟨q, 1, none⟩ = some (.int .u64 b1) ∧ w'.cell? ⟨q, 2, none⟩ = some (.int .u64 b2) ∧ w'.cell? ⟨q, 3, none⟩ = some (.int .u64 b3)) ∧
      (w'.cell? ⟨w.heap.size, 0, none⟩ = some (.int .u64 a0) ∧ w'.cell? ⟨w.heap.size, 1, none⟩ = some (.int .u64 a1) ∧ w'.cell? ⟨w.heap.size, 2, none⟩ = some (.int .u64 a2) ∧ w'.cell? ⟨w.heap.size, 3, none⟩ = some (.int .u64 a3)) ∧ RS w q [b0, b1, b2, b3] [a0, a1, a2, a3] w')
      (first | exact RS.keep hb (by assumption) | exact RS.keepD (by assumption) | exact R3'.out.cells | exact R3'.out.drew.cells)
      (first
        | (go_at_call 80; refine (CM'.out _ (RS.vars (by assumption) VV.out)).mono ?_; rintro e w3 ⟨rfl, hb⟩)
        | (go_at_call 40; refine (CS'.out _).mono ?_; rintro e w3 ⟨rfl, hb⟩))
    obtain ⟨w5, hw5⟩ : ∃ w5, w5 = w3 := ⟨_, rfl⟩
    have R5 : Hid (RS w q [b0, b1, b2, b3] [a0, a1, a2, a3] w5) := by rw [hw5]; exact RS.step (RS.step R3'.out.drew (by assumption)) (by assumption)
    rw [← hw5]
    clear hw5 CM' CS' R3' R1' k0 k1 k2 k3
    have CO := hide (Odd_any b w5)
    rw [eb'] at CO
    have CN := fun w V => Neg_any b hb0P w V
    obtain ⟨n0, n1, n2, n3, en, en'⟩ := arr_open (negP b)
    rw [eb', en'] at CN
    have CN' := hide CN
    have EN := hide en'
    have EX := hide eb'
    obtain ⟨⟨c0, c1, c2, c3⟩, -, -⟩ := R5.out.cells
    clear CN en en'
    go_wp2_with fail
    refine CO.out.mono ?_
    rintro e w6 ⟨rfl, hb6⟩
    have R6 := hide (R5.out.step hb6)
    have hs6 : q < w6.heap.size := R6.out.1.lt
    obtain ⟨⟨d0, d1, d2, d3⟩, -, -⟩ := R6.out.cells
    obtain ⟨z0, z1, z2, z3⟩ := R6.out.2.2.1.four
    have fz := fun i => R6.out.2.2.1.free i
    have fq := fun i => R6.out.1.free i
    have hB6 := R6.out.2.2.2
    clear c0 c1 c2 c3 CO hb6 R5
    by_cases ho : b % 2 = 1
    · have ho1 : decide (b % 2 = 1) = true := decide_eq_true ho
      rw [ho1]
      go_wp2_with fail
      refine (CN'.out _ (VV.out.below hB6 hV)).mono ?_
      rintro e w7 ⟨rfl, hb7⟩
      have R7 := hide (R6.out.step hb7)
      obtain ⟨⟨p0, p1, p2, p3⟩, -, -⟩ := R7.out.cells
      obtain ⟨y0, y1, y2, y3⟩ := R7.out.2.2.1.four
      have gz := fun i => R7.out.2.2.1.free i
      have gq := fun i => R7.out.1.free i
      have hB7 := R7.out.2.2.2
      clear d0 d1 d2 d3 z0 z1 z2 z3 fz fq hB6 hb7 CN' R6
      go_wp2
      refine bodyPost_ret (v := .tuple #[.agg #[.int .u64 n0, .int .u64 n1, .int .u64 n2, .int .u64 n3], .bool true]) (by simp [results, Tryd.results82, go_sem, y0, y1, y2, y3, hnq, hnq2]) rfl ⟨by rw [HR.out, if_pos ho]; show _ = Ending.returned (.tuple #[arr (negP b), .bool true]); rw [EN.out], ?_⟩
      repeat (first | refine put_below ?_ (by omega) | refine new_below ?_ (Nat.le_refl _) | exact hB7)
    · have ho1 : decide (b % 2 = 1) = false := decide_eq_false ho
      rw [ho1]
      clear CN'
      go_wp2
      refine bodyPost_ret (v := .tuple #[.agg #[.int .u64 b0, .int .u64 b1, .int .u64 b2, .int .u64 b3], .bool true]) (by simp [results, Tryd.results82, go_sem, z0, z1, z2, z3, hnq, hnq2]) rfl ⟨by rw [HR.out, if_neg ho]; show _ = Ending.returned (.tuple #[arr b, .bool true]); rw [EX.out], ?_⟩
      repeat (first | refine put_below ?_ (by omega) | refine new_below ?_ (Nat.le_refl _) | exact hB6)
  · have hs1 : decide (mulP b b = a) = false := decide_eq_false hs
    have C3 := fun w V => Mul_any b rootI hb0P (by decide) w V
    obtain ⟨c, hce⟩ : ∃ c, c = try1 a := ⟨_, rfl⟩
    have e3 : mulP b rootI = c := by rw [hce, HBE.out]; rfl
    have hcP : c < P := by rw [hce]; exact try1_lt a
    obtain ⟨c0, c1, c2, c3, ec, ec'⟩ := arr_open c
    rw [e3, eb', ei', ec'] at C3
    have C3' := hide C3
    have CM2 := fun w V => Mul_any c c hcP hcP w V
    have CS2 := fun w => Same_any (mulP c c) a (Nat.lt_trans (mulP_lt c c) P_lt) (Nat.lt_trans ha P_lt) w
    obtain ⟨j0, j1, j2, j3, ej, ej'⟩ := arr_open (mulP c c)
    rw [ec', ej'] at CM2
    rw [ej', ea'] at CS2
    have CM2' := hide CM2
    have CS2' := hide CS2
    have hB : Hid (rootB a = c) := by
      show _ = _
      unfold rootB
      rw [← HBE.out, hce]
      exact if_neg hs
    obtain ⟨⟨l0, l1, l2, l3⟩, -, -⟩ := R3'.out.cells
    have k0' := (R3'.out.2.2.2.cell (p := ⟨3, 0, none⟩) h2).trans k0
    have k1' := (R3'.out.2.2.2.cell (p := ⟨3, 1, none⟩) h2).trans k1
    have k2' := (R3'.out.2.2.2.cell (p := ⟨3, 2, none⟩) h2).trans k2
    have k3' := (R3'.out.2.2.2.cell (p := ⟨3, 3, none⟩) h2).trans k3
    rw [hs1]
    clear CM2 CS2 C3 k0 k1 k2 k3 CM' CS' ej ej' e3 hce R1' HBE
    go_wp2_with fail
    refine (C3'.out _ (VV.out.below R3'.out.2.2.2 hV)).mono ?_
    rintro e w4 ⟨rfl, hb4⟩
    have R4 := R3'.out.step hb4
    obtain ⟨⟨o0, o1, o2, o3⟩, -, -⟩ := R4.cells
    have fq4 := fun i => R4.1.free i
    have R4' : Hid (RS w q [c0, c1, c2, c3] [a0, a1, a2, a3] ((((w4.setCell ⟨q, 0, none⟩ (.int .u64 c0)).setCell ⟨q, 1, none⟩ (.int .u64 c1)).setCell ⟨q, 2, none⟩ (.int .u64 c2)).setCell ⟨q, 3, none⟩ (.int .u64 c3))) :=
      ⟨(((R4.1.set 0 c0).set 1 c1).set 2 c2).set 3 c3, (((R4.2.1.off (by omega)).off (by omega)).off (by omega)).off (by omega), (((R4.2.2.1.off (by omega)).off (by omega)).off (by omega)).off (by omega), put_below (put_below (put_below (put_below R4.2.2.2 (by omega)) (by omega)) (by omega)) (by omega)⟩
    clear C3' k0' k1' k2' k3' l0 l1 l2 l3 R3' hb4 R4
    go_wp2_with fail
    clear o0 o1 o2 o3 fq4
    generalize (((w4.setCell ⟨q, 0, none⟩ (.int .u64 c0)).setCell ⟨q, 1, none⟩ (.int .u64 c1)).setCell ⟨q, 2, none⟩ (.int .u64 c2)).setCell ⟨q, 3, none⟩ (.int .u64 c3) = wy at *
    go_region_held3 (fun w' => (w'.cell? ⟨q, 0, none⟩ = some (.int .u64 c0) ∧ w'.cell? ⟨q, 1, none⟩ = some (.int .u64 c1) ∧ w'.cell? ⟨q, 2, none⟩ = some (.int .u64 c2) ∧ w'.cell? ⟨q, 3, none⟩ = some (.int .u64 c3)) ∧
      (w'.cell? ⟨w.heap.size, 0, none⟩ = some (.int .u64 a0) ∧ w'.cell? ⟨w.heap.size, 1, none⟩ = some (.int .u64 a1) ∧ w'.cell? ⟨w.heap.size, 2, none⟩ = some (.int .u64 a2) ∧ w'.cell? ⟨w.heap.size, 3, none⟩ = some (.int .u64 a3)) ∧ RS w q [c0, c1, c2, c3] [a0, a1, a2, a3] w')
      (first | exact RS.keep hb (by assumption) | exact RS.keepD (by assumption) | exact R4'.out.cells | exact R4'.out.drew.cells)
      (first
        | (go_at_call 80; refine (CM2'.out _ (RS.vars (by assumption) VV.out)).mono ?_; rintro e w3 ⟨rfl, hb⟩)
        | (go_at_call 40; refine (CS2'.out _).mono ?_; rintro e w3 ⟨rfl, hb⟩))
    obtain ⟨w5, hw5⟩ : ∃ w5, w5 = w3 := ⟨_, rfl⟩
    have R5 : Hid (RS w q [c0, c1, c2, c3] [a0, a1, a2, a3] w5) := by rw [hw5]; exact RS.step (RS.step R4'.out.drew (by assumption)) (by assumption)
    rw [← hw5]
    clear hw5 CM2' CS2' R4'
    by_cases hs2 : mulP c c = a
    · have hs3 : decide (mulP c c = a) = true := decide_eq_true hs2
      have HR : Hid (rootP a = some (if c % 2 = 1 then negP c else c)) := by
        show _ = _
        unfold rootP
        rw [hB.out]
        exact if_pos hs2
      rw [hs3]
      have CO := hide (Odd_any c w5)
      rw [ec'] at CO
      have CN := fun w V => Neg_any c hcP w V
      obtain ⟨n0, n1, n2, n3, en, en'⟩ := arr_open (negP c)
      rw [ec', en'] at CN
      have CN' := hide CN
      have EN := hide en'
      have EX := hide ec'
      obtain ⟨⟨l0, l1, l2, l3⟩, -, -⟩ := R5.out.cells
      clear CN en en'
      go_wp2_with fail
      refine CO.out.mono ?_
      rintro e w6 ⟨rfl, hb6⟩
      have R6 := hide (R5.out.step hb6)
      have hs6 : q < w6.heap.size := R6.out.1.lt
      obtain ⟨⟨d0, d1, d2, d3⟩, -, -⟩ := R6.out.cells
      obtain ⟨z0, z1, z2, z3⟩ := R6.out.2.2.1.four
      have fz := fun i => R6.out.2.2.1.free i
      have fq := fun i => R6.out.1.free i
      have hB6 := R6.out.2.2.2
      clear l0 l1 l2 l3 CO hb6 R5
      by_cases ho : c % 2 = 1
      · have ho1 : decide (c % 2 = 1) = true := decide_eq_true ho
        rw [ho1]
        go_wp2_with fail
        refine (CN'.out _ (VV.out.below hB6 hV)).mono ?_
        rintro e w7 ⟨rfl, hb7⟩
        have R7 := hide (R6.out.step hb7)
        obtain ⟨⟨p0, p1, p2, p3⟩, -, -⟩ := R7.out.cells
        obtain ⟨y0, y1, y2, y3⟩ := R7.out.2.2.1.four
        have gz := fun i => R7.out.2.2.1.free i
        have gq := fun i => R7.out.1.free i
        have hB7 := R7.out.2.2.2
        clear d0 d1 d2 d3 z0 z1 z2 z3 fz fq hB6 hb7 CN' R6
        go_wp2
        refine bodyPost_ret (v := .tuple #[.agg #[.int .u64 n0, .int .u64 n1, .int .u64 n2, .int .u64 n3], .bool true]) (by simp [results, Tryd.results82, go_sem, y0, y1, y2, y3, hnq, hnq2]) rfl ⟨by rw [HR.out, if_pos ho]; show _ = Ending.returned (.tuple #[arr (negP c), .bool true]); rw [EN.out], ?_⟩
        repeat (first | refine put_below ?_ (by omega) | refine new_below ?_ (Nat.le_refl _) | exact hB7)
      · have ho1 : decide (c % 2 = 1) = false := decide_eq_false ho
        rw [ho1]
        clear CN'
        go_wp2
        refine bodyPost_ret (v := .tuple #[.agg #[.int .u64 c0, .int .u64 c1, .int .u64 c2, .int .u64 c3], .bool true]) (by simp [results, Tryd.results82, go_sem, z0, z1, z2, z3, hnq, hnq2]) rfl ⟨by rw [HR.out, if_neg ho]; show _ = Ending.returned (.tuple #[arr c, .bool true]); rw [EX.out], ?_⟩
        repeat (first | refine put_below ?_ (by omega) | refine new_below ?_ (Nat.le_refl _) | exact hB6)
    · have hs3 : decide (mulP c c = a) = false := decide_eq_false hs2
      have HR : Hid (rootP a = none) := by
        show _ = _
        unfold rootP
        rw [hB.out]
        exact if_neg hs2
      rw [hs3]
      obtain ⟨z0, z1, z2, z3⟩ := R5.out.2.2.1.four
      have fz := fun i => R5.out.2.2.1.free i
      have hB5 := R5.out.2.2.2
      clear R5
      go_wp2
      refine bodyPost_ret (v := .tuple #[.agg #[.int .u64 0, .int .u64 0, .int .u64 0, .int .u64 0], .bool false]) (by simp [results, Tryd.results82, go_sem, z0, z1, z2, z3]) rfl ⟨by rw [HR.out]; rfl, ?_⟩
      repeat (first | refine put_below ?_ (by omega) | refine new_below ?_ (Nat.le_refl _) | exact hB5)
end Go.Proofs.YtpaendmdcdeemaaDoor
