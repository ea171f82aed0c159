/-
  power, the loops.
-/
import Derived.Test.YtpaendmdcdeemaaDoorPow
namespace Go.Proofs.YtpaendmdcdeemaaDoor
open Go.RowKit Num

/-- a bit of a word -/
theorem word_bit (e k m : Nat) (hm : m < 64) : e / K ^ k % K / 2 ^ m % 2 = e / 2 ^ (64 * k + m) % 2 := by
  have e2 : K = 2 ^ 64 := by decide
  have h1 : e / 2 ^ (64 * k + m) = e / K ^ k / 2 ^ m := by
    rw [Nat.div_div_eq_div_mul, e2, ← Nat.pow_mul, ← Nat.pow_add]
  rw [h1]
  generalize e / K ^ k = y
  have h3 : K = 2 ^ m * 2 ^ (64 - m) := by rw [e2, ← Nat.pow_add]; congr 1; omega
  rw [h3, Nat.mod_mul_right_div_self]
  have : (2 : Nat) ∣ 2 ^ (64 - m) := by
    obtain ⟨j, hj⟩ : ∃ j, 64 - m = j + 1 := ⟨63 - m, by omega⟩
    rw [hj, Nat.pow_succ]
    exact Nat.dvd_mul_left ..
  rw [Nat.mod_mod_of_dvd _ this]

theorem and_bit (x m : Nat) (hx : x < 18446744073709551616) : bits .and .u64 ((x : Int) / 2 ^ m) 1 = ((x / 2 ^ m % 2 : Nat) : Int) := by
  have e : ((x : Int) / 2 ^ m) = ((x / 2 ^ m : Nat) : Int) := by push_cast; rfl
  have h1 := bits_and_u64_nat (x / 2 ^ m) 1 (Nat.lt_of_le_of_lt (Nat.div_le_self _ _) hx) (by omega)
  rw [Nat.and_one_is_mod] at h1
  rw [e]
  exact h1

theorem index24 (c : Array Value) (k : Nat) (v : Value) (hk : k < 4) (h : c[k]? = some v) (w : World) : (Instr.index 23 (.agg c) (.int .i64 k)).run Tryd.prog w = .ok v w := by
  simp [Instr.index, go_sem, part, h]
  intro h4
  omega

set_option maxHeartbeats 4000000 in
theorem power_any (a e : Nat) (ha : a < P) (he : e < K ^ 4) (w : World) (V : Vars w) :
    Calls Tryd.prog 110 #[arr a, arr e] w fun r w' => r = .returned (arr (a ^ e % P)) ∧ Below w.heap.size w w' := by
  have hV := V.big
  have VV := hide V
  have C1 := fun w => Small_any 1 (by omega) w
  have e1 : arr 1 = .agg #[.int .u64 1, .int .u64 0, .int .u64 0, .int .u64 0] := rfl
  rw [e1] at C1
  obtain ⟨a0, a1, a2, a3, ea, ea'⟩ := arr_open a
  obtain ⟨x0, x1, x2, x3, ex, ex'⟩ := arr_open e
  have EA := hide ea
  have EX := hide ex
  have HA := hide ha
  have HE := hide he
  rw [ea', ex']
  have C1' := hide C1
  clear C1 e1 ea ea' ex ex' ha he V
  go_enter Tryd.func110, Tryd.ntmps110
  go_wp2_with fail
  refine (C1'.out _).mono ?_
  rintro r w1 ⟨rfl, hb1⟩
  have q0 : Row w1 (w.heap.size + 1) 23 .u64 [x0, x1, x2, x3] := Row.below (by repeat (first | (refine Row.mk ?_ rfl; simp; done) | refine Row.alloc ?_ _)) hb1 (by simp <;> omega)
  have q1 : Row w1 (w.heap.size + 1 + 1) 25 .u64 (digs K 4 0) := Row.below (by repeat (first | (refine Row.mk ?_ rfl; simp; done) | refine Row.alloc ?_ _)) hb1 (by simp <;> omega)
  have q2 : Row w1 (w.heap.size + 1 + 1 + 1) 25 .u64 [a0, a1, a2, a3] := Row.below (by repeat (first | (refine Row.mk ?_ rfl; simp; done) | refine Row.alloc ?_ _)) hb1 (by simp <;> omega)
  have hB1 : Below w.heap.size w w1 := (show Below w.heap.size w _ by repeat (first | exact Below.refl _ _ | refine new_below ?_ (Nat.le_refl _))).trans (hb1.mono (by simp; omega))
  have hs1 : w.heap.size + 1 + 1 + 1 < w1.heap.size := q2.lt
  obtain ⟨y0, y1, y2, y3⟩ := q0.four
  have Q1 := hide q1
  have Q2 := hide q2
  have hl1 : w.heap.size + 1 < w1.heap.size := by omega
  clear hb1 C1' q0 q1 q2
  go_wp2
  go_loopw [16] (fun i wr => ∃ k : Nat, k ≤ 4 ∧ i = .int .i64 k ∧ w1.heap.size < wr.heap.size ∧ Row wr (w.heap.size + 1 + 1) 25 .u64 (digs K 4 0) ∧ Row wr (w.heap.size + 1 + 1 + 1) 25 .u64 (digs K 4 (a ^ 2 ^ (64 * k) % P)) ∧ Row wr w1.heap.size 25 .u64 (digs K 4 (a ^ (e % 2 ^ (64 * k)) % P)) ∧ Below w.heap.size w wr) (fun i _ => 4 - (intOf i).toNat)
  case atStart =>
    refine ⟨0, by omega, rfl, by simp, Q1.out.alloc _, ?_, ?_, new_below hB1 (Nat.le_refl _)⟩
    · have h : a ^ 2 ^ (64 * 0) % P = a := by rw [Nat.mul_zero, Nat.pow_zero, Nat.pow_one, Nat.mod_eq_of_lt HA.out]
      rw [h, EA.out]
      exact Q2.out.alloc _
    · have h : a ^ (e % 2 ^ (64 * 0)) % P = 1 := by rw [Nat.mul_zero, Nat.pow_zero, Nat.mod_one, Nat.pow_zero]; decide
      rw [h]
      exact Row.mk rfl rfl
  case round =>
    clear Q1 Q2 hB1
    obtain ⟨k, hk, rfl, hsz, rr, rs, ro, hbel⟩ := hrel
    by_cases hlt : k < 4
    · have hrr := hide rr
      have hrs := hide rs
      have hro := hide ro
      clear rr rs ro
      have hk0 : (0 : Int) ≤ (k : Int) := by omega
      have hk1 : (k : Int) < 4 := by omega
      obtain ⟨x, hx⟩ : ∃ x, x = e / K ^ k % K := ⟨_, rfl⟩
      have hi : (#[Value.int IntKind.u64 x0, Value.int IntKind.u64 x1, Value.int IntKind.u64 x2, Value.int IntKind.u64 x3] : Array Value)[k]? = some (.int .u64 x) := by
        have h := cl_get .u64 (digs K 4 e) k (by rw [digs_length]; exact hlt)
        rw [digs_get, EX.out, ← hx] at h
        exact h
      have HX := hide hx
      have hidx := fun w => index24 _ k _ hlt hi w
      have hxK : x < 18446744073709551616 := by rw [hx]; exact Nat.mod_lt _ (by decide)
      clear hx hi
      go_wp2
      go_loopw [19] (fun i wq => ∃ m : Nat, m ≤ 64 ∧ i = .int .i64 m ∧ w1.heap.size < wq.heap.size ∧ Row wq (w.heap.size + 1 + 1) 25 .u64 (digs K 4 0) ∧ Row wq (w.heap.size + 1 + 1 + 1) 25 .u64 (digs K 4 (a ^ 2 ^ (64 * k + m) % P)) ∧ Row wq w1.heap.size 25 .u64 (digs K 4 (a ^ (e % 2 ^ (64 * k + m)) % P)) ∧ Below w.heap.size w wq) (fun i _ => 64 - (intOf i).toNat)
      case atStart => exact ⟨0, by omega, rfl, hsz, hrr.out, hrs.out, hro.out, hbel⟩
      case round =>
        clear hrr hrs hro hbel hsz
        obtain ⟨m, hm, rfl, hsz, rr, rs, ro, hbel⟩ := hrel
        by_cases hlm : m < 64
        · have hbit := hide (word_bit e k m hlm)
          rw [← HX.out] at hbit
          have hP1 := hide (pow_sq a (64 * k + m))
          have hP2 := hide (pow_bit a e (64 * k + m))
          obtain ⟨n, hn⟩ : ∃ n, n = a ^ 2 ^ (64 * k + m) % P := ⟨_, rfl⟩
          obtain ⟨o, ho⟩ : ∃ o, o = a ^ (e % 2 ^ (64 * k + m)) % P := ⟨_, rfl⟩
          have hnP : n < P := by rw [hn]; exact Nat.mod_lt _ P_pos
          have hoP : o < P := by rw [ho]; exact Nat.mod_lt _ P_pos
          rw [← hn] at rs hP1 hP2
          rw [← ho] at ro hP2
          have C1 := hide (next_any (w.heap.size + 1 + 1 + 1) n hnP wr (VV.out.below hbel hV) (by omega) rs)
          have hm0 : (0 : Int) ≤ (m : Int) := by omega
          have hm1 : (m : Int) < 64 := by omega
          clear hn ho
          obtain ⟨n0, n1, n2, n3, en, en'⟩ := arr_open n
          obtain ⟨o0, o1, o2, o3, eo, eo'⟩ := arr_open o
          rw [en'] at C1
          rw [eo] at ro
          have HRR := hide rr
          have HRO := hide ro
          have hml := hide hlm
          clear rr rs ro hlm
          go_wp2_with fail
          refine C1.out.mono ?_
          rintro r w2 ⟨rfl, hO, rs2⟩
          have rr2 := hide (hO.row HRR.out (by omega))
          have ro2 := hO.row HRO.out (by omega)
          have hB2 : Below w.heap.size w w2 := hbel.trans (hO.below (by omega) hbel.size)
          have hs2 : w1.heap.size < w2.heap.size := ro2.lt
          obtain ⟨c0, c1, c2, c3⟩ := ro2.four
          have f := fun i => ro2.free i
          have RO := hide ro2
          have RS := hide rs2
          have hand := and_bit x m hxK
          clear C1 hO HRR HRO ro2 rs2
          by_cases hbb : x / 2 ^ m % 2 = 1
          · rw [hbb] at hand
            have hand1 : (bits BinOp.and IntKind.u64 ((x : Int) / 2 ^ m) 1 == 1) = true := by rw [hand]; rfl
            have hP2' := hide hP2.out
            rw [← hbit.out, if_pos hbb] at hP2'
            have C2 := fun w V => Mul_any o n hoP hnP w V
            obtain ⟨p0, p1, p2, p3, ep, ep'⟩ := arr_open (mulP o n)
            rw [eo', en', ep'] at C2
            have C2' := hide C2
            have EP := hide ep
            clear C2 hP2 hbit hbb hand ep ep' eo' en' eo en
            go_wp2_with fail
            refine (C2'.out _ (VV.out.below (new_below hB2 (Nat.le_refl _)) hV)).mono ?_
            rintro r w3 ⟨rfl, hb3⟩
            have ro3 : Row w3 w1.heap.size 25 .u64 [o0, o1, o2, o3] := Row.below (RO.out.alloc _) hb3 (by simp <;> omega)
            have rs3 := hide (Row.below (RS.out.alloc _) hb3 (by simp <;> omega))
            have rr3 := hide (Row.below (rr2.out.alloc _) hb3 (by simp <;> omega))
            have hB3 : Below w.heap.size w w3 := (new_below hB2 (Nat.le_refl _)).trans (hb3.mono (by simp <;> omega))
            obtain ⟨d0, d1, d2, d3⟩ := ro3.four
            have f3 := fun i => ro3.free i
            have RO3 := hide ro3
            clear hb3 C2' RO RS rr2 hB2 c0 c1 c2 c3 f ro3
            go_wp2
            go_roundw
            case rel =>
              have hm2 := hml.out
              have r := (((RO3.out.set 0 p0).set 1 p1).set 2 p2).set 3 p3
              refine ⟨m + 1, by omega, int_eq (by omega), by simp; exact RO3.out.lt, ?_, ?_, ?_, ?_⟩
              · repeat (first | refine Row.off ?_ (by omega) | exact rr3.out)
              · rw [← Nat.add_assoc, hP1.out]; repeat (first | refine Row.off ?_ (by omega) | exact rs3.out)
              · rw [← Nat.add_assoc, hP2'.out]; show Row _ _ _ _ (digs K 4 (mulP o n)); rw [EP.out]; exact r
              · repeat (first | refine put_below ?_ (by omega) | exact hB3)
            case measure => have := hml.out; simp [intOf]; omega
          · have hb0 : x / 2 ^ m % 2 = 0 := by omega
            rw [hb0] at hand
            have hand1 : (bits BinOp.and IntKind.u64 ((x : Int) / 2 ^ m) 1 == 1) = false := by rw [hand]; rfl
            have hP2' := hide hP2.out
            rw [← hbit.out, if_neg hbb] at hP2'
            have EO := hide eo
            clear hP2 hbit hbb hb0 hand en' eo' en eo
            go_wp2
            go_roundw
            case rel =>
              have hm2 := hml.out
              refine ⟨m + 1, by omega, int_eq (by omega), by simp; omega, rr2.out.alloc _, ?_, ?_, new_below hB2 (Nat.le_refl _)⟩
              · rw [← Nat.add_assoc, hP1.out]; exact RS.out.alloc _
              · rw [← Nat.add_assoc, hP2'.out, EO.out]; exact RO.out.alloc _
            case measure => have := hml.out; simp [intOf]; omega
        · have hm4 : m = 64 := by omega
          subst hm4
          have hrr := hide rr
          have hrs := hide rs
          have hro := hide ro
          clear rr rs ro
          go_wp2
          go_roundw
          case rel =>
            refine ⟨k + 1, by omega, int_eq (by omega), hsz, hrr.out, ?_, ?_, hbel⟩
            · rw [show 64 * (k + 1) = 64 * k + 64 by omega]; exact hrs.out
            · rw [show 64 * (k + 1) = 64 * k + 64 by omega]; exact hro.out
          case measure => simp [intOf]; omega
    · have hk4 : k = 4 := by omega
      subst hk4
      have h256 : e % 2 ^ (64 * 4) = e := Nat.mod_eq_of_lt (Nat.lt_of_lt_of_le HE.out (by decide))
      rw [h256] at ro
      obtain ⟨r0, r1, r2, r3, er, er'⟩ := arr_open (a ^ e % P)
      rw [er] at ro
      have ER := hide er'
      obtain ⟨c0, c1, c2, c3⟩ := ro.four
      obtain ⟨z0, z1, z2, z3⟩ := rr.four
      have f := fun i => rr.free i
      clear rr rs ro er er' h256
      go_wp2
      refine bodyPost_ret (v := .agg #[.int .u64 r0, .int .u64 r1, .int .u64 r2, .int .u64 r3]) (by simp [results, Tryd.results110, go_sem, z0, z1, z2, z3]) rfl ⟨by rw [ER.out], ?_⟩
      repeat (first | refine put_below ?_ (by omega) | refine new_below ?_ (Nat.le_refl _) | exact hbel)
end Go.Proofs.YtpaendmdcdeemaaDoor
