/-
  What the law makes may be; works.
-/
import Derived.Test.YtmidladenidngaaGF
namespace Go.Proofs.Ytmidladenidngaa
open Go.RowKit

open Rs
theorem wi_of {v lo hi : Int} (h : lo ≤ v ∧ v ≤ hi) : wi v lo hi = true := by
  unfold wi
  rw [decide_eq_true h.1, decide_eq_true h.2]
  rfl
theorem wn_of {v lo hi : Nat} (h : lo ≤ v ∧ v ≤ hi) : wn v lo hi = true := by
  unfold wn
  rw [decide_eq_true h.1, decide_eq_true h.2]
  rfl
theorem kk_of {s : ByteArray} (h : 1 ≤ s.size ∧ s.size ≤ 1000) : kk s = true := wi_of (by omega)
theorem wo_of {s : ByteArray} (h : 1 ≤ s.size ∧ s.size ≤ 16384) : wo s = true := wi_of (by omega)
theorem encA_ne {b : Bu} (h : mayX b = true) : (!decide ((encA b).1 = { data := #[] })) = true := by
  rcases q : decide ((encA b).1 = { data := #[] }) with _ | _
  · rfl
  · have h1 := decA_enc h
    rw [of_decide_eq_true q] at h1
    have h2 : decA { data := #[] } = (bu0, 4) := by kernel_rfl
    rw [h2] at h1
    cases h1
theorem bunF_may (x : Sp) (hx : OkS x) : mayX (bunF x) = true ∧ mayX ⟨(bunF x).u, (bunF x).d, (bunF x).sg, (bunF x).dh, (bunF x).pi, (bunF x).pr, (bunF x).ps, 0, { data := #[] }⟩ = true ∧ (encA (bunF x)).1.size ≤ 200 ∧ (encA ⟨(bunF x).u, (bunF x).d, (bunF x).sg, (bunF x).dh, (bunF x).pi, (bunF x).pr, (bunF x).ps, 0, { data := #[] }⟩).1.size ≤ 200 := by
  have h1 := hx.a; have h2 := hx.b; have h3 := fullT_size x.s (m := 99) (by decide)
  have h4 : x.a % 3 < 3 := Nat.mod_lt _ (by decide)
  have h5 : x.b % 2 < 2 := Nat.mod_lt _ (by decide)
  have w1 : wo { data := #[105] } = true := by kernel_rfl
  have w2 : wo { data := #[112] } = true := by kernel_rfl
  have w3 : wo { data := #[113] } = true := by kernel_rfl
  have w4 : wo { data := #[111] } = true := by kernel_rfl
  have wf : wo (fullT x.s 99) = true := wo_of (by omega)
  have sz : ∀ (u d : Int) (sg dh : ByteArray) (pi : Int) (pr ps : ByteArray) (oi : Int) (on : ByteArray), mayX ⟨u, d, sg, dh, pi, pr, ps, oi, on⟩ = true → sg.size ≤ 1 → dh.size ≤ 99 → pr.size ≤ 1 → ps.size ≤ 1 → on.size ≤ 1 → (encA ⟨u, d, sg, dh, pi, pr, ps, oi, on⟩).1.size ≤ 200 := fun u d sg dh pi pr ps oi on hb s1 s2 s3 s4 s5 => by
    have e : (encA ⟨u, d, sg, dh, pi, pr, ps, oi, on⟩).1 = encB ⟨u, d, sg, dh, pi, pr, ps, oi, on⟩ := by unfold encA; rw [hb]; rfl
    rw [e]
    unfold encB
    have l1 := lay2_sz sg dh; have l2 := lay2_sz pr ps; have l3 := lay1_sz on
    simp only [ByteArray.size_append, nbT_size (k := 1) (by decide) (by decide), nbT_size (k := 4) (by decide) (by decide)]
    omega
  have g1 : (0 : Int) ≤ ((x.a % 3 : Nat) : Int) ∧ ((x.a % 3 : Nat) : Int) ≤ 2 := by omega
  have g2 : (0 : Int) ≤ ((x.b % 2 : Nat) : Int) ∧ ((x.b % 2 : Nat) : Int) ≤ 1 := by omega
  have g3 : (1 : Int) ≤ ((1 + x.b : Nat) : Int) ∧ ((1 + x.b : Nat) : Int) ≤ 1073741824 := by omega
  have g4 : (1 : Int) ≤ ((1 + x.a : Nat) : Int) ∧ ((1 + x.a : Nat) : Int) ≤ 1073741824 := by omega
  have z1 : ({ data := #[105] } : ByteArray).size = 1 := rfl
  have z2 : ({ data := #[112] } : ByteArray).size = 1 := rfl
  have z3 : ({ data := #[113] } : ByteArray).size = 1 := rfl
  have z4 : ({ data := #[111] } : ByteArray).size = 1 := rfl
  have z5 : ({ data := #[] } : ByteArray).size = 0 := rfl
  unfold bunF
  have m2 : mayX ⟨((x.a % 3 : Nat) : Int), ((x.b % 2 : Nat) : Int), { data := #[105] }, fullT x.s 99, ((1 + x.b : Nat) : Int), { data := #[112] }, { data := #[113] }, 0, { data := #[] }⟩ = true := mayX_of g1 g2 g3 w1 wf w2 w3 (.inl ⟨rfl, rfl⟩)
  have s2 := sz _ _ _ _ _ _ _ _ _ m2 (by omega) (by omega) (by omega) (by omega) (by omega)
  rcases q : decide (x.k % 2 = 1) with _ | _
  · exact ⟨m2, m2, s2, s2⟩
  · have m1 : mayX ⟨((x.a % 3 : Nat) : Int), ((x.b % 2 : Nat) : Int), { data := #[105] }, fullT x.s 99, ((1 + x.b : Nat) : Int), { data := #[112] }, { data := #[113] }, ((1 + x.a : Nat) : Int), { data := #[111] }⟩ = true := mayX_of g1 g2 g3 w1 wf w2 w3 (.inr ⟨g4.1, g4.2, w4⟩)
    have s1 := sz _ _ _ _ _ _ _ _ _ m1 (by omega) (by omega) (by omega) (by omega) (by omega)
    exact ⟨m1, m2, s1, s2⟩
theorem memT_ok (x : Sp) (i : Nat) : [(memT x i).sg, (memT x i).dh].all kk = true := by
  have h1 := ext_size (s := x.s) (n := min x.s.size 99) (Nat.min_le_left _ _)
  have h2 : ({ data := #[97] } : ByteArray).size = 1 := rfl
  have h3 : kk (memT x i).sg = true := kk_of (by
    show 1 ≤ ({ data := #[97] } ++ x.s.extract 0 (min x.s.size 99) : ByteArray).size ∧ ({ data := #[97] } ++ x.s.extract 0 (min x.s.size 99) : ByteArray).size ≤ 1000
    rw [ByteArray.size_append]
    omega)
  have h4 : kk (memT x i).dh = true := by kernel_rfl
  simp only [List.all_cons, List.all_nil, h3, h4, Bool.and_true]
theorem lisF_may (x : Sp) (hx : OkS x) : mayL (lisF x) = true ∧ (lbA (lisF x)).size ≤ 700 := by
  have h1 := hx.a; have h2 := hx.b; have h3 := fullT_size x.s (m := 99) (by decide)
  have h4 : x.a % 3 < 3 := Nat.mod_lt _ (by decide)
  have k1 : wi (lisF x).u 0 2 = true := wi_of ⟨by show (0 : Int) ≤ ((x.a % 3 : Nat) : Int); omega, by show ((x.a % 3 : Nat) : Int) ≤ 2; omega⟩
  have k2 : wi (lisF x).v 1 1073741824 = true := wi_of ⟨by show (1 : Int) ≤ ((1 + x.b : Nat) : Int); omega, by show ((1 + x.b : Nat) : Int) ≤ 1073741824; omega⟩
  have k3 : [(lisF x).ac, (lisF x).sg].all kk = true := by
    have a1 : kk (lisF x).ac = true := kk_of (by show 1 ≤ (fullT x.s 99).size ∧ (fullT x.s 99).size ≤ 1000; omega)
    have a2 : kk (lisF x).sg = true := by kernel_rfl
    simp only [List.all_cons, List.all_nil, a1, a2, Bool.and_true]
  have m0 := memT_ok x 0; have m1 := memT_ok x 1
  have k4 : rise 0 (lisF x).ds = true := by
    show rise 0 (dsK x 2) = true
    rcases q0 : decide (x.b / 2 ^ 0 &&& 1 = 1) with _ | _
    · rcases q1 : decide (x.b / 2 ^ 1 &&& 1 = 1) with _ | _
      · rw [dsK_f q1, dsK_f q0]
        rfl
      · rw [dsK_t q1, dsK_f q0]
        show (wi 1 0 1 && [(memT x 1).sg, (memT x 1).dh].all kk && true) = true
        rw [m1]
        rfl
    · rcases q1 : decide (x.b / 2 ^ 1 &&& 1 = 1) with _ | _
      · rw [dsK_f q1, dsK_t q0]
        show (wi 0 0 1 && [(memT x 0).sg, (memT x 0).dh].all kk && true) = true
        rw [m0]
        rfl
      · rw [dsK_t q1, dsK_t q0]
        show (wi 0 0 1 && [(memT x 0).sg, (memT x 0).dh].all kk && (wi 1 1 1 && [(memT x 1).sg, (memT x 1).dh].all kk && true)) = true
        rw [m0, m1]
        rfl
  have hm : mayL (lisF x) = true := by
    unfold mayL
    rw [k1, k2, k3, k4]
    rfl
  refine ⟨hm, ?_⟩
  unfold lbA
  rw [hm]
  show (lisB (lisF x)).size ≤ 700
  unfold lisB
  have hM := mayL_iff hm
  have e1 : (hdL (lisF x)).size ≤ 108 := by
    have := lay1_sz (lisF x).ac
    have h9 : (lisF x).ac.size ≤ 99 := h3.2
    unfold hdL
    simp only [ByteArray.size_append, nbT_size (k := 1) (by decide) (by decide), nbT_size (k := 4) (by decide) (by decide)]
    omega
  have e2 : ∀ k, k ≤ (lisF x).ds.length → (txS (hdL (lisF x) ++ nbT 1 (lisF x).ds.length) (lisF x).ds k).size ≤ 109 + k * 200 := fun k => by
    induction k with
    | zero => intro _; show (hdL (lisF x) ++ nbT 1 (lisF x).ds.length).size ≤ 109 + 0 * 200; rw [ByteArray.size_append, nbT_size (by decide) (by decide)]; omega
    | succ k ih =>
      intro hk
      have h8 := ih (by omega)
      have h9 : ∃ i, (lisF x).ds.getD k mb0 = memT x i := by
        have hm9 : (lisF x).ds.getD k mb0 ∈ dsK x 2 := List.mem_of_getElem? (gd_at mb0 hk)
        have all : ∀ n, ∀ m ∈ dsK x n, ∃ i, m = memT x i := fun n => by
          induction n with
          | zero => intro m hm; cases hm
          | succ n ihn =>
            intro m hm
            rcases q : decide (x.b / 2 ^ n &&& 1 = 1) with _ | _
            · rw [dsK_f q] at hm; exact ihn m hm
            · rw [dsK_t q] at hm
              rcases List.mem_append.1 hm with hm | hm
              · exact ihn m hm
              · exact ⟨n, List.mem_singleton.1 hm⟩
        exact all 2 _ hm9
      obtain ⟨i, hi⟩ := h9
      have h10 := ext_size (s := x.s) (n := min x.s.size 99) (Nat.min_le_left _ _)
      have h11 : ({ data := #[97] } : ByteArray).size = 1 := rfl
      have h12 : ({ data := #[98] } : ByteArray).size = 1 := rfl
      have h13 : (memT x i).sg.size ≤ 100 := by show ({ data := #[97] } ++ x.s.extract 0 (min x.s.size 99) : ByteArray).size ≤ 100; rw [ByteArray.size_append]; omega
      have h14 : (memT x i).dh.size = 1 := h12
      have h15 := lay2_sz (memT x i).sg (memT x i).dh
      have h16 : (txS (hdL (lisF x) ++ nbT 1 (lisF x).ds.length) (lisF x).ds (k + 1)).size = (txS (hdL (lisF x) ++ nbT 1 (lisF x).ds.length) (lisF x).ds k).size + (dvT ((lisF x).ds.getD k mb0)).size := by rw [txS, ByteArray.size_append]
      rw [hi] at h16
      have h17 : (dvT (memT x i)).size = 1 + (layT [(memT x i).sg, (memT x i).dh] 2).size := by unfold dvT; rw [ByteArray.size_append, nbT_size (by decide) (by decide)]
      omega
  have e3 := e2 _ (Nat.le_refl _)
  have e4 := lay1_sz (lisF x).sg
  have e5 : (lisF x).sg.size = 1 := rfl
  have e6 := hM.dl
  rw [ByteArray.size_append]
  omega
theorem mayC_of1 {n : Nat}  (h : wi (n : Int) 0 2 = true) : mayC ⟨(1 : Int), (n : Int), 0, ⟨0, 0, { data := #[] }, [], { data := #[] }⟩, ⟨0, 0, { data := #[] }, { data := #[] }, 0, { data := #[] }, { data := #[] }, 0, { data := #[] }⟩, [], 0, 0, 0, { data := #[] }, 0, { data := #[] }⟩ = true := by
  show (wi (n : Int) 0 2 && sameC ⟨(1 : Int), (n : Int), 0, ⟨0, 0, { data := #[] }, [], { data := #[] }⟩, ⟨0, 0, { data := #[] }, { data := #[] }, 0, { data := #[] }, { data := #[] }, 0, { data := #[] }⟩, [], 0, 0, 0, { data := #[] }, 0, { data := #[] }⟩ ⟨(1 : Int), (n : Int), 0, ⟨0, 0, { data := #[] }, [], { data := #[] }⟩, ⟨0, 0, { data := #[] }, { data := #[] }, 0, { data := #[] }, { data := #[] }, 0, { data := #[] }⟩, [], 0, 0, 0, { data := #[] }, 0, { data := #[] }⟩) = true
  rw [h, sameC_eq, decide_eq_true rfl]
  rfl
theorem mayC_of2 {n : Nat} {m : Nat}  (h : (wi (m : Int) 0 1 && wi (n : Int) 0 2) = true) : mayC ⟨(2 : Int), (n : Int), (m : Int), ⟨0, 0, { data := #[] }, [], { data := #[] }⟩, ⟨0, 0, { data := #[] }, { data := #[] }, 0, { data := #[] }, { data := #[] }, 0, { data := #[] }⟩, [], 0, 0, 0, { data := #[] }, 0, { data := #[] }⟩ = true := by
  show ((wi (m : Int) 0 1 && wi (n : Int) 0 2) && sameC ⟨(2 : Int), (n : Int), (m : Int), ⟨0, 0, { data := #[] }, [], { data := #[] }⟩, ⟨0, 0, { data := #[] }, { data := #[] }, 0, { data := #[] }, { data := #[] }, 0, { data := #[] }⟩, [], 0, 0, 0, { data := #[] }, 0, { data := #[] }⟩ ⟨(2 : Int), (n : Int), (m : Int), ⟨0, 0, { data := #[] }, [], { data := #[] }⟩, ⟨0, 0, { data := #[] }, { data := #[] }, 0, { data := #[] }, { data := #[] }, 0, { data := #[] }⟩, [], 0, 0, 0, { data := #[] }, 0, { data := #[] }⟩) = true
  rw [h, sameC_eq, decide_eq_true rfl]
  rfl
theorem mayC_of3  {li : Li} (h : mayL li = true) : mayC ⟨(3 : Int), 0, 0, li, ⟨0, 0, { data := #[] }, { data := #[] }, 0, { data := #[] }, { data := #[] }, 0, { data := #[] }⟩, [], 0, 0, 0, { data := #[] }, 0, { data := #[] }⟩ = true := by
  show (mayL li && sameC ⟨(3 : Int), 0, 0, li, ⟨0, 0, { data := #[] }, { data := #[] }, 0, { data := #[] }, { data := #[] }, 0, { data := #[] }⟩, [], 0, 0, 0, { data := #[] }, 0, { data := #[] }⟩ ⟨(3 : Int), 0, 0, li, ⟨0, 0, { data := #[] }, { data := #[] }, 0, { data := #[] }, { data := #[] }, 0, { data := #[] }⟩, [], 0, 0, 0, { data := #[] }, 0, { data := #[] }⟩) = true
  rw [h, sameC_eq, decide_eq_true rfl]
  rfl
theorem mayC_of4 {n : Nat} {bu : Bu} {on : List ByteArray} (h : (!decide ((encA bu).1 = { data := #[] }) && decide (bu.oi = 0) && wi (n : Int) 1 1073741824 && decide (on.length ≤ 20) && on.all kk) = true) : mayC ⟨(4 : Int), 0, 0, ⟨0, 0, { data := #[] }, [], { data := #[] }⟩, bu, on, 0, 0, 0, { data := #[] }, (n : Int), { data := #[] }⟩ = true := by
  show ((!decide ((encA bu).1 = { data := #[] }) && decide (bu.oi = 0) && wi (n : Int) 1 1073741824 && decide (on.length ≤ 20) && on.all kk) && sameC ⟨(4 : Int), 0, 0, ⟨0, 0, { data := #[] }, [], { data := #[] }⟩, bu, on, 0, 0, 0, { data := #[] }, (n : Int), { data := #[] }⟩ ⟨(4 : Int), 0, 0, ⟨0, 0, { data := #[] }, [], { data := #[] }⟩, bu, on, 0, 0, 0, { data := #[] }, (n : Int), { data := #[] }⟩) = true
  rw [h, sameC_eq, decide_eq_true rfl]
  rfl
theorem mayC_of5 {n : Nat} {no : Nat} {bt : ByteArray} (h : (isD (n : Int) && wn no 1 1099511627776 && wi ((bt.size : Nat) : Int) 1 4096) = true) : mayC ⟨(5 : Int), 0, 0, ⟨0, 0, { data := #[] }, [], { data := #[] }⟩, ⟨0, 0, { data := #[] }, { data := #[] }, 0, { data := #[] }, { data := #[] }, 0, { data := #[] }⟩, [], (n : Int), no, 0, { data := #[] }, 0, bt⟩ = true := by
  show ((isD (n : Int) && wn no 1 1099511627776 && wi ((bt.size : Nat) : Int) 1 4096) && sameC ⟨(5 : Int), 0, 0, ⟨0, 0, { data := #[] }, [], { data := #[] }⟩, ⟨0, 0, { data := #[] }, { data := #[] }, 0, { data := #[] }, { data := #[] }, 0, { data := #[] }⟩, [], (n : Int), no, 0, { data := #[] }, 0, bt⟩ ⟨(5 : Int), 0, 0, ⟨0, 0, { data := #[] }, [], { data := #[] }⟩, ⟨0, 0, { data := #[] }, { data := #[] }, 0, { data := #[] }, { data := #[] }, 0, { data := #[] }⟩, [], (n : Int), no, 0, { data := #[] }, 0, bt⟩) = true
  rw [h, sameC_eq, decide_eq_true rfl]
  rfl
theorem mayC_of6  {af : Nat} (h : wn af 0 1099511627776 = true) : mayC ⟨(6 : Int), 0, 0, ⟨0, 0, { data := #[] }, [], { data := #[] }⟩, ⟨0, 0, { data := #[] }, { data := #[] }, 0, { data := #[] }, { data := #[] }, 0, { data := #[] }⟩, [], 0, 0, af, { data := #[] }, 0, { data := #[] }⟩ = true := by
  show (wn af 0 1099511627776 && sameC ⟨(6 : Int), 0, 0, ⟨0, 0, { data := #[] }, [], { data := #[] }⟩, ⟨0, 0, { data := #[] }, { data := #[] }, 0, { data := #[] }, { data := #[] }, 0, { data := #[] }⟩, [], 0, 0, af, { data := #[] }, 0, { data := #[] }⟩ ⟨(6 : Int), 0, 0, ⟨0, 0, { data := #[] }, [], { data := #[] }⟩, ⟨0, 0, { data := #[] }, { data := #[] }, 0, { data := #[] }, { data := #[] }, 0, { data := #[] }⟩, [], 0, 0, af, { data := #[] }, 0, { data := #[] }⟩) = true
  rw [h, sameC_eq, decide_eq_true rfl]
  rfl
theorem mayC_of7  {af : Nat} (h : wn af 0 1099511627776 = true) : mayC ⟨(7 : Int), 0, 0, ⟨0, 0, { data := #[] }, [], { data := #[] }⟩, ⟨0, 0, { data := #[] }, { data := #[] }, 0, { data := #[] }, { data := #[] }, 0, { data := #[] }⟩, [], 0, 0, af, { data := #[] }, 0, { data := #[] }⟩ = true := by
  show (wn af 0 1099511627776 && sameC ⟨(7 : Int), 0, 0, ⟨0, 0, { data := #[] }, [], { data := #[] }⟩, ⟨0, 0, { data := #[] }, { data := #[] }, 0, { data := #[] }, { data := #[] }, 0, { data := #[] }⟩, [], 0, 0, af, { data := #[] }, 0, { data := #[] }⟩ ⟨(7 : Int), 0, 0, ⟨0, 0, { data := #[] }, [], { data := #[] }⟩, ⟨0, 0, { data := #[] }, { data := #[] }, 0, { data := #[] }, { data := #[] }, 0, { data := #[] }⟩, [], 0, 0, af, { data := #[] }, 0, { data := #[] }⟩) = true
  rw [h, sameC_eq, decide_eq_true rfl]
  rfl
theorem mayC_of8 {n : Nat} {nm : ByteArray} {bt : ByteArray} (h : (wi ((bt.size : Nat) : Int) 1 4096 && wi ((nm.size : Nat) : Int) 1 40 && wi (n : Int) 0 63) = true) : mayC ⟨(8 : Int), 0, 0, ⟨0, 0, { data := #[] }, [], { data := #[] }⟩, ⟨0, 0, { data := #[] }, { data := #[] }, 0, { data := #[] }, { data := #[] }, 0, { data := #[] }⟩, [], 0, 0, 0, nm, (n : Int), bt⟩ = true := by
  show ((wi ((bt.size : Nat) : Int) 1 4096 && wi ((nm.size : Nat) : Int) 1 40 && wi (n : Int) 0 63) && sameC ⟨(8 : Int), 0, 0, ⟨0, 0, { data := #[] }, [], { data := #[] }⟩, ⟨0, 0, { data := #[] }, { data := #[] }, 0, { data := #[] }, { data := #[] }, 0, { data := #[] }⟩, [], 0, 0, 0, nm, (n : Int), bt⟩ ⟨(8 : Int), 0, 0, ⟨0, 0, { data := #[] }, [], { data := #[] }⟩, ⟨0, 0, { data := #[] }, { data := #[] }, 0, { data := #[] }, { data := #[] }, 0, { data := #[] }⟩, [], 0, 0, 0, nm, (n : Int), bt⟩) = true
  rw [h, sameC_eq, decide_eq_true rfl]
  rfl
theorem mayC_of9 {n : Nat} {nm : ByteArray} (h : (wi ((nm.size : Nat) : Int) 1 40 && wi (n : Int) 0 63) = true) : mayC ⟨(9 : Int), 0, 0, ⟨0, 0, { data := #[] }, [], { data := #[] }⟩, ⟨0, 0, { data := #[] }, { data := #[] }, 0, { data := #[] }, { data := #[] }, 0, { data := #[] }⟩, [], 0, 0, 0, nm, (n : Int), { data := #[] }⟩ = true := by
  show ((wi ((nm.size : Nat) : Int) 1 40 && wi (n : Int) 0 63) && sameC ⟨(9 : Int), 0, 0, ⟨0, 0, { data := #[] }, [], { data := #[] }⟩, ⟨0, 0, { data := #[] }, { data := #[] }, 0, { data := #[] }, { data := #[] }, 0, { data := #[] }⟩, [], 0, 0, 0, nm, (n : Int), { data := #[] }⟩ ⟨(9 : Int), 0, 0, ⟨0, 0, { data := #[] }, [], { data := #[] }⟩, ⟨0, 0, { data := #[] }, { data := #[] }, 0, { data := #[] }, { data := #[] }, 0, { data := #[] }⟩, [], 0, 0, 0, nm, (n : Int), { data := #[] }⟩) = true
  rw [h, sameC_eq, decide_eq_true rfl]
  rfl
theorem on_all (x : Sp) (hx : OkS x) : ∀ n, (onK x n).all kk = true
  | 0 => rfl
  | n + 1 => by
    have h3 := fullT_size x.s (m := 99) (by decide)
    rw [onK, List.all_append, on_all x hx n]
    simp only [List.all_cons, List.all_nil, kk_of (s := fullT x.s 99) (by omega), Bool.and_true]
theorem on_size (x : Sp) : ∀ i, ((onK x (x.b % 21)).getD i ByteArray.empty).size ≤ 99 := by
  have h3 := fullT_size x.s (m := 99) (by decide)
  refine strs_le fun s hs => ?_
  have all : ∀ n, ∀ s ∈ onK x n, s = fullT x.s 99 := fun n => by
    induction n with
    | zero => intro s hs; cases hs
    | succ n ih =>
      intro s hs
      rcases List.mem_append.1 hs with hs | hs
      · exact ih s hs
      · exact List.mem_singleton.1 hs
  rw [all _ s hs]
  exact h3.2
theorem callF_ok (x : Sp) (hx : OkS x) (id : Nat) : mayC (callF x) = true ∧ (calB id (callF x)).size ≤ 16384 := by
  have h1 := hx.a; have h2 := hx.b
  have a3 : x.a % 3 < 3 := Nat.mod_lt _ (by decide)
  have b2 : x.b % 2 < 2 := Nat.mod_lt _ (by decide)
  have a6 : x.a % 6 < 6 := Nat.mod_lt _ (by decide)
  have a64 : x.a % 64 < 64 := Nat.mod_lt _ (by decide)
  have b21 : x.b % 21 < 21 := Nat.mod_lt _ (by decide)
  have nn : x.n % 1099511627776 < 1099511627776 := Nat.mod_lt _ (by decide)
  have f40 := fullT_size x.s (m := 40) (by decide)
  have f4 := fullT_size x.s (m := 4096) (by decide)
  have k9 : x.k % 9 < 9 := Nat.mod_lt _ (by decide)
  have n1 : ∀ v, (nbT 1 v).size = 1 := fun v => nbT_size (by decide) (by decide) v
  have n4 : ∀ v, (nbT 4 v).size = 4 := fun v => nbT_size (by decide) (by decide) v
  have n8 : ∀ v, (nbT 8 v).size = 8 := fun v => nbT_size (by decide) (by decide) v
  have hcase : x.k % 9 = 0 ∨ x.k % 9 = 1 ∨ x.k % 9 = 2 ∨ x.k % 9 = 3 ∨ x.k % 9 = 4 ∨ x.k % 9 = 5 ∨ x.k % 9 = 6 ∨ x.k % 9 = 7 ∨ x.k % 9 = 8 := by omega
  rcases hcase with h | h | h | h | h | h | h | h | h
  · have e : callF x = ⟨(1 : Int), ((x.a % 3 : Nat) : Int), 0, ⟨0, 0, { data := #[] }, [], { data := #[] }⟩, ⟨0, 0, { data := #[] }, { data := #[] }, 0, { data := #[] }, { data := #[] }, 0, { data := #[] }⟩, [], 0, 0, 0, { data := #[] }, 0, { data := #[] }⟩ := by
      unfold callF
      rw [h]
      rfl
    rw [e]
    refine ⟨mayC_of1 (wi_of (by omega)), ?_⟩
    rw [calP1]
    simp only [ByteArray.size_append, n1, n8]
    omega
  · have e : callF x = ⟨(2 : Int), ((x.a % 3 : Nat) : Int), ((x.b % 2 : Nat) : Int), ⟨0, 0, { data := #[] }, [], { data := #[] }⟩, ⟨0, 0, { data := #[] }, { data := #[] }, 0, { data := #[] }, { data := #[] }, 0, { data := #[] }⟩, [], 0, 0, 0, { data := #[] }, 0, { data := #[] }⟩ := by
      unfold callF
      rw [h]
      rfl
    rw [e]
    refine ⟨mayC_of2 (by rw [wi_of (show (0 : Int) ≤ ((x.b % 2 : Nat) : Int) ∧ ((x.b % 2 : Nat) : Int) ≤ 1 by omega), wi_of (show (0 : Int) ≤ ((x.a % 3 : Nat) : Int) ∧ ((x.a % 3 : Nat) : Int) ≤ 2 by omega)]; rfl), ?_⟩
    rw [calP2]
    simp only [ByteArray.size_append, n1, n8]
    omega
  · have e : callF x = ⟨(3 : Int), 0, 0, (lisF x), ⟨0, 0, { data := #[] }, { data := #[] }, 0, { data := #[] }, { data := #[] }, 0, { data := #[] }⟩, [], 0, 0, 0, { data := #[] }, 0, { data := #[] }⟩ := by
      unfold callF
      rw [h]
      rfl
    rw [e]
    refine ⟨mayC_of3 ((lisF_may x hx).1), ?_⟩
    rw [calP3]
    have s1 := (lisF_may x hx).2; have s2 := lay1_sz (lbA (lisF x)); simp only [ByteArray.size_append, n1, n8]
    omega
  · have e : callF x = ⟨(4 : Int), 0, 0, ⟨0, 0, { data := #[] }, [], { data := #[] }⟩, ⟨(bunF x).u, (bunF x).d, (bunF x).sg, (bunF x).dh, (bunF x).pi, (bunF x).pr, (bunF x).ps, 0, { data := #[] }⟩, (onK x (x.b % 21)), 0, 0, 0, { data := #[] }, ((1 + x.a : Nat) : Int), { data := #[] }⟩ := by
      unfold callF
      rw [h]
      rfl
    rw [e]
    refine ⟨mayC_of4 (by rw [encA_ne (bunF_may x hx).2.1, wi_of (show (1 : Int) ≤ ((1 + x.a : Nat) : Int) ∧ ((1 + x.a : Nat) : Int) ≤ 1073741824 by omega), decide_eq_true (show (onK x (x.b % 21)).length ≤ 20 by rw [onK_len]; omega), on_all x hx]; rfl), ?_⟩
    rw [calP4]
    have s1 := (bunF_may x hx).2.2.2; have s2 := lay1_sz (encA ⟨(bunF x).u, (bunF x).d, (bunF x).sg, (bunF x).dh, (bunF x).pi, (bunF x).pr, (bunF x).ps, 0, { data := #[] }⟩).1; have s3 := layT_size (on_size x) (onK x (x.b % 21)).length; have s4 := onK_len x (x.b % 21); have s5 : (onK x (x.b % 21)).length * (99 + 4) ≤ 20 * (99 + 4) := Nat.mul_le_mul_right _ (by omega); simp only [ByteArray.size_append, n1, n8, n4]
    omega
  · have e : callF x = ⟨(5 : Int), 0, 0, ⟨0, 0, { data := #[] }, [], { data := #[] }⟩, ⟨0, 0, { data := #[] }, { data := #[] }, 0, { data := #[] }, { data := #[] }, 0, { data := #[] }⟩, [], ((2 + x.a % 6 : Nat) : Int), (1 + x.n % 1099511627776), 0, { data := #[] }, 0, (fullT x.s 4096)⟩ := by
      unfold callF
      rw [h]
      rfl
    rw [e]
    refine ⟨mayC_of5 (by rw [show isD ((2 + x.a % 6 : Nat) : Int) = true from wi_of (by omega), wn_of (show 1 ≤ 1 + x.n % 1099511627776 ∧ 1 + x.n % 1099511627776 ≤ 1099511627776 by omega), wi_of (show (1 : Int) ≤ (((fullT x.s 4096).size : Nat) : Int) ∧ (((fullT x.s 4096).size : Nat) : Int) ≤ 4096 by omega)]; rfl), ?_⟩
    rw [calP5]
    have s2 := lay1_sz (fullT x.s 4096); simp only [ByteArray.size_append, n1, n8]
    omega
  · have e : callF x = ⟨(6 : Int), 0, 0, ⟨0, 0, { data := #[] }, [], { data := #[] }⟩, ⟨0, 0, { data := #[] }, { data := #[] }, 0, { data := #[] }, { data := #[] }, 0, { data := #[] }⟩, [], 0, 0, (1 + x.n % 1099511627776), { data := #[] }, 0, { data := #[] }⟩ := by
      unfold callF
      rw [h]
      rfl
    rw [e]
    refine ⟨mayC_of6 (wn_of (by omega)), ?_⟩
    rw [calP6]
    simp only [ByteArray.size_append, n1, n8]
    omega
  · have e : callF x = ⟨(7 : Int), 0, 0, ⟨0, 0, { data := #[] }, [], { data := #[] }⟩, ⟨0, 0, { data := #[] }, { data := #[] }, 0, { data := #[] }, { data := #[] }, 0, { data := #[] }⟩, [], 0, 0, (1 + x.n % 1099511627776), { data := #[] }, 0, { data := #[] }⟩ := by
      unfold callF
      rw [h]
      rfl
    rw [e]
    refine ⟨mayC_of7 (wn_of (by omega)), ?_⟩
    rw [calP7]
    simp only [ByteArray.size_append, n1, n8]
    omega
  · have e : callF x = ⟨(8 : Int), 0, 0, ⟨0, 0, { data := #[] }, [], { data := #[] }⟩, ⟨0, 0, { data := #[] }, { data := #[] }, 0, { data := #[] }, { data := #[] }, 0, { data := #[] }⟩, [], 0, 0, 0, (fullT x.s 40), ((x.a % 64 : Nat) : Int), (fullT x.s 4096)⟩ := by
      unfold callF
      rw [h]
      rfl
    rw [e]
    refine ⟨mayC_of8 (by rw [wi_of (show (1 : Int) ≤ (((fullT x.s 4096).size : Nat) : Int) ∧ (((fullT x.s 4096).size : Nat) : Int) ≤ 4096 by omega), wi_of (show (1 : Int) ≤ (((fullT x.s 40).size : Nat) : Int) ∧ (((fullT x.s 40).size : Nat) : Int) ≤ 40 by omega), wi_of (show (0 : Int) ≤ ((x.a % 64 : Nat) : Int) ∧ ((x.a % 64 : Nat) : Int) ≤ 63 by omega)]; rfl), ?_⟩
    rw [calP8]
    have s2 := lay1_sz (fullT x.s 4096); have s3 := lay1_sz (fullT x.s 40); simp only [ByteArray.size_append, n1, n8]
    omega
  · have e : callF x = ⟨(9 : Int), 0, 0, ⟨0, 0, { data := #[] }, [], { data := #[] }⟩, ⟨0, 0, { data := #[] }, { data := #[] }, 0, { data := #[] }, { data := #[] }, 0, { data := #[] }⟩, [], 0, 0, 0, (fullT x.s 40), ((x.a % 64 : Nat) : Int), { data := #[] }⟩ := by
      unfold callF
      rw [h]
      rfl
    rw [e]
    refine ⟨mayC_of9 (by rw [wi_of (show (1 : Int) ≤ (((fullT x.s 40).size : Nat) : Int) ∧ (((fullT x.s 40).size : Nat) : Int) ≤ 40 by omega), wi_of (show (0 : Int) ≤ ((x.a % 64 : Nat) : Int) ∧ ((x.a % 64 : Nat) : Int) ≤ 63 by omega)]; rfl), ?_⟩
    rw [calP9]
    have s3 := lay1_sz (fullT x.s 40); simp only [ByteArray.size_append, n1, n8]
    omega
end Go.Proofs.Ytmidladenidngaa

namespace Go.Proofs.Ytmidladenidngaa
open Go.RowKit

open Rs
def lF (x : Sp) : Li := bif decide (x.k % 2 = 0) then lisF x else ⟨0, 0, { data := #[] }, [], { data := #[] }⟩
def bF (x : Sp) : Bu := bif decide (x.k % 3 = 0) then bunF x else ⟨0, 0, { data := #[] }, { data := #[] }, 0, { data := #[] }, { data := #[] }, 0, { data := #[] }⟩
def itK (x : Sp) : Nat → List It
  | 0 => []
  | i + 1 => itK x i ++ [⟨1 + x.n % 1099511627776, ((2 + x.a % 6 : Nat) : Int), 1 + i, fullT x.s 1024⟩]
theorem itK_len (x : Sp) : ∀ i, (itK x i).length = i
  | 0 => rfl
  | i + 1 => by rw [itK, List.length_append, itK_len x i]; rfl
def ansF (x : Sp) : An := bif decide (x.k % 7 = 0) then ⟨((1 + x.a % 16 : Nat) : Int), ⟨0, 0, { data := #[] }, [], { data := #[] }⟩, ⟨0, 0, { data := #[] }, { data := #[] }, 0, { data := #[] }, { data := #[] }, 0, { data := #[] }⟩, [], { data := #[] }, 0⟩ else ⟨0, lF x, bF x, itK x (x.b % 9), x.s.extract 0 (min x.s.size 4096), ((x.a % 21 : Nat) : Int)⟩
theorem lF_ok (x : Sp) (hx : OkS x) : (sameL (lF x) ⟨0, 0, { data := #[] }, [], { data := #[] }⟩ || mayL (lF x)) = true ∧ (lbA (lF x)).size ≤ 700 ∧ (lF x).ds.length ≤ 1000000 := by
  unfold lF
  rcases q : decide (x.k % 2 = 0) with _ | _
  · exact ⟨by kernel_rfl, by show (lbA ⟨0, 0, { data := #[] }, [], { data := #[] }⟩).size ≤ 700; rw [show lbA ⟨0, 0, { data := #[] }, [], { data := #[] }⟩ = { data := #[] } from by kernel_rfl]; decide, Nat.zero_le 1000000⟩
  · have h := lisF_may x hx
    show (sameL (lisF x) ⟨0, 0, { data := #[] }, [], { data := #[] }⟩ || mayL (lisF x)) = true ∧ (lbA (lisF x)).size ≤ 700 ∧ (lisF x).ds.length ≤ 1000000
    exact ⟨by rw [h.1, Bool.or_true], h.2, lisF_bk x⟩
theorem bF_ok (x : Sp) (hx : OkS x) : (decide (bF x = ⟨0, 0, { data := #[] }, { data := #[] }, 0, { data := #[] }, { data := #[] }, 0, { data := #[] }⟩) || !decide ((encA (bF x)).1 = { data := #[] })) = true ∧ (encA (bF x)).1.size ≤ 200 := by
  unfold bF
  rcases q : decide (x.k % 3 = 0) with _ | _
  · exact ⟨by kernel_rfl, by show (encA ⟨0, 0, { data := #[] }, { data := #[] }, 0, { data := #[] }, { data := #[] }, 0, { data := #[] }⟩).1.size ≤ 200; rw [show (encA ⟨0, 0, { data := #[] }, { data := #[] }, 0, { data := #[] }, { data := #[] }, 0, { data := #[] }⟩).1 = { data := #[] } from by kernel_rfl]; decide⟩
  · have h := bunF_may x hx
    show (decide (bunF x = ⟨0, 0, { data := #[] }, { data := #[] }, 0, { data := #[] }, { data := #[] }, 0, { data := #[] }⟩) || !decide ((encA (bunF x)).1 = { data := #[] })) = true ∧ (encA (bunF x)).1.size ≤ 200
    exact ⟨by rw [encA_ne h.1, Bool.or_true], h.2.2.1⟩
theorem itK_mem (x : Sp) (hx : OkS x) : ∀ n, n ≤ 8 → ∀ y ∈ itK x n, itOk y = true ∧ y.b.size ≤ 1024
  | 0, _ => fun y hy => by cases hy
  | n + 1, hn => fun y hy => by
    have a6 : x.a % 6 < 6 := Nat.mod_lt _ (by decide)
    have nn : x.n % 1099511627776 < 1099511627776 := Nat.mod_lt _ (by decide)
    have f1 := fullT_size x.s (m := 1024) (by decide)
    rcases List.mem_append.1 hy with hy | hy
    · exact itK_mem x hx n (by omega) y hy
    · obtain rfl := List.mem_singleton.1 hy
      refine ⟨?_, f1.2⟩
      show (wn (1 + x.n % 1099511627776) 1 1099511627776 && wn (1 + n) 1 1099511627776 && isD ((2 + x.a % 6 : Nat) : Int) && wi (((fullT x.s 1024).size : Nat) : Int) 1 4096) = true
      rw [wn_of (show 1 ≤ 1 + x.n % 1099511627776 ∧ 1 + x.n % 1099511627776 ≤ 1099511627776 by omega), wn_of (show 1 ≤ 1 + n ∧ 1 + n ≤ 1099511627776 by omega), show isD ((2 + x.a % 6 : Nat) : Int) = true from wi_of (by omega), wi_of (show (1 : Int) ≤ (((fullT x.s 1024).size : Nat) : Int) ∧ (((fullT x.s 1024).size : Nat) : Int) ≤ 4096 by omega)]
      rfl
theorem sumK_le {l : List It} {m : Nat} (h : ∀ y ∈ l, y.b.size ≤ m) : ∀ k, k ≤ l.length → sumK l k ≤ k * m
  | 0, _ => Nat.zero_le _
  | k + 1, hk => by
    have h1 := sumK_le h k (by omega)
    have h2 := h _ (List.mem_of_getElem? (gd_at it0 (show k < l.length by omega)))
    show sumK l k + (l.getD k it0).b.size ≤ (k + 1) * m
    rw [Nat.succ_mul]
    omega
theorem itS_le {b : ByteArray} {l : List It} (h : ∀ y ∈ l, y.b.size ≤ 1024) : ∀ k, k ≤ l.length → (itS b l k).size ≤ b.size + k * 1045
  | 0, _ => Nat.le_refl _
  | k + 1, hk => by
    have h1 := itS_le (b := b) h k (by omega)
    have h2 := h _ (List.mem_of_getElem? (gd_at it0 (show k < l.length by omega)))
    have h3 := lay1_sz (l.getD k it0).b
    have h4 : (itS b l (k + 1)).size = (itS b l k).size + (itT (l.getD k it0)).size := by rw [itS, ByteArray.size_append]
    have h5 : (itT (l.getD k it0)).size = 8 + 1 + 8 + (layT [(l.getD k it0).b] 1).size := by
      unfold itT
      simp only [ByteArray.size_append, nbT_size (k := 1) (by decide) (by decide), nbT_size (k := 8) (by decide) (by decide)]
    omega
theorem ansF_ok (x : Sp) (hx : OkS x) (id : Nat) : mayA (ansF x) = true ∧ (ansB id (ansF x)).size ≤ 16384 ∧ (ansF x).li.ds.length ≤ 1000000 ∧ (ansF x).its.length ≤ 1000000 := by
  have a16 : x.a % 16 < 16 := Nat.mod_lt _ (by decide)
  have a21 : x.a % 21 < 21 := Nat.mod_lt _ (by decide)
  have b9 : x.b % 9 < 9 := Nat.mod_lt _ (by decide)
  have n1 : ∀ v, (nbT 1 v).size = 1 := fun v => nbT_size (by decide) (by decide) v
  have n8 : ∀ v, (nbT 8 v).size = 8 := fun v => nbT_size (by decide) (by decide) v
  unfold ansF
  rcases q : decide (x.k % 7 = 0) with _ | _
  · have hl := lF_ok x hx
    have hb := bF_ok x hx
    have hi := itK_mem x hx (x.b % 9) (by omega)
    have hn := itK_len x (x.b % 9)
    have hs := sumK_le (l := itK x (x.b % 9)) (m := 1024) (fun y hy => (hi y hy).2) _ (Nat.le_refl _)
    have he := ext_size (s := x.s) (n := min x.s.size 4096) (Nat.min_le_left _ _)
    have h1024 : (itK x (x.b % 9)).length * 1024 ≤ 8 * 1024 := Nat.mul_le_mul_right _ (by omega)
    have hI : mayI (itK x (x.b % 9)) = true := by
      unfold mayI
      rw [decide_eq_false (show ¬ 8 < (itK x (x.b % 9)).length by omega), List.all_eq_true.2 (fun y hy => (hi y hy).1), decide_eq_true (show sumK (itK x (x.b % 9)) (itK x (x.b % 9)).length ≤ 8192 by omega)]
      rfl
    show mayA ⟨0, lF x, bF x, itK x (x.b % 9), x.s.extract 0 (min x.s.size 4096), ((x.a % 21 : Nat) : Int)⟩ = true ∧ (ansB id ⟨0, lF x, bF x, itK x (x.b % 9), x.s.extract 0 (min x.s.size 4096), ((x.a % 21 : Nat) : Int)⟩).size ≤ 16384 ∧ (lF x).ds.length ≤ 1000000 ∧ (itK x (x.b % 9)).length ≤ 1000000
    refine ⟨?_, ?_, hl.2.2, by omega⟩
    · show ((sameL (lF x) ⟨0, 0, { data := #[] }, [], { data := #[] }⟩ || mayL (lF x)) && (decide (bF x = ⟨0, 0, { data := #[] }, { data := #[] }, 0, { data := #[] }, { data := #[] }, 0, { data := #[] }⟩) || !decide ((encA (bF x)).1 = { data := #[] })) && mayI (itK x (x.b % 9)) && decide ((x.s.extract 0 (min x.s.size 4096)).size ≤ 4096) && wi ((x.a % 21 : Nat) : Int) 0 20) = true
      rw [hl.1, hb.1, hI, decide_eq_true (show (x.s.extract 0 (min x.s.size 4096)).size ≤ 4096 by omega), wi_of (show (0 : Int) ≤ ((x.a % 21 : Nat) : Int) ∧ ((x.a % 21 : Nat) : Int) ≤ 20 by omega)]
      rfl
    · have h2 := lay2_sz (lbA (lF x)) (encA (bF x)).1
      have h3 := lay1_sz (x.s.extract 0 (min x.s.size 4096))
      have h4 := itS_le (b := hdA id ⟨0, lF x, bF x, itK x (x.b % 9), x.s.extract 0 (min x.s.size 4096), ((x.a % 21 : Nat) : Int)⟩) (l := itK x (x.b % 9)) (fun y hy => (hi y hy).2) _ (Nat.le_refl _)
      have h5 : (itK x (x.b % 9)).length * 1045 ≤ 8 * 1045 := Nat.mul_le_mul_right _ (by omega)
      have h6 : (hdA id ⟨0, lF x, bF x, itK x (x.b % 9), x.s.extract 0 (min x.s.size 4096), ((x.a % 21 : Nat) : Int)⟩).size = 8 + 1 + (layT [lbA (lF x), (encA (bF x)).1] 2).size + 1 := by
        unfold hdA
        simp only [ByteArray.size_append, n1, n8]
      show ((itS (hdA id ⟨0, lF x, bF x, itK x (x.b % 9), x.s.extract 0 (min x.s.size 4096), ((x.a % 21 : Nat) : Int)⟩) (itK x (x.b % 9)) (itK x (x.b % 9)).length ++ layT [x.s.extract 0 (min x.s.size 4096)] 1) ++ nbT 1 _).size ≤ 16384
      rw [ByteArray.size_append, ByteArray.size_append, n1]
      omega
  · show mayA ⟨((1 + x.a % 16 : Nat) : Int), ⟨0, 0, { data := #[] }, [], { data := #[] }⟩, ⟨0, 0, { data := #[] }, { data := #[] }, 0, { data := #[] }, { data := #[] }, 0, { data := #[] }⟩, [], { data := #[] }, 0⟩ = true ∧ (ansB id ⟨((1 + x.a % 16 : Nat) : Int), ⟨0, 0, { data := #[] }, [], { data := #[] }⟩, ⟨0, 0, { data := #[] }, { data := #[] }, 0, { data := #[] }, { data := #[] }, 0, { data := #[] }⟩, [], { data := #[] }, 0⟩).size ≤ 16384 ∧ ([] : List Mb).length ≤ 1000000 ∧ ([] : List It).length ≤ 1000000
    refine ⟨?_, ?_, Nat.zero_le _, Nat.zero_le _⟩
    · unfold mayA
      rw [decide_eq_false (show ¬ ((1 + x.a % 16 : Nat) : Int) = 0 by omega)]
      show (wi ((1 + x.a % 16 : Nat) : Int) 0 16 && sameA _ _) = true
      rw [wi_of (show (0 : Int) ≤ ((1 + x.a % 16 : Nat) : Int) ∧ ((1 + x.a % 16 : Nat) : Int) ≤ 16 by omega), sameA_eq, decide_eq_true rfl]
      rfl
    · show ((hdA id ⟨((1 + x.a % 16 : Nat) : Int), ⟨0, 0, { data := #[] }, [], { data := #[] }⟩, ⟨0, 0, { data := #[] }, { data := #[] }, 0, { data := #[] }, { data := #[] }, 0, { data := #[] }⟩, [], { data := #[] }, 0⟩ ++ layT [{ data := #[] }] 1) ++ nbT 1 _).size ≤ 16384
      have h2 := lay2_sz { data := #[] } { data := #[] }
      have h3 := lay1_sz { data := #[] }
      have h6 : (hdA id ⟨((1 + x.a % 16 : Nat) : Int), ⟨0, 0, { data := #[] }, [], { data := #[] }⟩, ⟨0, 0, { data := #[] }, { data := #[] }, 0, { data := #[] }, { data := #[] }, 0, { data := #[] }⟩, [], { data := #[] }, 0⟩).size = 8 + 1 + (layT [{ data := #[] }, { data := #[] }] 2).size + 1 := by
        unfold hdA
        rw [show lbA ⟨0, 0, { data := #[] }, [], { data := #[] }⟩ = { data := #[] } from by kernel_rfl, show (encA ⟨0, 0, { data := #[] }, { data := #[] }, 0, { data := #[] }, { data := #[] }, 0, { data := #[] }⟩).1 = { data := #[] } from by kernel_rfl]
        simp only [ByteArray.size_append, n1, n8]
      have h7 : ({ data := #[] } : ByteArray).size = 0 := rfl
      rw [ByteArray.size_append, ByteArray.size_append, n1]
      omega
def wkC : Ca := ⟨6, 0, 0, ⟨0, 0, { data := #[] }, [], { data := #[] }⟩, ⟨0, 0, { data := #[] }, { data := #[] }, 0, { data := #[] }, { data := #[] }, 0, { data := #[] }⟩, [], 0, 0, 3, { data := #[] }, 0, { data := #[] }⟩
theorem wk_enc : encC 7 ⟨6, 0, 0, ⟨0, 0, { data := #[] }, [], { data := #[] }⟩, ⟨0, 0, { data := #[] }, { data := #[] }, 0, { data := #[] }, { data := #[] }, 0, { data := #[] }⟩, [], 0, 0, 3, { data := #[] }, 0, { data := #[] }⟩ = ({ data := #[0, 0, 0, 0, 0, 0, 0, 7, 6, 0, 0, 0, 0, 0, 0, 0, 3] }, 0) := by kernel_rfl
theorem wk_dec : decC { data := #[0, 0, 0, 0, 0, 0, 0, 7, 6, 0, 0, 0, 0, 0, 0, 0, 3] } = (7, ⟨6, 0, 0, ⟨0, 0, { data := #[] }, [], { data := #[] }⟩, ⟨0, 0, { data := #[] }, { data := #[] }, 0, { data := #[] }, { data := #[] }, 0, { data := #[] }⟩, [], 0, 0, 3, { data := #[] }, 0, { data := #[] }⟩, 0) := by kernel_rfl
theorem dc_E {w : World} {s : ByteArray} {id e9 : Nat} {c : Ca} (h : decC s = (id, c, e9)) (hs : s.size ≤ 140737488351232) :
    Calls Try.prog 18 #[.string s] w fun e w' => ∃ sv so L1 L2, e = .returned (.tuple #[iN .u64 id, .agg (caC c sv so), iN .i64 e9]) ∧ Row 67 3 sv c.li.ds.length (mcl c.li.ds) L1 ∧ Row 9 1 so c.on.length (scl c.on) L2 ∧ HA (bs w) (L1 ++ (L2 ++ [])) w' := by
  have h2 := dc_any s hs (w := w)
  rw [h] at h2
  exact h2
theorem da_E {w : World} {s : ByteArray} {id e9 : Nat} {a : An} (h : decN s = (id, a, e9)) (hs : s.size ≤ 140737488351232) :
    Calls Try.prog 26 #[.string s] w fun e w' => ∃ sv si L1 L2, e = .returned (.tuple #[iN .u64 id, .agg (anC a sv si), iN .i64 e9]) ∧ Row 67 3 sv a.li.ds.length (mcl a.li.ds) L1 ∧ Row 62 4 si a.its.length (icl a.its) L2 ∧ HA (bs w) (L2 ++ (L1 ++ [])) w' := by
  have h2 := da_any s hs (w := w)
  rw [h] at h2
  exact h2
set_option linter.unusedVariables false in
set_option maxRecDepth 100000 in
set_option maxHeartbeats 2000000 in
theorem works_any {w : World} :
    Calls Try.prog 20 #[] w fun e w' => e = .returned (.bool true) ∧ Below w.heap.size w w' := by
  have H0 := HA.start w
  go_enter Try.func20, Try.ntmps20
  refine wp_seq (wl_region ?_)
  refine zv (.bool false) ?_
  refine wl_nil (then_at rfl (wp_seq (wl_region ?_)))
  refine zv (.agg #[iN .i64 6, iN .i64 0, iN .i64 0, iN .i64 0, iN .i64 0, .string ({ data := #[] }), .slice none 0 0, .string ({ data := #[] }), iN .i64 0, iN .i64 0, .string ({ data := #[] }), .string ({ data := #[] }), iN .i64 0, .string ({ data := #[] }), .string ({ data := #[] }), iN .i64 0, .string ({ data := #[] }), .slice none 0 0, iN .i64 0, iN .u64 0, iN .u64 3, .string ({ data := #[] }), iN .i64 0, .string ({ data := #[] })]) ?_
  refine wl_call (v := .tuple #[.string ({ data := #[0, 0, 0, 0, 0, 0, 0, 7, 6, 0, 0, 0, 0, 0, 0, 0, 3] }), iN .i64 0]) H0 ky enter8 #[iN .u64 7, .agg #[iN .i64 6, iN .i64 0, iN .i64 0, iN .i64 0, iN .i64 0, .string ({ data := #[] }), .slice none 0 0, .string ({ data := #[] }), iN .i64 0, iN .i64 0, .string ({ data := #[] }), .string ({ data := #[] }), iN .i64 0, .string ({ data := #[] }), .string ({ data := #[] }), iN .i64 0, .string ({ data := #[] }), .slice none 0 0, iN .i64 0, iN .u64 0, iN .u64 3, .string ({ data := #[] }), iN .i64 0, .string ({ data := #[] })]] ky (ec_E ⟨6, 0, 0, ⟨0, 0, { data := #[] }, [], { data := #[] }⟩, ⟨0, 0, { data := #[] }, { data := #[] }, 0, { data := #[] }, { data := #[] }, 0, { data := #[] }⟩, [], 0, 0, 3, { data := #[] }, 0, { data := #[] }⟩ (At.nil _) (At.nil _) (Nat.zero_le 1000000) (Nat.zero_le 1000000) wk_enc) ?_
  intro w1 h2
  refine zv (.tuple #[.string ({ data := #[0, 0, 0, 0, 0, 0, 0, 7, 6, 0, 0, 0, 0, 0, 0, 0, 3] }), iN .i64 0]) ?_
  refine zv (.string ({ data := #[0, 0, 0, 0, 0, 0, 0, 7, 6, 0, 0, 0, 0, 0, 0, 0, 3] })) ?_
  refine zv (iN .i64 0) ?_
  refine zv (.string ({ data := #[0, 0, 0, 0, 0, 0, 0, 7, 6, 0, 0, 0, 0, 0, 0, 0, 3] })) ?_
  refine zv (iN .i64 0) ?_
  refine wl_nil (then_at rfl (wp_seq (wl_region ?_)))
  refine zv (.string ({ data := #[0, 0, 0, 0, 0, 0, 0, 7, 6, 0, 0, 0, 0, 0, 0, 0, 3] })) ?_
  refine wl_callx ky enter18 #[.string ({ data := #[0, 0, 0, 0, 0, 0, 0, 7, 6, 0, 0, 0, 0, 0, 0, 0, 3] })] ky (dc_E wk_dec (by decide)) ?_
  rintro _ w10 ⟨sv3, so4, La5, Lb6, rfl, hRa7, hRb8, h9⟩
  refine ⟨_, rfl, ?_⟩
  have h11 : HA (bs w) ((La5 ++ (Lb6 ++ [])) ++ []) w10 := (show HA (bs w) ((La5 ++ (Lb6 ++ [])) ++ []) w10 from HA.join h2 h9).perm (perm_nil (La5 ++ (Lb6 ++ [])) [])
  obtain ⟨po12, pc13, hvpo12⟩ := hRa7.form
  subst hvpo12
  obtain ⟨po14, pc15, hvpo14⟩ := hRb8.form
  subst hvpo14
  refine zv (.tuple #[iN .u64 7, .agg (caC wkC (.slice po12 ([] : List Mb).length pc13) (.slice po14 ([] : List ByteArray).length pc15)), iN .i64 0]) ?_
  refine zv (iN .u64 7) ?_
  refine zv (.agg (caC wkC (.slice po12 ([] : List Mb).length pc13) (.slice po14 ([] : List ByteArray).length pc15))) ?_
  refine zv (iN .i64 0) ?_
  refine wl_make (c := #[iN .i64 0, iN .i64 0, iN .i64 0, iN .i64 0, iN .i64 0, .string ({ data := #[] }), .slice none 0 0, .string ({ data := #[] }), iN .i64 0, iN .i64 0, .string ({ data := #[] }), .string ({ data := #[] }), iN .i64 0, .string ({ data := #[] }), .string ({ data := #[] }), iN .i64 0, .string ({ data := #[] }), .slice none 0 0, iN .i64 0, iN .u64 0, iN .u64 0, .string ({ data := #[] }), iN .i64 0, .string ({ data := #[] })]) h11 30 ky ky ?_
  intro q16 w17 (h18 : HA (bs w) ((q16, 30, #[iN .i64 0, iN .i64 0, iN .i64 0, iN .i64 0, iN .i64 0, .string ({ data := #[] }), .slice none 0 0, .string ({ data := #[] }), iN .i64 0, iN .i64 0, .string ({ data := #[] }), .string ({ data := #[] }), iN .i64 0, .string ({ data := #[] }), .string ({ data := #[] }), iN .i64 0, .string ({ data := #[] }), .slice none 0 0, iN .i64 0, iN .u64 0, iN .u64 0, .string ({ data := #[] }), iN .i64 0, .string ({ data := #[] })]) :: ((La5 ++ (Lb6 ++ [])) ++ [])) w17)
  refine zv (iN .u64 7) ?_
  refine wl_fill (c' := caC wkC (.slice po12 ([] : List Mb).length pc13) (.slice po14 ([] : List ByteArray).length pc15)) h18 0 rfl ky ky ky rfl ky ky ?_
  intro w19 (h20 : HA (bs w) ((q16, 30, caC wkC (.slice po12 ([] : List Mb).length pc13) (.slice po14 ([] : List ByteArray).length pc15)) :: ((La5 ++ (Lb6 ++ [])) ++ [])) w19)
  refine zv (iN .i64 0) ?_
  refine wl_nil (then_at rfl (wp_seq (wl_region ?_)))
  refine zv (iN .i64 0) ?_
  refine zu (.bool true) (run_eqi (k := .i64) (a := 0) (b := 0) ky ky true (by decide)) ?_
  refine zv (.bool true) ?_
  refine zv (.string ({ data := #[0, 0, 0, 0, 0, 0, 0, 7, 6, 0, 0, 0, 0, 0, 0, 0, 3] })) ?_
  refine zu (.bool true) (run_eqs (s := { data := #[0, 0, 0, 0, 0, 0, 0, 7, 6, 0, 0, 0, 0, 0, 0, 0, 3] }) (t := { data := #[0, 0, 0, 0, 0, 0, 0, 7, 6, 0, 0, 0, 0, 0, 0, 0, 3] }) ky ky true (decide_eq_true rfl)) ?_
  refine zv (.bool true) ?_
  refine zv (.bool true) ?_
  refine zv (iN .i64 0) ?_
  refine zu (.bool true) (run_eqi (k := .i64) (a := 0) (b := 0) ky ky true (by decide)) ?_
  refine zv (.bool true) ?_
  refine zv (.bool true) ?_
  refine zv (iN .u64 7) ?_
  refine zu (.bool true) (run_eqi (k := .u64) (a := 7) (b := 7) ky ky true (by decide)) ?_
  refine zv (.bool true) ?_
  refine zv (.bool true) ?_
  refine zv (.pointer (some ⟨q16, 0, none⟩)) ?_
  refine zu (iN .i64 6) (run_load1 (fun w => Try.isAgg3 w) ky (((h20.get 0 rfl).cell 0).trans rfl)) ?_
  refine zu (.bool true) (run_eqi (k := .i64) (a := 6) (b := 6) ky ky true (by decide)) ?_
  refine zv (.bool true) ?_
  refine zv (.bool true) ?_
  refine zv (.pointer (some ⟨q16, 20, none⟩)) ?_
  refine zu (iN .u64 3) (run_load1 (fun w => Try.isAgg22 w) ky (((h20.get 0 rfl).cell 20).trans rfl)) ?_
  refine zu (.bool true) (run_eqi (k := .u64) (a := 3) (b := 3) ky ky true (by decide)) ?_
  refine zv (.bool true) ?_
  refine zv (.bool true) ?_
  refine wl_nil (then_at rfl ?_)
  refine wp_ret ?_
  repeat first | refine then_ret ?_ | refine block_ret ?_
  exact bodyPost_ret (v := .bool true) ky rfl ⟨rfl, h20.old.old⟩
end Go.Proofs.Ytmidladenidngaa
