/-
  The law's makers: full, bundle, list, call.
-/
import Derived.Test.YtmidladenidngaaC9
set_option linter.unusedVariables false
namespace Go.Proofs.Ytmidladenidngaa
open Go.RowKit

/-- a spot -/
structure Sp where
  k : Nat
  a : Nat
  b : Nat
  n : Nat
  s : ByteArray
def spC (x : Sp) : Array Value := #[iN .u8 x.k, iN .u8 x.a, iN .u8 x.b, iN .u64 x.n, .string x.s]
structure OkS (x : Sp) : Prop where
  k : x.k < 256
  a : x.a < 256
  b : x.b < 256
  n : x.n < 18446744073709551616
  s : x.s.size ≤ 140737488351232
def fullT (s : ByteArray) (m : Nat) : ByteArray := s.extract 0 (min s.size (m - 1)) ++ { data := #[46] }
theorem ext_size {s : ByteArray} {n : Nat} (h : n ≤ s.size) : (s.extract 0 n).size = n := by
  rw [ByteArray.size_extract]
  omega
theorem fullT_size (s : ByteArray) {m : Nat} (hm : 1 ≤ m) : 1 ≤ (fullT s m).size ∧ (fullT s m).size ≤ m := by
  have h : ({ data := #[46] } : ByteArray).size = 1 := rfl
  unfold fullT
  rw [ByteArray.size_append, ext_size (Nat.min_le_left _ _), h]
  omega
def bunF (x : Sp) : Bu := bif decide (x.k % 2 = 1) then ⟨((x.a % 3 : Nat) : Int), ((x.b % 2 : Nat) : Int), { data := #[105] }, fullT x.s 99, ((1 + x.b : Nat) : Int), { data := #[112] }, { data := #[113] }, ((1 + x.a : Nat) : Int), { data := #[111] }⟩ else ⟨((x.a % 3 : Nat) : Int), ((x.b % 2 : Nat) : Int), { data := #[105] }, fullT x.s 99, ((1 + x.b : Nat) : Int), { data := #[112] }, { data := #[113] }, 0, { data := #[] }⟩
def memT (x : Sp) (i : Nat) : Mb := ⟨((i : Nat) : Int), { data := #[97] } ++ x.s.extract 0 (min x.s.size 99), { data := #[98] }⟩
def dsK (x : Sp) : Nat → List Mb
  | 0 => []
  | i + 1 => bif decide (x.b / 2 ^ i &&& 1 = 1) then dsK x i ++ [memT x i] else dsK x i
theorem dsK_t {x : Sp} {i : Nat} (h : decide (x.b / 2 ^ i &&& 1 = 1) = true) : dsK x (i + 1) = dsK x i ++ [memT x i] := by rw [dsK, h]; rfl
theorem dsK_f {x : Sp} {i : Nat} (h : decide (x.b / 2 ^ i &&& 1 = 1) = false) : dsK x (i + 1) = dsK x i := by rw [dsK, h]; rfl
theorem dsK_len (x : Sp) : ∀ i, (dsK x i).length ≤ i
  | 0 => Nat.le_refl _
  | i + 1 => by
    have h1 := dsK_len x i
    rcases h : decide (x.b / 2 ^ i &&& 1 = 1) with _ | _
    · rw [dsK_f h]; omega
    · rw [dsK_t h, List.length_append, List.length_singleton]; omega
def lisF (x : Sp) : Li := ⟨((x.a % 3 : Nat) : Int), ((1 + x.b : Nat) : Int), fullT x.s 99, dsK x 2, { data := #[115] }⟩
set_option maxRecDepth 100000 in
set_option maxHeartbeats 2000000 in
theorem full_any {w : World} (s : ByteArray) (m : Nat) (hs : s.size ≤ 140737488351232) (hm : 1 ≤ m) (hm2 : m ≤ 1000000) :
    Calls Try.prog 31 #[.string s, iN .i64 m] w fun e w' => e = .returned (.string (fullT s m)) ∧ Below w.heap.size w w' := by
  have H0 := HA.start w
  go_enter Try.func31, Try.ntmps31
  refine wp_seq (wl_region ?_)
  refine zv (.string ({ data := #[] })) ?_
  refine wl_nil (then_at rfl (wp_seq (wl_region ?_)))
  refine zv (.string s) ?_
  refine zv (.string s) ?_
  refine zu (iN .i64 s.size) (run_len (s := s) ky) ?_
  refine zv (iN .i64 m) ?_
  refine zu (iN .i64 (m - 1)) (run_sub (k := .i64) (a := m) (b := 1) ky ky (by first | omega | (simp only [top]; omega) | (have := Nat.div_le_self x.b (2 ^ i); omega)) (by first | omega | (simp only [top]; omega) | (have := Nat.div_le_self x.b (2 ^ i); omega))) ?_
  refine zu (iN .i64 (min s.size (m - 1))) (run_min (i := s.size) (j := m - 1) ky ky) ?_
  refine zu (.string (s.extract 0 (min s.size (m - 1)))) (run_cut_hi (s := s) (b := min s.size (m - 1)) ky ky (by omega)) ?_
  refine zu (.string (s.extract 0 (min s.size (m - 1)) ++ { data := #[46] })) (run_cat (s := s.extract 0 (min s.size (m - 1))) (t := { data := #[46] }) ky ky (by have h := ext_size (s := s) (n := min s.size (m - 1)) (Nat.min_le_left _ _); have h2 : ({ data := #[46] } : ByteArray).size = 1 := rfl; omega)) ?_
  refine zv (.string (s.extract 0 (min s.size (m - 1)) ++ { data := #[46] })) ?_
  refine wl_nil (then_at rfl ?_)
  refine wp_ret ?_
  repeat first | refine then_ret ?_ | refine block_ret ?_
  exact bodyPost_ret (v := .string (fullT s m)) ky rfl ⟨rfl, H0.old.old⟩
set_option maxRecDepth 100000 in
set_option maxHeartbeats 2000000 in
theorem bun_any {w : World} (x : Sp) (hx : OkS x) :
    Calls Try.prog 30 #[.agg (spC x)] w fun e w' => e = .returned (.agg (buC (bunF x))) ∧ Below w.heap.size w w' := by
  have H0 := HA.start w
  have hxk := hx.k
  have hxa := hx.a
  have hxb := hx.b
  have hxn := hx.n
  have hxs := hx.s
  go_enter Try.func30, Try.ntmps30
  refine wp_seq (wl_region ?_)
  refine wl_make (c := spC x) H0 56 ky ky ?_
  intro q1 w2 (h3 : HA (bs w) [(q1, 56, spC x)] w2)
  refine wl_make (c := #[iN .i64 0, iN .i64 0, .string ({ data := #[] }), .string ({ data := #[] }), iN .i64 0, .string ({ data := #[] }), .string ({ data := #[] }), iN .i64 0, .string ({ data := #[] })]) h3 27 ky ky ?_
  intro q4 w5 (h6 : HA (bs w) [(q4, 27, #[iN .i64 0, iN .i64 0, .string ({ data := #[] }), .string ({ data := #[] }), iN .i64 0, .string ({ data := #[] }), .string ({ data := #[] }), iN .i64 0, .string ({ data := #[] })]), (q1, 56, spC x)] w5)
  refine wl_nil (then_at rfl (wp_seq ?_))
  refine wp_region_wx (HA (bs w) [(q4, 27, #[iN .i64 0, iN .i64 0, .string ({ data := #[] }), .string ({ data := #[] }), iN .i64 0, .string ({ data := #[] }), .string ({ data := #[] }), iN .i64 0, .string ({ data := #[] })]), (q1, 56, spC x)]) (fun AQ w' => ∃ (q10 : Nat), AQ = ⟨(.agg (spC x) :: pt q1 :: pt q4 :: pt q10 :: .pointer (some ⟨q1, 1, none⟩) :: iN .u8 x.a :: iN .u8 (x.a % 3) :: iN .i64 (x.a % 3) :: .pointer (some ⟨q1, 2, none⟩) :: iN .u8 x.b :: iN .u8 (x.b % 2) :: iN .i64 (x.b % 2) :: .pointer (some ⟨q1, 4, none⟩) :: .string x.s :: .string (fullT x.s 99) :: .pointer (some ⟨q1, 2, none⟩) :: iN .u8 x.b :: iN .i64 x.b :: iN .i64 (1 + x.b) :: .agg #[iN .i64 (x.a % 3), iN .i64 (x.b % 2), .string ({ data := #[105] }), .string (fullT x.s 99), iN .i64 (1 + x.b), .string ({ data := #[112] }), .string ({ data := #[113] }), iN .i64 0, .string ({ data := #[] })] :: List.replicate 11 un).toArray, []⟩ ∧ HA (bs w) [(q10, 27, #[iN .i64 (x.a % 3), iN .i64 (x.b % 2), .string ({ data := #[105] }), .string (fullT x.s 99), iN .i64 (1 + x.b), .string ({ data := #[112] }), .string ({ data := #[113] }), iN .i64 0, .string ({ data := #[] })]), (q4, 27, #[iN .i64 0, iN .i64 0, .string ({ data := #[] }), .string ({ data := #[] }), iN .i64 0, .string ({ data := #[] }), .string ({ data := #[] }), iN .i64 0, .string ({ data := #[] })]), (q1, 56, spC x)] w') 18 ky ky ky ky ky (h6.drew) ?_ ?_
  · have h7 := h6.drew
    refine zp 0 (.pointer (some ⟨q1, 1, none⟩)) ?_
    refine wx_val (i := 1) (iN .u8 x.a) rfl rfl ky ky (fun w' h' => run_load1 (fun w => Try.isAgg5 w) ky (((h'.get 1 rfl).cell 1).trans rfl)) ?_
    refine wx_pure (i := 2) (iN .u8 (x.a % 3)) rfl rfl ky ky (fun _ => (run_rem (k := .u8) (a := x.a) (b := 3) ky ky (by omega))) ?_
    refine wx_pure (i := 3) (iN .i64 (x.a % 3)) rfl rfl ky ky (fun _ => (run_conv .i64 Try.underlying5 Try.underlying3 ky (by first | omega | (simp only [top]; omega) | (have := Nat.div_le_self x.b (2 ^ i); omega)))) ?_
    refine zp 4 (.pointer (some ⟨q1, 2, none⟩)) ?_
    refine wx_val (i := 5) (iN .u8 x.b) rfl rfl ky ky (fun w' h' => run_load1 (fun w => Try.isAgg5 w) ky (((h'.get 1 rfl).cell 2).trans rfl)) ?_
    refine wx_pure (i := 6) (iN .u8 (x.b % 2)) rfl rfl ky ky (fun _ => (run_rem (k := .u8) (a := x.b) (b := 2) ky ky (by omega))) ?_
    refine wx_pure (i := 7) (iN .i64 (x.b % 2)) rfl rfl ky ky (fun _ => (run_conv .i64 Try.underlying5 Try.underlying3 ky (by first | omega | (simp only [top]; omega) | (have := Nat.div_le_self x.b (2 ^ i); omega)))) ?_
    refine zp 8 (.pointer (some ⟨q1, 4, none⟩)) ?_
    refine wx_val (i := 9) (.string x.s) rfl rfl ky ky (fun w' h' => run_load1 (fun w => Try.isAgg9 w) ky (((h'.get 1 rfl).cell 4).trans rfl)) ?_
    refine wx_call (i := 10) (.string (fullT x.s 99)) (fun _ _ h hb => HA.keep _ _ h hb) rfl rfl ky ky enter31 #[.string x.s, iN .i64 99] ky (fun w' h' => full_any x.s 99 hx.s (by decide) (by decide)) ?_
    refine zp 11 (.pointer (some ⟨q1, 2, none⟩)) ?_
    refine wx_val (i := 12) (iN .u8 x.b) rfl rfl ky ky (fun w' h' => run_load1 (fun w => Try.isAgg5 w) ky (((h'.get 1 rfl).cell 2).trans rfl)) ?_
    refine wx_pure (i := 13) (iN .i64 x.b) rfl rfl ky ky (fun _ => (run_conv .i64 Try.underlying5 Try.underlying3 ky (by first | omega | (simp only [top]; omega) | (have := Nat.div_le_self x.b (2 ^ i); omega)))) ?_
    refine wx_pure (i := 14) (iN .i64 (1 + x.b)) rfl rfl ky ky (fun _ => (run_add (k := .i64) (a := 1) (b := x.b) ky ky (by first | omega | (simp only [top]; omega) | (have := Nat.div_le_self x.b (2 ^ i); omega)))) ?_
    refine zp 15 (.agg #[iN .i64 (x.a % 3), iN .i64 (x.b % 2), .string ({ data := #[105] }), .string (fullT x.s 99), iN .i64 (1 + x.b), .string ({ data := #[112] }), .string ({ data := #[113] }), iN .i64 0, .string ({ data := #[] })]) ?_
    refine wx_one 16 ky ?_
    refine ex_makeT (c := #[iN .i64 0, iN .i64 0, .string ({ data := #[] }), .string ({ data := #[] }), iN .i64 0, .string ({ data := #[] }), .string ({ data := #[] }), iN .i64 0, .string ({ data := #[] })]) rfl ky h7 27 (fun q => .pointer (some ⟨q, 0, none⟩)) (fun _ => ky) ?_
    intro q10 w8 (h9 : HA (bs w) [(q10, 27, #[iN .i64 0, iN .i64 0, .string ({ data := #[] }), .string ({ data := #[] }), iN .i64 0, .string ({ data := #[] }), .string ({ data := #[] }), iN .i64 0, .string ({ data := #[] })]), (q4, 27, #[iN .i64 0, iN .i64 0, .string ({ data := #[] }), .string ({ data := #[] }), iN .i64 0, .string ({ data := #[] }), .string ({ data := #[] }), iN .i64 0, .string ({ data := #[] })]), (q1, 56, spC x)] w8)
    refine ⟨_, .inr rfl, (HA.sub h9 (List.Sublist.cons _ (List.Sublist.cons_cons _ (List.Sublist.cons_cons _ (List.Sublist.refl _))))), ?_⟩
    refine wx_one 17 ky ?_
    refine ex_puts (d := #[iN .i64 (x.a % 3), iN .i64 (x.b % 2), .string ({ data := #[105] }), .string (fullT x.s 99), iN .i64 (1 + x.b), .string ({ data := #[112] }), .string ({ data := #[113] }), iN .i64 0, .string ({ data := #[] })]) (c' := #[iN .i64 (x.a % 3), iN .i64 (x.b % 2), .string ({ data := #[105] }), .string (fullT x.s 99), iN .i64 (1 + x.b), .string ({ data := #[112] }), .string ({ data := #[113] }), iN .i64 0, .string ({ data := #[] })]) (off := 0) rfl ky h9 0 rfl ky ky ky ky ky ky ?_
    intro w14 (h13 : HA (bs w) [(q10, 27, #[iN .i64 (x.a % 3), iN .i64 (x.b % 2), .string ({ data := #[105] }), .string (fullT x.s 99), iN .i64 (1 + x.b), .string ({ data := #[112] }), .string ({ data := #[113] }), iN .i64 0, .string ({ data := #[] })]), (q4, 27, #[iN .i64 0, iN .i64 0, .string ({ data := #[] }), .string ({ data := #[] }), iN .i64 0, .string ({ data := #[] }), .string ({ data := #[] }), iN .i64 0, .string ({ data := #[] })]), (q1, 56, spC x)] w14)
    refine ⟨_, .inl ky, h13, ?_⟩
    refine wx_end fun w15 hbx _ => ?_
    have h16 := HA.keep _ _ h13 hbx
    exact ⟨q10, by kernel_rfl, h16⟩
  · rintro _ w17 ⟨q10, rfl, h18⟩
    refine then_at rfl (wp_seq (wp_seq (wl_region ?_)))
    refine zv (.pointer (some ⟨q1, 0, none⟩)) ?_
    refine zu (iN .u8 x.k) (run_load1 (fun w => Try.isAgg5 w) ky (((h18.get 2 rfl).cell 0).trans rfl)) ?_
    refine zu (iN .u8 (x.k % 2)) (run_rem (k := .u8) (a := x.k) (b := 2) ky ky (by omega)) ?_
    rcases q19 : decide (x.k % 2 = 1) with _ | _
    · refine zu (.bool false) (run_eqi (k := .u8) (a := x.k % 2) (b := 1) ky ky false q19) ?_
      refine wl_nil (then_at rfl ?_)
      refine wp_cond_false ky ?_
      refine wp_skip (then_at rfl (wp_seq (wl_region ?_)))
      refine wl_load h18 0 rfl ky ky Try.underlying27 rfl ky ?_
      refine wl_fill (c' := #[iN .i64 (x.a % 3), iN .i64 (x.b % 2), .string ({ data := #[105] }), .string (fullT x.s 99), iN .i64 (1 + x.b), .string ({ data := #[112] }), .string ({ data := #[113] }), iN .i64 0, .string ({ data := #[] })]) h18 1 rfl ky ky ky rfl ky ky ?_
      intro w20 (h21 : HA (bs w) [(q10, 27, #[iN .i64 (x.a % 3), iN .i64 (x.b % 2), .string ({ data := #[105] }), .string (fullT x.s 99), iN .i64 (1 + x.b), .string ({ data := #[112] }), .string ({ data := #[113] }), iN .i64 0, .string ({ data := #[] })]), (q4, 27, #[iN .i64 (x.a % 3), iN .i64 (x.b % 2), .string ({ data := #[105] }), .string (fullT x.s 99), iN .i64 (1 + x.b), .string ({ data := #[112] }), .string ({ data := #[113] }), iN .i64 0, .string ({ data := #[] })]), (q1, 56, spC x)] w20)
      refine wl_nil (then_at rfl ?_)
      refine wp_ret ?_
      repeat first | refine then_ret ?_ | refine block_ret ?_
      exact bodyPost_ret (v := .agg (buC ⟨((x.a % 3 : Nat) : Int), ((x.b % 2 : Nat) : Int), { data := #[105] }, fullT x.s 99, ((1 + x.b : Nat) : Int), { data := #[112] }, { data := #[113] }, 0, { data := #[] }⟩)) (res_cell (p := 2) ky ky (h21.get 1 rfl) Try.underlying27 rfl ky) rfl ⟨by rw [show bunF x = ⟨((x.a % 3 : Nat) : Int), ((x.b % 2 : Nat) : Int), { data := #[105] }, fullT x.s 99, ((1 + x.b : Nat) : Int), { data := #[112] }, { data := #[113] }, 0, { data := #[] }⟩ from by unfold bunF; rw [q19]; rfl], h21.old.old⟩
    refine zu (.bool true) (run_eqi (k := .u8) (a := x.k % 2) (b := 1) ky ky true q19) ?_
    refine wl_nil (then_at rfl ?_)
    refine wp_cond_true ky ?_
    refine wp_seq (wl_region ?_)
    refine zv (.pointer (some ⟨q1, 1, none⟩)) ?_
    refine zu (iN .u8 x.a) (run_load1 (fun w => Try.isAgg5 w) ky (((h18.get 2 rfl).cell 1).trans rfl)) ?_
    refine zu (iN .i64 x.a) (run_conv .i64 Try.underlying5 Try.underlying3 ky (by first | omega | (simp only [top]; omega) | (have := Nat.div_le_self x.b (2 ^ i); omega))) ?_
    refine zu (iN .i64 (1 + x.a)) (run_add (k := .i64) (a := 1) (b := x.a) ky ky (by first | omega | (simp only [top]; omega) | (have := Nat.div_le_self x.b (2 ^ i); omega))) ?_
    refine zv (.pointer (some ⟨q10, 7, none⟩)) ?_
    refine wl_putv (v := iN .i64 (1 + x.a)) h18 0 rfl 7 (by show 7 < 9; decide) ky (fun w => Try.sizeOf3 w) ky ky ky ?_
    intro w22 (h23 : HA (bs w) [(q10, 27, #[iN .i64 (x.a % 3), iN .i64 (x.b % 2), .string ({ data := #[105] }), .string (fullT x.s 99), iN .i64 (1 + x.b), .string ({ data := #[112] }), .string ({ data := #[113] }), iN .i64 (1 + x.a), .string ({ data := #[] })]), (q4, 27, #[iN .i64 0, iN .i64 0, .string ({ data := #[] }), .string ({ data := #[] }), iN .i64 0, .string ({ data := #[] }), .string ({ data := #[] }), iN .i64 0, .string ({ data := #[] })]), (q1, 56, spC x)] w22)
    refine wl_nil (then_at rfl (wl_region ?_))
    refine zv (.pointer (some ⟨q10, 8, none⟩)) ?_
    refine wl_putv (v := .string ({ data := #[111] })) h23 0 rfl 8 (by show 8 < 9; decide) ky (fun w => Try.sizeOf9 w) ky ky ky ?_
    intro w24 (h25 : HA (bs w) [(q10, 27, #[iN .i64 (x.a % 3), iN .i64 (x.b % 2), .string ({ data := #[105] }), .string (fullT x.s 99), iN .i64 (1 + x.b), .string ({ data := #[112] }), .string ({ data := #[113] }), iN .i64 (1 + x.a), .string ({ data := #[111] })]), (q4, 27, #[iN .i64 0, iN .i64 0, .string ({ data := #[] }), .string ({ data := #[] }), iN .i64 0, .string ({ data := #[] }), .string ({ data := #[] }), iN .i64 0, .string ({ data := #[] })]), (q1, 56, spC x)] w24)
    refine wl_nil (then_at rfl (wp_seq (wl_region ?_)))
    refine wl_load h25 0 rfl ky ky Try.underlying27 rfl ky ?_
    refine wl_fill (c' := #[iN .i64 (x.a % 3), iN .i64 (x.b % 2), .string ({ data := #[105] }), .string (fullT x.s 99), iN .i64 (1 + x.b), .string ({ data := #[112] }), .string ({ data := #[113] }), iN .i64 (1 + x.a), .string ({ data := #[111] })]) h25 1 rfl ky ky ky rfl ky ky ?_
    intro w26 (h27 : HA (bs w) [(q10, 27, #[iN .i64 (x.a % 3), iN .i64 (x.b % 2), .string ({ data := #[105] }), .string (fullT x.s 99), iN .i64 (1 + x.b), .string ({ data := #[112] }), .string ({ data := #[113] }), iN .i64 (1 + x.a), .string ({ data := #[111] })]), (q4, 27, #[iN .i64 (x.a % 3), iN .i64 (x.b % 2), .string ({ data := #[105] }), .string (fullT x.s 99), iN .i64 (1 + x.b), .string ({ data := #[112] }), .string ({ data := #[113] }), iN .i64 (1 + x.a), .string ({ data := #[111] })]), (q1, 56, spC x)] w26)
    refine wl_nil (then_at rfl ?_)
    refine wp_ret ?_
    repeat first | refine then_ret ?_ | refine block_ret ?_
    exact bodyPost_ret (v := .agg (buC ⟨((x.a % 3 : Nat) : Int), ((x.b % 2 : Nat) : Int), { data := #[105] }, fullT x.s 99, ((1 + x.b : Nat) : Int), { data := #[112] }, { data := #[113] }, ((1 + x.a : Nat) : Int), { data := #[111] }⟩)) (res_cell (p := 2) ky ky (h27.get 1 rfl) Try.underlying27 rfl ky) rfl ⟨by rw [show bunF x = ⟨((x.a % 3 : Nat) : Int), ((x.b % 2 : Nat) : Int), { data := #[105] }, fullT x.s 99, ((1 + x.b : Nat) : Int), { data := #[112] }, { data := #[113] }, ((1 + x.a : Nat) : Int), { data := #[111] }⟩ from by unfold bunF; rw [q19]; rfl], h27.old.old⟩
set_option maxRecDepth 100000 in
set_option maxHeartbeats 4000000 in
theorem lisF_any {w : World} (x : Sp) (hx : OkS x) :
    Calls Try.prog 29 #[.agg (spC x)] w fun e w' => ∃ sv Lr, e = .returned (.agg (liC (lisF x) sv)) ∧ Row 67 3 sv (lisF x).ds.length (mcl (lisF x).ds) Lr ∧ HA (bs w) Lr w' := by
  have H0 := HA.start w
  have hxk := hx.k
  have hxa := hx.a
  have hxb := hx.b
  have hxn := hx.n
  have hxs := hx.s
  go_enter Try.func29, Try.ntmps29
  refine wp_seq (wl_region ?_)
  refine wl_make (c := spC x) H0 56 ky ky ?_
  intro q1 w2 (h3 : HA (bs w) [(q1, 56, spC x)] w2)
  refine wl_make (c := #[iN .i64 0, iN .i64 0, .string ({ data := #[] }), .slice none 0 0, .string ({ data := #[] })]) h3 25 ky ky ?_
  intro q4 w5 (h6 : HA (bs w) [(q4, 25, #[iN .i64 0, iN .i64 0, .string ({ data := #[] }), .slice none 0 0, .string ({ data := #[] })]), (q1, 56, spC x)] w5)
  refine wl_nil (then_at rfl (wp_seq ?_))
  refine wp_region_wx (HA (bs w) [(q4, 25, #[iN .i64 0, iN .i64 0, .string ({ data := #[] }), .slice none 0 0, .string ({ data := #[] })]), (q1, 56, spC x)]) (fun AQ w' => ∃ (q10 : Nat), AQ = ⟨(.agg (spC x) :: pt q1 :: pt q4 :: pt q10 :: un :: .pointer (some ⟨q1, 1, none⟩) :: iN .u8 x.a :: iN .u8 (x.a % 3) :: iN .i64 (x.a % 3) :: .pointer (some ⟨q1, 2, none⟩) :: iN .u8 x.b :: iN .i64 x.b :: iN .i64 (1 + x.b) :: .pointer (some ⟨q1, 4, none⟩) :: .string x.s :: .string (fullT x.s 99) :: .agg #[iN .i64 (x.a % 3), iN .i64 (1 + x.b), .string (fullT x.s 99), .slice none 0 0, .string ({ data := #[115] })] :: List.replicate 26 un).toArray, []⟩ ∧ HA (bs w) [(q10, 25, #[iN .i64 (x.a % 3), iN .i64 (1 + x.b), .string (fullT x.s 99), .slice none 0 0, .string ({ data := #[115] })]), (q4, 25, #[iN .i64 0, iN .i64 0, .string ({ data := #[] }), .slice none 0 0, .string ({ data := #[] })]), (q1, 56, spC x)] w') 14 ky ky ky ky ky (h6.drew) ?_ ?_
  · have h7 := h6.drew
    refine zp 0 (.pointer (some ⟨q1, 1, none⟩)) ?_
    refine wx_val (i := 1) (iN .u8 x.a) rfl rfl ky ky (fun w' h' => run_load1 (fun w => Try.isAgg5 w) ky (((h'.get 1 rfl).cell 1).trans rfl)) ?_
    refine wx_pure (i := 2) (iN .u8 (x.a % 3)) rfl rfl ky ky (fun _ => (run_rem (k := .u8) (a := x.a) (b := 3) ky ky (by omega))) ?_
    refine wx_pure (i := 3) (iN .i64 (x.a % 3)) rfl rfl ky ky (fun _ => (run_conv .i64 Try.underlying5 Try.underlying3 ky (by first | omega | (simp only [top]; omega) | (have := Nat.div_le_self x.b (2 ^ i); omega)))) ?_
    refine zp 4 (.pointer (some ⟨q1, 2, none⟩)) ?_
    refine wx_val (i := 5) (iN .u8 x.b) rfl rfl ky ky (fun w' h' => run_load1 (fun w => Try.isAgg5 w) ky (((h'.get 1 rfl).cell 2).trans rfl)) ?_
    refine wx_pure (i := 6) (iN .i64 x.b) rfl rfl ky ky (fun _ => (run_conv .i64 Try.underlying5 Try.underlying3 ky (by first | omega | (simp only [top]; omega) | (have := Nat.div_le_self x.b (2 ^ i); omega)))) ?_
    refine wx_pure (i := 7) (iN .i64 (1 + x.b)) rfl rfl ky ky (fun _ => (run_add (k := .i64) (a := 1) (b := x.b) ky ky (by first | omega | (simp only [top]; omega) | (have := Nat.div_le_self x.b (2 ^ i); omega)))) ?_
    refine zp 8 (.pointer (some ⟨q1, 4, none⟩)) ?_
    refine wx_val (i := 9) (.string x.s) rfl rfl ky ky (fun w' h' => run_load1 (fun w => Try.isAgg9 w) ky (((h'.get 1 rfl).cell 4).trans rfl)) ?_
    refine wx_call (i := 10) (.string (fullT x.s 99)) (fun _ _ h hb => HA.keep _ _ h hb) rfl rfl ky ky enter31 #[.string x.s, iN .i64 99] ky (fun w' h' => full_any x.s 99 hx.s (by decide) (by decide)) ?_
    refine zp 11 (.agg #[iN .i64 (x.a % 3), iN .i64 (1 + x.b), .string (fullT x.s 99), .slice none 0 0, .string ({ data := #[115] })]) ?_
    refine wx_one 12 ky ?_
    refine ex_makeT (c := #[iN .i64 0, iN .i64 0, .string ({ data := #[] }), .slice none 0 0, .string ({ data := #[] })]) rfl ky h7 25 (fun q => .pointer (some ⟨q, 0, none⟩)) (fun _ => ky) ?_
    intro q10 w8 (h9 : HA (bs w) [(q10, 25, #[iN .i64 0, iN .i64 0, .string ({ data := #[] }), .slice none 0 0, .string ({ data := #[] })]), (q4, 25, #[iN .i64 0, iN .i64 0, .string ({ data := #[] }), .slice none 0 0, .string ({ data := #[] })]), (q1, 56, spC x)] w8)
    refine ⟨_, .inr rfl, (HA.sub h9 (List.Sublist.cons _ (List.Sublist.cons_cons _ (List.Sublist.cons_cons _ (List.Sublist.refl _))))), ?_⟩
    refine wx_one 13 ky ?_
    refine ex_puts (d := #[iN .i64 (x.a % 3), iN .i64 (1 + x.b), .string (fullT x.s 99), .slice none 0 0, .string ({ data := #[115] })]) (c' := #[iN .i64 (x.a % 3), iN .i64 (1 + x.b), .string (fullT x.s 99), .slice none 0 0, .string ({ data := #[115] })]) (off := 0) rfl ky h9 0 rfl ky ky ky ky ky ky ?_
    intro w14 (h13 : HA (bs w) [(q10, 25, #[iN .i64 (x.a % 3), iN .i64 (1 + x.b), .string (fullT x.s 99), .slice none 0 0, .string ({ data := #[115] })]), (q4, 25, #[iN .i64 0, iN .i64 0, .string ({ data := #[] }), .slice none 0 0, .string ({ data := #[] })]), (q1, 56, spC x)] w14)
    refine ⟨_, .inl ky, h13, ?_⟩
    refine wx_end fun w15 hbx _ => ?_
    have h16 := HA.keep _ _ h13 hbx
    exact ⟨q10, by kernel_rfl, h16⟩
  · rintro _ w17 ⟨q10, rfl, h18⟩
    refine then_at rfl (wp_seq (wp_seq (wl_region ?_)))
    refine zv (iN .i64 0) ?_
    refine wl_nil (then_at rfl (wp_block ?_))
    refine wp_while (fun mq AQ w' => ∃ (i : Nat) (pp : Option Addr) (cp : Nat) (Lp : BL) (u19 : Nat → Value), mq = 3 - i ∧ AQ = ⟨(.agg (spC x) :: pt q1 :: pt q4 :: pt q10 :: iN .i64 i :: .pointer (some ⟨q1, 1, none⟩) :: iN .u8 x.a :: iN .u8 (x.a % 3) :: iN .i64 (x.a % 3) :: .pointer (some ⟨q1, 2, none⟩) :: iN .u8 x.b :: iN .i64 x.b :: iN .i64 (1 + x.b) :: .pointer (some ⟨q1, 4, none⟩) :: .string x.s :: .string (fullT x.s 99) :: .agg #[iN .i64 (x.a % 3), iN .i64 (1 + x.b), .string (fullT x.s 99), .slice none 0 0, .string ({ data := #[115] })] :: u19 17 :: u19 18 :: u19 19 :: u19 20 :: u19 21 :: u19 22 :: u19 23 :: u19 24 :: u19 25 :: u19 26 :: u19 27 :: u19 28 :: u19 29 :: u19 30 :: u19 31 :: u19 32 :: u19 33 :: u19 34 :: u19 35 :: u19 36 :: u19 37 :: u19 38 :: u19 39 :: u19 40 :: u19 41 :: List.replicate 1 un).toArray, []⟩ ∧ i ≤ 2 ∧ Row 67 3 (.slice pp (dsK x i).length cp) (dsK x i).length (mcl (dsK x i)) Lp ∧ HA (bs w) ([(q10, 25, #[iN .i64 (x.a % 3), iN .i64 (1 + x.b), .string (fullT x.s 99), .slice pp (dsK x i).length cp, .string ({ data := #[115] })]), (q4, 25, #[iN .i64 0, iN .i64 0, .string ({ data := #[] }), .slice none 0 0, .string ({ data := #[] })]), (q1, 56, spC x)] ++ (Lp ++ [])) w') 3 ?_ ?_
    · exact ⟨0, none, 0, [], fun ii => (([] : List (Nat × Value)).find? (·.1 == ii)).elim undef (·.2), rfl, by kernel_rfl, Nat.zero_le _, Row.nil 67 3, h18⟩
    rintro _ _ w20 ⟨i, pp, cp, Lp, u19, rfl, rfl, hi2, hRow, hL⟩
    have hL2 : HA (bs w) ((q10, 25, #[iN .i64 (x.a % 3), iN .i64 (1 + x.b), .string (fullT x.s 99), .slice pp (dsK x i).length cp, .string ({ data := #[115] })]) :: (q4, 25, #[iN .i64 0, iN .i64 0, .string ({ data := #[] }), .slice none 0 0, .string ({ data := #[] })]) :: (q1, 56, spC x) :: (Lp ++ [])) w20 := hL
    have hdl := dsK_len x i
    rcases Nat.lt_or_ge i 2 with hlt | hge
    · refine wp_seq ?_
      refine wp_seq (wl_region ?_)
      refine zv (iN .i64 i) ?_
      refine zu (.bool true) (run_lss (k := .i64) (a := i) (b := 2) ky ky true (decide_eq_true (by omega))) ?_
      refine wl_nil (then_at rfl ?_)
      refine wp_cond_true ky ?_
      refine wp_skip (then_at rfl (wp_seq (wp_block (wp_seq (wl_region ?_)))))
      refine zv (.pointer (some ⟨q1, 2, none⟩)) ?_
      refine zu (iN .u8 x.b) (run_load1 (fun w => Try.isAgg5 w) ky (((hL2.get 2 rfl).cell 2).trans rfl)) ?_
      refine zv (iN .i64 i) ?_
      refine zu (iN .u8 (x.b / 2 ^ i)) (run_shr (k2 := .i64) (k := .u8) (a := x.b) (b := i) ky ky (by show i ≤ 8; omega)) ?_
      refine zu (iN .u8 ((x.b / 2 ^ i) &&& 1)) (run_and8 (a := x.b / 2 ^ i) (b := 1) ky ky (by first | omega | (simp only [top]; omega) | (have := Nat.div_le_self x.b (2 ^ i); omega)) (by first | omega | (simp only [top]; omega) | (have := Nat.div_le_self x.b (2 ^ i); omega))) ?_
      rcases q21 : decide ((x.b / 2 ^ i) &&& 1 = 1) with _ | _
      · refine zu (.bool false) (run_eqi (k := .u8) (a := (x.b / 2 ^ i) &&& 1) (b := 1) ky ky false q21) ?_
        refine wl_nil (then_at rfl ?_)
        refine wp_cond_false ky ?_
        refine wp_skip (block_normal (then_at rfl (wl_region ?_)))
        refine zv (iN .i64 i) ?_
        refine zu (iN .i64 (i + 1)) (run_add (k := .i64) (a := i) (b := 1) ky ky (by first | omega | (simp only [top]; omega) | (have := Nat.div_le_self x.b (2 ^ i); omega))) ?_
        refine zv (iN .i64 (i + 1)) ?_
        refine wl_nil ?_
        exact then_I ⟨3 - (i + 1), (by omega), i + 1, pp, cp, Lp, fun ii => (([(17, iN .i64 i), (18, .bool true), (19, iN .i64 i), (20, iN .i64 (i + 1)), (21, .pointer (some ⟨q1, 2, none⟩)), (22, iN .u8 x.b), (23, iN .i64 i), (24, iN .u8 (x.b / 2 ^ i)), (25, iN .u8 ((x.b / 2 ^ i) &&& 1)), (26, .bool false), (27, u19 27), (28, u19 28), (29, u19 29), (30, u19 30), (31, u19 31), (32, u19 32), (33, u19 33), (34, u19 34), (35, u19 35), (36, u19 36), (37, u19 37), (38, u19 38), (39, u19 39), (40, u19 40), (41, u19 41)] : List (Nat × Value)).find? (·.1 == ii)).elim undef (·.2), rfl, by kernel_rfl, by omega, by rw [dsK_f q21]; exact hRow, by rw [dsK_f q21]; exact hL2⟩
      refine zu (.bool true) (run_eqi (k := .u8) (a := (x.b / 2 ^ i) &&& 1) (b := 1) ky ky true q21) ?_
      refine wl_nil (then_at rfl ?_)
      refine wp_cond_true ky ?_
      refine wp_region_wx (HA (bs w) ((q10, 25, #[iN .i64 (x.a % 3), iN .i64 (1 + x.b), .string (fullT x.s 99), .slice pp (dsK x i).length cp, .string ({ data := #[115] })]) :: (q4, 25, #[iN .i64 0, iN .i64 0, .string ({ data := #[] }), .slice none 0 0, .string ({ data := #[] })]) :: (q1, 56, spC x) :: (Lp ++ []))) (fun AQ w' => ∃ (pn34 : Option Addr) (cn35 : Nat) (La29 : BL) (q25 : Nat), AQ = ⟨(.agg (spC x) :: pt q1 :: pt q4 :: pt q10 :: iN .i64 i :: .pointer (some ⟨q1, 1, none⟩) :: iN .u8 x.a :: iN .u8 (x.a % 3) :: iN .i64 (x.a % 3) :: .pointer (some ⟨q1, 2, none⟩) :: iN .u8 x.b :: iN .i64 x.b :: iN .i64 (1 + x.b) :: .pointer (some ⟨q1, 4, none⟩) :: .string x.s :: .string (fullT x.s 99) :: .agg #[iN .i64 (x.a % 3), iN .i64 (1 + x.b), .string (fullT x.s 99), .slice none 0 0, .string ({ data := #[115] })] :: iN .i64 i :: .bool true :: u19 19 :: u19 20 :: .pointer (some ⟨q1, 2, none⟩) :: iN .u8 x.b :: iN .i64 i :: iN .u8 (x.b / 2 ^ i) :: iN .u8 ((x.b / 2 ^ i) &&& 1) :: .bool true :: .pointer (some ⟨q10, 3, none⟩) :: .slice pp (dsK x i).length cp :: iN .i64 i :: .pointer (some ⟨q1, 4, none⟩) :: .string x.s :: .pointer (some ⟨q1, 4, none⟩) :: .string x.s :: iN .i64 x.s.size :: iN .i64 (min x.s.size 99) :: .string (x.s.extract 0 (min x.s.size 99)) :: .string ({ data := #[97] } ++ x.s.extract 0 (min x.s.size 99)) :: .agg #[iN .i64 i, .string ({ data := #[97] } ++ x.s.extract 0 (min x.s.size 99)), .string ({ data := #[98] })] :: .slice (some ⟨q25, 0, none⟩) 1 1 :: .slice pn34 ((dsK x i).length + 1) cn35 :: .pointer (some ⟨q10, 3, none⟩) :: List.replicate 1 un).toArray, []⟩ ∧ Row 67 3 (.slice pn34 ((dsK x i).length + 1) cn35) ((dsK x i).length + 1) (mcl (dsK x i) ++ [.int .i64 ((i : Nat) : Int), .string ({ data := #[97] } ++ x.s.extract 0 (min x.s.size 99)), .string { data := #[98] }]) La29 ∧ HA (bs w) ((q10, 25, #[iN .i64 (x.a % 3), iN .i64 (1 + x.b), .string (fullT x.s 99), .slice pn34 ((dsK x i).length + 1) cn35, .string ({ data := #[115] })]) :: (q4, 25, #[iN .i64 0, iN .i64 0, .string ({ data := #[] }), .slice none 0 0, .string ({ data := #[] })]) :: (q1, 56, spC x) :: (La29 ++ [])) w') 16 ky ky ky ky ky (hL2.drew) ?_ ?_
      · have h22 := hL2.drew
        refine zp 0 (.pointer (some ⟨q10, 3, none⟩)) ?_
        refine wx_val (i := 1) (.slice pp (dsK x i).length cp) rfl rfl ky ky (fun w' h' => run_load1 (fun w => Try.isAgg23 w) ky (((h'.get 0 rfl).cell 3).trans rfl)) ?_
        refine zp 2 (iN .i64 i) ?_
        refine zp 3 (.pointer (some ⟨q1, 4, none⟩)) ?_
        refine wx_val (i := 4) (.string x.s) rfl rfl ky ky (fun w' h' => run_load1 (fun w => Try.isAgg9 w) ky (((h'.get 2 rfl).cell 4).trans rfl)) ?_
        refine zp 5 (.pointer (some ⟨q1, 4, none⟩)) ?_
        refine wx_val (i := 6) (.string x.s) rfl rfl ky ky (fun w' h' => run_load1 (fun w => Try.isAgg9 w) ky (((h'.get 2 rfl).cell 4).trans rfl)) ?_
        refine wx_pure (i := 7) (iN .i64 x.s.size) rfl rfl ky ky (fun _ => (run_len (s := x.s) ky)) ?_
        refine wx_pure (i := 8) (iN .i64 (min x.s.size 99)) rfl rfl ky ky (fun _ => (run_min (i := x.s.size) (j := 99) ky ky)) ?_
        refine wx_pure (i := 9) (.string (x.s.extract 0 (min x.s.size 99))) rfl rfl ky ky (fun _ => (run_cut_hi (s := x.s) (b := min x.s.size 99) ky ky (by omega))) ?_
        refine wx_pure (i := 10) (.string ({ data := #[97] } ++ x.s.extract 0 (min x.s.size 99))) rfl rfl ky ky (fun _ => (run_cat (s := { data := #[97] }) (t := x.s.extract 0 (min x.s.size 99)) ky ky (by have h := ext_size (s := x.s) (n := min x.s.size 99) (Nat.min_le_left _ _); have h2 : ({ data := #[97] } : ByteArray).size = 1 := rfl; omega))) ?_
        refine zp 11 (.agg #[iN .i64 i, .string ({ data := #[97] } ++ x.s.extract 0 (min x.s.size 99)), .string ({ data := #[98] })]) ?_
        refine wx_one 12 ky ?_
        refine ex_makeT (c := #[iN .i64 i, .string ({ data := #[97] } ++ x.s.extract 0 (min x.s.size 99)), .string ({ data := #[98] })]) rfl ky h22 67 (fun q => .slice (some ⟨q, 0, none⟩) 1 1) (fun _ => ky) ?_
        intro q25 w23 (h24 : HA (bs w) ((q25, 67, #[iN .i64 i, .string ({ data := #[97] } ++ x.s.extract 0 (min x.s.size 99)), .string ({ data := #[98] })]) :: (q10, 25, #[iN .i64 (x.a % 3), iN .i64 (1 + x.b), .string (fullT x.s 99), .slice pp (dsK x i).length cp, .string ({ data := #[115] })]) :: (q4, 25, #[iN .i64 0, iN .i64 0, .string ({ data := #[] }), .slice none 0 0, .string ({ data := #[] })]) :: (q1, 56, spC x) :: (Lp ++ [])) w23)
        refine ⟨_, .inr rfl, (HA.sub h24 (List.Sublist.cons _ (List.Sublist.cons_cons _ (List.Sublist.cons_cons _ (List.Sublist.cons_cons _ (List.Sublist.refl _)))))), ?_⟩
        refine wx_one 13 ky ?_
        refine ex_doT rfl ky h24 fun w26 h27 => ?_
        obtain ⟨va28, wa33, La29, hrun32, hRa30, ha31⟩ := row_more (t := 23) hRow ((show HA (bs w) (((q25, 67, #[iN .i64 i, .string ({ data := #[97] } ++ x.s.extract 0 (min x.s.size 99)), .string ({ data := #[98] })]) :: [(q10, 25, #[iN .i64 (x.a % 3), iN .i64 (1 + x.b), .string (fullT x.s 99), .slice pp (dsK x i).length cp, .string ({ data := #[115] })]), (q4, 25, #[iN .i64 0, iN .i64 0, .string ({ data := #[] }), .slice none 0 0, .string ({ data := #[] })]), (q1, 56, spC x)]) ++ (Lp ++ [])) w26 from h27).perm (List.Perm.cons _ (perm_mv [(q10, 25, #[iN .i64 (x.a % 3), iN .i64 (1 + x.b), .string (fullT x.s 99), .slice pp (dsK x i).length cp, .string ({ data := #[115] })]), (q4, 25, #[iN .i64 0, iN .i64 0, .string ({ data := #[] }), .slice none 0 0, .string ({ data := #[] })]), (q1, 56, spC x)] Lp []))) (by decide) (.agg #[iN .i64 0, .string { data := #[] }, .string { data := #[] }]) 40 23 Try.underlying23 info67z rfl (by decide) rfl ky (by unfold maxLen; omega) (by omega)
        obtain ⟨pn34, cn35, hvnpn34⟩ := hRa30.form
        subst hvnpn34
        have h36 : HA (bs w) ((q10, 25, #[iN .i64 (x.a % 3), iN .i64 (1 + x.b), .string (fullT x.s 99), .slice pp (dsK x i).length cp, .string ({ data := #[115] })]) :: (q4, 25, #[iN .i64 0, iN .i64 0, .string ({ data := #[] }), .slice none 0 0, .string ({ data := #[] })]) :: (q1, 56, spC x) :: (La29 ++ [])) wa33 := ha31.perm (perm_mv [(q10, 25, #[iN .i64 (x.a % 3), iN .i64 (1 + x.b), .string (fullT x.s 99), .slice pp (dsK x i).length cp, .string ({ data := #[115] })]), (q4, 25, #[iN .i64 0, iN .i64 0, .string ({ data := #[] }), .slice none 0 0, .string ({ data := #[] })]), (q1, 56, spC x)] La29 []).symm
        refine ⟨_, _, run_app_ops ky ky hrun32, _, .inl ky, h36, ?_⟩
        refine zp 14 (.pointer (some ⟨q10, 3, none⟩)) ?_
        refine wx_one 15 ky ?_
        refine ex_skipT rfl ky h36 fun w37 h38 => ⟨_, run_storev (q := q10) (i := 3) (v := .slice pn34 ((dsK x i).length + 1) cn35) (fun w => Try.sizeOf23 w) ky ky ky (by rw [(h38.get 0 rfl).cell]; rfl) ((h38.get 0 rfl).free _ (by show 3 < 5; decide)), ?_⟩
        have h39 : HA (bs w) ((q10, 25, #[iN .i64 (x.a % 3), iN .i64 (1 + x.b), .string (fullT x.s 99), .slice pn34 ((dsK x i).length + 1) cn35, .string ({ data := #[115] })]) :: (q4, 25, #[iN .i64 0, iN .i64 0, .string ({ data := #[] }), .slice none 0 0, .string ({ data := #[] })]) :: (q1, 56, spC x) :: (La29 ++ [])) _ := h38.put 0 rfl 3 (.slice pn34 ((dsK x i).length + 1) cn35)
        refine ⟨_, .inl ky, h39, ?_⟩
        refine wx_end fun w40 hbx _ => ?_
        have h41 := HA.keep _ _ h39 hbx
        exact ⟨pn34, cn35, La29, q25, by kernel_rfl, hRa30, h41⟩
      · rintro _ w42 ⟨pn34, cn35, La29, q25, rfl, hRa30, h43⟩
        refine block_normal (then_at rfl (wl_region ?_))
        refine zv (iN .i64 i) ?_
        refine zu (iN .i64 (i + 1)) (run_add (k := .i64) (a := i) (b := 1) ky ky (by first | omega | (simp only [top]; omega) | (have := Nat.div_le_self x.b (2 ^ i); omega))) ?_
        refine zv (iN .i64 (i + 1)) ?_
        refine wl_nil ?_
        exact then_I ⟨3 - (i + 1), (by omega), i + 1, pn34, cn35, La29, fun ii => (([(17, iN .i64 i), (18, .bool true), (19, iN .i64 i), (20, iN .i64 (i + 1)), (21, .pointer (some ⟨q1, 2, none⟩)), (22, iN .u8 x.b), (23, iN .i64 i), (24, iN .u8 (x.b / 2 ^ i)), (25, iN .u8 ((x.b / 2 ^ i) &&& 1)), (26, .bool true), (27, .pointer (some ⟨q10, 3, none⟩)), (28, .slice pp (dsK x i).length cp), (29, iN .i64 i), (30, .pointer (some ⟨q1, 4, none⟩)), (31, .string x.s), (32, .pointer (some ⟨q1, 4, none⟩)), (33, .string x.s), (34, iN .i64 x.s.size), (35, iN .i64 (min x.s.size 99)), (36, .string (x.s.extract 0 (min x.s.size 99))), (37, .string ({ data := #[97] } ++ x.s.extract 0 (min x.s.size 99))), (38, .agg #[iN .i64 i, .string ({ data := #[97] } ++ x.s.extract 0 (min x.s.size 99)), .string ({ data := #[98] })]), (39, .slice (some ⟨q25, 0, none⟩) 1 1), (40, .slice pn34 ((dsK x i).length + 1) cn35), (41, .pointer (some ⟨q10, 3, none⟩))] : List (Nat × Value)).find? (·.1 == ii)).elim undef (·.2), rfl, by kernel_rfl, by omega, by rw [dsK_t q21, mcl_snoc, List.length_append, List.length_singleton]; exact hRa30, by rw [dsK_t q21, List.length_append, List.length_singleton]; exact h43⟩
    obtain rfl : i = 2 := by omega
    refine wp_seq (wp_seq (wl_region ?_))
    refine zv (iN .i64 2) ?_
    refine zu (.bool false) (run_lss (k := .i64) (a := 2) (b := 2) ky ky false (by decide)) ?_
    refine wl_nil (then_at rfl ?_)
    refine wp_cond_false ky ?_
    refine wp_exit ?_
    repeat first | refine then_exit ?_ | refine block_exit ?_ | refine block_exit_ne (by decide) ?_
    refine then_at rfl (wp_seq (wl_region ?_))
    refine wl_load hL2 0 rfl ky ky Try.underlying25 rfl ky ?_
    refine wl_fill (c' := #[iN .i64 (x.a % 3), iN .i64 (1 + x.b), .string (fullT x.s 99), .slice pp (dsK x 2).length cp, .string ({ data := #[115] })]) hL2 1 rfl ky ky ky rfl ky ky ?_
    intro w44 (h45 : HA (bs w) ((q10, 25, #[iN .i64 (x.a % 3), iN .i64 (1 + x.b), .string (fullT x.s 99), .slice pp (dsK x 2).length cp, .string ({ data := #[115] })]) :: (q4, 25, #[iN .i64 (x.a % 3), iN .i64 (1 + x.b), .string (fullT x.s 99), .slice pp (dsK x 2).length cp, .string ({ data := #[115] })]) :: (q1, 56, spC x) :: (Lp ++ [])) w44)
    refine wl_nil (then_at rfl ?_)
    refine wp_ret ?_
    repeat first | refine then_ret ?_ | refine block_ret ?_
    exact bodyPost_ret (v := .agg (#[iN .i64 (x.a % 3), iN .i64 (1 + x.b), .string (fullT x.s 99), .slice pp (dsK x 2).length cp, .string ({ data := #[115] })])) (res_cell (p := 2) ky ky (h45.get 1 rfl) Try.underlying25 rfl ky) rfl ⟨.slice pp (dsK x 2).length cp, Lp, rfl, hRow, h45.sub (List.Sublist.cons _ (List.Sublist.cons _ (List.Sublist.cons _ (List.sublist_append_left _ _))))⟩
end Go.Proofs.Ytmidladenidngaa
