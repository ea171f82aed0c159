/-
  Texts laid; the key of a hello; the keys.
-/
import Derived.Test.YtcjjbpbehapjpaaGreatS1
set_option linter.unusedVariables false
namespace Go.Proofs.YtcjjbpbehapjpaaGreat
open Go.RowKit

/-- texts laid one behind the other -/
def layT (ss : List ByteArray) : Nat → ByteArray
  | 0 => { data := #[] }
  | k + 1 => ⟨((layT ss k).data.toList ++ Wi.pt (ss.getD k ByteArray.empty).data.toList).toArray⟩
theorem layT_size {ss : List ByteArray} {m : Nat} (h : ∀ i, (ss.getD i ByteArray.empty).size ≤ m) : ∀ k, (layT ss k).size ≤ k * (m + 4)
  | 0 => Nat.zero_le _
  | k + 1 => by
    have h1 := layT_size h k
    have h2 := h k
    show (((layT ss k).data.toList ++ Wi.pt (ss.getD k ByteArray.empty).data.toList).toArray).size ≤ _
    rw [List.size_toArray, List.length_append, Wi.pt, List.length_append, Wi.be_length, Array.length_toList, Array.length_toList]
    have e1 : (layT ss k).data.size = (layT ss k).size := rfl
    have e2 : (ss.getD k ByteArray.empty).data.size = (ss.getD k ByteArray.empty).size := rfl
    rw [e1, e2, Nat.succ_mul]
    omega
/-- an address -/
def adrT (n : Nat) : ByteArray := ⟨(Wi.be n 2).toArray⟩
theorem adrT_size (n : Nat) : (adrT n).size = 2 := by
  show ((Wi.be n 2).toArray).size = 2
  rw [List.size_toArray, Wi.be_length]
set_option maxRecDepth 100000 in
set_option maxHeartbeats 2000000 in
theorem laid_any {w : World} (ss : List ByteArray) (o : Option Addr) (c : Nat) (hp : ss = [] ∨ ∃ pq cs, o = some ⟨pq, 0, none⟩ ∧ PreS cs ss ∧ Blk w pq 9 cs) {m : Nat} (hm0 : m ≤ 100000) (hss : ∀ i, (ss.getD i ByteArray.empty).size ≤ m) (hsl : ss.length ≤ 100) :
    Calls Tryz.prog 44 #[.slice o ss.length c] w fun e w' => e = .returned (.string (layT ss ss.length)) ∧ Below w.heap.size w w' := by
  have H0 := HA.start w
  go_enter Tryz.func44, Tryz.ntmps44
  refine wp_seq (wl_region ?_)
  refine zv (.string ({ data := #[] })) ?_
  refine wl_nil (then_at rfl (wp_seq (wl_region ?_)))
  refine zv (.string ({ data := #[] })) ?_
  refine wl_nil (then_at rfl (wp_seq (wp_seq (wl_region ?_))))
  refine zv (.slice o ss.length c) ?_
  refine zv (iN .i64 ss.length) ?_
  refine zv (iN .i64 0) ?_
  refine wl_nil (then_at rfl (wp_block ?_))
  refine wp_count (fun i AQ w' => ∃ u1 : Nat → Value, AQ = ⟨(.slice o ss.length c :: un :: .string ({ data := #[] }) :: .string (layT ss i) :: un :: u1 5 :: .slice o ss.length c :: iN .i64 ss.length :: iN .i64 i :: u1 9 :: u1 10 :: u1 11 :: u1 12 :: u1 13 :: u1 14 :: u1 15 :: List.replicate 1 un).toArray, []⟩ ∧ HA (bs w) [] w') ss.length ?_ ?_ ?_
  · exact ⟨fun ii => (([(5, undef), (9, undef), (10, undef), (11, undef), (12, undef), (13, undef), (14, undef), (15, undef)] : List (Nat × Value)).find? (·.1 == ii)).elim undef (·.2), by kernel_rfl, H0⟩
  · rintro i hk _ w2 ⟨u1, rfl, hT⟩
    obtain ⟨pq, cs, rfl, hps, hm⟩ := hp.resolve_left (by intro e; rw [e] at hk; simp at hk)
    refine wp_seq (wl_region ?_)
    refine zu (.bool true) (run_lss (k := .i64) (a := i) (b := ss.length) ky ky true (decide_eq_true (by omega))) ?_
    refine wl_nil (then_at rfl (wp_seq ?_))
    refine wp_cond_true ky ?_
    refine wp_skip (then_at rfl (wp_seq (wp_block (wp_seq (wl_region ?_)))))
    refine zu (.pointer (some ⟨pq, i, none⟩)) (run_addr_slice (q := pq) (n := ss.length) (m := c) (a := i) Tryz.underlying58 (fun w => Tryz.sizeOf9 w) ky ky (by omega)) ?_
    refine zu (.string (ss.getD i ByteArray.empty)) (run_load1 (fun w => Tryz.isAgg9 w) ky (((hm.keep hT.old.old).cell i).trans (hps i hk))) ?_
    refine zv (.string (ss.getD i ByteArray.empty)) ?_
    refine wl_nil (then_at rfl (wl_region ?_))
    refine zv (.string (layT ss i)) ?_
    refine zv (.string (ss.getD i ByteArray.empty)) ?_
    refine wl_call (v := .string (layT ss (i + 1))) hT ky enter95 #[.string (layT ss i), .string (ss.getD i ByteArray.empty)] ky (Wi.PutText_any w2 (layT ss i) (ss.getD i ByteArray.empty) (by have := layT_size hss i; have : i * (m + 4) ≤ 100 * (m + 4) := Nat.mul_le_mul_right _ (by omega); omega) (by have := hss i; omega)) ?_
    intro w3 h4
    refine zv (.string (layT ss (i + 1))) ?_
    refine wl_nil (block_normal (then_at rfl (wl_region ?_)))
    refine zu (iN .i64 (i + 1)) (run_add (k := .i64) (a := i) (b := 1) ky ky (by simp only [top]; omega)) ?_
    refine zv (iN .i64 (i + 1)) ?_
    refine wl_nil ?_
    exact then_I ⟨fun ii => (([(5, .string (ss.getD i ByteArray.empty)), (9, .bool true), (10, .pointer (some ⟨pq, i, none⟩)), (11, .string (ss.getD i ByteArray.empty)), (12, .string (layT ss i)), (13, .string (ss.getD i ByteArray.empty)), (14, .string (layT ss (i + 1))), (15, iN .i64 (i + 1))] : List (Nat × Value)).find? (·.1 == ii)).elim undef (·.2), by kernel_rfl, h4⟩
  · rintro _ w5 ⟨u1, rfl, hT⟩
    refine wp_seq (wl_region ?_)
    refine zu (.bool false) (run_lss (k := .i64) (a := ss.length) (b := ss.length) ky ky false (decide_eq_false (by omega))) ?_
    refine wl_nil (then_at rfl (wp_seq ?_))
    refine wp_cond_false ky ?_
    refine wp_exit ?_
    repeat first | refine then_exit ?_ | refine block_exit ?_ | refine block_exit_ne (by decide) ?_
    refine then_at rfl (wp_seq (wl_region ?_))
    refine zv (.string (layT ss ss.length)) ?_
    refine zv (.string (layT ss ss.length)) ?_
    refine wl_nil (then_at rfl ?_)
    refine wp_ret ?_
    repeat first | refine then_ret ?_ | refine block_ret ?_
    exact bodyPost_ret (v := .string (layT ss ss.length)) ky rfl ⟨rfl, hT.old.old⟩
set_option maxRecDepth 100000 in
set_option maxHeartbeats 2000000 in
theorem adr_any {w : World} (n : Nat) (hn : n < 9223372036854775808) :
    Calls Tryz.prog 43 #[iN .i64 n] w fun e w' => e = .returned (.string (adrT n)) ∧ Below w.heap.size w w' := by
  have H0 := HA.start w
  go_enter Tryz.func43, Tryz.ntmps43
  refine wp_seq (wl_region ?_)
  refine zv (.string ({ data := #[] })) ?_
  refine wl_nil (then_at rfl (wp_seq (wl_region ?_)))
  refine zv (iN .i64 n) ?_
  refine zu (iN .u64 n) (run_conv .u64 Tryz.underlying3 Tryz.underlying117 ky (by first | omega | (simp only [top]; omega))) ?_
  refine wl_call (v := .string (adrT n)) H0 ky enter94 #[.string ({ data := #[] }), iN .i64 2, iN .u64 n] ky (Wi.PutNumber_any w { data := #[] } 2 n (by decide)) ?_
  intro w1 h2
  refine zv (.string (adrT n)) ?_
  refine wl_nil (then_at rfl ?_)
  refine wp_ret ?_
  repeat first | refine then_ret ?_ | refine block_ret ?_
  exact bodyPost_ret (v := .string (adrT n)) ky rfl ⟨rfl, h2.old.old⟩
/-- keys: the table, the keys -/
def dv (A : List Ent) (sec salt info : ByteArray) (N : Nat) : List Ent × List ByteArray := (derE A sec salt info N, derL A sec salt info N)
theorem Row.texts {v : Value} {N : Nat} {ss : List ByteArray} {Lr : BL} (h : Row 9 1 v N (ss.map Value.string) Lr) (hp : 0 < N) : ∃ g c cur, v = .slice (some ⟨g, 0, none⟩) N c ∧ Lr = [(g, 9, cur)] ∧ ∀ j, j < N → cur[j]? = some (.string (ss.getD j ByteArray.empty)) := by
  rcases h.2 with ⟨h1, h2, h3⟩ | ⟨g, cap, cur, h1, h2, h3, h4, h5, h6⟩
  · omega
  · refine ⟨g, cap, cur, h1, h2, fun j hj => ?_⟩
    have hl : ss.length = N := by simpa using h.1
    have : (cur.toList.take (N * 1))[j]? = some (.string (ss.getD j ByteArray.empty)) := by rw [h6, List.getElem?_map]; simp [hl, hj]
    rw [List.getElem?_take, if_pos (by omega)] at this
    simpa using this
section
variable {w0 w : World} {M : ML} {p : Pr} {A A' : List Ent} {n x : Nat} {L : BL}
theorem Derive_E (H : PH w0 M p A n L w) (sec salt info : ByteArray) (hs : sec.size ≤ 65536) (hu : salt.size ≤ 65536) (hi : info.size ≤ 1000) (N : Nat) (hN1 : 1 ≤ N) (hN : N ≤ 16) (hf : A.length < 57000) {ks : List ByteArray} (hm : dv A sec salt info N = (A', ks)) :
    Calls Tryz.prog 93 #[pt p.q, .string sec, .string salt, .string info, iN .i64 N] w fun e w' => ∃ g cap cur, e = .returned (.tuple #[.slice (some ⟨g, 0, none⟩) N cap, iN .i64 0]) ∧ (∀ j, j < N → cur[j]? = some (.string (ks.getD j ByteArray.empty))) ∧ PH w0 M p A' n ((g, 9, cur) :: L) w' := by
  refine (Derive_P H sec salt info hs hu hi N hN1 hN hf).mono ?_
  rintro e w' ⟨v, Lr, rfl, hR, hP⟩
  obtain ⟨e1, e2⟩ := Prod.mk.inj hm
  rw [e1] at hP
  rw [e2] at hR
  obtain ⟨g, c, cur, rfl, rfl, hc⟩ := hR.texts (by omega)
  exact ⟨g, c, cur, rfl, hc, hP⟩
theorem Public_E (H : PH w0 M p A n L w) (s : ByteArray) (hs : s.size ≤ 65536) (hf : A.length < 58000) (hm : mkA A 3 { data := #[] } [s] = (A', x)) :
    Calls Tryz.prog 13 #[pt p.q, .string s] w fun e w' => e = .returned (.tuple #[.string (txt x), iN .i64 0]) ∧ PH w0 M p A' n L w' := by
  have h := Public_P H s hs hf
  rw [hm] at h
  exact h
theorem Dh_E (H : PH w0 M p A n L w) (s u : ByteArray) (hs : s.size ≤ 65536) (hu : u.size ≤ 65536) (hf : A.length < 58000) (hm : mkA A 4 { data := #[] } [s, u] = (A', x)) :
    Calls Tryz.prog 39 #[pt p.q, .string s, .string u] w fun e w' => e = .returned (.tuple #[.string (txt x), iN .i64 0]) ∧ PH w0 M p A' n L w' := by
  have h := Dh_P H s u hs hu hf
  rw [hm] at h
  exact h
theorem Digest_E (H : PH w0 M p A n L w) (s u : ByteArray) (hs : s.size ≤ 65536) (hu : u.size ≤ 65536) (b cc : Nat) (hb : (b, 9, strc [s, u]) ∈ L) (hf : A.length < 58000) (hm : mkA A 5 { data := #[100, 105, 103, 101, 115, 116] } [s, u] = (A', x)) :
    Calls Tryz.prog 123 #[pt p.q, .slice (some ⟨b, 0, none⟩) 2 cc] w fun e w' => e = .returned (.string (txt x)) ∧ PH w0 M p A' n L w' := by
  have h := Digest_P H s u hs hu b cc hb hf
  rw [hm] at h
  exact h
theorem Seal_E (H : PH w0 M p A n L w) (key nonce ad text : ByteArray) (hz1 : key.size ≤ 65536) (hz2 : nonce.size ≤ 16384) (hz3 : ad.size ≤ 16384) (hz4 : text.size ≤ 16384) (hf : A.length < 58000) (hj : n < 1000000) (hm : mkA A 6 { data := #[] } [key, nonce, ad, text] = (A', x)) :
    Calls Tryz.prog 46 #[pt p.q, .string key, .string nonce, .string ad, .string text] w fun e w' => e = .returned (.tuple #[.string (txt x), iN .i64 0]) ∧ PH w0 M p A' (n + 1) L w' := by
  have h := Seal_P H key nonce ad text hz1 hz2 hz3 hz4 hf hj
  rw [hm] at h
  exact h
end
def hI : ByteArray := { data := #[115, 104, 97, 107, 101, 32, 104, 101, 108, 108, 111] }
def kI : ByteArray := { data := #[115, 104, 97, 107, 101, 32, 107, 101, 121, 115] }
set_option maxRecDepth 100000 in
set_option maxHeartbeats 2000000 in
theorem helloKey_P {w0 w : World} {M : ML} {p : Pr} {A : List Ent} {n : Nat} {L : BL} (H : PH w0 M p A n L w) (es ss : ByteArray) (hes : es.size ≤ 10000) (hss : ss.size ≤ 10000) (hf : A.length < 57000) {A' : List Ent} {k : ByteArray} (hm : dv A (layT [es, ss] 2) { data := #[] } hI 1 = (A', [k])) :
    Calls Tryz.prog 42 #[pt p.q, .string es, .string ss] w fun e w' => e = .returned (.tuple #[.string k, iN .i64 0]) ∧ PH w0 M p A' n L w' := by
  obtain ⟨z0, X0, hcl0, hbe0, H0⟩ := PH.front H
  go_enter Tryz.func42, Tryz.ntmps42
  refine wp_seq (wl_region ?_)
  refine zv (.string ({ data := #[] })) ?_
  refine zv (iN .i64 0) ?_
  refine wl_nil (then_at rfl (wp_seq (wl_region ?_)))
  refine zv (.pointer (some ⟨p.q, 0, none⟩)) ?_
  refine zv (.string es) ?_
  refine zv (.string ss) ?_
  refine wl_mks (n := 2) (m := 2) (c := #[.string es, .string ss]) H0 9 ky ky ?_
  intro q1 w2 (h3 : HA z0 ((q1, 9, #[.string es, .string ss]) :: (L ++ X0)) w2)
  refine wl_call (v := .string (layT [es, ss] 2)) h3 ky enter44 #[.slice (some ⟨q1, 0, none⟩) 2 2] ky (laid_any [es, ss] _ _ (.inr ⟨q1, _, rfl, PreS.strc [es, ss], h3.get 0 rfl⟩) (m := 10000) (by decide) (ss2 hes hss) (by simp)) ?_
  intro w4 h5
  refine wl_callx ky enter93 #[.pointer (some ⟨p.q, 0, none⟩), .string (layT [es, ss] 2), .string ({ data := #[] }), .string ({ data := #[115, 104, 97, 107, 101, 32, 104, 101, 108, 108, 111] }), iN .i64 1] ky (Derive_E (hcl0 ((q1, 9, #[.string es, .string ss]) :: L) _ h5) (layT [es, ss] 2) ({ data := #[] }) ({ data := #[115, 104, 97, 107, 101, 32, 104, 101, 108, 108, 111] }) (by have := layT_size (ss2 hes hss) 2; omega) (by decide) (by decide) 1 (by decide) (by decide) hf hm) ?_
  rintro _ w11 ⟨g6, cp7, cu8, rfl, hc9, hD10⟩
  refine ⟨_, rfl, ?_⟩
  obtain ⟨z12, X13, hcl14, hbe15, h16⟩ := PH.front hD10
  have h17 : HA z12 ((g6, 9, cu8) :: (q1, 9, #[.string es, .string ss]) :: (L ++ X13)) w11 := h16
  refine zv (.tuple #[.slice (some ⟨g6, 0, none⟩) 1 cp7, iN .i64 0]) ?_
  refine zv (.slice (some ⟨g6, 0, none⟩) 1 cp7) ?_
  refine zv (iN .i64 0) ?_
  refine zv (.slice (some ⟨g6, 0, none⟩) 1 cp7) ?_
  refine zv (iN .i64 0) ?_
  refine wl_nil (then_at rfl (wp_seq (wp_seq (wl_region ?_))))
  refine zv (iN .i64 0) ?_
  refine zu (.bool false) (run_nei (k := .i64) (a := 0) (b := 0) ky ky false (by decide)) ?_
  refine wl_nil (then_at rfl ?_)
  refine wp_cond_false ky ?_
  refine wp_skip (then_at rfl (wp_seq (wl_region ?_)))
  refine zv (.slice (some ⟨g6, 0, none⟩) 1 cp7) ?_
  refine zu (.pointer (some ⟨g6, 0, none⟩)) (run_addr_slice (q := g6) (n := 1) (m := cp7) (a := 0) Tryz.underlying58 (fun w => Tryz.sizeOf9 w) ky ky (by decide)) ?_
  refine zu (.string k) (run_load1 (fun w => Tryz.isAgg9 w) ky (((h17.get 0 rfl).cell 0).trans (hc9 0 (by decide)))) ?_
  refine zv (.string k) ?_
  refine zv (iN .i64 0) ?_
  refine wl_nil (then_at rfl ?_)
  refine wp_ret ?_
  repeat first | refine then_ret ?_ | refine block_ret ?_
  exact bodyPost_ret (v := .tuple #[.string k, iN .i64 0]) ky rfl ⟨rfl, PH.sub (hcl14 ((g6, 9, cu8) :: (q1, 9, #[.string es, .string ss]) :: L) _ h17) (List.Sublist.cons _ (List.Sublist.cons _ (List.Sublist.refl _)))⟩
set_option maxRecDepth 100000 in
set_option maxHeartbeats 2000000 in
theorem keys_P {w0 w : World} {M : ML} {p : Pr} {A : List Ent} {n : Nat} {L : BL} (H : PH w0 M p A n L w) (hello es ss head ee fs : ByteArray) (hh : hello.size ≤ 60000) (hes : es.size ≤ 10000) (hss : ss.size ≤ 10000) (hhe : head.size ≤ 60000) (hee : ee.size ≤ 10000) (hfs : fs.size ≤ 10000) (hf : A.length < 56000) {A1 A' : List Ent} {d : Nat} {k1 k2 k3 : ByteArray} (hd : mkA A 5 { data := #[100, 105, 103, 101, 115, 116] } [hello, head] = (A1, d)) (hl1 : A1.length < 57000) (hm : dv A1 (layT [es, ss, ee, fs] 4) (txt d) kI 3 = (A', [k1, k2, k3])) :
    Calls Tryz.prog 69 #[.agg #[.string hello, .string es, .string ss], pt p.q, .string head, .string ee, .string fs] w fun e w' => e = .returned (.tuple #[.agg #[.string k1, .string k2, .string k3], iN .i64 0]) ∧ PH w0 M p A' n L w' := by
  obtain ⟨z0, X0, hcl0, hbe0, H0⟩ := PH.front H
  go_enter Tryz.func69, Tryz.ntmps69
  refine wp_seq (wl_region ?_)
  refine wl_make (c := #[.string hello, .string es, .string ss]) H0 87 ky ky ?_
  intro q1 w2 (h3 : HA z0 ((q1, 87, #[.string hello, .string es, .string ss]) :: (L ++ X0)) w2)
  refine wl_make (c := #[.string ({ data := #[] }), .string ({ data := #[] }), .string ({ data := #[] })]) h3 126 ky ky ?_
  intro q4 w5 (h6 : HA z0 ((q4, 126, #[.string ({ data := #[] }), .string ({ data := #[] }), .string ({ data := #[] })]) :: (q1, 87, #[.string hello, .string es, .string ss]) :: (L ++ X0)) w5)
  refine zv (iN .i64 0) ?_
  refine wl_nil (then_at rfl (wp_seq ?_))
  refine wp_region_wx (HA z0 ((q4, 126, #[.string ({ data := #[] }), .string ({ data := #[] }), .string ({ data := #[] })]) :: (q1, 87, #[.string hello, .string es, .string ss]) :: (L ++ X0))) (fun AQ w' => ∃ (z24 : Base) (X25 : BL) (g35 : Nat) (cp36 : Nat) (cu37 : Array Value) (z43 : Base) (X44 : BL) (q10 : Nat) (q18 : Nat), AQ = ⟨(.agg #[.string hello, .string es, .string ss] :: pt p.q :: .string head :: .string ee :: .string fs :: pt q1 :: un :: un :: un :: un :: pt q4 :: iN .i64 0 :: .slice (some ⟨g35, 0, none⟩) 3 cp36 :: iN .i64 0 :: .tuple #[.slice (some ⟨g35, 0, none⟩) 3 cp36, iN .i64 0] :: pt p.q :: .pointer (some ⟨q1, 1, none⟩) :: .string es :: .pointer (some ⟨q1, 2, none⟩) :: .string ss :: .string ee :: .string fs :: .slice (some ⟨q10, 0, none⟩) 4 4 :: .string (layT [es, ss, ee, fs] 4) :: pt p.q :: pt q1 :: .string hello :: .string head :: .slice (some ⟨q18, 0, none⟩) 2 2 :: .string (txt d) :: .tuple #[.slice (some ⟨g35, 0, none⟩) 3 cp36, iN .i64 0] :: .slice (some ⟨g35, 0, none⟩) 3 cp36 :: iN .i64 0 :: List.replicate 14 un).toArray, []⟩ ∧ (∀ (L' : BL) (w' : World), HA z24 (L' ++ X25) w' → PH w0 M p A1 n L' w') ∧ (∀ (L' : BL) (w' : World), HA z24 L' w' → Below w0.heap.size w0 w') ∧ (∀ j, j < 3 → cu37[j]? = some (.string ([k1, k2, k3].getD j ByteArray.empty))) ∧ (∀ (L' : BL) (w' : World), HA z43 (L' ++ X44) w' → PH w0 M p A' n L' w') ∧ (∀ (L' : BL) (w' : World), HA z43 L' w' → Below w0.heap.size w0 w') ∧ HA z43 ((g35, 9, cu37) :: (q18, 9, #[.string hello, .string head]) :: (q10, 9, #[.string es, .string ss, .string ee, .string fs]) :: (q4, 126, #[.string ({ data := #[] }), .string ({ data := #[] }), .string ({ data := #[] })]) :: (q1, 87, #[.string hello, .string es, .string ss]) :: (L ++ X44)) w') 21 ky ky ky ky ky (h6.drew) ?_ ?_
  · have h7 := h6.drew
    refine zp 0 (.pointer (some ⟨p.q, 0, none⟩)) ?_
    refine zp 1 (.pointer (some ⟨q1, 1, none⟩)) ?_
    refine wx_val (i := 2) (.string es) rfl rfl ky ky (fun w' h' => run_load1 (fun w => Tryz.isAgg9 w) ky (((h'.get 1 rfl).cell 1).trans rfl)) ?_
    refine zp 3 (.pointer (some ⟨q1, 2, none⟩)) ?_
    refine wx_val (i := 4) (.string ss) rfl rfl ky ky (fun w' h' => run_load1 (fun w => Tryz.isAgg9 w) ky (((h'.get 1 rfl).cell 2).trans rfl)) ?_
    refine zp 5 (.string ee) ?_
    refine zp 6 (.string fs) ?_
    refine zp 9 (.pointer (some ⟨p.q, 0, none⟩)) ?_
    refine zp 10 (.pointer (some ⟨q1, 0, none⟩)) ?_
    refine wx_val (i := 11) (.string hello) rfl rfl ky ky (fun w' h' => run_load1 (fun w => Tryz.isAgg9 w) ky (((h'.get 1 rfl).cell 0).trans rfl)) ?_
    refine zp 12 (.string head) ?_
    refine wx_two 7 13 ky ?_ ?_
    · refine ex_makeT (c := #[.string es, .string ss, .string ee, .string fs]) rfl ky h7 9 (fun q => .slice (some ⟨q, 0, none⟩) 4 4) (fun _ => ky) ?_
      intro q10 w8 (h9 : HA z0 ((q10, 9, #[.string es, .string ss, .string ee, .string fs]) :: (q4, 126, #[.string ({ data := #[] }), .string ({ data := #[] }), .string ({ data := #[] })]) :: (q1, 87, #[.string hello, .string es, .string ss]) :: (L ++ X0)) w8)
      refine ⟨_, .inr rfl, (HA.sub h9 (List.Sublist.cons _ (List.Sublist.cons_cons _ (List.Sublist.cons_cons _ (List.Sublist.refl _))))), ?_⟩
      refine wx_two 8 13 ky ?_ ?_
      · refine ex_callx rfl ky h9 enter44 #[.slice (some ⟨q10, 0, none⟩) 4 4] ky (fun w11 h12 => laid_any [es, ss, ee, fs] _ _ (.inr ⟨q10, _, rfl, PreS.strc [es, ss, ee, fs], h12.get 0 rfl⟩) (m := 10000) (by decide) (ss4 hes hss hee hfs) (by simp)) ?_
        rintro w11 h12 _ w14 ⟨rfl, hb13⟩
        have h15 := HA.keep _ _ h12 hb13
        refine ⟨_, rfl, _, .inr rfl, (HA.sub h15 (List.Sublist.cons _ (List.Sublist.cons_cons _ (List.Sublist.cons_cons _ (List.Sublist.refl _))))), ?_⟩
        refine wx_one 13 ky ?_
        refine ex_makeT (c := #[.string hello, .string head]) rfl ky h15 9 (fun q => .slice (some ⟨q, 0, none⟩) 2 2) (fun _ => ky) ?_
        intro q18 w16 (h17 : HA z0 ((q18, 9, #[.string hello, .string head]) :: (q10, 9, #[.string es, .string ss, .string ee, .string fs]) :: (q4, 126, #[.string ({ data := #[] }), .string ({ data := #[] }), .string ({ data := #[] })]) :: (q1, 87, #[.string hello, .string es, .string ss]) :: (L ++ X0)) w16)
        refine ⟨_, .inr rfl, (HA.sub h17 (List.Sublist.cons _ (List.Sublist.cons _ (List.Sublist.cons_cons _ (List.Sublist.cons_cons _ (List.Sublist.refl _)))))), ?_⟩
        refine wx_one 14 ky ?_
        refine ex_callx rfl ky h17 enter123 #[.pointer (some ⟨p.q, 0, none⟩), .slice (some ⟨q18, 0, none⟩) 2 2] ky (fun w21 h22 => Digest_E (hcl0 ((q18, 9, #[.string hello, .string head]) :: (q10, 9, #[.string es, .string ss, .string ee, .string fs]) :: (q4, 126, #[.string ({ data := #[] }), .string ({ data := #[] }), .string ({ data := #[] })]) :: (q1, 87, #[.string hello, .string es, .string ss]) :: L) _ h22) hello head (by omega) (by omega) q18 2 (by simp [strc]) (by omega) hd) ?_
        rintro w21 h22 _ w23 ⟨rfl, hD20⟩
        obtain ⟨z24, X25, hcl26, hbe27, h28⟩ := PH.front hD20
        have h29 : HA z24 ((q18, 9, #[.string hello, .string head]) :: (q10, 9, #[.string es, .string ss, .string ee, .string fs]) :: (q4, 126, #[.string ({ data := #[] }), .string ({ data := #[] }), .string ({ data := #[] })]) :: (q1, 87, #[.string hello, .string es, .string ss]) :: (L ++ X25)) w23 := h28
        refine ⟨_, rfl, _, .inl ky, h29, ?_⟩
        refine wx_one 15 ky ?_
        refine ex_callx rfl ky h29 enter93 #[.pointer (some ⟨p.q, 0, none⟩), .string (layT [es, ss, ee, fs] 4), .string (txt d), .string ({ data := #[115, 104, 97, 107, 101, 32, 107, 101, 121, 115] }), iN .i64 3] ky (fun w40 h41 => Derive_E (hcl26 ((q18, 9, #[.string hello, .string head]) :: (q10, 9, #[.string es, .string ss, .string ee, .string fs]) :: (q4, 126, #[.string ({ data := #[] }), .string ({ data := #[] }), .string ({ data := #[] })]) :: (q1, 87, #[.string hello, .string es, .string ss]) :: L) _ h41) (layT [es, ss, ee, fs] 4) (txt d) ({ data := #[115, 104, 97, 107, 101, 32, 107, 101, 121, 115] }) (by have := layT_size (ss4 hes hss hee hfs) 4; omega) (by rw [txt_size]; decide) (by decide) 3 (by decide) (by decide) hl1 hm) ?_
        rintro w40 h41 _ w42 ⟨g35, cp36, cu37, rfl, hc38, hD39⟩
        obtain ⟨z43, X44, hcl45, hbe46, h47⟩ := PH.front hD39
        have h48 : HA z43 ((g35, 9, cu37) :: (q18, 9, #[.string hello, .string head]) :: (q10, 9, #[.string es, .string ss, .string ee, .string fs]) :: (q4, 126, #[.string ({ data := #[] }), .string ({ data := #[] }), .string ({ data := #[] })]) :: (q1, 87, #[.string hello, .string es, .string ss]) :: (L ++ X44)) w42 := h47
        refine ⟨_, rfl, _, .inl ky, h48, ?_⟩
        refine zp 16 (.tuple #[.slice (some ⟨g35, 0, none⟩) 3 cp36, iN .i64 0]) ?_
        refine zp 17 (.slice (some ⟨g35, 0, none⟩) 3 cp36) ?_
        refine zp 18 (iN .i64 0) ?_
        refine zp 19 (.slice (some ⟨g35, 0, none⟩) 3 cp36) ?_
        refine zp 20 (iN .i64 0) ?_
        refine wx_end fun w49 hbx _ => ?_
        have h50 := HA.keep _ _ h48 hbx
        exact ⟨z24, X25, g35, cp36, cu37, z43, X44, q10, q18, by kernel_rfl, hcl26, hbe27, hc38, hcl45, hbe46, h50⟩
      · refine ex_makeT (c := #[.string hello, .string head]) rfl ky h9 9 (fun q => .slice (some ⟨q, 0, none⟩) 2 2) (fun _ => ky) ?_
        intro q53 w51 (h52 : HA z0 ((q53, 9, #[.string hello, .string head]) :: (q10, 9, #[.string es, .string ss, .string ee, .string fs]) :: (q4, 126, #[.string ({ data := #[] }), .string ({ data := #[] }), .string ({ data := #[] })]) :: (q1, 87, #[.string hello, .string es, .string ss]) :: (L ++ X0)) w51)
        refine ⟨_, .inr rfl, (HA.sub h52 (List.Sublist.cons _ (List.Sublist.cons _ (List.Sublist.cons_cons _ (List.Sublist.cons_cons _ (List.Sublist.refl _)))))), ?_⟩
        refine wx_one 8 ky ?_
        refine ex_callx rfl ky h52 enter44 #[.slice (some ⟨q10, 0, none⟩) 4 4] ky (fun w54 h55 => laid_any [es, ss, ee, fs] _ _ (.inr ⟨q10, _, rfl, PreS.strc [es, ss, ee, fs], h55.get 1 rfl⟩) (m := 10000) (by decide) (ss4 hes hss hee hfs) (by simp)) ?_
        rintro w54 h55 _ w57 ⟨rfl, hb56⟩
        have h58 := HA.keep _ _ h55 hb56
        refine ⟨_, rfl, _, .inr rfl, (HA.sub h58 (List.Sublist.cons _ (List.Sublist.cons _ (List.Sublist.cons_cons _ (List.Sublist.cons_cons _ (List.Sublist.refl _)))))), ?_⟩
        refine wx_one 14 ky ?_
        refine ex_callx rfl ky h58 enter123 #[.pointer (some ⟨p.q, 0, none⟩), .slice (some ⟨q53, 0, none⟩) 2 2] ky (fun w61 h62 => Digest_E (hcl0 ((q53, 9, #[.string hello, .string head]) :: (q10, 9, #[.string es, .string ss, .string ee, .string fs]) :: (q4, 126, #[.string ({ data := #[] }), .string ({ data := #[] }), .string ({ data := #[] })]) :: (q1, 87, #[.string hello, .string es, .string ss]) :: L) _ h62) hello head (by omega) (by omega) q53 2 (by simp [strc]) (by omega) hd) ?_
        rintro w61 h62 _ w63 ⟨rfl, hD60⟩
        obtain ⟨z64, X65, hcl66, hbe67, h68⟩ := PH.front hD60
        have h69 : HA z64 ((q53, 9, #[.string hello, .string head]) :: (q10, 9, #[.string es, .string ss, .string ee, .string fs]) :: (q4, 126, #[.string ({ data := #[] }), .string ({ data := #[] }), .string ({ data := #[] })]) :: (q1, 87, #[.string hello, .string es, .string ss]) :: (L ++ X65)) w63 := h68
        refine ⟨_, rfl, _, .inl ky, h69, ?_⟩
        refine wx_one 15 ky ?_
        refine ex_callx rfl ky h69 enter93 #[.pointer (some ⟨p.q, 0, none⟩), .string (layT [es, ss, ee, fs] 4), .string (txt d), .string ({ data := #[115, 104, 97, 107, 101, 32, 107, 101, 121, 115] }), iN .i64 3] ky (fun w80 h81 => Derive_E (hcl66 ((q53, 9, #[.string hello, .string head]) :: (q10, 9, #[.string es, .string ss, .string ee, .string fs]) :: (q4, 126, #[.string ({ data := #[] }), .string ({ data := #[] }), .string ({ data := #[] })]) :: (q1, 87, #[.string hello, .string es, .string ss]) :: L) _ h81) (layT [es, ss, ee, fs] 4) (txt d) ({ data := #[115, 104, 97, 107, 101, 32, 107, 101, 121, 115] }) (by have := layT_size (ss4 hes hss hee hfs) 4; omega) (by rw [txt_size]; decide) (by decide) 3 (by decide) (by decide) hl1 hm) ?_
        rintro w80 h81 _ w82 ⟨g75, cp76, cu77, rfl, hc78, hD79⟩
        obtain ⟨z83, X84, hcl85, hbe86, h87⟩ := PH.front hD79
        have h88 : HA z83 ((g75, 9, cu77) :: (q53, 9, #[.string hello, .string head]) :: (q10, 9, #[.string es, .string ss, .string ee, .string fs]) :: (q4, 126, #[.string ({ data := #[] }), .string ({ data := #[] }), .string ({ data := #[] })]) :: (q1, 87, #[.string hello, .string es, .string ss]) :: (L ++ X84)) w82 := h87
        refine ⟨_, rfl, _, .inl ky, h88, ?_⟩
        refine zp 16 (.tuple #[.slice (some ⟨g75, 0, none⟩) 3 cp76, iN .i64 0]) ?_
        refine zp 17 (.slice (some ⟨g75, 0, none⟩) 3 cp76) ?_
        refine zp 18 (iN .i64 0) ?_
        refine zp 19 (.slice (some ⟨g75, 0, none⟩) 3 cp76) ?_
        refine zp 20 (iN .i64 0) ?_
        refine wx_end fun w89 hbx _ => ?_
        have h90 := HA.keep _ _ h88 hbx
        exact ⟨z64, X65, g75, cp76, cu77, z83, X84, q10, q53, by kernel_rfl, hcl66, hbe67, hc78, hcl85, hbe86, h90⟩
    · refine ex_makeT (c := #[.string hello, .string head]) rfl ky h7 9 (fun q => .slice (some ⟨q, 0, none⟩) 2 2) (fun _ => ky) ?_
      intro q93 w91 (h92 : HA z0 ((q93, 9, #[.string hello, .string head]) :: (q4, 126, #[.string ({ data := #[] }), .string ({ data := #[] }), .string ({ data := #[] })]) :: (q1, 87, #[.string hello, .string es, .string ss]) :: (L ++ X0)) w91)
      refine ⟨_, .inr rfl, (HA.sub h92 (List.Sublist.cons _ (List.Sublist.cons_cons _ (List.Sublist.cons_cons _ (List.Sublist.refl _))))), ?_⟩
      refine wx_one 7 ky ?_
      refine ex_makeT (c := #[.string es, .string ss, .string ee, .string fs]) rfl ky h92 9 (fun q => .slice (some ⟨q, 0, none⟩) 4 4) (fun _ => ky) ?_
      intro q96 w94 (h95 : HA z0 ((q96, 9, #[.string es, .string ss, .string ee, .string fs]) :: (q93, 9, #[.string hello, .string head]) :: (q4, 126, #[.string ({ data := #[] }), .string ({ data := #[] }), .string ({ data := #[] })]) :: (q1, 87, #[.string hello, .string es, .string ss]) :: (L ++ X0)) w94)
      refine ⟨_, .inr rfl, (HA.sub h95 (List.Sublist.cons _ (List.Sublist.cons _ (List.Sublist.cons_cons _ (List.Sublist.cons_cons _ (List.Sublist.refl _)))))), ?_⟩
      refine wx_one 8 ky ?_
      refine ex_callx rfl ky h95 enter44 #[.slice (some ⟨q96, 0, none⟩) 4 4] ky (fun w97 h98 => laid_any [es, ss, ee, fs] _ _ (.inr ⟨q96, _, rfl, PreS.strc [es, ss, ee, fs], h98.get 0 rfl⟩) (m := 10000) (by decide) (ss4 hes hss hee hfs) (by simp)) ?_
      rintro w97 h98 _ w100 ⟨rfl, hb99⟩
      have h101 := HA.keep _ _ h98 hb99
      refine ⟨_, rfl, _, .inr rfl, (HA.sub h101 (List.Sublist.cons _ (List.Sublist.cons _ (List.Sublist.cons_cons _ (List.Sublist.cons_cons _ (List.Sublist.refl _)))))), ?_⟩
      refine wx_one 14 ky ?_
      refine ex_callx rfl ky h101 enter123 #[.pointer (some ⟨p.q, 0, none⟩), .slice (some ⟨q93, 0, none⟩) 2 2] ky (fun w104 h105 => Digest_E (hcl0 ((q96, 9, #[.string es, .string ss, .string ee, .string fs]) :: (q93, 9, #[.string hello, .string head]) :: (q4, 126, #[.string ({ data := #[] }), .string ({ data := #[] }), .string ({ data := #[] })]) :: (q1, 87, #[.string hello, .string es, .string ss]) :: L) _ h105) hello head (by omega) (by omega) q93 2 (by simp [strc]) (by omega) hd) ?_
      rintro w104 h105 _ w106 ⟨rfl, hD103⟩
      obtain ⟨z107, X108, hcl109, hbe110, h111⟩ := PH.front hD103
      have h112 : HA z107 ((q96, 9, #[.string es, .string ss, .string ee, .string fs]) :: (q93, 9, #[.string hello, .string head]) :: (q4, 126, #[.string ({ data := #[] }), .string ({ data := #[] }), .string ({ data := #[] })]) :: (q1, 87, #[.string hello, .string es, .string ss]) :: (L ++ X108)) w106 := h111
      refine ⟨_, rfl, _, .inl ky, h112, ?_⟩
      refine wx_one 15 ky ?_
      refine ex_callx rfl ky h112 enter93 #[.pointer (some ⟨p.q, 0, none⟩), .string (layT [es, ss, ee, fs] 4), .string (txt d), .string ({ data := #[115, 104, 97, 107, 101, 32, 107, 101, 121, 115] }), iN .i64 3] ky (fun w123 h124 => Derive_E (hcl109 ((q96, 9, #[.string es, .string ss, .string ee, .string fs]) :: (q93, 9, #[.string hello, .string head]) :: (q4, 126, #[.string ({ data := #[] }), .string ({ data := #[] }), .string ({ data := #[] })]) :: (q1, 87, #[.string hello, .string es, .string ss]) :: L) _ h124) (layT [es, ss, ee, fs] 4) (txt d) ({ data := #[115, 104, 97, 107, 101, 32, 107, 101, 121, 115] }) (by have := layT_size (ss4 hes hss hee hfs) 4; omega) (by rw [txt_size]; decide) (by decide) 3 (by decide) (by decide) hl1 hm) ?_
      rintro w123 h124 _ w125 ⟨g118, cp119, cu120, rfl, hc121, hD122⟩
      obtain ⟨z126, X127, hcl128, hbe129, h130⟩ := PH.front hD122
      have h131 : HA z126 ((g118, 9, cu120) :: (q96, 9, #[.string es, .string ss, .string ee, .string fs]) :: (q93, 9, #[.string hello, .string head]) :: (q4, 126, #[.string ({ data := #[] }), .string ({ data := #[] }), .string ({ data := #[] })]) :: (q1, 87, #[.string hello, .string es, .string ss]) :: (L ++ X127)) w125 := h130
      refine ⟨_, rfl, _, .inl ky, h131, ?_⟩
      refine zp 16 (.tuple #[.slice (some ⟨g118, 0, none⟩) 3 cp119, iN .i64 0]) ?_
      refine zp 17 (.slice (some ⟨g118, 0, none⟩) 3 cp119) ?_
      refine zp 18 (iN .i64 0) ?_
      refine zp 19 (.slice (some ⟨g118, 0, none⟩) 3 cp119) ?_
      refine zp 20 (iN .i64 0) ?_
      refine wx_end fun w132 hbx _ => ?_
      have h133 := HA.keep _ _ h131 hbx
      exact ⟨z107, X108, g118, cp119, cu120, z126, X127, q96, q93, by kernel_rfl, hcl109, hbe110, hc121, hcl128, hbe129, (HA.perm h133 (List.Perm.cons _ (List.Perm.swap _ _ _)))⟩
  · rintro _ w134 ⟨z24, X25, g35, cp36, cu37, z43, X44, q10, q18, rfl, hcl26, hbe27, hc38, hcl45, hbe46, h135⟩
    refine then_at rfl (wp_seq (wp_seq (wl_region ?_)))
    refine zv (iN .i64 0) ?_
    refine zu (.bool false) (run_nei (k := .i64) (a := 0) (b := 0) ky ky false (by decide)) ?_
    refine wl_nil (then_at rfl ?_)
    refine wp_cond_false ky ?_
    refine wp_skip (then_at rfl (wp_seq ?_))
    refine wp_region_wx (HA z43 ((g35, 9, cu37) :: (q18, 9, #[.string hello, .string head]) :: (q10, 9, #[.string es, .string ss, .string ee, .string fs]) :: (q4, 126, #[.string ({ data := #[] }), .string ({ data := #[] }), .string ({ data := #[] })]) :: (q1, 87, #[.string hello, .string es, .string ss]) :: (L ++ X44))) (fun AQ w' => AQ = ⟨(.agg #[.string hello, .string es, .string ss] :: pt p.q :: .string head :: .string ee :: .string fs :: pt q1 :: un :: un :: un :: un :: pt q4 :: iN .i64 0 :: .slice (some ⟨g35, 0, none⟩) 3 cp36 :: iN .i64 0 :: .tuple #[.slice (some ⟨g35, 0, none⟩) 3 cp36, iN .i64 0] :: pt p.q :: .pointer (some ⟨q1, 1, none⟩) :: .string es :: .pointer (some ⟨q1, 2, none⟩) :: .string ss :: .string ee :: .string fs :: .slice (some ⟨q10, 0, none⟩) 4 4 :: .string (layT [es, ss, ee, fs] 4) :: pt p.q :: pt q1 :: .string hello :: .string head :: .slice (some ⟨q18, 0, none⟩) 2 2 :: .string (txt d) :: .tuple #[.slice (some ⟨g35, 0, none⟩) 3 cp36, iN .i64 0] :: .slice (some ⟨g35, 0, none⟩) 3 cp36 :: iN .i64 0 :: iN .i64 0 :: .bool false :: un :: un :: .slice (some ⟨g35, 0, none⟩) 3 cp36 :: pt g35 :: .string k1 :: .slice (some ⟨g35, 0, none⟩) 3 cp36 :: .pointer (some ⟨g35, 1, none⟩) :: .string k2 :: .slice (some ⟨g35, 0, none⟩) 3 cp36 :: .pointer (some ⟨g35, 2, none⟩) :: .string k3 :: .agg #[.string k1, .string k2, .string k3] :: List.replicate 0 un).toArray, []⟩ ∧ HA z43 ((g35, 9, cu37) :: (q18, 9, #[.string hello, .string head]) :: (q10, 9, #[.string es, .string ss, .string ee, .string fs]) :: (q4, 126, #[.string k1, .string k2, .string k3]) :: (q1, 87, #[.string hello, .string es, .string ss]) :: (L ++ X44)) w') 12 ky ky ky ky ky (h135.drew) ?_ ?_
    · have h136 := h135.drew
      refine zp 0 (.slice (some ⟨g35, 0, none⟩) 3 cp36) ?_
      refine wx_pure (i := 1) (.pointer (some ⟨g35, 0, none⟩)) rfl rfl ky ky (fun _ => (run_addr_slice (q := g35) (n := 3) (m := cp36) (a := 0) Tryz.underlying58 (fun w => Tryz.sizeOf9 w) ky ky (by decide))) ?_
      refine wx_val (i := 2) (.string k1) rfl rfl ky ky (fun w' h' => run_load1 (fun w => Tryz.isAgg9 w) ky (((h'.get 0 rfl).cell 0).trans (hc38 0 (by decide)))) ?_
      refine zp 3 (.slice (some ⟨g35, 0, none⟩) 3 cp36) ?_
      refine wx_pure (i := 4) (.pointer (some ⟨g35, 1, none⟩)) rfl rfl ky ky (fun _ => (run_addr_slice (q := g35) (n := 3) (m := cp36) (a := 1) Tryz.underlying58 (fun w => Tryz.sizeOf9 w) ky ky (by decide))) ?_
      refine wx_val (i := 5) (.string k2) rfl rfl ky ky (fun w' h' => run_load1 (fun w => Tryz.isAgg9 w) ky (((h'.get 0 rfl).cell 1).trans (hc38 1 (by decide)))) ?_
      refine zp 6 (.slice (some ⟨g35, 0, none⟩) 3 cp36) ?_
      refine wx_pure (i := 7) (.pointer (some ⟨g35, 2, none⟩)) rfl rfl ky ky (fun _ => (run_addr_slice (q := g35) (n := 3) (m := cp36) (a := 2) Tryz.underlying58 (fun w => Tryz.sizeOf9 w) ky ky (by decide))) ?_
      refine wx_val (i := 8) (.string k3) rfl rfl ky ky (fun w' h' => run_load1 (fun w => Tryz.isAgg9 w) ky (((h'.get 0 rfl).cell 2).trans (hc38 2 (by decide)))) ?_
      refine zp 9 (.agg #[.string k1, .string k2, .string k3]) ?_
      refine wx_one 10 ky ?_
      refine ex_skipT rfl ky h136 fun w137 h138 => ⟨_, run_store_blk (c' := #[.string k1, .string k2, .string k3]) ky ky (h138.get 3 rfl) rfl ky ky, ?_⟩
      have h139 : HA z43 ((g35, 9, cu37) :: (q18, 9, #[.string hello, .string head]) :: (q10, 9, #[.string es, .string ss, .string ee, .string fs]) :: (q4, 126, #[.string k1, .string k2, .string k3]) :: (q1, 87, #[.string hello, .string es, .string ss]) :: (L ++ X44)) _ := h138.fill 3 rfl (c' := #[.string k1, .string k2, .string k3]) rfl
      refine ⟨_, .inl ky, h139, ?_⟩
      refine zp 11 (iN .i64 0) ?_
      refine wx_end fun w140 hbx _ => ?_
      have h141 := HA.keep _ _ h139 hbx
      exact ⟨by kernel_rfl, h141⟩
    · rintro _ w142 ⟨rfl, h143⟩
      refine then_at rfl ?_
      refine wp_ret ?_
      repeat first | refine then_ret ?_ | refine block_ret ?_
      exact bodyPost_ret (v := .tuple #[.agg #[.string k1, .string k2, .string k3], iN .i64 0]) (res_cell_tmp (p := 10) (r := 11) ky ky ky (h143.get 3 rfl) Tryz.underlying126 rfl ky) rfl ⟨rfl, PH.sub (hcl45 ((g35, 9, cu37) :: (q18, 9, #[.string hello, .string head]) :: (q10, 9, #[.string es, .string ss, .string ee, .string fs]) :: (q4, 126, #[.string k1, .string k2, .string k3]) :: (q1, 87, #[.string hello, .string es, .string ss]) :: L) _ h143) (List.Sublist.cons _ (List.Sublist.cons _ (List.Sublist.cons _ (List.Sublist.cons _ (List.Sublist.cons _ (List.Sublist.refl _))))))⟩
end Go.Proofs.YtcjjbpbehapjpaaGreat
