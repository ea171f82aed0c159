/-
  The steps of a hello; Begin.
-/
import Derived.Test.YtcjjbpbehapjpaaGreatS2
set_option linter.unusedVariables false
namespace Go.Proofs.YtcjjbpbehapjpaaGreat
open Go.RowKit

theorem lay1_size (x : Nat) : (layT [txt x] 1).size ≤ 12 := by
  have := layT_size (ss := [txt x]) (m := 8) (ss1 (by rw [txt_size]; exact Nat.le_refl _)) 1
  omega
theorem lay1_le {s : ByteArray} {m : Nat} (h : s.size ≤ m) : (layT [s] 1).size ≤ m + 4 := by
  have := layT_size (ss := [s]) (m := m) (ss1 h) 1
  omega
set_option maxRecDepth 100000 in
set_option maxHeartbeats 2000000 in
theorem kp_s {z : Base} {L : BL} {w : World} {fb : Nat} (H0 : HA z L w) :
    Calls Tryz.prog 36 #[pt fb] w fun e w' => ∃ kb, e = .returned (.func (.func 92) #[] #[pt kb]) ∧ HA z ((kb, 107, #[pt fb]) :: L) w' := by
  go_enter Tryz.func36, Tryz.ntmps36
  refine wp_seq (wl_region ?_)
  refine wl_make (c := #[.pointer (some ⟨fb, 0, none⟩)]) H0 107 ky ky ?_
  intro q1 w2 (h3 : HA z ((q1, 107, #[.pointer (some ⟨fb, 0, none⟩)]) :: L) w2)
  refine zv (.nilFunc) ?_
  refine wl_nil (then_at rfl (wp_seq (wl_region ?_)))
  refine zv (.func (.func 92) #[] #[.pointer (some ⟨q1, 0, none⟩)]) ?_
  refine zv (.func (.func 92) #[] #[.pointer (some ⟨q1, 0, none⟩)]) ?_
  refine wl_nil (then_at rfl ?_)
  refine wp_ret ?_
  repeat first | refine then_ret ?_ | refine block_ret ?_
  exact bodyPost_ret (v := .func (.func 92) #[] #[.pointer (some ⟨q1, 0, none⟩)]) ky rfl ⟨_, rfl, h3⟩
set_option maxRecDepth 100000 in
set_option maxHeartbeats 2000000 in
theorem kp_k {z : Base} {L : BL} {w : World} {fb : Nat} (H0 : HA z L w) :
    Calls Tryz.prog 65 #[pt fb] w fun e w' => ∃ kb, e = .returned (.func (.func 122) #[] #[pt kb]) ∧ HA z ((kb, 107, #[pt fb]) :: L) w' := by
  go_enter Tryz.func65, Tryz.ntmps65
  refine wp_seq (wl_region ?_)
  refine wl_make (c := #[.pointer (some ⟨fb, 0, none⟩)]) H0 107 ky ky ?_
  intro q1 w2 (h3 : HA z ((q1, 107, #[.pointer (some ⟨fb, 0, none⟩)]) :: L) w2)
  refine zv (.nilFunc) ?_
  refine wl_nil (then_at rfl (wp_seq (wl_region ?_)))
  refine zv (.func (.func 122) #[] #[.pointer (some ⟨q1, 0, none⟩)]) ?_
  refine zv (.func (.func 122) #[] #[.pointer (some ⟨q1, 0, none⟩)]) ?_
  refine wl_nil (then_at rfl ?_)
  refine wp_ret ?_
  repeat first | refine then_ret ?_ | refine block_ret ?_
  exact bodyPost_ret (v := .func (.func 122) #[] #[.pointer (some ⟨q1, 0, none⟩)]) ky rfl ⟨_, rfl, h3⟩
set_option maxRecDepth 100000 in
set_option maxHeartbeats 2000000 in
theorem bg1 {w0 w : World} {M : ML} {p : Pr} {A : List Ent} {n : Nat} {L : BL} (H : PH w0 M p A n L w) {s : ByteArray} (hs : s.size ≤ 65536) (hf : A.length < 58000) {A' : List Ent} {x : Nat} (hm : mkA A 3 { data := #[] } [s] = (A', x)) {b0 : Nat} {b1 : Nat} (hb0 : (b0, 28, #[pt p.q]) ∈ L) (hb1 : (b1, 9, #[.string s]) ∈ L) :
    Calls Tryz.prog 37 #[pt b0, pt b1] w fun e w' => e = .returned (.tuple #[.string (txt x), iN .i64 0]) ∧ PH w0 M p A' n L w' := by
  obtain ⟨z0, X0, hcl0, hbe0, H0⟩ := PH.front H
  go_enter Tryz.func37, Tryz.ntmps37
  refine wp_seq (wl_region ?_)
  refine zv (.string ({ data := #[] })) ?_
  refine zv (iN .i64 0) ?_
  refine wl_nil (then_at rfl (wp_seq (wl_region ?_)))
  refine zu (.pointer (some ⟨p.q, 0, none⟩)) (run_load1 (fun w => Tryz.isAgg28 w) ky (((H0.blk (b0, 28, #[pt p.q]) (by simp [hb0])).cell 0).trans rfl)) ?_
  refine zu (.string s) (run_load1 (fun w => Tryz.isAgg9 w) ky (((H0.blk (b1, 9, #[.string s]) (by simp [hb1])).cell 0).trans rfl)) ?_
  refine wl_callx ky enter13 #[.pointer (some ⟨p.q, 0, none⟩), .string s] ky (Public_E (hcl0 (L) _ H0) s hs hf hm) ?_
  rintro _ w2 ⟨rfl, hD1⟩
  refine ⟨_, rfl, ?_⟩
  obtain ⟨z3, X4, hcl5, hbe6, h7⟩ := PH.front hD1
  have h8 : HA z3 (L ++ X4) w2 := h7
  refine zv (.string (txt x)) ?_
  refine zv (iN .i64 0) ?_
  refine zv (.string (txt x)) ?_
  refine zv (iN .i64 0) ?_
  refine wl_nil (then_at rfl ?_)
  refine wp_ret ?_
  repeat first | refine then_ret ?_ | refine block_ret ?_
  exact bodyPost_ret (v := .tuple #[.string (txt x), iN .i64 0]) ky rfl ⟨rfl, PH.sub (hcl5 (L) _ h8) (List.Sublist.refl _)⟩
set_option maxRecDepth 100000 in
set_option maxHeartbeats 2000000 in
theorem bg2 {w0 w : World} {M : ML} {p : Pr} {A : List Ent} {n : Nat} {L : BL} (H : PH w0 M p A n L w) {s u : ByteArray} (hs : s.size ≤ 65536) (hu : u.size ≤ 65536) (hf : A.length < 58000) {A' : List Ent} {x : Nat} (hm : mkA A 4 { data := #[] } [s, u] = (A', x)) {b0 : Nat} {b1 : Nat} {b2 : Nat} (hb0 : (b0, 28, #[pt p.q]) ∈ L) (hb1 : (b1, 9, #[.string s]) ∈ L) (hb2 : (b2, 9, #[.string u]) ∈ L) :
    Calls Tryz.prog 38 #[pt b0, pt b1, pt b2] w fun e w' => e = .returned (.tuple #[.string (txt x), iN .i64 0]) ∧ PH w0 M p A' n L w' := by
  obtain ⟨z0, X0, hcl0, hbe0, H0⟩ := PH.front H
  go_enter Tryz.func38, Tryz.ntmps38
  refine wp_seq (wl_region ?_)
  refine zv (.string ({ data := #[] })) ?_
  refine zv (iN .i64 0) ?_
  refine wl_nil (then_at rfl (wp_seq (wl_region ?_)))
  refine zu (.pointer (some ⟨p.q, 0, none⟩)) (run_load1 (fun w => Tryz.isAgg28 w) ky (((H0.blk (b0, 28, #[pt p.q]) (by simp [hb0])).cell 0).trans rfl)) ?_
  refine zu (.string s) (run_load1 (fun w => Tryz.isAgg9 w) ky (((H0.blk (b1, 9, #[.string s]) (by simp [hb1])).cell 0).trans rfl)) ?_
  refine zu (.string u) (run_load1 (fun w => Tryz.isAgg9 w) ky (((H0.blk (b2, 9, #[.string u]) (by simp [hb2])).cell 0).trans rfl)) ?_
  refine wl_callx ky enter39 #[.pointer (some ⟨p.q, 0, none⟩), .string s, .string u] ky (Dh_E (hcl0 (L) _ H0) s u hs hu hf hm) ?_
  rintro _ w2 ⟨rfl, hD1⟩
  refine ⟨_, rfl, ?_⟩
  obtain ⟨z3, X4, hcl5, hbe6, h7⟩ := PH.front hD1
  have h8 : HA z3 (L ++ X4) w2 := h7
  refine zv (.string (txt x)) ?_
  refine zv (iN .i64 0) ?_
  refine zv (.string (txt x)) ?_
  refine zv (iN .i64 0) ?_
  refine wl_nil (then_at rfl ?_)
  refine wp_ret ?_
  repeat first | refine then_ret ?_ | refine block_ret ?_
  exact bodyPost_ret (v := .tuple #[.string (txt x), iN .i64 0]) ky rfl ⟨rfl, PH.sub (hcl5 (L) _ h8) (List.Sublist.refl _)⟩
set_option maxRecDepth 100000 in
set_option maxHeartbeats 2000000 in
theorem bg3 {w0 w : World} {M : ML} {p : Pr} {A : List Ent} {n : Nat} {L : BL} (H : PH w0 M p A n L w) {s u : ByteArray} (hs : s.size ≤ 65536) (hu : u.size ≤ 65536) (hf : A.length < 58000) {A' : List Ent} {x : Nat} (hm : mkA A 4 { data := #[] } [s, u] = (A', x)) {b0 : Nat} {b1 : Nat} {b2 : Nat} (hb0 : (b0, 28, #[pt p.q]) ∈ L) (hb1 : (b1, 9, #[.string s]) ∈ L) (hb2 : (b2, 9, #[.string u]) ∈ L) :
    Calls Tryz.prog 40 #[pt b0, pt b1, pt b2] w fun e w' => e = .returned (.tuple #[.string (txt x), iN .i64 0]) ∧ PH w0 M p A' n L w' := by
  obtain ⟨z0, X0, hcl0, hbe0, H0⟩ := PH.front H
  go_enter Tryz.func40, Tryz.ntmps40
  refine wp_seq (wl_region ?_)
  refine zv (.string ({ data := #[] })) ?_
  refine zv (iN .i64 0) ?_
  refine wl_nil (then_at rfl (wp_seq (wl_region ?_)))
  refine zu (.pointer (some ⟨p.q, 0, none⟩)) (run_load1 (fun w => Tryz.isAgg28 w) ky (((H0.blk (b0, 28, #[pt p.q]) (by simp [hb0])).cell 0).trans rfl)) ?_
  refine zu (.string s) (run_load1 (fun w => Tryz.isAgg9 w) ky (((H0.blk (b1, 9, #[.string s]) (by simp [hb1])).cell 0).trans rfl)) ?_
  refine zu (.string u) (run_load1 (fun w => Tryz.isAgg9 w) ky (((H0.blk (b2, 9, #[.string u]) (by simp [hb2])).cell 0).trans rfl)) ?_
  refine wl_callx ky enter39 #[.pointer (some ⟨p.q, 0, none⟩), .string s, .string u] ky (Dh_E (hcl0 (L) _ H0) s u hs hu hf hm) ?_
  rintro _ w2 ⟨rfl, hD1⟩
  refine ⟨_, rfl, ?_⟩
  obtain ⟨z3, X4, hcl5, hbe6, h7⟩ := PH.front hD1
  have h8 : HA z3 (L ++ X4) w2 := h7
  refine zv (.string (txt x)) ?_
  refine zv (iN .i64 0) ?_
  refine zv (.string (txt x)) ?_
  refine zv (iN .i64 0) ?_
  refine wl_nil (then_at rfl ?_)
  refine wp_ret ?_
  repeat first | refine then_ret ?_ | refine block_ret ?_
  exact bodyPost_ret (v := .tuple #[.string (txt x), iN .i64 0]) ky rfl ⟨rfl, PH.sub (hcl5 (L) _ h8) (List.Sublist.refl _)⟩
set_option maxRecDepth 100000 in
set_option maxHeartbeats 2000000 in
theorem bg4 {w0 w : World} {M : ML} {p : Pr} {A : List Ent} {n : Nat} {L : BL} (H : PH w0 M p A n L w) {es ss : ByteArray} (hes : es.size ≤ 10000) (hss : ss.size ≤ 10000) (hf : A.length < 57000) {A' : List Ent} {k : ByteArray} (hm : dv A (layT [es, ss] 2) { data := #[] } hI 1 = (A', [k])) {b0 : Nat} {b1 : Nat} {b2 : Nat} (hb0 : (b0, 28, #[pt p.q]) ∈ L) (hb1 : (b1, 9, #[.string es]) ∈ L) (hb2 : (b2, 9, #[.string ss]) ∈ L) :
    Calls Tryz.prog 41 #[pt b0, pt b1, pt b2] w fun e w' => e = .returned (.tuple #[.string k, iN .i64 0]) ∧ PH w0 M p A' n L w' := by
  obtain ⟨z0, X0, hcl0, hbe0, H0⟩ := PH.front H
  go_enter Tryz.func41, Tryz.ntmps41
  refine wp_seq (wl_region ?_)
  refine zv (.string ({ data := #[] })) ?_
  refine zv (iN .i64 0) ?_
  refine wl_nil (then_at rfl (wp_seq (wl_region ?_)))
  refine zu (.pointer (some ⟨p.q, 0, none⟩)) (run_load1 (fun w => Tryz.isAgg28 w) ky (((H0.blk (b0, 28, #[pt p.q]) (by simp [hb0])).cell 0).trans rfl)) ?_
  refine zu (.string es) (run_load1 (fun w => Tryz.isAgg9 w) ky (((H0.blk (b1, 9, #[.string es]) (by simp [hb1])).cell 0).trans rfl)) ?_
  refine zu (.string ss) (run_load1 (fun w => Tryz.isAgg9 w) ky (((H0.blk (b2, 9, #[.string ss]) (by simp [hb2])).cell 0).trans rfl)) ?_
  refine wl_callx ky enter42 #[.pointer (some ⟨p.q, 0, none⟩), .string es, .string ss] ky (helloKey_P (hcl0 (L) _ H0) es ss hes hss hf hm) ?_
  rintro _ w2 ⟨rfl, hD1⟩
  refine ⟨_, rfl, ?_⟩
  obtain ⟨z3, X4, hcl5, hbe6, h7⟩ := PH.front hD1
  have h8 : HA z3 (L ++ X4) w2 := h7
  refine zv (.string k) ?_
  refine zv (iN .i64 0) ?_
  refine zv (.string k) ?_
  refine zv (iN .i64 0) ?_
  refine wl_nil (then_at rfl ?_)
  refine wp_ret ?_
  repeat first | refine then_ret ?_ | refine block_ret ?_
  exact bodyPost_ret (v := .tuple #[.string k, iN .i64 0]) ky rfl ⟨rfl, PH.sub (hcl5 (L) _ h8) (List.Sublist.refl _)⟩
set_option maxRecDepth 100000 in
set_option maxHeartbeats 2000000 in
theorem bg5 {w0 w : World} {M : ML} {p : Pr} {A : List Ent} {n : Nat} {L : BL} (H : PH w0 M p A n L w) {key ad : ByteArray} (hk : key.size ≤ 65536) (had : ad.size ≤ 16384) (hf : A.length < 58000) (hj : n < 1000000) {A' : List Ent} {x : Nat} (hm : mkA A 6 { data := #[] } [key, { data := #[] }, ad, { data := #[] }] = (A', x)) {b0 : Nat} {b1 : Nat} {b2 : Nat} (hb0 : (b0, 28, #[pt p.q]) ∈ L) (hb1 : (b1, 9, #[.string key]) ∈ L) (hb2 : (b2, 9, #[.string ad]) ∈ L) :
    Calls Tryz.prog 45 #[pt b0, pt b1, pt b2] w fun e w' => e = .returned (.tuple #[.string (txt x), iN .i64 0]) ∧ PH w0 M p A' (n + 1) L w' := by
  obtain ⟨z0, X0, hcl0, hbe0, H0⟩ := PH.front H
  go_enter Tryz.func45, Tryz.ntmps45
  refine wp_seq (wl_region ?_)
  refine zv (.string ({ data := #[] })) ?_
  refine zv (iN .i64 0) ?_
  refine wl_nil (then_at rfl (wp_seq (wl_region ?_)))
  refine zu (.pointer (some ⟨p.q, 0, none⟩)) (run_load1 (fun w => Tryz.isAgg28 w) ky (((H0.blk (b0, 28, #[pt p.q]) (by simp [hb0])).cell 0).trans rfl)) ?_
  refine zu (.string key) (run_load1 (fun w => Tryz.isAgg9 w) ky (((H0.blk (b1, 9, #[.string key]) (by simp [hb1])).cell 0).trans rfl)) ?_
  refine zu (.string ad) (run_load1 (fun w => Tryz.isAgg9 w) ky (((H0.blk (b2, 9, #[.string ad]) (by simp [hb2])).cell 0).trans rfl)) ?_
  refine wl_callx ky enter46 #[.pointer (some ⟨p.q, 0, none⟩), .string key, .string ({ data := #[] }), .string ad, .string ({ data := #[] })] ky (Seal_E (hcl0 (L) _ H0) key { data := #[] } ad { data := #[] } hk (by decide) had (by decide) hf hj hm) ?_
  rintro _ w2 ⟨rfl, hD1⟩
  refine ⟨_, rfl, ?_⟩
  obtain ⟨z3, X4, hcl5, hbe6, h7⟩ := PH.front hD1
  have h8 : HA z3 (L ++ X4) w2 := h7
  refine zv (.string (txt x)) ?_
  refine zv (iN .i64 0) ?_
  refine zv (.string (txt x)) ?_
  refine zv (iN .i64 0) ?_
  refine wl_nil (then_at rfl ?_)
  refine wp_ret ?_
  repeat first | refine then_ret ?_ | refine block_ret ?_
  exact bodyPost_ret (v := .tuple #[.string (txt x), iN .i64 0]) ky rfl ⟨rfl, PH.sub (hcl5 (L) _ h8) (List.Sublist.refl _)⟩
set_option maxRecDepth 100000 in
set_option maxHeartbeats 2000000 in
theorem Begin_P {w0 w : World} {M : ML} {p : Pr} {A : List Ent} {n : Nat} {L : BL} (H : PH w0 M p A n L w) (self : Nat) (secret server draw : ByteArray) (hself : self ≤ 65535) (hsec : secret.size ≤ 60000) (hser : server.size ≤ 60000) (hf : A.length < 50000) (hj : n < 1000000) {A2 A3 A4 A5 A6 : List Ent} {pu es ss pr : Nat} {key : ByteArray} (hkey : key.size ≤ 60000) (e1 : mkA (frA A) 3 { data := #[] } [txt A.length] = (A2, pu)) (l2 : A2.length < 50000) (e2 : mkA A2 4 { data := #[] } [txt A.length, server] = (A3, es)) (l3 : A3.length < 50000) (e3 : mkA A3 4 { data := #[] } [secret, server] = (A4, ss)) (l4 : A4.length < 50000) (e4 : dv A4 (layT [txt es, txt ss] 2) { data := #[] } hI 1 = (A5, [key])) (l5 : A5.length < 50000) (e5 : mkA A5 6 { data := #[] } [key, { data := #[] }, (adrT self ++ layT [txt pu] 1), { data := #[] }] = (A6, pr)) :
    Calls Tryz.prog 15 #[pt p.q, iN .i64 self, .string secret, .string server, .string draw] w fun e w' => ∃ q, e = .returned (.tuple #[pt q, .string ((adrT self ++ layT [txt pu] 1) ++ layT [txt pr] 1), iN .i64 0]) ∧ PH w0 M p A6 (n + 1) ((q, 89, #[pt p.q, .string secret, .string (txt A.length), .string ((adrT self ++ layT [txt pu] 1) ++ layT [txt pr] 1), .string (txt es), .string (txt ss)]) :: L) w' := by
  obtain ⟨z0, X0, hcl0, hbe0, H0⟩ := PH.front H
  go_enter Tryz.func15, Tryz.ntmps15
  refine wp_seq (wl_region ?_)
  refine wl_make (c := #[.pointer (some ⟨p.q, 0, none⟩)]) H0 28 ky ky ?_
  intro q1 w2 (h3 : HA z0 ((q1, 28, #[.pointer (some ⟨p.q, 0, none⟩)]) :: (L ++ X0)) w2)
  refine wl_make (c := #[.string secret]) h3 9 ky ky ?_
  intro q4 w5 (h6 : HA z0 ((q4, 9, #[.string secret]) :: (q1, 28, #[.pointer (some ⟨p.q, 0, none⟩)]) :: (L ++ X0)) w5)
  refine wl_make (c := #[.string server]) h6 9 ky ky ?_
  intro q7 w8 (h9 : HA z0 ((q7, 9, #[.string server]) :: (q4, 9, #[.string secret]) :: (q1, 28, #[.pointer (some ⟨p.q, 0, none⟩)]) :: (L ++ X0)) w8)
  refine zv (.pointer none) ?_
  refine zv (.string ({ data := #[] })) ?_
  refine zv (iN .i64 0) ?_
  refine wl_nil (then_at rfl (wp_seq (wp_block (wp_seq (wl_region ?_)))))
  refine zu (.pointer (some ⟨p.q, 0, none⟩)) (run_load1 (fun w => Tryz.isAgg28 w) ky (((h9.get 2 rfl).cell 0).trans rfl)) ?_
  refine wl_call (v := .bool false) h9 ky enter35 #[.pointer (some ⟨p.q, 0, none⟩)] ky (snone_k (PH.kit (hcl0 ((q7, 9, #[.string server]) :: (q4, 9, #[.string secret]) :: (q1, 28, #[.pointer (some ⟨p.q, 0, none⟩)]) :: L) _ h9))) ?_
  intro w10 h11
  refine zv (.bool false) ?_
  refine wl_nil (then_at rfl ?_)
  refine wp_cond_false ky ?_
  refine wp_seq (wl_region ?_)
  refine zv (iN .i64 self) ?_
  refine zu (.bool false) (run_lss (k := .i64) (a := self) (b := 0) ky ky false (decide_eq_false (by omega))) ?_
  refine zv (.bool false) ?_
  refine zv (iN .i64 self) ?_
  refine zu (.bool false) (run_gtr (k := .i64) (a := self) (b := 65535) ky ky false (decide_eq_false (by omega))) ?_
  refine zv (.bool false) ?_
  refine zv (.bool false) ?_
  refine wl_nil (then_at rfl ?_)
  refine wp_cond_false ky ?_
  refine wp_skip (block_normal (then_at rfl (wp_seq (wl_region ?_))))
  refine wl_make (c := #[iN .i64 0]) h11 29 ky ky ?_
  intro q12 w13 (h14 : HA z0 ((q12, 29, #[iN .i64 0]) :: (q7, 9, #[.string server]) :: (q4, 9, #[.string secret]) :: (q1, 28, #[.pointer (some ⟨p.q, 0, none⟩)]) :: (L ++ X0)) w13)
  refine wl_putv (v := iN .i64 0) h14 0 rfl 0 (by show 0 < 1; decide) ky (fun w => Tryz.sizeOf29 w) ky ky ky ?_
  intro w15 (h16 : HA z0 ((q12, 29, #[iN .i64 0]) :: (q7, 9, #[.string server]) :: (q4, 9, #[.string secret]) :: (q1, 28, #[.pointer (some ⟨p.q, 0, none⟩)]) :: (L ++ X0)) w15)
  refine wl_nil (then_at rfl (wp_seq (wl_region ?_)))
  refine wl_callx ky enter36 #[.pointer (some ⟨q12, 0, none⟩)] ky (kp_s h16) ?_
  rintro _ w19 ⟨kb17, rfl, h18⟩
  refine ⟨_, rfl, ?_⟩
  have h20 : HA z0 ((kb17, 107, #[pt q12]) :: (q12, 29, #[iN .i64 0]) :: (q7, 9, #[.string server]) :: (q4, 9, #[.string secret]) :: (q1, 28, #[.pointer (some ⟨p.q, 0, none⟩)]) :: (L ++ X0)) w19 := h18
  refine zv (.func (.func 92) #[] #[pt kb17]) ?_
  refine wl_nil (then_at rfl (wp_seq (wl_region ?_)))
  refine zu (.pointer (some ⟨p.q, 0, none⟩)) (run_load1 (fun w => Tryz.isAgg28 w) ky (((h20.get 4 rfl).cell 0).trans rfl)) ?_
  refine zv (.string draw) ?_
  refine wl_callx ky enter11 #[.pointer (some ⟨p.q, 0, none⟩), .string draw] ky (Secret_P (hcl0 ((kb17, 107, #[pt q12]) :: (q12, 29, #[iN .i64 0]) :: (q7, 9, #[.string server]) :: (q4, 9, #[.string secret]) :: (q1, 28, #[.pointer (some ⟨p.q, 0, none⟩)]) :: L) _ h20) draw (by omega)) ?_
  rintro _ w22 ⟨rfl, hD21⟩
  refine ⟨_, rfl, ?_⟩
  obtain ⟨z23, X24, hcl25, hbe26, h27⟩ := PH.front hD21
  have h28 : HA z23 ((kb17, 107, #[pt q12]) :: (q12, 29, #[iN .i64 0]) :: (q7, 9, #[.string server]) :: (q4, 9, #[.string secret]) :: (q1, 28, #[.pointer (some ⟨p.q, 0, none⟩)]) :: (L ++ X24)) w22 := h27
  refine wl_make (c := #[.string ({ data := #[] })]) h28 9 ky ky ?_
  intro q29 w30 (h31 : HA z23 ((q29, 9, #[.string ({ data := #[] })]) :: (kb17, 107, #[pt q12]) :: (q12, 29, #[iN .i64 0]) :: (q7, 9, #[.string server]) :: (q4, 9, #[.string secret]) :: (q1, 28, #[.pointer (some ⟨p.q, 0, none⟩)]) :: (L ++ X24)) w30)
  refine wl_putv (v := .string (txt A.length)) h31 0 rfl 0 (by show 0 < 1; decide) ky (fun w => Tryz.sizeOf9 w) ky ky ky ?_
  intro w32 (h33 : HA z23 ((q29, 9, #[.string (txt A.length)]) :: (kb17, 107, #[pt q12]) :: (q12, 29, #[iN .i64 0]) :: (q7, 9, #[.string server]) :: (q4, 9, #[.string secret]) :: (q1, 28, #[.pointer (some ⟨p.q, 0, none⟩)]) :: (L ++ X24)) w32)
  refine wl_nil (then_at rfl (wp_seq (wl_region ?_)))
  refine zv (.func (.func 92) #[] #[pt kb17]) ?_
  refine zv (.func (.func 37) #[] #[.pointer (some ⟨q1, 0, none⟩), .pointer (some ⟨q29, 0, none⟩)]) ?_
  refine wl_callvx (cap := #[.pointer (some ⟨kb17, 0, none⟩)]) (args := #[.func (.func 37) #[] #[.pointer (some ⟨q1, 0, none⟩), .pointer (some ⟨q29, 0, none⟩)], .pointer (some ⟨kb17, 0, none⟩)]) ky enter92 ky ky (keep_s enter37 (PH.perm (hcl25 ((q29, 9, #[.string (txt A.length)]) :: (kb17, 107, #[pt q12]) :: (q12, 29, #[iN .i64 0]) :: (q7, 9, #[.string server]) :: (q4, 9, #[.string secret]) :: (q1, 28, #[.pointer (some ⟨p.q, 0, none⟩)]) :: L) _ h33) (List.Perm.trans (List.Perm.cons _ (List.Perm.swap _ _ _)) (List.Perm.trans (List.Perm.swap _ _ _) (List.Perm.cons _ (List.Perm.swap _ _ _))))) (fun w Lx hx HL => bg1 HL (by rw [txt_size]; decide) (by rw [frA_len]; omega) e1 (hx _ (List.mem_of_getElem? (i := 3) rfl)) (hx _ (List.mem_of_getElem? (i := 0) rfl)))) ?_
  rintro _ w35 ⟨rfl, hD34⟩
  refine ⟨_, rfl, ?_⟩
  obtain ⟨z36, X37, hcl38, hbe39, h40⟩ := PH.front hD34
  have h41 : HA z36 ((q12, 29, #[iN .i64 0]) :: (kb17, 107, #[pt q12]) :: (q29, 9, #[.string (txt A.length)]) :: (q7, 9, #[.string server]) :: (q4, 9, #[.string secret]) :: (q1, 28, #[.pointer (some ⟨p.q, 0, none⟩)]) :: (L ++ X37)) w35 := h40
  refine zv (.string (txt pu)) ?_
  refine wl_nil (then_at rfl (wp_seq (wl_region ?_)))
  refine zv (.func (.func 92) #[] #[pt kb17]) ?_
  refine zv (.func (.func 38) #[] #[.pointer (some ⟨q1, 0, none⟩), .pointer (some ⟨q29, 0, none⟩), .pointer (some ⟨q7, 0, none⟩)]) ?_
  refine wl_callvx (cap := #[.pointer (some ⟨kb17, 0, none⟩)]) (args := #[.func (.func 38) #[] #[.pointer (some ⟨q1, 0, none⟩), .pointer (some ⟨q29, 0, none⟩), .pointer (some ⟨q7, 0, none⟩)], .pointer (some ⟨kb17, 0, none⟩)]) ky enter92 ky ky (keep_s enter38 (hcl38 ((q12, 29, #[iN .i64 0]) :: (kb17, 107, #[pt q12]) :: (q29, 9, #[.string (txt A.length)]) :: (q7, 9, #[.string server]) :: (q4, 9, #[.string secret]) :: (q1, 28, #[.pointer (some ⟨p.q, 0, none⟩)]) :: L) _ h41) (fun w Lx hx HL => bg2 HL (by rw [txt_size]; decide) (by omega) (by omega) e2 (hx _ (List.mem_of_getElem? (i := 3) rfl)) (hx _ (List.mem_of_getElem? (i := 0) rfl)) (hx _ (List.mem_of_getElem? (i := 1) rfl)))) ?_
  rintro _ w43 ⟨rfl, hD42⟩
  refine ⟨_, rfl, ?_⟩
  obtain ⟨z44, X45, hcl46, hbe47, h48⟩ := PH.front hD42
  have h49 : HA z44 ((q12, 29, #[iN .i64 0]) :: (kb17, 107, #[pt q12]) :: (q29, 9, #[.string (txt A.length)]) :: (q7, 9, #[.string server]) :: (q4, 9, #[.string secret]) :: (q1, 28, #[.pointer (some ⟨p.q, 0, none⟩)]) :: (L ++ X45)) w43 := h48
  refine wl_make (c := #[.string ({ data := #[] })]) h49 9 ky ky ?_
  intro q50 w51 (h52 : HA z44 ((q50, 9, #[.string ({ data := #[] })]) :: (q12, 29, #[iN .i64 0]) :: (kb17, 107, #[pt q12]) :: (q29, 9, #[.string (txt A.length)]) :: (q7, 9, #[.string server]) :: (q4, 9, #[.string secret]) :: (q1, 28, #[.pointer (some ⟨p.q, 0, none⟩)]) :: (L ++ X45)) w51)
  refine wl_putv (v := .string (txt es)) h52 0 rfl 0 (by show 0 < 1; decide) ky (fun w => Tryz.sizeOf9 w) ky ky ky ?_
  intro w53 (h54 : HA z44 ((q50, 9, #[.string (txt es)]) :: (q12, 29, #[iN .i64 0]) :: (kb17, 107, #[pt q12]) :: (q29, 9, #[.string (txt A.length)]) :: (q7, 9, #[.string server]) :: (q4, 9, #[.string secret]) :: (q1, 28, #[.pointer (some ⟨p.q, 0, none⟩)]) :: (L ++ X45)) w53)
  refine wl_nil (then_at rfl (wp_seq (wl_region ?_)))
  refine zv (.func (.func 92) #[] #[pt kb17]) ?_
  refine zv (.func (.func 40) #[] #[.pointer (some ⟨q1, 0, none⟩), .pointer (some ⟨q4, 0, none⟩), .pointer (some ⟨q7, 0, none⟩)]) ?_
  refine wl_callvx (cap := #[.pointer (some ⟨kb17, 0, none⟩)]) (args := #[.func (.func 40) #[] #[.pointer (some ⟨q1, 0, none⟩), .pointer (some ⟨q4, 0, none⟩), .pointer (some ⟨q7, 0, none⟩)], .pointer (some ⟨kb17, 0, none⟩)]) ky enter92 ky ky (keep_s enter40 (PH.perm (hcl46 ((q50, 9, #[.string (txt es)]) :: (q12, 29, #[iN .i64 0]) :: (kb17, 107, #[pt q12]) :: (q29, 9, #[.string (txt A.length)]) :: (q7, 9, #[.string server]) :: (q4, 9, #[.string secret]) :: (q1, 28, #[.pointer (some ⟨p.q, 0, none⟩)]) :: L) _ h54) (List.Perm.trans (List.Perm.swap _ _ _) (List.Perm.cons _ (List.Perm.swap _ _ _)))) (fun w Lx hx HL => bg3 HL (by omega) (by omega) (by omega) e3 (hx _ (List.mem_of_getElem? (i := 4) rfl)) (hx _ (List.mem_of_getElem? (i := 3) rfl)) (hx _ (List.mem_of_getElem? (i := 2) rfl)))) ?_
  rintro _ w56 ⟨rfl, hD55⟩
  refine ⟨_, rfl, ?_⟩
  obtain ⟨z57, X58, hcl59, hbe60, h61⟩ := PH.front hD55
  have h62 : HA z57 ((q12, 29, #[iN .i64 0]) :: (kb17, 107, #[pt q12]) :: (q50, 9, #[.string (txt es)]) :: (q29, 9, #[.string (txt A.length)]) :: (q7, 9, #[.string server]) :: (q4, 9, #[.string secret]) :: (q1, 28, #[.pointer (some ⟨p.q, 0, none⟩)]) :: (L ++ X58)) w56 := h61
  refine wl_make (c := #[.string ({ data := #[] })]) h62 9 ky ky ?_
  intro q63 w64 (h65 : HA z57 ((q63, 9, #[.string ({ data := #[] })]) :: (q12, 29, #[iN .i64 0]) :: (kb17, 107, #[pt q12]) :: (q50, 9, #[.string (txt es)]) :: (q29, 9, #[.string (txt A.length)]) :: (q7, 9, #[.string server]) :: (q4, 9, #[.string secret]) :: (q1, 28, #[.pointer (some ⟨p.q, 0, none⟩)]) :: (L ++ X58)) w64)
  refine wl_putv (v := .string (txt ss)) h65 0 rfl 0 (by show 0 < 1; decide) ky (fun w => Tryz.sizeOf9 w) ky ky ky ?_
  intro w66 (h67 : HA z57 ((q63, 9, #[.string (txt ss)]) :: (q12, 29, #[iN .i64 0]) :: (kb17, 107, #[pt q12]) :: (q50, 9, #[.string (txt es)]) :: (q29, 9, #[.string (txt A.length)]) :: (q7, 9, #[.string server]) :: (q4, 9, #[.string secret]) :: (q1, 28, #[.pointer (some ⟨p.q, 0, none⟩)]) :: (L ++ X58)) w66)
  refine wl_nil (then_at rfl (wp_seq (wl_region ?_)))
  refine zv (.func (.func 92) #[] #[pt kb17]) ?_
  refine zv (.func (.func 41) #[] #[.pointer (some ⟨q1, 0, none⟩), .pointer (some ⟨q50, 0, none⟩), .pointer (some ⟨q63, 0, none⟩)]) ?_
  refine wl_callvx (cap := #[.pointer (some ⟨kb17, 0, none⟩)]) (args := #[.func (.func 41) #[] #[.pointer (some ⟨q1, 0, none⟩), .pointer (some ⟨q50, 0, none⟩), .pointer (some ⟨q63, 0, none⟩)], .pointer (some ⟨kb17, 0, none⟩)]) ky enter92 ky ky (keep_s enter41 (PH.perm (hcl59 ((q63, 9, #[.string (txt ss)]) :: (q12, 29, #[iN .i64 0]) :: (kb17, 107, #[pt q12]) :: (q50, 9, #[.string (txt es)]) :: (q29, 9, #[.string (txt A.length)]) :: (q7, 9, #[.string server]) :: (q4, 9, #[.string secret]) :: (q1, 28, #[.pointer (some ⟨p.q, 0, none⟩)]) :: L) _ h67) (List.Perm.trans (List.Perm.swap _ _ _) (List.Perm.cons _ (List.Perm.swap _ _ _)))) (fun w Lx hx HL => bg4 HL (by rw [txt_size]; decide) (by rw [txt_size]; decide) (by omega) e4 (hx _ (List.mem_of_getElem? (i := 5) rfl)) (hx _ (List.mem_of_getElem? (i := 1) rfl)) (hx _ (List.mem_of_getElem? (i := 0) rfl)))) ?_
  rintro _ w69 ⟨rfl, hD68⟩
  refine ⟨_, rfl, ?_⟩
  obtain ⟨z70, X71, hcl72, hbe73, h74⟩ := PH.front hD68
  have h75 : HA z70 ((q12, 29, #[iN .i64 0]) :: (kb17, 107, #[pt q12]) :: (q63, 9, #[.string (txt ss)]) :: (q50, 9, #[.string (txt es)]) :: (q29, 9, #[.string (txt A.length)]) :: (q7, 9, #[.string server]) :: (q4, 9, #[.string secret]) :: (q1, 28, #[.pointer (some ⟨p.q, 0, none⟩)]) :: (L ++ X71)) w69 := h74
  refine wl_make (c := #[.string ({ data := #[] })]) h75 9 ky ky ?_
  intro q76 w77 (h78 : HA z70 ((q76, 9, #[.string ({ data := #[] })]) :: (q12, 29, #[iN .i64 0]) :: (kb17, 107, #[pt q12]) :: (q63, 9, #[.string (txt ss)]) :: (q50, 9, #[.string (txt es)]) :: (q29, 9, #[.string (txt A.length)]) :: (q7, 9, #[.string server]) :: (q4, 9, #[.string secret]) :: (q1, 28, #[.pointer (some ⟨p.q, 0, none⟩)]) :: (L ++ X71)) w77)
  refine wl_putv (v := .string key) h78 0 rfl 0 (by show 0 < 1; decide) ky (fun w => Tryz.sizeOf9 w) ky ky ky ?_
  intro w79 (h80 : HA z70 ((q76, 9, #[.string key]) :: (q12, 29, #[iN .i64 0]) :: (kb17, 107, #[pt q12]) :: (q63, 9, #[.string (txt ss)]) :: (q50, 9, #[.string (txt es)]) :: (q29, 9, #[.string (txt A.length)]) :: (q7, 9, #[.string server]) :: (q4, 9, #[.string secret]) :: (q1, 28, #[.pointer (some ⟨p.q, 0, none⟩)]) :: (L ++ X71)) w79)
  refine wl_nil (then_at rfl (wp_seq (wl_region ?_)))
  refine zv (iN .i64 self) ?_
  refine wl_call (v := .string (adrT self)) h80 ky enter43 #[iN .i64 self] ky (adr_any self (by omega)) ?_
  intro w81 h82
  refine zv (.string (txt pu)) ?_
  refine wl_mks (n := 1) (m := 1) (c := #[.string (txt pu)]) h82 9 ky ky ?_
  intro q83 w84 (h85 : HA z70 ((q83, 9, #[.string (txt pu)]) :: (q76, 9, #[.string key]) :: (q12, 29, #[iN .i64 0]) :: (kb17, 107, #[pt q12]) :: (q63, 9, #[.string (txt ss)]) :: (q50, 9, #[.string (txt es)]) :: (q29, 9, #[.string (txt A.length)]) :: (q7, 9, #[.string server]) :: (q4, 9, #[.string secret]) :: (q1, 28, #[.pointer (some ⟨p.q, 0, none⟩)]) :: (L ++ X71)) w84)
  refine wl_call (v := .string (layT [txt pu] 1)) h85 ky enter44 #[.slice (some ⟨q83, 0, none⟩) 1 1] ky (laid_any [txt pu] _ _ (.inr ⟨q83, _, rfl, PreS.strc [txt pu], h85.get 0 rfl⟩) (m := 8) (by decide) (ss1 (by rw [txt_size]; decide)) (by simp)) ?_
  intro w86 h87
  refine zu (.string (adrT self ++ layT [txt pu] 1)) (run_cat (s := adrT self) (t := layT [txt pu] 1) ky ky (by simp only [adrT_size]; have := lay1_size pu; omega)) ?_
  refine wl_make (c := #[.string ({ data := #[] })]) h87 9 ky ky ?_
  intro q88 w89 (h90 : HA z70 ((q88, 9, #[.string ({ data := #[] })]) :: (q83, 9, #[.string (txt pu)]) :: (q76, 9, #[.string key]) :: (q12, 29, #[iN .i64 0]) :: (kb17, 107, #[pt q12]) :: (q63, 9, #[.string (txt ss)]) :: (q50, 9, #[.string (txt es)]) :: (q29, 9, #[.string (txt A.length)]) :: (q7, 9, #[.string server]) :: (q4, 9, #[.string secret]) :: (q1, 28, #[.pointer (some ⟨p.q, 0, none⟩)]) :: (L ++ X71)) w89)
  refine wl_putv (v := .string (adrT self ++ layT [txt pu] 1)) h90 0 rfl 0 (by show 0 < 1; decide) ky (fun w => Tryz.sizeOf9 w) ky ky ky ?_
  intro w91 (h92 : HA z70 ((q88, 9, #[.string (adrT self ++ layT [txt pu] 1)]) :: (q83, 9, #[.string (txt pu)]) :: (q76, 9, #[.string key]) :: (q12, 29, #[iN .i64 0]) :: (kb17, 107, #[pt q12]) :: (q63, 9, #[.string (txt ss)]) :: (q50, 9, #[.string (txt es)]) :: (q29, 9, #[.string (txt A.length)]) :: (q7, 9, #[.string server]) :: (q4, 9, #[.string secret]) :: (q1, 28, #[.pointer (some ⟨p.q, 0, none⟩)]) :: (L ++ X71)) w91)
  refine wl_nil ?_
  refine then_at (F := ⟨(pt p.q :: iN .i64 self :: .string secret :: .string server :: .string draw :: pt q1 :: un :: pt q4 :: pt q7 :: un :: .pointer none :: .string ({ data := #[] }) :: iN .i64 0 :: pt q12 :: .func (.func 92) #[] #[pt kb17] :: pt q29 :: .string (txt pu) :: pt q50 :: pt q63 :: pt q76 :: pt q88 :: un :: un :: un :: .bool false :: pt p.q :: .bool false :: .bool false :: iN .i64 self :: .bool false :: .bool false :: iN .i64 self :: .bool false :: .bool false :: .func (.func 92) #[] #[pt kb17] :: pt p.q :: .string draw :: .string (txt A.length) :: .func (.func 92) #[] #[pt kb17] :: .func (.func 37) #[] #[pt q1, pt q29] :: .string (txt pu) :: .func (.func 92) #[] #[pt kb17] :: .func (.func 38) #[] #[pt q1, pt q29, pt q7] :: .string (txt es) :: .func (.func 92) #[] #[pt kb17] :: .func (.func 40) #[] #[pt q1, pt q4, pt q7] :: .string (txt ss) :: .func (.func 92) #[] #[pt kb17] :: .func (.func 41) #[] #[pt q1, pt q50, pt q63] :: .string key :: iN .i64 self :: .string (adrT self) :: .string (txt pu) :: .slice (some ⟨q83, 0, none⟩) 1 1 :: .string (layT [txt pu] 1) :: .string (adrT self ++ layT [txt pu] 1) :: List.replicate 25 un).toArray, []⟩) ky ?_
  refine wp_seq (wl_region ?_)
  refine zv (.func (.func 92) #[] #[pt kb17]) ?_
  refine zv (.func (.func 45) #[] #[.pointer (some ⟨q1, 0, none⟩), .pointer (some ⟨q76, 0, none⟩), .pointer (some ⟨q88, 0, none⟩)]) ?_
  refine wl_callvx (cap := #[.pointer (some ⟨kb17, 0, none⟩)]) (args := #[.func (.func 45) #[] #[.pointer (some ⟨q1, 0, none⟩), .pointer (some ⟨q76, 0, none⟩), .pointer (some ⟨q88, 0, none⟩)], .pointer (some ⟨kb17, 0, none⟩)]) ky enter92 ky ky (keep_s enter45 (PH.perm (hcl72 ((q88, 9, #[.string (adrT self ++ layT [txt pu] 1)]) :: (q83, 9, #[.string (txt pu)]) :: (q76, 9, #[.string key]) :: (q12, 29, #[iN .i64 0]) :: (kb17, 107, #[pt q12]) :: (q63, 9, #[.string (txt ss)]) :: (q50, 9, #[.string (txt es)]) :: (q29, 9, #[.string (txt A.length)]) :: (q7, 9, #[.string server]) :: (q4, 9, #[.string secret]) :: (q1, 28, #[.pointer (some ⟨p.q, 0, none⟩)]) :: L) _ h92) (List.Perm.trans (List.Perm.cons _ (List.Perm.cons _ (List.Perm.swap _ _ _))) (List.Perm.trans (List.Perm.cons _ (List.Perm.swap _ _ _)) (List.Perm.trans (List.Perm.swap _ _ _) (List.Perm.trans (List.Perm.cons _ (List.Perm.cons _ (List.Perm.cons _ (List.Perm.swap _ _ _)))) (List.Perm.trans (List.Perm.cons _ (List.Perm.cons _ (List.Perm.swap _ _ _))) (List.Perm.cons _ (List.Perm.swap _ _ _)))))))) (fun w Lx hx HL => bg5 HL (by omega) (by rw [ByteArray.size_append, adrT_size]; have := lay1_size pu; omega) (by omega) hj e5 (hx _ (List.mem_of_getElem? (i := 8) rfl)) (hx _ (List.mem_of_getElem? (i := 2) rfl)) (hx _ (List.mem_of_getElem? (i := 0) rfl)))) ?_
  rintro _ w94 ⟨rfl, hD93⟩
  refine ⟨_, rfl, ?_⟩
  obtain ⟨z95, X96, hcl97, hbe98, h99⟩ := PH.front hD93
  have h100 : HA z95 ((q12, 29, #[iN .i64 0]) :: (kb17, 107, #[pt q12]) :: (q88, 9, #[.string (adrT self ++ layT [txt pu] 1)]) :: (q83, 9, #[.string (txt pu)]) :: (q76, 9, #[.string key]) :: (q63, 9, #[.string (txt ss)]) :: (q50, 9, #[.string (txt es)]) :: (q29, 9, #[.string (txt A.length)]) :: (q7, 9, #[.string server]) :: (q4, 9, #[.string secret]) :: (q1, 28, #[.pointer (some ⟨p.q, 0, none⟩)]) :: (L ++ X96)) w94 := h99
  refine zv (.string (txt pr)) ?_
  refine wl_nil (then_at rfl (wp_seq (wp_seq (wl_region ?_))))
  refine zu (iN .i64 0) (run_load1 (fun w => Tryz.isAgg29 w) ky (((h100.get 0 rfl).cell 0).trans rfl)) ?_
  refine zu (.bool false) (run_nei (k := .i64) (a := 0) (b := 0) ky ky false (by decide)) ?_
  refine wl_nil (then_at rfl ?_)
  refine wp_cond_false ky ?_
  refine wp_skip (then_at rfl (wp_seq ?_))
  refine wp_region_wx (HA z95 ((q12, 29, #[iN .i64 0]) :: (kb17, 107, #[pt q12]) :: (q88, 9, #[.string (adrT self ++ layT [txt pu] 1)]) :: (q83, 9, #[.string (txt pu)]) :: (q76, 9, #[.string key]) :: (q63, 9, #[.string (txt ss)]) :: (q50, 9, #[.string (txt es)]) :: (q29, 9, #[.string (txt A.length)]) :: (q7, 9, #[.string server]) :: (q4, 9, #[.string secret]) :: (q1, 28, #[.pointer (some ⟨p.q, 0, none⟩)]) :: (L ++ X96))) (fun AQ w' => ∃ (q104 : Nat), AQ = ⟨(pt p.q :: iN .i64 self :: .string secret :: .string server :: .string draw :: pt q1 :: un :: pt q4 :: pt q7 :: un :: .pointer none :: .string ({ data := #[] }) :: iN .i64 0 :: pt q12 :: .func (.func 92) #[] #[pt kb17] :: pt q29 :: .string (txt pu) :: pt q50 :: pt q63 :: pt q76 :: pt q88 :: .string (txt pr) :: .string ((adrT self ++ layT [txt pu] 1) ++ layT [txt pr] 1) :: un :: .bool false :: pt p.q :: .bool false :: .bool false :: iN .i64 self :: .bool false :: .bool false :: iN .i64 self :: .bool false :: .bool false :: .func (.func 92) #[] #[pt kb17] :: pt p.q :: .string draw :: .string (txt A.length) :: .func (.func 92) #[] #[pt kb17] :: .func (.func 37) #[] #[pt q1, pt q29] :: .string (txt pu) :: .func (.func 92) #[] #[pt kb17] :: .func (.func 38) #[] #[pt q1, pt q29, pt q7] :: .string (txt es) :: .func (.func 92) #[] #[pt kb17] :: .func (.func 40) #[] #[pt q1, pt q4, pt q7] :: .string (txt ss) :: .func (.func 92) #[] #[pt kb17] :: .func (.func 41) #[] #[pt q1, pt q50, pt q63] :: .string key :: iN .i64 self :: .string (adrT self) :: .string (txt pu) :: .slice (some ⟨q83, 0, none⟩) 1 1 :: .string (layT [txt pu] 1) :: .string (adrT self ++ layT [txt pu] 1) :: .func (.func 92) #[] #[pt kb17] :: .func (.func 45) #[] #[pt q1, pt q76, pt q88] :: .string (txt pr) :: iN .i64 0 :: .bool false :: un :: .string (adrT self ++ layT [txt pu] 1) :: .string (txt pr) :: .slice (some ⟨q104, 0, none⟩) 1 1 :: .string (layT [txt pr] 1) :: .string ((adrT self ++ layT [txt pu] 1) ++ layT [txt pr] 1) :: List.replicate 14 un).toArray, []⟩ ∧ HA z95 ((q104, 9, #[.string (txt pr)]) :: (q12, 29, #[iN .i64 0]) :: (kb17, 107, #[pt q12]) :: (q88, 9, #[.string (adrT self ++ layT [txt pu] 1)]) :: (q83, 9, #[.string (txt pu)]) :: (q76, 9, #[.string key]) :: (q63, 9, #[.string (txt ss)]) :: (q50, 9, #[.string (txt es)]) :: (q29, 9, #[.string (txt A.length)]) :: (q7, 9, #[.string server]) :: (q4, 9, #[.string secret]) :: (q1, 28, #[.pointer (some ⟨p.q, 0, none⟩)]) :: (L ++ X96)) w') 6 ky ky ky ky ky (h100.drew) ?_ ?_
  · have h101 := h100.drew
    refine wx_val (i := 0) (.string (adrT self ++ layT [txt pu] 1)) rfl rfl ky ky (fun w' h' => run_load1 (fun w => Tryz.isAgg9 w) ky (((h'.get 2 rfl).cell 0).trans rfl)) ?_
    refine zp 1 (.string (txt pr)) ?_
    refine wx_one 2 ky ?_
    refine ex_makeT (c := #[.string (txt pr)]) rfl ky h101 9 (fun q => .slice (some ⟨q, 0, none⟩) 1 1) (fun _ => ky) ?_
    intro q104 w102 (h103 : HA z95 ((q104, 9, #[.string (txt pr)]) :: (q12, 29, #[iN .i64 0]) :: (kb17, 107, #[pt q12]) :: (q88, 9, #[.string (adrT self ++ layT [txt pu] 1)]) :: (q83, 9, #[.string (txt pu)]) :: (q76, 9, #[.string key]) :: (q63, 9, #[.string (txt ss)]) :: (q50, 9, #[.string (txt es)]) :: (q29, 9, #[.string (txt A.length)]) :: (q7, 9, #[.string server]) :: (q4, 9, #[.string secret]) :: (q1, 28, #[.pointer (some ⟨p.q, 0, none⟩)]) :: (L ++ X96)) w102)
    refine ⟨_, .inr rfl, (HA.sub h103 (List.Sublist.cons _ (List.Sublist.cons_cons _ (List.Sublist.cons_cons _ (List.Sublist.cons_cons _ (List.Sublist.cons_cons _ (List.Sublist.cons_cons _ (List.Sublist.cons_cons _ (List.Sublist.cons_cons _ (List.Sublist.cons_cons _ (List.Sublist.cons_cons _ (List.Sublist.cons_cons _ (List.Sublist.cons_cons _ (List.Sublist.refl _)))))))))))))), ?_⟩
    refine wx_one 3 ky ?_
    refine ex_callx rfl ky h103 enter44 #[.slice (some ⟨q104, 0, none⟩) 1 1] ky (fun w105 h106 => laid_any [txt pr] _ _ (.inr ⟨q104, _, rfl, PreS.strc [txt pr], h106.get 0 rfl⟩) (m := 8) (by decide) (ss1 (by rw [txt_size]; decide)) (by simp)) ?_
    rintro w105 h106 _ w108 ⟨rfl, hb107⟩
    have h109 := HA.keep _ _ h106 hb107
    refine ⟨_, rfl, _, .inr rfl, (HA.sub h109 (List.Sublist.cons _ (List.Sublist.cons_cons _ (List.Sublist.cons_cons _ (List.Sublist.cons_cons _ (List.Sublist.cons_cons _ (List.Sublist.cons_cons _ (List.Sublist.cons_cons _ (List.Sublist.cons_cons _ (List.Sublist.cons_cons _ (List.Sublist.cons_cons _ (List.Sublist.cons_cons _ (List.Sublist.cons_cons _ (List.Sublist.refl _)))))))))))))), ?_⟩
    refine wx_pure (i := 4) (.string ((adrT self ++ layT [txt pu] 1) ++ layT [txt pr] 1)) rfl rfl ky ky (fun _ => (run_cat (s := (adrT self ++ layT [txt pu] 1)) (t := layT [txt pr] 1) ky ky (by simp only [ByteArray.size_append, adrT_size]; have := lay1_size pu; have := lay1_size pr; omega))) ?_
    refine zp 5 (.string ((adrT self ++ layT [txt pu] 1) ++ layT [txt pr] 1)) ?_
    refine wx_end fun w110 hbx _ => ?_
    have h111 := HA.keep _ _ h109 hbx
    exact ⟨q104, by kernel_rfl, h111⟩
  · rintro _ w112 ⟨q104, rfl, h113⟩
    refine then_at rfl (wp_seq ?_)
    refine wp_region_wx (HA z95 ((q104, 9, #[.string (txt pr)]) :: (q12, 29, #[iN .i64 0]) :: (kb17, 107, #[pt q12]) :: (q88, 9, #[.string (adrT self ++ layT [txt pu] 1)]) :: (q83, 9, #[.string (txt pu)]) :: (q76, 9, #[.string key]) :: (q63, 9, #[.string (txt ss)]) :: (q50, 9, #[.string (txt es)]) :: (q29, 9, #[.string (txt A.length)]) :: (q7, 9, #[.string server]) :: (q4, 9, #[.string secret]) :: (q1, 28, #[.pointer (some ⟨p.q, 0, none⟩)]) :: (L ++ X96))) (fun AQ w' => ∃ (q117 : Nat), AQ = ⟨(pt p.q :: iN .i64 self :: .string secret :: .string server :: .string draw :: pt q1 :: un :: pt q4 :: pt q7 :: un :: .pointer none :: .string ({ data := #[] }) :: iN .i64 0 :: pt q12 :: .func (.func 92) #[] #[pt kb17] :: pt q29 :: .string (txt pu) :: pt q50 :: pt q63 :: pt q76 :: pt q88 :: .string (txt pr) :: .string ((adrT self ++ layT [txt pu] 1) ++ layT [txt pr] 1) :: pt q117 :: .bool false :: pt p.q :: .bool false :: .bool false :: iN .i64 self :: .bool false :: .bool false :: iN .i64 self :: .bool false :: .bool false :: .func (.func 92) #[] #[pt kb17] :: pt p.q :: .string draw :: .string (txt A.length) :: .func (.func 92) #[] #[pt kb17] :: .func (.func 37) #[] #[pt q1, pt q29] :: .string (txt pu) :: .func (.func 92) #[] #[pt kb17] :: .func (.func 38) #[] #[pt q1, pt q29, pt q7] :: .string (txt es) :: .func (.func 92) #[] #[pt kb17] :: .func (.func 40) #[] #[pt q1, pt q4, pt q7] :: .string (txt ss) :: .func (.func 92) #[] #[pt kb17] :: .func (.func 41) #[] #[pt q1, pt q50, pt q63] :: .string key :: iN .i64 self :: .string (adrT self) :: .string (txt pu) :: .slice (some ⟨q83, 0, none⟩) 1 1 :: .string (layT [txt pu] 1) :: .string (adrT self ++ layT [txt pu] 1) :: .func (.func 92) #[] #[pt kb17] :: .func (.func 45) #[] #[pt q1, pt q76, pt q88] :: .string (txt pr) :: iN .i64 0 :: .bool false :: un :: .string (adrT self ++ layT [txt pu] 1) :: .string (txt pr) :: .slice (some ⟨q104, 0, none⟩) 1 1 :: .string (layT [txt pr] 1) :: .string ((adrT self ++ layT [txt pu] 1) ++ layT [txt pr] 1) :: pt p.q :: .string secret :: .string secret :: .string (txt A.length) :: .agg #[pt p.q, .string secret, .string (txt A.length)] :: .string ((adrT self ++ layT [txt pu] 1) ++ layT [txt pr] 1) :: .string (((adrT self ++ layT [txt pu] 1) ++ layT [txt pr] 1)) :: .string (txt es) :: .string (txt ss) :: .agg #[.string (((adrT self ++ layT [txt pu] 1) ++ layT [txt pr] 1)), .string (txt es), .string (txt ss)] :: .agg #[pt p.q, .string secret, .string (txt A.length), .string (((adrT self ++ layT [txt pu] 1) ++ layT [txt pr] 1)), .string (txt es), .string (txt ss)] :: pt q117 :: List.replicate 2 un).toArray, []⟩ ∧ HA z95 ((q117, 89, #[.pointer (some ⟨p.q, 0, none⟩), .string secret, .string (txt A.length), .string (((adrT self ++ layT [txt pu] 1) ++ layT [txt pr] 1)), .string (txt es), .string (txt ss)]) :: (q104, 9, #[.string (txt pr)]) :: (q12, 29, #[iN .i64 0]) :: (kb17, 107, #[pt q12]) :: (q88, 9, #[.string (adrT self ++ layT [txt pu] 1)]) :: (q83, 9, #[.string (txt pu)]) :: (q76, 9, #[.string key]) :: (q63, 9, #[.string (txt ss)]) :: (q50, 9, #[.string (txt es)]) :: (q29, 9, #[.string (txt A.length)]) :: (q7, 9, #[.string server]) :: (q4, 9, #[.string secret]) :: (q1, 28, #[.pointer (some ⟨p.q, 0, none⟩)]) :: (L ++ X96)) w') 13 ky ky ky ky ky (h113.drew) ?_ ?_
    · have h114 := h113.drew
      refine wx_val (i := 0) (.pointer (some ⟨p.q, 0, none⟩)) rfl rfl ky ky (fun w' h' => run_load1 (fun w => Tryz.isAgg28 w) ky (((h'.get 11 rfl).cell 0).trans rfl)) ?_
      refine wx_val (i := 1) (.string secret) rfl rfl ky ky (fun w' h' => run_load1 (fun w => Tryz.isAgg9 w) ky (((h'.get 10 rfl).cell 0).trans rfl)) ?_
      refine wx_call (i := 2) (.string secret) (fun _ _ h hb => HA.keep _ _ h hb) rfl rfl ky ky enter47 #[.string secret] ky (fun w' h' => clone_any secret (by omega) w') ?_
      refine wx_val (i := 3) (.string (txt A.length)) rfl rfl ky ky (fun w' h' => run_load1 (fun w => Tryz.isAgg9 w) ky (((h'.get 8 rfl).cell 0).trans rfl)) ?_
      refine zp 4 (.agg #[.pointer (some ⟨p.q, 0, none⟩), .string secret, .string (txt A.length)]) ?_
      refine zp 5 (.string ((adrT self ++ layT [txt pu] 1) ++ layT [txt pr] 1)) ?_
      refine wx_call (i := 6) (.string (((adrT self ++ layT [txt pu] 1) ++ layT [txt pr] 1))) (fun _ _ h hb => HA.keep _ _ h hb) rfl rfl ky ky enter47 #[.string ((adrT self ++ layT [txt pu] 1) ++ layT [txt pr] 1)] ky (fun w' h' => clone_any (((adrT self ++ layT [txt pu] 1) ++ layT [txt pr] 1)) (by simp only [ByteArray.size_append, adrT_size]; have := lay1_size pu; have := lay1_size pr; omega) w') ?_
      refine wx_val (i := 7) (.string (txt es)) rfl rfl ky ky (fun w' h' => run_load1 (fun w => Tryz.isAgg9 w) ky (((h'.get 7 rfl).cell 0).trans rfl)) ?_
      refine wx_val (i := 8) (.string (txt ss)) rfl rfl ky ky (fun w' h' => run_load1 (fun w => Tryz.isAgg9 w) ky (((h'.get 6 rfl).cell 0).trans rfl)) ?_
      refine zp 9 (.agg #[.string (((adrT self ++ layT [txt pu] 1) ++ layT [txt pr] 1)), .string (txt es), .string (txt ss)]) ?_
      refine zp 10 (.agg #[.pointer (some ⟨p.q, 0, none⟩), .string secret, .string (txt A.length), .string (((adrT self ++ layT [txt pu] 1) ++ layT [txt pr] 1)), .string (txt es), .string (txt ss)]) ?_
      refine wx_one 11 ky ?_
      refine ex_makeT (c := #[.pointer (some ⟨p.q, 0, none⟩), .string secret, .string (txt A.length), .string (((adrT self ++ layT [txt pu] 1) ++ layT [txt pr] 1)), .string (txt es), .string (txt ss)]) rfl ky h114 89 (fun q => .pointer (some ⟨q, 0, none⟩)) (fun _ => ky) ?_
      intro q117 w115 (h116 : HA z95 ((q117, 89, #[.pointer (some ⟨p.q, 0, none⟩), .string secret, .string (txt A.length), .string (((adrT self ++ layT [txt pu] 1) ++ layT [txt pr] 1)), .string (txt es), .string (txt ss)]) :: (q104, 9, #[.string (txt pr)]) :: (q12, 29, #[iN .i64 0]) :: (kb17, 107, #[pt q12]) :: (q88, 9, #[.string (adrT self ++ layT [txt pu] 1)]) :: (q83, 9, #[.string (txt pu)]) :: (q76, 9, #[.string key]) :: (q63, 9, #[.string (txt ss)]) :: (q50, 9, #[.string (txt es)]) :: (q29, 9, #[.string (txt A.length)]) :: (q7, 9, #[.string server]) :: (q4, 9, #[.string secret]) :: (q1, 28, #[.pointer (some ⟨p.q, 0, none⟩)]) :: (L ++ X96)) w115)
      refine ⟨_, .inl ky, h116, ?_⟩
      refine zp 12 (.pointer (some ⟨q117, 0, none⟩)) ?_
      refine wx_end fun w118 hbx _ => ?_
      have h119 := HA.keep _ _ h116 hbx
      exact ⟨q117, by kernel_rfl, h119⟩
    · rintro _ w120 ⟨q117, rfl, h121⟩
      refine then_at rfl (wp_seq (wl_region ?_))
      refine zv (.pointer (some ⟨q117, 0, none⟩)) ?_
      refine zv (.string ((adrT self ++ layT [txt pu] 1) ++ layT [txt pr] 1)) ?_
      refine zv (.pointer (some ⟨q117, 0, none⟩)) ?_
      refine zv (.string ((adrT self ++ layT [txt pu] 1) ++ layT [txt pr] 1)) ?_
      refine zv (iN .i64 0) ?_
      refine wl_nil (then_at rfl ?_)
      refine wp_ret ?_
      repeat first | refine then_ret ?_ | refine block_ret ?_
      exact bodyPost_ret (v := .tuple #[pt q117, .string ((adrT self ++ layT [txt pu] 1) ++ layT [txt pr] 1), iN .i64 0]) ky rfl ⟨q117, rfl, PH.sub (hcl97 ((q117, 89, #[.pointer (some ⟨p.q, 0, none⟩), .string secret, .string (txt A.length), .string (((adrT self ++ layT [txt pu] 1) ++ layT [txt pr] 1)), .string (txt es), .string (txt ss)]) :: (q104, 9, #[.string (txt pr)]) :: (q12, 29, #[iN .i64 0]) :: (kb17, 107, #[pt q12]) :: (q88, 9, #[.string (adrT self ++ layT [txt pu] 1)]) :: (q83, 9, #[.string (txt pu)]) :: (q76, 9, #[.string key]) :: (q63, 9, #[.string (txt ss)]) :: (q50, 9, #[.string (txt es)]) :: (q29, 9, #[.string (txt A.length)]) :: (q7, 9, #[.string server]) :: (q4, 9, #[.string secret]) :: (q1, 28, #[.pointer (some ⟨p.q, 0, none⟩)]) :: L) _ h121) (List.Sublist.cons_cons _ (List.Sublist.cons _ (List.Sublist.cons _ (List.Sublist.cons _ (List.Sublist.cons _ (List.Sublist.cons _ (List.Sublist.cons _ (List.Sublist.cons _ (List.Sublist.cons _ (List.Sublist.cons _ (List.Sublist.cons _ (List.Sublist.cons _ (List.Sublist.cons _ (List.Sublist.refl _))))))))))))))⟩
end Go.Proofs.YtcjjbpbehapjpaaGreat
