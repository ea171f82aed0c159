/-
  What is heard, what is answered.
-/
import Derived.Test.YtcjjbpbehapjpaaGreatS4
set_option linter.unusedVariables false
namespace Go.Proofs.YtcjjbpbehapjpaaGreat
open Go.RowKit

set_option maxRecDepth 100000 in
set_option maxHeartbeats 2000000 in
theorem hd1 {w0 w : World} {M : ML} {p : Pr} {A : List Ent} {n : Nat} {L : BL} (H : PH w0 M p A n L w) {s u : ByteArray} (hs : s.size ≤ 65536) (hu : u.size ≤ 65536) (hf : A.length < 58000) {A' : List Ent} {x : Nat} (hm : mkA A 4 { data := #[] } [s, u] = (A', x)) {th tp : ByteArray} {b0 : Nat} {b1 : Nat} {b2 : Nat} (hb0 : (b0, 28, #[pt p.q]) ∈ L) (hb1 : (b1, 9, #[.string s]) ∈ L) (hb2 : (b2, 120, #[.string th, .string u, .string tp]) ∈ L) :
    Calls Tryz.prog 106 #[pt b0, pt b1, pt b2] w fun e w' => e = .returned (.tuple #[.string (txt x), iN .i64 0]) ∧ PH w0 M p A' n L w' := by
  obtain ⟨z0, X0, hcl0, hbe0, H0⟩ := PH.front H
  go_enter Tryz.func106, Tryz.ntmps106
  refine wp_seq (wl_region ?_)
  refine zv (.string ({ data := #[] })) ?_
  refine zv (iN .i64 0) ?_
  refine wl_nil (then_at rfl (wp_seq (wl_region ?_)))
  refine zu (.pointer (some ⟨p.q, 0, none⟩)) (run_load1 (fun w => Tryz.isAgg28 w) ky (((H0.blk (b0, 28, #[pt p.q]) (by simp [hb0])).cell 0).trans rfl)) ?_
  refine zu (.string s) (run_load1 (fun w => Tryz.isAgg9 w) ky (((H0.blk (b1, 9, #[.string s]) (by simp [hb1])).cell 0).trans rfl)) ?_
  refine zv (.pointer (some ⟨b2, 1, none⟩)) ?_
  refine zu (.string u) (run_load1 (fun w => Tryz.isAgg9 w) ky (((H0.blk (b2, 120, #[.string th, .string u, .string tp]) (by simp [hb2])).cell 1).trans rfl)) ?_
  refine wl_callx ky enter39 #[.pointer (some ⟨p.q, 0, none⟩), .string s, .string u] ky (Dh_E (hcl0 (L) _ H0) s u hs hu hf hm) ?_
  rintro _ w2 ⟨rfl, hD1⟩
  refine ⟨_, rfl, ?_⟩
  obtain ⟨z3, X4, hcl5, hbe6, h7⟩ := PH.front hD1
  have h8 : HA z3 (L ++ X4) w2 := h7
  refine zv (.string (txt x)) ?_
  refine zv (iN .i64 0) ?_
  refine zv (.string (txt x)) ?_
  refine zv (iN .i64 0) ?_
  refine wl_nil (then_at rfl ?_)
  refine wp_ret ?_
  repeat first | refine then_ret ?_ | refine block_ret ?_
  exact bodyPost_ret (v := .tuple #[.string (txt x), iN .i64 0]) ky rfl ⟨rfl, PH.sub (hcl5 (L) _ h8) (List.Sublist.refl _)⟩
set_option maxRecDepth 100000 in
set_option maxHeartbeats 2000000 in
theorem hd2 {w0 w : World} {M : ML} {p : Pr} {A : List Ent} {n : Nat} {L : BL} (H : PH w0 M p A n L w) {s u : ByteArray} (hs : s.size ≤ 65536) (hu : u.size ≤ 65536) (hf : A.length < 58000) {A' : List Ent} {x : Nat} (hm : mkA A 4 { data := #[] } [s, u] = (A', x)) {b0 : Nat} {b1 : Nat} {b2 : Nat} (hb0 : (b0, 28, #[pt p.q]) ∈ L) (hb1 : (b1, 9, #[.string s]) ∈ L) (hb2 : (b2, 9, #[.string u]) ∈ L) :
    Calls Tryz.prog 107 #[pt b0, pt b1, pt b2] w fun e w' => e = .returned (.tuple #[.string (txt x), iN .i64 0]) ∧ PH w0 M p A' n L w' := by
  obtain ⟨z0, X0, hcl0, hbe0, H0⟩ := PH.front H
  go_enter Tryz.func107, Tryz.ntmps107
  refine wp_seq (wl_region ?_)
  refine zv (.string ({ data := #[] })) ?_
  refine zv (iN .i64 0) ?_
  refine wl_nil (then_at rfl (wp_seq (wl_region ?_)))
  refine zu (.pointer (some ⟨p.q, 0, none⟩)) (run_load1 (fun w => Tryz.isAgg28 w) ky (((H0.blk (b0, 28, #[pt p.q]) (by simp [hb0])).cell 0).trans rfl)) ?_
  refine zu (.string s) (run_load1 (fun w => Tryz.isAgg9 w) ky (((H0.blk (b1, 9, #[.string s]) (by simp [hb1])).cell 0).trans rfl)) ?_
  refine zu (.string u) (run_load1 (fun w => Tryz.isAgg9 w) ky (((H0.blk (b2, 9, #[.string u]) (by simp [hb2])).cell 0).trans rfl)) ?_
  refine wl_callx ky enter39 #[.pointer (some ⟨p.q, 0, none⟩), .string s, .string u] ky (Dh_E (hcl0 (L) _ H0) s u hs hu hf hm) ?_
  rintro _ w2 ⟨rfl, hD1⟩
  refine ⟨_, rfl, ?_⟩
  obtain ⟨z3, X4, hcl5, hbe6, h7⟩ := PH.front hD1
  have h8 : HA z3 (L ++ X4) w2 := h7
  refine zv (.string (txt x)) ?_
  refine zv (iN .i64 0) ?_
  refine zv (.string (txt x)) ?_
  refine zv (iN .i64 0) ?_
  refine wl_nil (then_at rfl ?_)
  refine wp_ret ?_
  repeat first | refine then_ret ?_ | refine block_ret ?_
  exact bodyPost_ret (v := .tuple #[.string (txt x), iN .i64 0]) ky rfl ⟨rfl, PH.sub (hcl5 (L) _ h8) (List.Sublist.refl _)⟩
set_option maxRecDepth 100000 in
set_option maxHeartbeats 2000000 in
theorem hd3 {w0 w : World} {M : ML} {p : Pr} {A : List Ent} {n : Nat} {L : BL} (H : PH w0 M p A n L w) {es ss : ByteArray} (hes : es.size ≤ 10000) (hss : ss.size ≤ 10000) (hf : A.length < 57000) {A' : List Ent} {k : ByteArray} (hm : dv A (layT [es, ss] 2) { data := #[] } hI 1 = (A', [k])) {b0 : Nat} {b1 : Nat} {b2 : Nat} (hb0 : (b0, 28, #[pt p.q]) ∈ L) (hb1 : (b1, 9, #[.string es]) ∈ L) (hb2 : (b2, 9, #[.string ss]) ∈ L) :
    Calls Tryz.prog 108 #[pt b0, pt b1, pt b2] w fun e w' => e = .returned (.tuple #[.string k, iN .i64 0]) ∧ PH w0 M p A' n L w' := by
  obtain ⟨z0, X0, hcl0, hbe0, H0⟩ := PH.front H
  go_enter Tryz.func108, Tryz.ntmps108
  refine wp_seq (wl_region ?_)
  refine zv (.string ({ data := #[] })) ?_
  refine zv (iN .i64 0) ?_
  refine wl_nil (then_at rfl (wp_seq (wl_region ?_)))
  refine zu (.pointer (some ⟨p.q, 0, none⟩)) (run_load1 (fun w => Tryz.isAgg28 w) ky (((H0.blk (b0, 28, #[pt p.q]) (by simp [hb0])).cell 0).trans rfl)) ?_
  refine zu (.string es) (run_load1 (fun w => Tryz.isAgg9 w) ky (((H0.blk (b1, 9, #[.string es]) (by simp [hb1])).cell 0).trans rfl)) ?_
  refine zu (.string ss) (run_load1 (fun w => Tryz.isAgg9 w) ky (((H0.blk (b2, 9, #[.string ss]) (by simp [hb2])).cell 0).trans rfl)) ?_
  refine wl_callx ky enter42 #[.pointer (some ⟨p.q, 0, none⟩), .string es, .string ss] ky (helloKey_P (hcl0 (L) _ H0) es ss hes hss hf hm) ?_
  rintro _ w2 ⟨rfl, hD1⟩
  refine ⟨_, rfl, ?_⟩
  obtain ⟨z3, X4, hcl5, hbe6, h7⟩ := PH.front hD1
  have h8 : HA z3 (L ++ X4) w2 := h7
  refine zv (.string k) ?_
  refine zv (iN .i64 0) ?_
  refine zv (.string k) ?_
  refine zv (iN .i64 0) ?_
  refine wl_nil (then_at rfl ?_)
  refine wp_ret ?_
  repeat first | refine then_ret ?_ | refine block_ret ?_
  exact bodyPost_ret (v := .tuple #[.string k, iN .i64 0]) ky rfl ⟨rfl, PH.sub (hcl5 (L) _ h8) (List.Sublist.refl _)⟩
set_option maxRecDepth 100000 in
set_option maxHeartbeats 2000000 in
theorem hd4_y {w0 w : World} {M : ML} {p : Pr} {A : List Ent} {n : Nat} {L : BL} (H : PH w0 M p A n L w) {key ad sealed u : ByteArray} (hk : key.size ≤ 65536) (had : ad.size ≤ 65536) (hse : sealed.size ≤ 65536) {out : ByteArray} (ho : opnA A key { data := #[] } ad sealed = some out) (hzo : out.size ≤ 1000000) (hj : n < 1000000) {b0 : Nat} {b1 : Nat} {b2 : Nat} (hb0 : (b0, 28, #[pt p.q]) ∈ L) (hb1 : (b1, 9, #[.string key]) ∈ L) (hb2 : (b2, 120, #[.string ad, .string u, .string sealed]) ∈ L) :
    Calls Tryz.prog 109 #[pt b0, pt b1, pt b2] w fun e w' => e = .returned (.tuple #[.string out, iN .i64 0]) ∧ PH w0 M p A (n + 1) L w' := by
  obtain ⟨z0, X0, hcl0, hbe0, H0⟩ := PH.front H
  go_enter Tryz.func109, Tryz.ntmps109
  refine wp_seq (wl_region ?_)
  refine zv (.string ({ data := #[] })) ?_
  refine zv (iN .i64 0) ?_
  refine wl_nil (then_at rfl (wp_seq (wl_region ?_)))
  refine zu (.pointer (some ⟨p.q, 0, none⟩)) (run_load1 (fun w => Tryz.isAgg28 w) ky (((H0.blk (b0, 28, #[pt p.q]) (by simp [hb0])).cell 0).trans rfl)) ?_
  refine zu (.string key) (run_load1 (fun w => Tryz.isAgg9 w) ky (((H0.blk (b1, 9, #[.string key]) (by simp [hb1])).cell 0).trans rfl)) ?_
  refine zv (.pointer (some ⟨b2, 0, none⟩)) ?_
  refine zu (.string ad) (run_load1 (fun w => Tryz.isAgg9 w) ky (((H0.blk (b2, 120, #[.string ad, .string u, .string sealed]) (by simp [hb2])).cell 0).trans rfl)) ?_
  refine zv (.pointer (some ⟨b2, 2, none⟩)) ?_
  refine zu (.string sealed) (run_load1 (fun w => Tryz.isAgg9 w) ky (((H0.blk (b2, 120, #[.string ad, .string u, .string sealed]) (by simp [hb2])).cell 2).trans rfl)) ?_
  refine wl_callx ky enter71 #[.pointer (some ⟨p.q, 0, none⟩), .string key, .string ({ data := #[] }), .string ad, .string sealed] ky (Open_y (hcl0 (L) _ H0) key { data := #[] } ad sealed hk (by decide) had hse ho hzo hj) ?_
  rintro _ w2 ⟨rfl, hD1⟩
  refine ⟨_, rfl, ?_⟩
  obtain ⟨z3, X4, hcl5, hbe6, h7⟩ := PH.front hD1
  have h8 : HA z3 (L ++ X4) w2 := h7
  refine zv (.string out) ?_
  refine zv (iN .i64 0) ?_
  refine zv (.string out) ?_
  refine zv (iN .i64 0) ?_
  refine wl_nil (then_at rfl ?_)
  refine wp_ret ?_
  repeat first | refine then_ret ?_ | refine block_ret ?_
  exact bodyPost_ret (v := .tuple #[.string out, iN .i64 0]) ky rfl ⟨rfl, PH.sub (hcl5 (L) _ h8) (List.Sublist.refl _)⟩
set_option maxRecDepth 100000 in
set_option maxHeartbeats 2000000 in
theorem heard_y {w0 w : World} {M : ML} {p : Pr} {A : List Ent} {n : Nat} {L : BL} (H : PH w0 M p A n L w) (secret client hello head pub proof : ByteArray) (hsec : secret.size ≤ 60000) (hcl : client.size ≤ 60000) (hhe : head.size ≤ 60000) (hpu : pub.size ≤ 60000) (hpr : proof.size ≤ 60000) (hf : A.length < 50000) {A2 A3 A4 : List Ent} {es ss : Nat} {key : ByteArray} (hkey : key.size ≤ 60000) (e1 : mkA A 4 { data := #[] } [secret, pub] = (A2, es)) (l2 : A2.length < 50000) (e2 : mkA A2 4 { data := #[] } [secret, client] = (A3, ss)) (l3 : A3.length < 50000) (e3 : dv A3 (layT [txt es, txt ss] 2) { data := #[] } hI 1 = (A4, [key])) (l4 : A4.length < 50000) {out : ByteArray} (ho : opnA A4 key { data := #[] } head proof = some out) (hzo : out.size ≤ 1000000) (hj : n < 1000000) :
    Calls Tryz.prog 55 #[pt p.q, .string secret, .string client, .string hello, .agg #[.string head, .string pub, .string proof]] w fun e w' => e = .returned (.tuple #[.agg #[.string hello, .string (txt es), .string (txt ss)], iN .i64 0]) ∧ PH w0 M p A4 (n + 1) L w' := by
  obtain ⟨z0, X0, hcl0, hbe0, H0⟩ := PH.front H
  go_enter Tryz.func55, Tryz.ntmps55
  refine wp_seq (wl_region ?_)
  refine wl_make (c := #[.pointer (some ⟨p.q, 0, none⟩)]) H0 28 ky ky ?_
  intro q1 w2 (h3 : HA z0 ((q1, 28, #[.pointer (some ⟨p.q, 0, none⟩)]) :: (L ++ X0)) w2)
  refine wl_make (c := #[.string secret]) h3 9 ky ky ?_
  intro q4 w5 (h6 : HA z0 ((q4, 9, #[.string secret]) :: (q1, 28, #[.pointer (some ⟨p.q, 0, none⟩)]) :: (L ++ X0)) w5)
  refine wl_make (c := #[.string client]) h6 9 ky ky ?_
  intro q7 w8 (h9 : HA z0 ((q7, 9, #[.string client]) :: (q4, 9, #[.string secret]) :: (q1, 28, #[.pointer (some ⟨p.q, 0, none⟩)]) :: (L ++ X0)) w8)
  refine wl_make (c := #[.string head, .string pub, .string proof]) h9 120 ky ky ?_
  intro q10 w11 (h12 : HA z0 ((q10, 120, #[.string head, .string pub, .string proof]) :: (q7, 9, #[.string client]) :: (q4, 9, #[.string secret]) :: (q1, 28, #[.pointer (some ⟨p.q, 0, none⟩)]) :: (L ++ X0)) w11)
  refine wl_make (c := #[.string ({ data := #[] }), .string ({ data := #[] }), .string ({ data := #[] })]) h12 87 ky ky ?_
  intro q13 w14 (h15 : HA z0 ((q13, 87, #[.string ({ data := #[] }), .string ({ data := #[] }), .string ({ data := #[] })]) :: (q10, 120, #[.string head, .string pub, .string proof]) :: (q7, 9, #[.string client]) :: (q4, 9, #[.string secret]) :: (q1, 28, #[.pointer (some ⟨p.q, 0, none⟩)]) :: (L ++ X0)) w14)
  refine zv (iN .i64 0) ?_
  refine wl_nil (then_at rfl (wp_seq (wl_region ?_)))
  refine wl_make (c := #[iN .i64 0]) h15 29 ky ky ?_
  intro q16 w17 (h18 : HA z0 ((q16, 29, #[iN .i64 0]) :: (q13, 87, #[.string ({ data := #[] }), .string ({ data := #[] }), .string ({ data := #[] })]) :: (q10, 120, #[.string head, .string pub, .string proof]) :: (q7, 9, #[.string client]) :: (q4, 9, #[.string secret]) :: (q1, 28, #[.pointer (some ⟨p.q, 0, none⟩)]) :: (L ++ X0)) w17)
  refine wl_putv (v := iN .i64 0) h18 0 rfl 0 (by show 0 < 1; decide) ky (fun w => Tryz.sizeOf29 w) ky ky ky ?_
  intro w19 (h20 : HA z0 ((q16, 29, #[iN .i64 0]) :: (q13, 87, #[.string ({ data := #[] }), .string ({ data := #[] }), .string ({ data := #[] })]) :: (q10, 120, #[.string head, .string pub, .string proof]) :: (q7, 9, #[.string client]) :: (q4, 9, #[.string secret]) :: (q1, 28, #[.pointer (some ⟨p.q, 0, none⟩)]) :: (L ++ X0)) w19)
  refine wl_nil (then_at rfl (wp_seq (wl_region ?_)))
  refine wl_callx ky enter36 #[.pointer (some ⟨q16, 0, none⟩)] ky (kp_s h20) ?_
  rintro _ w23 ⟨kb21, rfl, h22⟩
  refine ⟨_, rfl, ?_⟩
  have h24 : HA z0 ((kb21, 107, #[pt q16]) :: (q16, 29, #[iN .i64 0]) :: (q13, 87, #[.string ({ data := #[] }), .string ({ data := #[] }), .string ({ data := #[] })]) :: (q10, 120, #[.string head, .string pub, .string proof]) :: (q7, 9, #[.string client]) :: (q4, 9, #[.string secret]) :: (q1, 28, #[.pointer (some ⟨p.q, 0, none⟩)]) :: (L ++ X0)) w23 := h22
  refine zv (.func (.func 92) #[] #[pt kb21]) ?_
  refine wl_nil (then_at rfl (wp_seq (wl_region ?_)))
  refine zv (.func (.func 92) #[] #[pt kb21]) ?_
  refine zv (.func (.func 106) #[] #[.pointer (some ⟨q1, 0, none⟩), .pointer (some ⟨q4, 0, none⟩), .pointer (some ⟨q10, 0, none⟩)]) ?_
  refine wl_callvx (cap := #[.pointer (some ⟨kb21, 0, none⟩)]) (args := #[.func (.func 106) #[] #[.pointer (some ⟨q1, 0, none⟩), .pointer (some ⟨q4, 0, none⟩), .pointer (some ⟨q10, 0, none⟩)], .pointer (some ⟨kb21, 0, none⟩)]) ky enter92 ky ky (keep_s enter106 (PH.perm (hcl0 ((kb21, 107, #[pt q16]) :: (q16, 29, #[iN .i64 0]) :: (q13, 87, #[.string ({ data := #[] }), .string ({ data := #[] }), .string ({ data := #[] })]) :: (q10, 120, #[.string head, .string pub, .string proof]) :: (q7, 9, #[.string client]) :: (q4, 9, #[.string secret]) :: (q1, 28, #[.pointer (some ⟨p.q, 0, none⟩)]) :: L) _ h24) (List.Perm.swap _ _ _)) (fun w Lx hx HL => hd1 HL (by omega) (by omega) (by omega) e1 (hx _ (List.mem_of_getElem? (i := 4) rfl)) (hx _ (List.mem_of_getElem? (i := 3) rfl)) (hx _ (List.mem_of_getElem? (i := 1) rfl)))) ?_
  rintro _ w26 ⟨rfl, hD25⟩
  refine ⟨_, rfl, ?_⟩
  obtain ⟨z27, X28, hcl29, hbe30, h31⟩ := PH.front hD25
  have h32 : HA z27 ((q16, 29, #[iN .i64 0]) :: (kb21, 107, #[pt q16]) :: (q13, 87, #[.string ({ data := #[] }), .string ({ data := #[] }), .string ({ data := #[] })]) :: (q10, 120, #[.string head, .string pub, .string proof]) :: (q7, 9, #[.string client]) :: (q4, 9, #[.string secret]) :: (q1, 28, #[.pointer (some ⟨p.q, 0, none⟩)]) :: (L ++ X28)) w26 := h31
  refine wl_make (c := #[.string ({ data := #[] })]) h32 9 ky ky ?_
  intro q33 w34 (h35 : HA z27 ((q33, 9, #[.string ({ data := #[] })]) :: (q16, 29, #[iN .i64 0]) :: (kb21, 107, #[pt q16]) :: (q13, 87, #[.string ({ data := #[] }), .string ({ data := #[] }), .string ({ data := #[] })]) :: (q10, 120, #[.string head, .string pub, .string proof]) :: (q7, 9, #[.string client]) :: (q4, 9, #[.string secret]) :: (q1, 28, #[.pointer (some ⟨p.q, 0, none⟩)]) :: (L ++ X28)) w34)
  refine wl_putv (v := .string (txt es)) h35 0 rfl 0 (by show 0 < 1; decide) ky (fun w => Tryz.sizeOf9 w) ky ky ky ?_
  intro w36 (h37 : HA z27 ((q33, 9, #[.string (txt es)]) :: (q16, 29, #[iN .i64 0]) :: (kb21, 107, #[pt q16]) :: (q13, 87, #[.string ({ data := #[] }), .string ({ data := #[] }), .string ({ data := #[] })]) :: (q10, 120, #[.string head, .string pub, .string proof]) :: (q7, 9, #[.string client]) :: (q4, 9, #[.string secret]) :: (q1, 28, #[.pointer (some ⟨p.q, 0, none⟩)]) :: (L ++ X28)) w36)
  refine wl_nil (then_at rfl (wp_seq (wl_region ?_)))
  refine zv (.func (.func 92) #[] #[pt kb21]) ?_
  refine zv (.func (.func 107) #[] #[.pointer (some ⟨q1, 0, none⟩), .pointer (some ⟨q4, 0, none⟩), .pointer (some ⟨q7, 0, none⟩)]) ?_
  refine wl_callvx (cap := #[.pointer (some ⟨kb21, 0, none⟩)]) (args := #[.func (.func 107) #[] #[.pointer (some ⟨q1, 0, none⟩), .pointer (some ⟨q4, 0, none⟩), .pointer (some ⟨q7, 0, none⟩)], .pointer (some ⟨kb21, 0, none⟩)]) ky enter92 ky ky (keep_s enter107 (PH.perm (hcl29 ((q33, 9, #[.string (txt es)]) :: (q16, 29, #[iN .i64 0]) :: (kb21, 107, #[pt q16]) :: (q13, 87, #[.string ({ data := #[] }), .string ({ data := #[] }), .string ({ data := #[] })]) :: (q10, 120, #[.string head, .string pub, .string proof]) :: (q7, 9, #[.string client]) :: (q4, 9, #[.string secret]) :: (q1, 28, #[.pointer (some ⟨p.q, 0, none⟩)]) :: L) _ h37) (List.Perm.trans (List.Perm.swap _ _ _) (List.Perm.cons _ (List.Perm.swap _ _ _)))) (fun w Lx hx HL => hd2 HL (by omega) (by omega) (by omega) e2 (hx _ (List.mem_of_getElem? (i := 5) rfl)) (hx _ (List.mem_of_getElem? (i := 4) rfl)) (hx _ (List.mem_of_getElem? (i := 3) rfl)))) ?_
  rintro _ w39 ⟨rfl, hD38⟩
  refine ⟨_, rfl, ?_⟩
  obtain ⟨z40, X41, hcl42, hbe43, h44⟩ := PH.front hD38
  have h45 : HA z40 ((q16, 29, #[iN .i64 0]) :: (kb21, 107, #[pt q16]) :: (q33, 9, #[.string (txt es)]) :: (q13, 87, #[.string ({ data := #[] }), .string ({ data := #[] }), .string ({ data := #[] })]) :: (q10, 120, #[.string head, .string pub, .string proof]) :: (q7, 9, #[.string client]) :: (q4, 9, #[.string secret]) :: (q1, 28, #[.pointer (some ⟨p.q, 0, none⟩)]) :: (L ++ X41)) w39 := h44
  refine wl_make (c := #[.string ({ data := #[] })]) h45 9 ky ky ?_
  intro q46 w47 (h48 : HA z40 ((q46, 9, #[.string ({ data := #[] })]) :: (q16, 29, #[iN .i64 0]) :: (kb21, 107, #[pt q16]) :: (q33, 9, #[.string (txt es)]) :: (q13, 87, #[.string ({ data := #[] }), .string ({ data := #[] }), .string ({ data := #[] })]) :: (q10, 120, #[.string head, .string pub, .string proof]) :: (q7, 9, #[.string client]) :: (q4, 9, #[.string secret]) :: (q1, 28, #[.pointer (some ⟨p.q, 0, none⟩)]) :: (L ++ X41)) w47)
  refine wl_putv (v := .string (txt ss)) h48 0 rfl 0 (by show 0 < 1; decide) ky (fun w => Tryz.sizeOf9 w) ky ky ky ?_
  intro w49 (h50 : HA z40 ((q46, 9, #[.string (txt ss)]) :: (q16, 29, #[iN .i64 0]) :: (kb21, 107, #[pt q16]) :: (q33, 9, #[.string (txt es)]) :: (q13, 87, #[.string ({ data := #[] }), .string ({ data := #[] }), .string ({ data := #[] })]) :: (q10, 120, #[.string head, .string pub, .string proof]) :: (q7, 9, #[.string client]) :: (q4, 9, #[.string secret]) :: (q1, 28, #[.pointer (some ⟨p.q, 0, none⟩)]) :: (L ++ X41)) w49)
  refine wl_nil (then_at rfl (wp_seq (wl_region ?_)))
  refine zv (.func (.func 92) #[] #[pt kb21]) ?_
  refine zv (.func (.func 108) #[] #[.pointer (some ⟨q1, 0, none⟩), .pointer (some ⟨q33, 0, none⟩), .pointer (some ⟨q46, 0, none⟩)]) ?_
  refine wl_callvx (cap := #[.pointer (some ⟨kb21, 0, none⟩)]) (args := #[.func (.func 108) #[] #[.pointer (some ⟨q1, 0, none⟩), .pointer (some ⟨q33, 0, none⟩), .pointer (some ⟨q46, 0, none⟩)], .pointer (some ⟨kb21, 0, none⟩)]) ky enter92 ky ky (keep_s enter108 (PH.perm (hcl42 ((q46, 9, #[.string (txt ss)]) :: (q16, 29, #[iN .i64 0]) :: (kb21, 107, #[pt q16]) :: (q33, 9, #[.string (txt es)]) :: (q13, 87, #[.string ({ data := #[] }), .string ({ data := #[] }), .string ({ data := #[] })]) :: (q10, 120, #[.string head, .string pub, .string proof]) :: (q7, 9, #[.string client]) :: (q4, 9, #[.string secret]) :: (q1, 28, #[.pointer (some ⟨p.q, 0, none⟩)]) :: L) _ h50) (List.Perm.trans (List.Perm.swap _ _ _) (List.Perm.cons _ (List.Perm.swap _ _ _)))) (fun w Lx hx HL => hd3 HL (by rw [txt_size]; decide) (by rw [txt_size]; decide) (by omega) e3 (hx _ (List.mem_of_getElem? (i := 6) rfl)) (hx _ (List.mem_of_getElem? (i := 1) rfl)) (hx _ (List.mem_of_getElem? (i := 0) rfl)))) ?_
  rintro _ w52 ⟨rfl, hD51⟩
  refine ⟨_, rfl, ?_⟩
  obtain ⟨z53, X54, hcl55, hbe56, h57⟩ := PH.front hD51
  have h58 : HA z53 ((q16, 29, #[iN .i64 0]) :: (kb21, 107, #[pt q16]) :: (q46, 9, #[.string (txt ss)]) :: (q33, 9, #[.string (txt es)]) :: (q13, 87, #[.string ({ data := #[] }), .string ({ data := #[] }), .string ({ data := #[] })]) :: (q10, 120, #[.string head, .string pub, .string proof]) :: (q7, 9, #[.string client]) :: (q4, 9, #[.string secret]) :: (q1, 28, #[.pointer (some ⟨p.q, 0, none⟩)]) :: (L ++ X54)) w52 := h57
  refine wl_make (c := #[.string ({ data := #[] })]) h58 9 ky ky ?_
  intro q59 w60 (h61 : HA z53 ((q59, 9, #[.string ({ data := #[] })]) :: (q16, 29, #[iN .i64 0]) :: (kb21, 107, #[pt q16]) :: (q46, 9, #[.string (txt ss)]) :: (q33, 9, #[.string (txt es)]) :: (q13, 87, #[.string ({ data := #[] }), .string ({ data := #[] }), .string ({ data := #[] })]) :: (q10, 120, #[.string head, .string pub, .string proof]) :: (q7, 9, #[.string client]) :: (q4, 9, #[.string secret]) :: (q1, 28, #[.pointer (some ⟨p.q, 0, none⟩)]) :: (L ++ X54)) w60)
  refine wl_putv (v := .string key) h61 0 rfl 0 (by show 0 < 1; decide) ky (fun w => Tryz.sizeOf9 w) ky ky ky ?_
  intro w62 (h63 : HA z53 ((q59, 9, #[.string key]) :: (q16, 29, #[iN .i64 0]) :: (kb21, 107, #[pt q16]) :: (q46, 9, #[.string (txt ss)]) :: (q33, 9, #[.string (txt es)]) :: (q13, 87, #[.string ({ data := #[] }), .string ({ data := #[] }), .string ({ data := #[] })]) :: (q10, 120, #[.string head, .string pub, .string proof]) :: (q7, 9, #[.string client]) :: (q4, 9, #[.string secret]) :: (q1, 28, #[.pointer (some ⟨p.q, 0, none⟩)]) :: (L ++ X54)) w62)
  refine wl_nil (then_at rfl (wp_seq (wl_region ?_)))
  refine zv (.func (.func 92) #[] #[pt kb21]) ?_
  refine zv (.func (.func 109) #[] #[.pointer (some ⟨q1, 0, none⟩), .pointer (some ⟨q59, 0, none⟩), .pointer (some ⟨q10, 0, none⟩)]) ?_
  refine wl_callvx (cap := #[.pointer (some ⟨kb21, 0, none⟩)]) (args := #[.func (.func 109) #[] #[.pointer (some ⟨q1, 0, none⟩), .pointer (some ⟨q59, 0, none⟩), .pointer (some ⟨q10, 0, none⟩)], .pointer (some ⟨kb21, 0, none⟩)]) ky enter92 ky ky (keep_s enter109 (PH.perm (hcl55 ((q59, 9, #[.string key]) :: (q16, 29, #[iN .i64 0]) :: (kb21, 107, #[pt q16]) :: (q46, 9, #[.string (txt ss)]) :: (q33, 9, #[.string (txt es)]) :: (q13, 87, #[.string ({ data := #[] }), .string ({ data := #[] }), .string ({ data := #[] })]) :: (q10, 120, #[.string head, .string pub, .string proof]) :: (q7, 9, #[.string client]) :: (q4, 9, #[.string secret]) :: (q1, 28, #[.pointer (some ⟨p.q, 0, none⟩)]) :: L) _ h63) (List.Perm.trans (List.Perm.swap _ _ _) (List.Perm.cons _ (List.Perm.swap _ _ _)))) (fun w Lx hx HL => hd4_y HL (by omega) (by omega) (by omega) ho hzo hj (hx _ (List.mem_of_getElem? (i := 7) rfl)) (hx _ (List.mem_of_getElem? (i := 0) rfl)) (hx _ (List.mem_of_getElem? (i := 4) rfl)))) ?_
  rintro _ w65 ⟨rfl, hD64⟩
  refine ⟨_, rfl, ?_⟩
  obtain ⟨z66, X67, hcl68, hbe69, h70⟩ := PH.front hD64
  have h71 : HA z66 ((q16, 29, #[iN .i64 0]) :: (kb21, 107, #[pt q16]) :: (q59, 9, #[.string key]) :: (q46, 9, #[.string (txt ss)]) :: (q33, 9, #[.string (txt es)]) :: (q13, 87, #[.string ({ data := #[] }), .string ({ data := #[] }), .string ({ data := #[] })]) :: (q10, 120, #[.string head, .string pub, .string proof]) :: (q7, 9, #[.string client]) :: (q4, 9, #[.string secret]) :: (q1, 28, #[.pointer (some ⟨p.q, 0, none⟩)]) :: (L ++ X67)) w65 := h70
  refine wl_nil (then_at rfl (wp_seq (wp_seq (wl_region ?_))))
  refine zu (iN .i64 0) (run_load1 (fun w => Tryz.isAgg29 w) ky (((h71.get 0 rfl).cell 0).trans rfl)) ?_
  refine zu (.bool false) (run_nei (k := .i64) (a := 0) (b := 0) ky ky false (by decide)) ?_
  refine wl_nil (then_at rfl ?_)
  refine wp_cond_false ky ?_
  refine wp_skip (then_at rfl (wp_seq (wl_region ?_)))
  refine zv (.string hello) ?_
  refine zu (.string (txt es)) (run_load1 (fun w => Tryz.isAgg9 w) ky (((h71.get 4 rfl).cell 0).trans rfl)) ?_
  refine zu (.string (txt ss)) (run_load1 (fun w => Tryz.isAgg9 w) ky (((h71.get 3 rfl).cell 0).trans rfl)) ?_
  refine zv (.agg #[.string hello, .string (txt es), .string (txt ss)]) ?_
  refine wl_fill (c' := #[.string hello, .string (txt es), .string (txt ss)]) h71 5 rfl ky ky ky rfl ky ky ?_
  intro w72 (h73 : HA z66 ((q16, 29, #[iN .i64 0]) :: (kb21, 107, #[pt q16]) :: (q59, 9, #[.string key]) :: (q46, 9, #[.string (txt ss)]) :: (q33, 9, #[.string (txt es)]) :: (q13, 87, #[.string hello, .string (txt es), .string (txt ss)]) :: (q10, 120, #[.string head, .string pub, .string proof]) :: (q7, 9, #[.string client]) :: (q4, 9, #[.string secret]) :: (q1, 28, #[.pointer (some ⟨p.q, 0, none⟩)]) :: (L ++ X67)) w72)
  refine zv (iN .i64 0) ?_
  refine wl_nil (then_at rfl ?_)
  refine wp_ret ?_
  repeat first | refine then_ret ?_ | refine block_ret ?_
  exact bodyPost_ret (v := .tuple #[.agg #[.string hello, .string (txt es), .string (txt ss)], iN .i64 0]) (res_cell_tmp (p := 10) (r := 11) ky ky ky (h73.get 5 rfl) Tryz.underlying87 rfl ky) rfl ⟨rfl, PH.sub (hcl68 ((q16, 29, #[iN .i64 0]) :: (kb21, 107, #[pt q16]) :: (q59, 9, #[.string key]) :: (q46, 9, #[.string (txt ss)]) :: (q33, 9, #[.string (txt es)]) :: (q13, 87, #[.string hello, .string (txt es), .string (txt ss)]) :: (q10, 120, #[.string head, .string pub, .string proof]) :: (q7, 9, #[.string client]) :: (q4, 9, #[.string secret]) :: (q1, 28, #[.pointer (some ⟨p.q, 0, none⟩)]) :: L) _ h73) (List.Sublist.cons _ (List.Sublist.cons _ (List.Sublist.cons _ (List.Sublist.cons _ (List.Sublist.cons _ (List.Sublist.cons _ (List.Sublist.cons _ (List.Sublist.cons _ (List.Sublist.cons _ (List.Sublist.cons _ (List.Sublist.refl _)))))))))))⟩
set_option maxRecDepth 100000 in
set_option maxHeartbeats 2000000 in
theorem an1 {w0 w : World} {M : ML} {p : Pr} {A : List Ent} {n : Nat} {L : BL} (H : PH w0 M p A n L w) {s : ByteArray} (hs : s.size ≤ 65536) (hf : A.length < 58000) {A' : List Ent} {x : Nat} (hm : mkA A 3 { data := #[] } [s] = (A', x)) {b0 : Nat} {b1 : Nat} (hb0 : (b0, 28, #[pt p.q]) ∈ L) (hb1 : (b1, 9, #[.string s]) ∈ L) :
    Calls Tryz.prog 110 #[pt b0, pt b1] w fun e w' => e = .returned (.tuple #[.string (txt x), iN .i64 0]) ∧ PH w0 M p A' n L w' := by
  obtain ⟨z0, X0, hcl0, hbe0, H0⟩ := PH.front H
  go_enter Tryz.func110, Tryz.ntmps110
  refine wp_seq (wl_region ?_)
  refine zv (.string ({ data := #[] })) ?_
  refine zv (iN .i64 0) ?_
  refine wl_nil (then_at rfl (wp_seq (wl_region ?_)))
  refine zu (.pointer (some ⟨p.q, 0, none⟩)) (run_load1 (fun w => Tryz.isAgg28 w) ky (((H0.blk (b0, 28, #[pt p.q]) (by simp [hb0])).cell 0).trans rfl)) ?_
  refine zu (.string s) (run_load1 (fun w => Tryz.isAgg9 w) ky (((H0.blk (b1, 9, #[.string s]) (by simp [hb1])).cell 0).trans rfl)) ?_
  refine wl_callx ky enter13 #[.pointer (some ⟨p.q, 0, none⟩), .string s] ky (Public_E (hcl0 (L) _ H0) s hs hf hm) ?_
  rintro _ w2 ⟨rfl, hD1⟩
  refine ⟨_, rfl, ?_⟩
  obtain ⟨z3, X4, hcl5, hbe6, h7⟩ := PH.front hD1
  have h8 : HA z3 (L ++ X4) w2 := h7
  refine zv (.string (txt x)) ?_
  refine zv (iN .i64 0) ?_
  refine zv (.string (txt x)) ?_
  refine zv (iN .i64 0) ?_
  refine wl_nil (then_at rfl ?_)
  refine wp_ret ?_
  repeat first | refine then_ret ?_ | refine block_ret ?_
  exact bodyPost_ret (v := .tuple #[.string (txt x), iN .i64 0]) ky rfl ⟨rfl, PH.sub (hcl5 (L) _ h8) (List.Sublist.refl _)⟩
set_option maxRecDepth 100000 in
set_option maxHeartbeats 2000000 in
theorem an2 {w0 w : World} {M : ML} {p : Pr} {A : List Ent} {n : Nat} {L : BL} (H : PH w0 M p A n L w) {s u : ByteArray} (hs : s.size ≤ 65536) (hu : u.size ≤ 65536) (hf : A.length < 58000) {A' : List Ent} {x : Nat} (hm : mkA A 4 { data := #[] } [s, u] = (A', x)) {b0 : Nat} {b1 : Nat} {b2 : Nat} (hb0 : (b0, 28, #[pt p.q]) ∈ L) (hb1 : (b1, 9, #[.string s]) ∈ L) (hb2 : (b2, 9, #[.string u]) ∈ L) :
    Calls Tryz.prog 111 #[pt b0, pt b1, pt b2] w fun e w' => e = .returned (.tuple #[.string (txt x), iN .i64 0]) ∧ PH w0 M p A' n L w' := by
  obtain ⟨z0, X0, hcl0, hbe0, H0⟩ := PH.front H
  go_enter Tryz.func111, Tryz.ntmps111
  refine wp_seq (wl_region ?_)
  refine zv (.string ({ data := #[] })) ?_
  refine zv (iN .i64 0) ?_
  refine wl_nil (then_at rfl (wp_seq (wl_region ?_)))
  refine zu (.pointer (some ⟨p.q, 0, none⟩)) (run_load1 (fun w => Tryz.isAgg28 w) ky (((H0.blk (b0, 28, #[pt p.q]) (by simp [hb0])).cell 0).trans rfl)) ?_
  refine zu (.string s) (run_load1 (fun w => Tryz.isAgg9 w) ky (((H0.blk (b1, 9, #[.string s]) (by simp [hb1])).cell 0).trans rfl)) ?_
  refine zu (.string u) (run_load1 (fun w => Tryz.isAgg9 w) ky (((H0.blk (b2, 9, #[.string u]) (by simp [hb2])).cell 0).trans rfl)) ?_
  refine wl_callx ky enter39 #[.pointer (some ⟨p.q, 0, none⟩), .string s, .string u] ky (Dh_E (hcl0 (L) _ H0) s u hs hu hf hm) ?_
  rintro _ w2 ⟨rfl, hD1⟩
  refine ⟨_, rfl, ?_⟩
  obtain ⟨z3, X4, hcl5, hbe6, h7⟩ := PH.front hD1
  have h8 : HA z3 (L ++ X4) w2 := h7
  refine zv (.string (txt x)) ?_
  refine zv (iN .i64 0) ?_
  refine zv (.string (txt x)) ?_
  refine zv (iN .i64 0) ?_
  refine wl_nil (then_at rfl ?_)
  refine wp_ret ?_
  repeat first | refine then_ret ?_ | refine block_ret ?_
  exact bodyPost_ret (v := .tuple #[.string (txt x), iN .i64 0]) ky rfl ⟨rfl, PH.sub (hcl5 (L) _ h8) (List.Sublist.refl _)⟩
set_option maxRecDepth 100000 in
set_option maxHeartbeats 2000000 in
theorem an3 {w0 w : World} {M : ML} {p : Pr} {A : List Ent} {n : Nat} {L : BL} (H : PH w0 M p A n L w) {s u : ByteArray} (hs : s.size ≤ 65536) (hu : u.size ≤ 65536) (hf : A.length < 58000) {A' : List Ent} {x : Nat} (hm : mkA A 4 { data := #[] } [s, u] = (A', x)) {b0 : Nat} {b1 : Nat} {b2 : Nat} (hb0 : (b0, 28, #[pt p.q]) ∈ L) (hb1 : (b1, 9, #[.string s]) ∈ L) (hb2 : (b2, 9, #[.string u]) ∈ L) :
    Calls Tryz.prog 112 #[pt b0, pt b1, pt b2] w fun e w' => e = .returned (.tuple #[.string (txt x), iN .i64 0]) ∧ PH w0 M p A' n L w' := by
  obtain ⟨z0, X0, hcl0, hbe0, H0⟩ := PH.front H
  go_enter Tryz.func112, Tryz.ntmps112
  refine wp_seq (wl_region ?_)
  refine zv (.string ({ data := #[] })) ?_
  refine zv (iN .i64 0) ?_
  refine wl_nil (then_at rfl (wp_seq (wl_region ?_)))
  refine zu (.pointer (some ⟨p.q, 0, none⟩)) (run_load1 (fun w => Tryz.isAgg28 w) ky (((H0.blk (b0, 28, #[pt p.q]) (by simp [hb0])).cell 0).trans rfl)) ?_
  refine zu (.string s) (run_load1 (fun w => Tryz.isAgg9 w) ky (((H0.blk (b1, 9, #[.string s]) (by simp [hb1])).cell 0).trans rfl)) ?_
  refine zu (.string u) (run_load1 (fun w => Tryz.isAgg9 w) ky (((H0.blk (b2, 9, #[.string u]) (by simp [hb2])).cell 0).trans rfl)) ?_
  refine wl_callx ky enter39 #[.pointer (some ⟨p.q, 0, none⟩), .string s, .string u] ky (Dh_E (hcl0 (L) _ H0) s u hs hu hf hm) ?_
  rintro _ w2 ⟨rfl, hD1⟩
  refine ⟨_, rfl, ?_⟩
  obtain ⟨z3, X4, hcl5, hbe6, h7⟩ := PH.front hD1
  have h8 : HA z3 (L ++ X4) w2 := h7
  refine zv (.string (txt x)) ?_
  refine zv (iN .i64 0) ?_
  refine zv (.string (txt x)) ?_
  refine zv (iN .i64 0) ?_
  refine wl_nil (then_at rfl ?_)
  refine wp_ret ?_
  repeat first | refine then_ret ?_ | refine block_ret ?_
  exact bodyPost_ret (v := .tuple #[.string (txt x), iN .i64 0]) ky rfl ⟨rfl, PH.sub (hcl5 (L) _ h8) (List.Sublist.refl _)⟩
set_option maxRecDepth 100000 in
set_option maxHeartbeats 2000000 in
theorem an4 {w0 w : World} {M : ML} {p : Pr} {A : List Ent} {n : Nat} {L : BL} (H : PH w0 M p A n L w) {hello es ss head ee fs : ByteArray} (hh : hello.size ≤ 60000) (hes : es.size ≤ 10000) (hss : ss.size ≤ 10000) (hhe : head.size ≤ 60000) (hee : ee.size ≤ 10000) (hfs : fs.size ≤ 10000) (hf : A.length < 56000) {A1 A' : List Ent} {d : Nat} {k1 k2 k3 : ByteArray} (hd : mkA A 5 { data := #[100, 105, 103, 101, 115, 116] } [hello, head] = (A1, d)) (hl1 : A1.length < 57000) (hm : dv A1 (layT [es, ss, ee, fs] 4) (txt d) kI 3 = (A', [k1, k2, k3])) {b0 : Nat} {b1 : Nat} {b2 : Nat} {b3 : Nat} {b4 : Nat} (hb0 : (b0, 87, #[.string hello, .string es, .string ss]) ∈ L) (hb1 : (b1, 28, #[pt p.q]) ∈ L) (hb2 : (b2, 9, #[.string head]) ∈ L) (hb3 : (b3, 9, #[.string ee]) ∈ L) (hb4 : (b4, 9, #[.string fs]) ∈ L) :
    Calls Tryz.prog 113 #[pt b0, pt b1, pt b2, pt b3, pt b4] w fun e w' => e = .returned (.tuple #[.agg #[.string k1, .string k2, .string k3], iN .i64 0]) ∧ PH w0 M p A' n L w' := by
  obtain ⟨z0, X0, hcl0, hbe0, H0⟩ := PH.front H
  go_enter Tryz.func113, Tryz.ntmps113
  refine wp_seq (wl_region ?_)
  refine wl_make (c := #[.string ({ data := #[] }), .string ({ data := #[] }), .string ({ data := #[] })]) H0 126 ky ky ?_
  intro q1 w2 (h3 : HA z0 ((q1, 126, #[.string ({ data := #[] }), .string ({ data := #[] }), .string ({ data := #[] })]) :: (L ++ X0)) w2)
  refine zv (iN .i64 0) ?_
  refine wl_nil (then_at rfl (wp_seq (wl_region ?_)))
  refine zu (.agg (#[.string hello, .string es, .string ss])) (run_load_blk ky (h3.blk (b0, 87, #[.string hello, .string es, .string ss]) (by simp [hb0])) Tryz.underlying87 rfl ky) ?_
  refine zu (.pointer (some ⟨p.q, 0, none⟩)) (run_load1 (fun w => Tryz.isAgg28 w) ky (((h3.blk (b1, 28, #[pt p.q]) (by simp [hb1])).cell 0).trans rfl)) ?_
  refine zu (.string head) (run_load1 (fun w => Tryz.isAgg9 w) ky (((h3.blk (b2, 9, #[.string head]) (by simp [hb2])).cell 0).trans rfl)) ?_
  refine zu (.string ee) (run_load1 (fun w => Tryz.isAgg9 w) ky (((h3.blk (b3, 9, #[.string ee]) (by simp [hb3])).cell 0).trans rfl)) ?_
  refine zu (.string fs) (run_load1 (fun w => Tryz.isAgg9 w) ky (((h3.blk (b4, 9, #[.string fs]) (by simp [hb4])).cell 0).trans rfl)) ?_
  refine wl_callx ky enter69 #[.agg (#[.string hello, .string es, .string ss]), .pointer (some ⟨p.q, 0, none⟩), .string head, .string ee, .string fs] ky (keys_P (hcl0 ((q1, 126, #[.string ({ data := #[] }), .string ({ data := #[] }), .string ({ data := #[] })]) :: L) _ h3) hello es ss head ee fs hh hes hss hhe hee hfs hf hd hl1 hm) ?_
  rintro _ w5 ⟨rfl, hD4⟩
  refine ⟨_, rfl, ?_⟩
  obtain ⟨z6, X7, hcl8, hbe9, h10⟩ := PH.front hD4
  have h11 : HA z6 ((q1, 126, #[.string ({ data := #[] }), .string ({ data := #[] }), .string ({ data := #[] })]) :: (L ++ X7)) w5 := h10
  refine zv (.agg #[.string k1, .string k2, .string k3]) ?_
  refine zv (iN .i64 0) ?_
  refine wl_fill (c' := #[.string k1, .string k2, .string k3]) h11 0 rfl ky ky ky rfl ky ky ?_
  intro w12 (h13 : HA z6 ((q1, 126, #[.string k1, .string k2, .string k3]) :: (L ++ X7)) w12)
  refine zv (iN .i64 0) ?_
  refine wl_nil (then_at rfl ?_)
  refine wp_ret ?_
  repeat first | refine then_ret ?_ | refine block_ret ?_
  exact bodyPost_ret (v := .tuple #[.agg #[.string k1, .string k2, .string k3], iN .i64 0]) (res_cell_tmp (p := 5) (r := 6) ky ky ky (h13.get 0 rfl) Tryz.underlying126 rfl ky) rfl ⟨rfl, PH.sub (hcl8 ((q1, 126, #[.string k1, .string k2, .string k3]) :: L) _ h13) (List.Sublist.cons _ (List.Sublist.refl _))⟩
set_option maxRecDepth 100000 in
set_option maxHeartbeats 2000000 in
theorem an5 {w0 w : World} {M : ML} {p : Pr} {A : List Ent} {n : Nat} {L : BL} (H : PH w0 M p A n L w) {key ad : ByteArray} (hk : key.size ≤ 65536) (had : ad.size ≤ 16384) (hf : A.length < 58000) (hj : n < 1000000) {A' : List Ent} {x : Nat} (hm : mkA A 6 { data := #[] } [key, { data := #[] }, ad, { data := #[] }] = (A', x)) {k1 k2 : ByteArray} {b0 : Nat} {b1 : Nat} {b2 : Nat} (hb0 : (b0, 28, #[pt p.q]) ∈ L) (hb1 : (b1, 126, #[.string k1, .string k2, .string key]) ∈ L) (hb2 : (b2, 9, #[.string ad]) ∈ L) :
    Calls Tryz.prog 114 #[pt b0, pt b1, pt b2] w fun e w' => e = .returned (.tuple #[.string (txt x), iN .i64 0]) ∧ PH w0 M p A' (n + 1) L w' := by
  obtain ⟨z0, X0, hcl0, hbe0, H0⟩ := PH.front H
  go_enter Tryz.func114, Tryz.ntmps114
  refine wp_seq (wl_region ?_)
  refine zv (.string ({ data := #[] })) ?_
  refine zv (iN .i64 0) ?_
  refine wl_nil (then_at rfl (wp_seq (wl_region ?_)))
  refine zu (.pointer (some ⟨p.q, 0, none⟩)) (run_load1 (fun w => Tryz.isAgg28 w) ky (((H0.blk (b0, 28, #[pt p.q]) (by simp [hb0])).cell 0).trans rfl)) ?_
  refine zv (.pointer (some ⟨b1, 2, none⟩)) ?_
  refine zu (.string key) (run_load1 (fun w => Tryz.isAgg9 w) ky (((H0.blk (b1, 126, #[.string k1, .string k2, .string key]) (by simp [hb1])).cell 2).trans rfl)) ?_
  refine zu (.string ad) (run_load1 (fun w => Tryz.isAgg9 w) ky (((H0.blk (b2, 9, #[.string ad]) (by simp [hb2])).cell 0).trans rfl)) ?_
  refine wl_callx ky enter46 #[.pointer (some ⟨p.q, 0, none⟩), .string key, .string ({ data := #[] }), .string ad, .string ({ data := #[] })] ky (Seal_E (hcl0 (L) _ H0) key { data := #[] } ad { data := #[] } hk (by decide) had (by decide) hf hj hm) ?_
  rintro _ w2 ⟨rfl, hD1⟩
  refine ⟨_, rfl, ?_⟩
  obtain ⟨z3, X4, hcl5, hbe6, h7⟩ := PH.front hD1
  have h8 : HA z3 (L ++ X4) w2 := h7
  refine zv (.string (txt x)) ?_
  refine zv (iN .i64 0) ?_
  refine zv (.string (txt x)) ?_
  refine zv (iN .i64 0) ?_
  refine wl_nil (then_at rfl ?_)
  refine wp_ret ?_
  repeat first | refine then_ret ?_ | refine block_ret ?_
  exact bodyPost_ret (v := .tuple #[.string (txt x), iN .i64 0]) ky rfl ⟨rfl, PH.sub (hcl5 (L) _ h8) (List.Sublist.refl _)⟩
set_option maxRecDepth 100000 in
set_option maxHeartbeats 2000000 in
theorem answered_P {w0 w : World} {M : ML} {p : Pr} {A : List Ent} {n : Nat} {L : BL} (H : PH w0 M p A n L w) (hello es ss fresh client draw : ByteArray) (hh : hello.size ≤ 60000) (hes : es.size ≤ 10000) (hss : ss.size ≤ 10000) (hfr : fresh.size ≤ 60000) (hcl : client.size ≤ 60000) (hf : A.length < 50000) (hj : n < 1000000) {A2 A3 A4 A5 A6 A7 : List Ent} {pu ee fs d pr : Nat} {k1 k2 k3 : ByteArray} (hk3 : k3.size ≤ 60000) (a1 : mkA (frA A) 3 { data := #[] } [txt A.length] = (A2, pu)) (l2 : A2.length < 50000) (a2 : mkA A2 4 { data := #[] } [txt A.length, fresh] = (A3, ee)) (l3 : A3.length < 50000) (a3 : mkA A3 4 { data := #[] } [txt A.length, client] = (A4, fs)) (l4 : A4.length < 50000) (a4 : mkA A4 5 { data := #[100, 105, 103, 101, 115, 116] } [hello, layT [txt pu] 1] = (A5, d)) (l5 : A5.length < 50000) (a5 : dv A5 (layT [es, ss, txt ee, txt fs] 4) (txt d) kI 3 = (A6, [k1, k2, k3])) (l6 : A6.length < 50000) (a6 : mkA A6 6 { data := #[] } [k3, { data := #[] }, layT [txt pu] 1, { data := #[] }] = (A7, pr)) :
    Calls Tryz.prog 56 #[.agg #[.string hello, .string es, .string ss], pt p.q, .string fresh, .string client, .string draw] w fun e w' => e = .returned (.tuple #[.string (layT [txt pu] 1 ++ layT [txt pr] 1), .agg #[.string k1, .string k2, .string k3], iN .i64 0]) ∧ PH w0 M p A7 (n + 1) L w' := by
  obtain ⟨z0, X0, hcl0, hbe0, H0⟩ := PH.front H
  go_enter Tryz.func56, Tryz.ntmps56
  refine wp_seq (wl_region ?_)
  refine wl_make (c := #[.string hello, .string es, .string ss]) H0 87 ky ky ?_
  intro q1 w2 (h3 : HA z0 ((q1, 87, #[.string hello, .string es, .string ss]) :: (L ++ X0)) w2)
  refine wl_make (c := #[.pointer (some ⟨p.q, 0, none⟩)]) h3 28 ky ky ?_
  intro q4 w5 (h6 : HA z0 ((q4, 28, #[.pointer (some ⟨p.q, 0, none⟩)]) :: (q1, 87, #[.string hello, .string es, .string ss]) :: (L ++ X0)) w5)
  refine wl_make (c := #[.string fresh]) h6 9 ky ky ?_
  intro q7 w8 (h9 : HA z0 ((q7, 9, #[.string fresh]) :: (q4, 28, #[.pointer (some ⟨p.q, 0, none⟩)]) :: (q1, 87, #[.string hello, .string es, .string ss]) :: (L ++ X0)) w8)
  refine wl_make (c := #[.string client]) h9 9 ky ky ?_
  intro q10 w11 (h12 : HA z0 ((q10, 9, #[.string client]) :: (q7, 9, #[.string fresh]) :: (q4, 28, #[.pointer (some ⟨p.q, 0, none⟩)]) :: (q1, 87, #[.string hello, .string es, .string ss]) :: (L ++ X0)) w11)
  refine zv (.string ({ data := #[] })) ?_
  refine wl_make (c := #[.string ({ data := #[] }), .string ({ data := #[] }), .string ({ data := #[] })]) h12 126 ky ky ?_
  intro q13 w14 (h15 : HA z0 ((q13, 126, #[.string ({ data := #[] }), .string ({ data := #[] }), .string ({ data := #[] })]) :: (q10, 9, #[.string client]) :: (q7, 9, #[.string fresh]) :: (q4, 28, #[.pointer (some ⟨p.q, 0, none⟩)]) :: (q1, 87, #[.string hello, .string es, .string ss]) :: (L ++ X0)) w14)
  refine zv (iN .i64 0) ?_
  refine wl_nil (then_at rfl (wp_seq (wl_region ?_)))
  refine wl_make (c := #[iN .i64 0]) h15 29 ky ky ?_
  intro q16 w17 (h18 : HA z0 ((q16, 29, #[iN .i64 0]) :: (q13, 126, #[.string ({ data := #[] }), .string ({ data := #[] }), .string ({ data := #[] })]) :: (q10, 9, #[.string client]) :: (q7, 9, #[.string fresh]) :: (q4, 28, #[.pointer (some ⟨p.q, 0, none⟩)]) :: (q1, 87, #[.string hello, .string es, .string ss]) :: (L ++ X0)) w17)
  refine wl_putv (v := iN .i64 0) h18 0 rfl 0 (by show 0 < 1; decide) ky (fun w => Tryz.sizeOf29 w) ky ky ky ?_
  intro w19 (h20 : HA z0 ((q16, 29, #[iN .i64 0]) :: (q13, 126, #[.string ({ data := #[] }), .string ({ data := #[] }), .string ({ data := #[] })]) :: (q10, 9, #[.string client]) :: (q7, 9, #[.string fresh]) :: (q4, 28, #[.pointer (some ⟨p.q, 0, none⟩)]) :: (q1, 87, #[.string hello, .string es, .string ss]) :: (L ++ X0)) w19)
  refine wl_nil (then_at rfl (wp_seq (wl_region ?_)))
  refine wl_callx ky enter36 #[.pointer (some ⟨q16, 0, none⟩)] ky (kp_s h20) ?_
  rintro _ w23 ⟨kb21, rfl, h22⟩
  refine ⟨_, rfl, ?_⟩
  have h24 : HA z0 ((kb21, 107, #[pt q16]) :: (q16, 29, #[iN .i64 0]) :: (q13, 126, #[.string ({ data := #[] }), .string ({ data := #[] }), .string ({ data := #[] })]) :: (q10, 9, #[.string client]) :: (q7, 9, #[.string fresh]) :: (q4, 28, #[.pointer (some ⟨p.q, 0, none⟩)]) :: (q1, 87, #[.string hello, .string es, .string ss]) :: (L ++ X0)) w23 := h22
  refine wl_callx ky enter65 #[.pointer (some ⟨q16, 0, none⟩)] ky (kp_k h24) ?_
  rintro _ w27 ⟨kb25, rfl, h26⟩
  refine ⟨_, rfl, ?_⟩
  have h28 : HA z0 ((kb25, 107, #[pt q16]) :: (kb21, 107, #[pt q16]) :: (q16, 29, #[iN .i64 0]) :: (q13, 126, #[.string ({ data := #[] }), .string ({ data := #[] }), .string ({ data := #[] })]) :: (q10, 9, #[.string client]) :: (q7, 9, #[.string fresh]) :: (q4, 28, #[.pointer (some ⟨p.q, 0, none⟩)]) :: (q1, 87, #[.string hello, .string es, .string ss]) :: (L ++ X0)) w27 := h26
  refine zv (.func (.func 92) #[] #[pt kb21]) ?_
  refine zv (.func (.func 122) #[] #[pt kb25]) ?_
  refine wl_nil (then_at rfl (wp_seq (wl_region ?_)))
  refine zu (.pointer (some ⟨p.q, 0, none⟩)) (run_load1 (fun w => Tryz.isAgg28 w) ky (((h28.get 6 rfl).cell 0).trans rfl)) ?_
  refine zv (.string draw) ?_
  refine wl_callx ky enter11 #[.pointer (some ⟨p.q, 0, none⟩), .string draw] ky (Secret_P (hcl0 ((kb25, 107, #[pt q16]) :: (kb21, 107, #[pt q16]) :: (q16, 29, #[iN .i64 0]) :: (q13, 126, #[.string ({ data := #[] }), .string ({ data := #[] }), .string ({ data := #[] })]) :: (q10, 9, #[.string client]) :: (q7, 9, #[.string fresh]) :: (q4, 28, #[.pointer (some ⟨p.q, 0, none⟩)]) :: (q1, 87, #[.string hello, .string es, .string ss]) :: L) _ h28) draw (by omega)) ?_
  rintro _ w30 ⟨rfl, hD29⟩
  refine ⟨_, rfl, ?_⟩
  obtain ⟨z31, X32, hcl33, hbe34, h35⟩ := PH.front hD29
  have h36 : HA z31 ((kb25, 107, #[pt q16]) :: (kb21, 107, #[pt q16]) :: (q16, 29, #[iN .i64 0]) :: (q13, 126, #[.string ({ data := #[] }), .string ({ data := #[] }), .string ({ data := #[] })]) :: (q10, 9, #[.string client]) :: (q7, 9, #[.string fresh]) :: (q4, 28, #[.pointer (some ⟨p.q, 0, none⟩)]) :: (q1, 87, #[.string hello, .string es, .string ss]) :: (L ++ X32)) w30 := h35
  refine wl_make (c := #[.string ({ data := #[] })]) h36 9 ky ky ?_
  intro q37 w38 (h39 : HA z31 ((q37, 9, #[.string ({ data := #[] })]) :: (kb25, 107, #[pt q16]) :: (kb21, 107, #[pt q16]) :: (q16, 29, #[iN .i64 0]) :: (q13, 126, #[.string ({ data := #[] }), .string ({ data := #[] }), .string ({ data := #[] })]) :: (q10, 9, #[.string client]) :: (q7, 9, #[.string fresh]) :: (q4, 28, #[.pointer (some ⟨p.q, 0, none⟩)]) :: (q1, 87, #[.string hello, .string es, .string ss]) :: (L ++ X32)) w38)
  refine wl_putv (v := .string (txt A.length)) h39 0 rfl 0 (by show 0 < 1; decide) ky (fun w => Tryz.sizeOf9 w) ky ky ky ?_
  intro w40 (h41 : HA z31 ((q37, 9, #[.string (txt A.length)]) :: (kb25, 107, #[pt q16]) :: (kb21, 107, #[pt q16]) :: (q16, 29, #[iN .i64 0]) :: (q13, 126, #[.string ({ data := #[] }), .string ({ data := #[] }), .string ({ data := #[] })]) :: (q10, 9, #[.string client]) :: (q7, 9, #[.string fresh]) :: (q4, 28, #[.pointer (some ⟨p.q, 0, none⟩)]) :: (q1, 87, #[.string hello, .string es, .string ss]) :: (L ++ X32)) w40)
  refine wl_nil (then_at rfl (wp_seq (wl_region ?_)))
  refine zv (.func (.func 92) #[] #[pt kb21]) ?_
  refine zv (.func (.func 110) #[] #[.pointer (some ⟨q4, 0, none⟩), .pointer (some ⟨q37, 0, none⟩)]) ?_
  refine wl_callvx (cap := #[.pointer (some ⟨kb21, 0, none⟩)]) (args := #[.func (.func 110) #[] #[.pointer (some ⟨q4, 0, none⟩), .pointer (some ⟨q37, 0, none⟩)], .pointer (some ⟨kb21, 0, none⟩)]) ky enter92 ky ky (keep_s enter110 (PH.perm (hcl33 ((q37, 9, #[.string (txt A.length)]) :: (kb25, 107, #[pt q16]) :: (kb21, 107, #[pt q16]) :: (q16, 29, #[iN .i64 0]) :: (q13, 126, #[.string ({ data := #[] }), .string ({ data := #[] }), .string ({ data := #[] })]) :: (q10, 9, #[.string client]) :: (q7, 9, #[.string fresh]) :: (q4, 28, #[.pointer (some ⟨p.q, 0, none⟩)]) :: (q1, 87, #[.string hello, .string es, .string ss]) :: L) _ h41) (List.Perm.trans (List.Perm.cons _ (List.Perm.cons _ (List.Perm.swap _ _ _))) (List.Perm.trans (List.Perm.cons _ (List.Perm.swap _ _ _)) (List.Perm.trans (List.Perm.swap _ _ _) (List.Perm.trans (List.Perm.cons _ (List.Perm.cons _ (List.Perm.swap _ _ _))) (List.Perm.cons _ (List.Perm.swap _ _ _))))))) (fun w Lx hx HL => an1 HL (by rw [txt_size]; decide) (by rw [frA_len]; omega) a1 (hx _ (List.mem_of_getElem? (i := 5) rfl)) (hx _ (List.mem_of_getElem? (i := 0) rfl)))) ?_
  rintro _ w43 ⟨rfl, hD42⟩
  refine ⟨_, rfl, ?_⟩
  obtain ⟨z44, X45, hcl46, hbe47, h48⟩ := PH.front hD42
  have h49 : HA z44 ((q16, 29, #[iN .i64 0]) :: (kb21, 107, #[pt q16]) :: (q37, 9, #[.string (txt A.length)]) :: (kb25, 107, #[pt q16]) :: (q13, 126, #[.string ({ data := #[] }), .string ({ data := #[] }), .string ({ data := #[] })]) :: (q10, 9, #[.string client]) :: (q7, 9, #[.string fresh]) :: (q4, 28, #[.pointer (some ⟨p.q, 0, none⟩)]) :: (q1, 87, #[.string hello, .string es, .string ss]) :: (L ++ X45)) w43 := h48
  refine zv (.string (txt pu)) ?_
  refine wl_nil (then_at rfl (wp_seq (wl_region ?_)))
  refine zv (.string (txt pu)) ?_
  refine wl_mks (n := 1) (m := 1) (c := #[.string (txt pu)]) h49 9 ky ky ?_
  intro q50 w51 (h52 : HA z44 ((q50, 9, #[.string (txt pu)]) :: (q16, 29, #[iN .i64 0]) :: (kb21, 107, #[pt q16]) :: (q37, 9, #[.string (txt A.length)]) :: (kb25, 107, #[pt q16]) :: (q13, 126, #[.string ({ data := #[] }), .string ({ data := #[] }), .string ({ data := #[] })]) :: (q10, 9, #[.string client]) :: (q7, 9, #[.string fresh]) :: (q4, 28, #[.pointer (some ⟨p.q, 0, none⟩)]) :: (q1, 87, #[.string hello, .string es, .string ss]) :: (L ++ X45)) w51)
  refine wl_call (v := .string (layT [txt pu] 1)) h52 ky enter44 #[.slice (some ⟨q50, 0, none⟩) 1 1] ky (laid_any [txt pu] _ _ (.inr ⟨q50, _, rfl, PreS.strc [txt pu], h52.get 0 rfl⟩) (m := 8) (by decide) (ss1 (by rw [txt_size]; decide)) (by simp)) ?_
  intro w53 h54
  refine wl_make (c := #[.string ({ data := #[] })]) h54 9 ky ky ?_
  intro q55 w56 (h57 : HA z44 ((q55, 9, #[.string ({ data := #[] })]) :: (q50, 9, #[.string (txt pu)]) :: (q16, 29, #[iN .i64 0]) :: (kb21, 107, #[pt q16]) :: (q37, 9, #[.string (txt A.length)]) :: (kb25, 107, #[pt q16]) :: (q13, 126, #[.string ({ data := #[] }), .string ({ data := #[] }), .string ({ data := #[] })]) :: (q10, 9, #[.string client]) :: (q7, 9, #[.string fresh]) :: (q4, 28, #[.pointer (some ⟨p.q, 0, none⟩)]) :: (q1, 87, #[.string hello, .string es, .string ss]) :: (L ++ X45)) w56)
  refine wl_putv (v := .string (layT [txt pu] 1)) h57 0 rfl 0 (by show 0 < 1; decide) ky (fun w => Tryz.sizeOf9 w) ky ky ky ?_
  intro w58 (h59 : HA z44 ((q55, 9, #[.string (layT [txt pu] 1)]) :: (q50, 9, #[.string (txt pu)]) :: (q16, 29, #[iN .i64 0]) :: (kb21, 107, #[pt q16]) :: (q37, 9, #[.string (txt A.length)]) :: (kb25, 107, #[pt q16]) :: (q13, 126, #[.string ({ data := #[] }), .string ({ data := #[] }), .string ({ data := #[] })]) :: (q10, 9, #[.string client]) :: (q7, 9, #[.string fresh]) :: (q4, 28, #[.pointer (some ⟨p.q, 0, none⟩)]) :: (q1, 87, #[.string hello, .string es, .string ss]) :: (L ++ X45)) w58)
  refine wl_nil (then_at rfl (wp_seq (wl_region ?_)))
  refine zv (.func (.func 92) #[] #[pt kb21]) ?_
  refine zv (.func (.func 111) #[] #[.pointer (some ⟨q4, 0, none⟩), .pointer (some ⟨q37, 0, none⟩), .pointer (some ⟨q7, 0, none⟩)]) ?_
  refine wl_callvx (cap := #[.pointer (some ⟨kb21, 0, none⟩)]) (args := #[.func (.func 111) #[] #[.pointer (some ⟨q4, 0, none⟩), .pointer (some ⟨q37, 0, none⟩), .pointer (some ⟨q7, 0, none⟩)], .pointer (some ⟨kb21, 0, none⟩)]) ky enter92 ky ky (keep_s enter111 (PH.perm (hcl46 ((q55, 9, #[.string (layT [txt pu] 1)]) :: (q50, 9, #[.string (txt pu)]) :: (q16, 29, #[iN .i64 0]) :: (kb21, 107, #[pt q16]) :: (q37, 9, #[.string (txt A.length)]) :: (kb25, 107, #[pt q16]) :: (q13, 126, #[.string ({ data := #[] }), .string ({ data := #[] }), .string ({ data := #[] })]) :: (q10, 9, #[.string client]) :: (q7, 9, #[.string fresh]) :: (q4, 28, #[.pointer (some ⟨p.q, 0, none⟩)]) :: (q1, 87, #[.string hello, .string es, .string ss]) :: L) _ h59) (List.Perm.trans (List.Perm.cons _ (List.Perm.swap _ _ _)) (List.Perm.trans (List.Perm.swap _ _ _) (List.Perm.trans (List.Perm.cons _ (List.Perm.cons _ (List.Perm.swap _ _ _))) (List.Perm.cons _ (List.Perm.swap _ _ _)))))) (fun w Lx hx HL => an2 HL (by rw [txt_size]; decide) (by omega) (by omega) a2 (hx _ (List.mem_of_getElem? (i := 7) rfl)) (hx _ (List.mem_of_getElem? (i := 2) rfl)) (hx _ (List.mem_of_getElem? (i := 6) rfl)))) ?_
  rintro _ w61 ⟨rfl, hD60⟩
  refine ⟨_, rfl, ?_⟩
  obtain ⟨z62, X63, hcl64, hbe65, h66⟩ := PH.front hD60
  have h67 : HA z62 ((q16, 29, #[iN .i64 0]) :: (kb21, 107, #[pt q16]) :: (q55, 9, #[.string (layT [txt pu] 1)]) :: (q50, 9, #[.string (txt pu)]) :: (q37, 9, #[.string (txt A.length)]) :: (kb25, 107, #[pt q16]) :: (q13, 126, #[.string ({ data := #[] }), .string ({ data := #[] }), .string ({ data := #[] })]) :: (q10, 9, #[.string client]) :: (q7, 9, #[.string fresh]) :: (q4, 28, #[.pointer (some ⟨p.q, 0, none⟩)]) :: (q1, 87, #[.string hello, .string es, .string ss]) :: (L ++ X63)) w61 := h66
  refine wl_make (c := #[.string ({ data := #[] })]) h67 9 ky ky ?_
  intro q68 w69 (h70 : HA z62 ((q68, 9, #[.string ({ data := #[] })]) :: (q16, 29, #[iN .i64 0]) :: (kb21, 107, #[pt q16]) :: (q55, 9, #[.string (layT [txt pu] 1)]) :: (q50, 9, #[.string (txt pu)]) :: (q37, 9, #[.string (txt A.length)]) :: (kb25, 107, #[pt q16]) :: (q13, 126, #[.string ({ data := #[] }), .string ({ data := #[] }), .string ({ data := #[] })]) :: (q10, 9, #[.string client]) :: (q7, 9, #[.string fresh]) :: (q4, 28, #[.pointer (some ⟨p.q, 0, none⟩)]) :: (q1, 87, #[.string hello, .string es, .string ss]) :: (L ++ X63)) w69)
  refine wl_putv (v := .string (txt ee)) h70 0 rfl 0 (by show 0 < 1; decide) ky (fun w => Tryz.sizeOf9 w) ky ky ky ?_
  intro w71 (h72 : HA z62 ((q68, 9, #[.string (txt ee)]) :: (q16, 29, #[iN .i64 0]) :: (kb21, 107, #[pt q16]) :: (q55, 9, #[.string (layT [txt pu] 1)]) :: (q50, 9, #[.string (txt pu)]) :: (q37, 9, #[.string (txt A.length)]) :: (kb25, 107, #[pt q16]) :: (q13, 126, #[.string ({ data := #[] }), .string ({ data := #[] }), .string ({ data := #[] })]) :: (q10, 9, #[.string client]) :: (q7, 9, #[.string fresh]) :: (q4, 28, #[.pointer (some ⟨p.q, 0, none⟩)]) :: (q1, 87, #[.string hello, .string es, .string ss]) :: (L ++ X63)) w71)
  refine wl_nil (then_at rfl (wp_seq (wl_region ?_)))
  refine zv (.func (.func 92) #[] #[pt kb21]) ?_
  refine zv (.func (.func 112) #[] #[.pointer (some ⟨q4, 0, none⟩), .pointer (some ⟨q37, 0, none⟩), .pointer (some ⟨q10, 0, none⟩)]) ?_
  refine wl_callvx (cap := #[.pointer (some ⟨kb21, 0, none⟩)]) (args := #[.func (.func 112) #[] #[.pointer (some ⟨q4, 0, none⟩), .pointer (some ⟨q37, 0, none⟩), .pointer (some ⟨q10, 0, none⟩)], .pointer (some ⟨kb21, 0, none⟩)]) ky enter92 ky ky (keep_s enter112 (PH.perm (hcl64 ((q68, 9, #[.string (txt ee)]) :: (q16, 29, #[iN .i64 0]) :: (kb21, 107, #[pt q16]) :: (q55, 9, #[.string (layT [txt pu] 1)]) :: (q50, 9, #[.string (txt pu)]) :: (q37, 9, #[.string (txt A.length)]) :: (kb25, 107, #[pt q16]) :: (q13, 126, #[.string ({ data := #[] }), .string ({ data := #[] }), .string ({ data := #[] })]) :: (q10, 9, #[.string client]) :: (q7, 9, #[.string fresh]) :: (q4, 28, #[.pointer (some ⟨p.q, 0, none⟩)]) :: (q1, 87, #[.string hello, .string es, .string ss]) :: L) _ h72) (List.Perm.trans (List.Perm.swap _ _ _) (List.Perm.cons _ (List.Perm.swap _ _ _)))) (fun w Lx hx HL => an3 HL (by rw [txt_size]; decide) (by omega) (by omega) a3 (hx _ (List.mem_of_getElem? (i := 8) rfl)) (hx _ (List.mem_of_getElem? (i := 3) rfl)) (hx _ (List.mem_of_getElem? (i := 6) rfl)))) ?_
  rintro _ w74 ⟨rfl, hD73⟩
  refine ⟨_, rfl, ?_⟩
  obtain ⟨z75, X76, hcl77, hbe78, h79⟩ := PH.front hD73
  have h80 : HA z75 ((q16, 29, #[iN .i64 0]) :: (kb21, 107, #[pt q16]) :: (q68, 9, #[.string (txt ee)]) :: (q55, 9, #[.string (layT [txt pu] 1)]) :: (q50, 9, #[.string (txt pu)]) :: (q37, 9, #[.string (txt A.length)]) :: (kb25, 107, #[pt q16]) :: (q13, 126, #[.string ({ data := #[] }), .string ({ data := #[] }), .string ({ data := #[] })]) :: (q10, 9, #[.string client]) :: (q7, 9, #[.string fresh]) :: (q4, 28, #[.pointer (some ⟨p.q, 0, none⟩)]) :: (q1, 87, #[.string hello, .string es, .string ss]) :: (L ++ X76)) w74 := h79
  refine wl_make (c := #[.string ({ data := #[] })]) h80 9 ky ky ?_
  intro q81 w82 (h83 : HA z75 ((q81, 9, #[.string ({ data := #[] })]) :: (q16, 29, #[iN .i64 0]) :: (kb21, 107, #[pt q16]) :: (q68, 9, #[.string (txt ee)]) :: (q55, 9, #[.string (layT [txt pu] 1)]) :: (q50, 9, #[.string (txt pu)]) :: (q37, 9, #[.string (txt A.length)]) :: (kb25, 107, #[pt q16]) :: (q13, 126, #[.string ({ data := #[] }), .string ({ data := #[] }), .string ({ data := #[] })]) :: (q10, 9, #[.string client]) :: (q7, 9, #[.string fresh]) :: (q4, 28, #[.pointer (some ⟨p.q, 0, none⟩)]) :: (q1, 87, #[.string hello, .string es, .string ss]) :: (L ++ X76)) w82)
  refine wl_putv (v := .string (txt fs)) h83 0 rfl 0 (by show 0 < 1; decide) ky (fun w => Tryz.sizeOf9 w) ky ky ky ?_
  intro w84 (h85 : HA z75 ((q81, 9, #[.string (txt fs)]) :: (q16, 29, #[iN .i64 0]) :: (kb21, 107, #[pt q16]) :: (q68, 9, #[.string (txt ee)]) :: (q55, 9, #[.string (layT [txt pu] 1)]) :: (q50, 9, #[.string (txt pu)]) :: (q37, 9, #[.string (txt A.length)]) :: (kb25, 107, #[pt q16]) :: (q13, 126, #[.string ({ data := #[] }), .string ({ data := #[] }), .string ({ data := #[] })]) :: (q10, 9, #[.string client]) :: (q7, 9, #[.string fresh]) :: (q4, 28, #[.pointer (some ⟨p.q, 0, none⟩)]) :: (q1, 87, #[.string hello, .string es, .string ss]) :: (L ++ X76)) w84)
  refine wl_nil (then_at rfl (wp_seq (wl_region ?_)))
  refine zv (.func (.func 122) #[] #[pt kb25]) ?_
  refine zv (.func (.func 113) #[] #[.pointer (some ⟨q1, 0, none⟩), .pointer (some ⟨q4, 0, none⟩), .pointer (some ⟨q55, 0, none⟩), .pointer (some ⟨q68, 0, none⟩), .pointer (some ⟨q81, 0, none⟩)]) ?_
  refine wl_callvx (cap := #[.pointer (some ⟨kb25, 0, none⟩)]) (args := #[.func (.func 113) #[] #[.pointer (some ⟨q1, 0, none⟩), .pointer (some ⟨q4, 0, none⟩), .pointer (some ⟨q55, 0, none⟩), .pointer (some ⟨q68, 0, none⟩), .pointer (some ⟨q81, 0, none⟩)], .pointer (some ⟨kb25, 0, none⟩)]) ky enter122 ky ky (keep_k enter113 (PH.perm (hcl77 ((q81, 9, #[.string (txt fs)]) :: (q16, 29, #[iN .i64 0]) :: (kb21, 107, #[pt q16]) :: (q68, 9, #[.string (txt ee)]) :: (q55, 9, #[.string (layT [txt pu] 1)]) :: (q50, 9, #[.string (txt pu)]) :: (q37, 9, #[.string (txt A.length)]) :: (kb25, 107, #[pt q16]) :: (q13, 126, #[.string ({ data := #[] }), .string ({ data := #[] }), .string ({ data := #[] })]) :: (q10, 9, #[.string client]) :: (q7, 9, #[.string fresh]) :: (q4, 28, #[.pointer (some ⟨p.q, 0, none⟩)]) :: (q1, 87, #[.string hello, .string es, .string ss]) :: L) _ h85) (List.Perm.trans (List.Perm.swap _ _ _) (List.Perm.trans (List.Perm.cons _ (List.Perm.cons _ (List.Perm.cons _ (List.Perm.cons _ (List.Perm.cons _ (List.Perm.cons _ (List.Perm.swap _ _ _))))))) (List.Perm.trans (List.Perm.cons _ (List.Perm.cons _ (List.Perm.cons _ (List.Perm.cons _ (List.Perm.cons _ (List.Perm.swap _ _ _)))))) (List.Perm.trans (List.Perm.cons _ (List.Perm.cons _ (List.Perm.cons _ (List.Perm.cons _ (List.Perm.swap _ _ _))))) (List.Perm.trans (List.Perm.cons _ (List.Perm.cons _ (List.Perm.cons _ (List.Perm.swap _ _ _)))) (List.Perm.trans (List.Perm.cons _ (List.Perm.cons _ (List.Perm.swap _ _ _))) (List.Perm.cons _ (List.Perm.swap _ _ _))))))))) (fun w Lx hx HL => an4 HL (by omega) (by omega) (by omega) (by have := lay1_size pu; omega) (by rw [txt_size]; decide) (by rw [txt_size]; decide) (by omega) a4 (by omega) a5 (hx _ (List.mem_of_getElem? (i := 10) rfl)) (hx _ (List.mem_of_getElem? (i := 9) rfl)) (hx _ (List.mem_of_getElem? (i := 3) rfl)) (hx _ (List.mem_of_getElem? (i := 2) rfl)) (hx _ (List.mem_of_getElem? (i := 0) rfl)))) ?_
  rintro _ w87 ⟨rfl, hD86⟩
  refine ⟨_, rfl, ?_⟩
  obtain ⟨z88, X89, hcl90, hbe91, h92⟩ := PH.front hD86
  have h93 : HA z88 ((q16, 29, #[iN .i64 0]) :: (kb25, 107, #[pt q16]) :: (q81, 9, #[.string (txt fs)]) :: (kb21, 107, #[pt q16]) :: (q68, 9, #[.string (txt ee)]) :: (q55, 9, #[.string (layT [txt pu] 1)]) :: (q50, 9, #[.string (txt pu)]) :: (q37, 9, #[.string (txt A.length)]) :: (q13, 126, #[.string ({ data := #[] }), .string ({ data := #[] }), .string ({ data := #[] })]) :: (q10, 9, #[.string client]) :: (q7, 9, #[.string fresh]) :: (q4, 28, #[.pointer (some ⟨p.q, 0, none⟩)]) :: (q1, 87, #[.string hello, .string es, .string ss]) :: (L ++ X89)) w87 := h92
  refine wl_make (c := #[.string ({ data := #[] }), .string ({ data := #[] }), .string ({ data := #[] })]) h93 126 ky ky ?_
  intro q94 w95 (h96 : HA z88 ((q94, 126, #[.string ({ data := #[] }), .string ({ data := #[] }), .string ({ data := #[] })]) :: (q16, 29, #[iN .i64 0]) :: (kb25, 107, #[pt q16]) :: (q81, 9, #[.string (txt fs)]) :: (kb21, 107, #[pt q16]) :: (q68, 9, #[.string (txt ee)]) :: (q55, 9, #[.string (layT [txt pu] 1)]) :: (q50, 9, #[.string (txt pu)]) :: (q37, 9, #[.string (txt A.length)]) :: (q13, 126, #[.string ({ data := #[] }), .string ({ data := #[] }), .string ({ data := #[] })]) :: (q10, 9, #[.string client]) :: (q7, 9, #[.string fresh]) :: (q4, 28, #[.pointer (some ⟨p.q, 0, none⟩)]) :: (q1, 87, #[.string hello, .string es, .string ss]) :: (L ++ X89)) w95)
  refine wl_fill (c' := #[.string k1, .string k2, .string k3]) h96 0 rfl ky ky ky rfl ky ky ?_
  intro w97 (h98 : HA z88 ((q94, 126, #[.string k1, .string k2, .string k3]) :: (q16, 29, #[iN .i64 0]) :: (kb25, 107, #[pt q16]) :: (q81, 9, #[.string (txt fs)]) :: (kb21, 107, #[pt q16]) :: (q68, 9, #[.string (txt ee)]) :: (q55, 9, #[.string (layT [txt pu] 1)]) :: (q50, 9, #[.string (txt pu)]) :: (q37, 9, #[.string (txt A.length)]) :: (q13, 126, #[.string ({ data := #[] }), .string ({ data := #[] }), .string ({ data := #[] })]) :: (q10, 9, #[.string client]) :: (q7, 9, #[.string fresh]) :: (q4, 28, #[.pointer (some ⟨p.q, 0, none⟩)]) :: (q1, 87, #[.string hello, .string es, .string ss]) :: (L ++ X89)) w97)
  refine wl_nil (then_at rfl (wp_seq (wl_region ?_)))
  refine zv (.func (.func 92) #[] #[pt kb21]) ?_
  refine zv (.func (.func 114) #[] #[.pointer (some ⟨q4, 0, none⟩), .pointer (some ⟨q94, 0, none⟩), .pointer (some ⟨q55, 0, none⟩)]) ?_
  refine wl_callvx (cap := #[.pointer (some ⟨kb21, 0, none⟩)]) (args := #[.func (.func 114) #[] #[.pointer (some ⟨q4, 0, none⟩), .pointer (some ⟨q94, 0, none⟩), .pointer (some ⟨q55, 0, none⟩)], .pointer (some ⟨kb21, 0, none⟩)]) ky enter92 ky ky (keep_s enter114 (PH.perm (hcl90 ((q94, 126, #[.string k1, .string k2, .string k3]) :: (q16, 29, #[iN .i64 0]) :: (kb25, 107, #[pt q16]) :: (q81, 9, #[.string (txt fs)]) :: (kb21, 107, #[pt q16]) :: (q68, 9, #[.string (txt ee)]) :: (q55, 9, #[.string (layT [txt pu] 1)]) :: (q50, 9, #[.string (txt pu)]) :: (q37, 9, #[.string (txt A.length)]) :: (q13, 126, #[.string ({ data := #[] }), .string ({ data := #[] }), .string ({ data := #[] })]) :: (q10, 9, #[.string client]) :: (q7, 9, #[.string fresh]) :: (q4, 28, #[.pointer (some ⟨p.q, 0, none⟩)]) :: (q1, 87, #[.string hello, .string es, .string ss]) :: L) _ h98) (List.Perm.trans (List.Perm.swap _ _ _) (List.Perm.trans (List.Perm.cons _ (List.Perm.cons _ (List.Perm.cons _ (List.Perm.swap _ _ _)))) (List.Perm.trans (List.Perm.cons _ (List.Perm.cons _ (List.Perm.swap _ _ _))) (List.Perm.cons _ (List.Perm.swap _ _ _)))))) (fun w Lx hx HL => an5 HL (by omega) (by have := lay1_size pu; omega) (by omega) hj a6 (hx _ (List.mem_of_getElem? (i := 10) rfl)) (hx _ (List.mem_of_getElem? (i := 0) rfl)) (hx _ (List.mem_of_getElem? (i := 4) rfl)))) ?_
  rintro _ w100 ⟨rfl, hD99⟩
  refine ⟨_, rfl, ?_⟩
  obtain ⟨z101, X102, hcl103, hbe104, h105⟩ := PH.front hD99
  have h106 : HA z101 ((q16, 29, #[iN .i64 0]) :: (kb21, 107, #[pt q16]) :: (q94, 126, #[.string k1, .string k2, .string k3]) :: (kb25, 107, #[pt q16]) :: (q81, 9, #[.string (txt fs)]) :: (q68, 9, #[.string (txt ee)]) :: (q55, 9, #[.string (layT [txt pu] 1)]) :: (q50, 9, #[.string (txt pu)]) :: (q37, 9, #[.string (txt A.length)]) :: (q13, 126, #[.string ({ data := #[] }), .string ({ data := #[] }), .string ({ data := #[] })]) :: (q10, 9, #[.string client]) :: (q7, 9, #[.string fresh]) :: (q4, 28, #[.pointer (some ⟨p.q, 0, none⟩)]) :: (q1, 87, #[.string hello, .string es, .string ss]) :: (L ++ X102)) w100 := h105
  refine zv (.string (txt pr)) ?_
  refine wl_nil (then_at rfl (wp_seq (wp_seq (wl_region ?_))))
  refine zu (iN .i64 0) (run_load1 (fun w => Tryz.isAgg29 w) ky (((h106.get 0 rfl).cell 0).trans rfl)) ?_
  refine zu (.bool false) (run_nei (k := .i64) (a := 0) (b := 0) ky ky false (by decide)) ?_
  refine wl_nil (then_at rfl ?_)
  refine wp_cond_false ky ?_
  refine wp_skip ?_
  refine then_at (F := ⟨(.agg #[.string hello, .string es, .string ss] :: pt p.q :: .string fresh :: .string client :: .string draw :: pt q1 :: pt q4 :: pt q7 :: pt q10 :: un :: .string ({ data := #[] }) :: pt q13 :: iN .i64 0 :: pt q16 :: .func (.func 92) #[] #[pt kb21] :: .func (.func 122) #[] #[pt kb25] :: pt q37 :: .string (txt pu) :: pt q55 :: pt q68 :: pt q81 :: pt q94 :: .string (txt pr) :: .func (.func 92) #[] #[pt kb21] :: .func (.func 122) #[] #[pt kb25] :: pt p.q :: .string draw :: .string (txt A.length) :: .func (.func 92) #[] #[pt kb21] :: .func (.func 110) #[] #[pt q4, pt q37] :: .string (txt pu) :: .string (txt pu) :: .slice (some ⟨q50, 0, none⟩) 1 1 :: .string (layT [txt pu] 1) :: .func (.func 92) #[] #[pt kb21] :: .func (.func 111) #[] #[pt q4, pt q37, pt q7] :: .string (txt ee) :: .func (.func 92) #[] #[pt kb21] :: .func (.func 112) #[] #[pt q4, pt q37, pt q10] :: .string (txt fs) :: .func (.func 122) #[] #[pt kb25] :: .func (.func 113) #[] #[pt q1, pt q4, pt q55, pt q68, pt q81] :: .agg #[.string k1, .string k2, .string k3] :: .func (.func 92) #[] #[pt kb21] :: .func (.func 114) #[] #[pt q4, pt q94, pt q55] :: .string (txt pr) :: iN .i64 0 :: .bool false :: List.replicate 8 un).toArray, []⟩) ky ?_
  refine wp_seq ?_
  refine wp_region_wx (HA z101 ((q16, 29, #[iN .i64 0]) :: (kb21, 107, #[pt q16]) :: (q94, 126, #[.string k1, .string k2, .string k3]) :: (kb25, 107, #[pt q16]) :: (q81, 9, #[.string (txt fs)]) :: (q68, 9, #[.string (txt ee)]) :: (q55, 9, #[.string (layT [txt pu] 1)]) :: (q50, 9, #[.string (txt pu)]) :: (q37, 9, #[.string (txt A.length)]) :: (q13, 126, #[.string ({ data := #[] }), .string ({ data := #[] }), .string ({ data := #[] })]) :: (q10, 9, #[.string client]) :: (q7, 9, #[.string fresh]) :: (q4, 28, #[.pointer (some ⟨p.q, 0, none⟩)]) :: (q1, 87, #[.string hello, .string es, .string ss]) :: (L ++ X102))) (fun AQ w' => ∃ (q110 : Nat), AQ = ⟨(.agg #[.string hello, .string es, .string ss] :: pt p.q :: .string fresh :: .string client :: .string draw :: pt q1 :: pt q4 :: pt q7 :: pt q10 :: un :: .string (layT [txt pu] 1 ++ layT [txt pr] 1) :: pt q13 :: iN .i64 0 :: pt q16 :: .func (.func 92) #[] #[pt kb21] :: .func (.func 122) #[] #[pt kb25] :: pt q37 :: .string (txt pu) :: pt q55 :: pt q68 :: pt q81 :: pt q94 :: .string (txt pr) :: .func (.func 92) #[] #[pt kb21] :: .func (.func 122) #[] #[pt kb25] :: pt p.q :: .string draw :: .string (txt A.length) :: .func (.func 92) #[] #[pt kb21] :: .func (.func 110) #[] #[pt q4, pt q37] :: .string (txt pu) :: .string (txt pu) :: .slice (some ⟨q50, 0, none⟩) 1 1 :: .string (layT [txt pu] 1) :: .func (.func 92) #[] #[pt kb21] :: .func (.func 111) #[] #[pt q4, pt q37, pt q7] :: .string (txt ee) :: .func (.func 92) #[] #[pt kb21] :: .func (.func 112) #[] #[pt q4, pt q37, pt q10] :: .string (txt fs) :: .func (.func 122) #[] #[pt kb25] :: .func (.func 113) #[] #[pt q1, pt q4, pt q55, pt q68, pt q81] :: .agg #[.string k1, .string k2, .string k3] :: .func (.func 92) #[] #[pt kb21] :: .func (.func 114) #[] #[pt q4, pt q94, pt q55] :: .string (txt pr) :: iN .i64 0 :: .bool false :: un :: un :: .string (layT [txt pu] 1) :: .string (txt pr) :: .slice (some ⟨q110, 0, none⟩) 1 1 :: .string (layT [txt pr] 1) :: .string (layT [txt pu] 1 ++ layT [txt pr] 1) :: .agg (#[.string k1, .string k2, .string k3]) :: List.replicate 0 un).toArray, []⟩ ∧ HA z101 ((q110, 9, #[.string (txt pr)]) :: (q16, 29, #[iN .i64 0]) :: (kb21, 107, #[pt q16]) :: (q94, 126, #[.string k1, .string k2, .string k3]) :: (kb25, 107, #[pt q16]) :: (q81, 9, #[.string (txt fs)]) :: (q68, 9, #[.string (txt ee)]) :: (q55, 9, #[.string (layT [txt pu] 1)]) :: (q50, 9, #[.string (txt pu)]) :: (q37, 9, #[.string (txt A.length)]) :: (q13, 126, #[.string k1, .string k2, .string k3]) :: (q10, 9, #[.string client]) :: (q7, 9, #[.string fresh]) :: (q4, 28, #[.pointer (some ⟨p.q, 0, none⟩)]) :: (q1, 87, #[.string hello, .string es, .string ss]) :: (L ++ X102)) w') 9 ky ky ky ky ky (h106.drew) ?_ ?_
  · have h107 := h106.drew
    refine wx_val (i := 0) (.string (layT [txt pu] 1)) rfl rfl ky ky (fun w' h' => run_load1 (fun w => Tryz.isAgg9 w) ky (((h'.get 6 rfl).cell 0).trans rfl)) ?_
    refine zp 1 (.string (txt pr)) ?_
    refine wx_val (i := 5) (.agg (#[.string k1, .string k2, .string k3])) rfl rfl ky ky (fun w' h' => run_load_blk ky (h'.get 2 rfl) Tryz.underlying126 rfl ky) ?_
    refine wx_one 2 ky ?_
    refine ex_makeT (c := #[.string (txt pr)]) rfl ky h107 9 (fun q => .slice (some ⟨q, 0, none⟩) 1 1) (fun _ => ky) ?_
    intro q110 w108 (h109 : HA z101 ((q110, 9, #[.string (txt pr)]) :: (q16, 29, #[iN .i64 0]) :: (kb21, 107, #[pt q16]) :: (q94, 126, #[.string k1, .string k2, .string k3]) :: (kb25, 107, #[pt q16]) :: (q81, 9, #[.string (txt fs)]) :: (q68, 9, #[.string (txt ee)]) :: (q55, 9, #[.string (layT [txt pu] 1)]) :: (q50, 9, #[.string (txt pu)]) :: (q37, 9, #[.string (txt A.length)]) :: (q13, 126, #[.string ({ data := #[] }), .string ({ data := #[] }), .string ({ data := #[] })]) :: (q10, 9, #[.string client]) :: (q7, 9, #[.string fresh]) :: (q4, 28, #[.pointer (some ⟨p.q, 0, none⟩)]) :: (q1, 87, #[.string hello, .string es, .string ss]) :: (L ++ X102)) w108)
    refine ⟨_, .inr rfl, (HA.sub h109 (List.Sublist.cons _ (List.Sublist.cons_cons _ (List.Sublist.cons_cons _ (List.Sublist.cons_cons _ (List.Sublist.cons_cons _ (List.Sublist.cons_cons _ (List.Sublist.cons_cons _ (List.Sublist.cons_cons _ (List.Sublist.cons_cons _ (List.Sublist.cons_cons _ (List.Sublist.cons_cons _ (List.Sublist.cons_cons _ (List.Sublist.cons_cons _ (List.Sublist.cons_cons _ (List.Sublist.cons_cons _ (List.Sublist.refl _))))))))))))))))), ?_⟩
    refine wx_one 3 ky ?_
    refine ex_callx rfl ky h109 enter44 #[.slice (some ⟨q110, 0, none⟩) 1 1] ky (fun w111 h112 => laid_any [txt pr] _ _ (.inr ⟨q110, _, rfl, PreS.strc [txt pr], h112.get 0 rfl⟩) (m := 8) (by decide) (ss1 (by rw [txt_size]; decide)) (by simp)) ?_
    rintro w111 h112 _ w114 ⟨rfl, hb113⟩
    have h115 := HA.keep _ _ h112 hb113
    refine ⟨_, rfl, _, .inr rfl, (HA.sub h115 (List.Sublist.cons _ (List.Sublist.cons_cons _ (List.Sublist.cons_cons _ (List.Sublist.cons_cons _ (List.Sublist.cons_cons _ (List.Sublist.cons_cons _ (List.Sublist.cons_cons _ (List.Sublist.cons_cons _ (List.Sublist.cons_cons _ (List.Sublist.cons_cons _ (List.Sublist.cons_cons _ (List.Sublist.cons_cons _ (List.Sublist.cons_cons _ (List.Sublist.cons_cons _ (List.Sublist.cons_cons _ (List.Sublist.refl _))))))))))))))))), ?_⟩
    refine wx_pure (i := 4) (.string (layT [txt pu] 1 ++ layT [txt pr] 1)) rfl rfl ky ky (fun _ => (run_cat (s := layT [txt pu] 1) (t := layT [txt pr] 1) ky ky (by have := lay1_size pu; have := lay1_size pr; omega))) ?_
    refine zp 6 (.string (layT [txt pu] 1 ++ layT [txt pr] 1)) ?_
    refine wx_one 7 ky ?_
    refine ex_skipT rfl ky h115 fun w116 h117 => ⟨_, run_store_blk (c' := #[.string k1, .string k2, .string k3]) ky ky (h117.get 10 rfl) rfl ky ky, ?_⟩
    have h118 : HA z101 ((q110, 9, #[.string (txt pr)]) :: (q16, 29, #[iN .i64 0]) :: (kb21, 107, #[pt q16]) :: (q94, 126, #[.string k1, .string k2, .string k3]) :: (kb25, 107, #[pt q16]) :: (q81, 9, #[.string (txt fs)]) :: (q68, 9, #[.string (txt ee)]) :: (q55, 9, #[.string (layT [txt pu] 1)]) :: (q50, 9, #[.string (txt pu)]) :: (q37, 9, #[.string (txt A.length)]) :: (q13, 126, #[.string k1, .string k2, .string k3]) :: (q10, 9, #[.string client]) :: (q7, 9, #[.string fresh]) :: (q4, 28, #[.pointer (some ⟨p.q, 0, none⟩)]) :: (q1, 87, #[.string hello, .string es, .string ss]) :: (L ++ X102)) _ := h117.fill 10 rfl (c' := #[.string k1, .string k2, .string k3]) rfl
    refine ⟨_, .inl ky, h118, ?_⟩
    refine zp 8 (iN .i64 0) ?_
    refine wx_end fun w119 hbx _ => ?_
    have h120 := HA.keep _ _ h118 hbx
    exact ⟨q110, by kernel_rfl, h120⟩
  · rintro _ w121 ⟨q110, rfl, h122⟩
    refine then_at rfl ?_
    refine wp_ret ?_
    repeat first | refine then_ret ?_ | refine block_ret ?_
    exact bodyPost_ret (v := .tuple #[.string (layT [txt pu] 1 ++ layT [txt pr] 1), .agg #[.string k1, .string k2, .string k3], iN .i64 0]) (res_tct (p := 11) (a := 10) (b := 12) ky ky ky ky (h122.get 10 rfl) Tryz.underlying126 rfl ky) rfl ⟨rfl, PH.sub (hcl103 ((q110, 9, #[.string (txt pr)]) :: (q16, 29, #[iN .i64 0]) :: (kb21, 107, #[pt q16]) :: (q94, 126, #[.string k1, .string k2, .string k3]) :: (kb25, 107, #[pt q16]) :: (q81, 9, #[.string (txt fs)]) :: (q68, 9, #[.string (txt ee)]) :: (q55, 9, #[.string (layT [txt pu] 1)]) :: (q50, 9, #[.string (txt pu)]) :: (q37, 9, #[.string (txt A.length)]) :: (q13, 126, #[.string k1, .string k2, .string k3]) :: (q10, 9, #[.string client]) :: (q7, 9, #[.string fresh]) :: (q4, 28, #[.pointer (some ⟨p.q, 0, none⟩)]) :: (q1, 87, #[.string hello, .string es, .string ss]) :: L) _ h122) (List.Sublist.cons _ (List.Sublist.cons _ (List.Sublist.cons _ (List.Sublist.cons _ (List.Sublist.cons _ (List.Sublist.cons _ (List.Sublist.cons _ (List.Sublist.cons _ (List.Sublist.cons _ (List.Sublist.cons _ (List.Sublist.cons _ (List.Sublist.cons _ (List.Sublist.cons _ (List.Sublist.cons _ (List.Sublist.cons _ (List.Sublist.refl _))))))))))))))))⟩
end Go.Proofs.YtcjjbpbehapjpaaGreat
