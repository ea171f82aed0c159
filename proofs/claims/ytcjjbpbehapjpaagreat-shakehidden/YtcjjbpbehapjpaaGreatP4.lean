/-
  The kit of terms: open; the journal.
-/
import Derived.Test.YtcjjbpbehapjpaaGreatP3
set_option linter.unusedVariables false
namespace Go.Proofs.YtcjjbpbehapjpaaGreat
open Go.RowKit

set_option maxRecDepth 100000 in
set_option maxHeartbeats 2000000 in
theorem op_1 {w0 w : World} {M : ML} {p : Pr} {A : List Ent} {n : Nat} {L : BL} (H : PH w0 M p A n L w) (key nonce ad sealed : ByteArray) (hn : numT A.length sealed = none) :
    Calls Tryz.prog 301 #[.agg #[pt p.t.q], .string key, .string nonce, .string ad, .string sealed] w fun e w' => e = .returned (.tuple #[.string { data := #[] }, iN .i64 10]) ∧ Below w.heap.size w w' := by
  have H0 := HA.start w
  go_enter Tryz.func301, Tryz.ntmps301
  refine wp_seq (wl_region ?_)
  refine wl_make (c := #[.pointer (some ⟨p.t.q, 0, none⟩)]) H0 97 ky ky ?_
  intro q1 w2 (h3 : HA (bs w) [(q1, 97, #[.pointer (some ⟨p.t.q, 0, none⟩)])] w2)
  refine zv (.string ({ data := #[] })) ?_
  refine zv (iN .i64 0) ?_
  refine wl_nil (then_at rfl (wp_seq (wl_region ?_)))
  refine wl_load h3 0 rfl ky ky Tryz.underlying97 rfl ky ?_
  refine zv (.string sealed) ?_
  refine wl_call (v := .tuple #[.slice none 0 0, .bool false]) h3 ky enter311 #[.agg (#[.pointer (some ⟨p.t.q, 0, none⟩)]), iN .i64 6, .string sealed] ky (po_n (PH.keep H h3.old.old) sealed hn) ?_
  intro w4 h5
  refine zv (.tuple #[.slice none 0 0, .bool false]) ?_
  refine zv (.slice none 0 0) ?_
  refine zv (.bool false) ?_
  refine zv (.slice none 0 0) ?_
  refine zv (.bool false) ?_
  refine wl_nil (then_at rfl (wp_seq (wp_seq ?_)))
  refine wp_region_wx (HA (bs w) [(q1, 97, #[.pointer (some ⟨p.t.q, 0, none⟩)])]) (fun AQ w' => AQ = ⟨(.agg #[pt p.t.q] :: .string key :: .string nonce :: .string ad :: .string sealed :: pt q1 :: un :: un :: un :: un :: .string ({ data := #[] }) :: iN .i64 0 :: .slice none 0 0 :: .bool false :: .tuple #[.slice none 0 0, .bool false] :: .agg (#[pt p.t.q]) :: .string sealed :: .tuple #[.slice none 0 0, .bool false] :: .slice none 0 0 :: .bool false :: .bool false :: .bool true :: .bool true :: un :: un :: un :: un :: un :: un :: un :: .bool true :: .bool true :: un :: un :: un :: un :: un :: un :: un :: .bool true :: .bool true :: un :: un :: un :: un :: un :: un :: un :: .bool true :: List.replicate 5 un).toArray, []⟩ ∧ HA (bs w) [(q1, 97, #[.pointer (some ⟨p.t.q, 0, none⟩)])] w') 29 ky ky ky ky ky (h5.drew) ?_ ?_
  · have h6 := h5.drew
    refine zp 0 (.bool false) ?_
    refine zp 1 (.bool true) ?_
    refine zp 2 (.bool true) ?_
    refine wx_skip (i := 3) rfl rfl ky ky ?_
    refine wx_skip (i := 4) rfl rfl ky ky ?_
    refine wx_skip (i := 5) rfl rfl ky ky ?_
    refine wx_skip (i := 6) rfl rfl ky ky ?_
    refine wx_skip (i := 7) rfl rfl ky ky ?_
    refine wx_skip (i := 8) rfl rfl ky ky ?_
    refine wx_skip (i := 9) rfl rfl ky ky ?_
    refine zp 10 (.bool true) ?_
    refine zp 11 (.bool true) ?_
    refine wx_skip (i := 12) rfl rfl ky ky ?_
    refine wx_skip (i := 13) rfl rfl ky ky ?_
    refine wx_skip (i := 14) rfl rfl ky ky ?_
    refine wx_skip (i := 15) rfl rfl ky ky ?_
    refine wx_skip (i := 16) rfl rfl ky ky ?_
    refine wx_skip (i := 17) rfl rfl ky ky ?_
    refine wx_skip (i := 18) rfl rfl ky ky ?_
    refine zp 19 (.bool true) ?_
    refine zp 20 (.bool true) ?_
    refine wx_skip (i := 21) rfl rfl ky ky ?_
    refine wx_skip (i := 22) rfl rfl ky ky ?_
    refine wx_skip (i := 23) rfl rfl ky ky ?_
    refine wx_skip (i := 24) rfl rfl ky ky ?_
    refine wx_skip (i := 25) rfl rfl ky ky ?_
    refine wx_skip (i := 26) rfl rfl ky ky ?_
    refine wx_skip (i := 27) rfl rfl ky ky ?_
    refine zp 28 (.bool true) ?_
    refine wx_end fun w7 hbx _ => ?_
    have h8 := HA.keep _ _ h6 hbx
    exact ⟨by kernel_rfl, h8⟩
  · rintro _ w9 ⟨rfl, h10⟩
    refine then_at rfl ?_
    refine wp_cond_true ky ?_
    refine wp_seq (wl_region ?_)
    refine zv (.string ({ data := #[] })) ?_
    refine zv (iN .i64 10) ?_
    refine wl_nil (then_at rfl ?_)
    refine wp_ret ?_
    repeat first | refine then_ret ?_ | refine block_ret ?_
    exact bodyPost_ret (v := .tuple #[.string { data := #[] }, iN .i64 10]) ky rfl ⟨rfl, h10.old.old⟩
set_option maxRecDepth 100000 in
set_option maxHeartbeats 2000000 in
theorem op_2 {w0 w : World} {M : ML} {p : Pr} {A : List Ent} {n : Nat} {L : BL} (H : PH w0 M p A n L w) (key nonce ad sealed : ByteArray) {x : Nat} {q : Ent} (hn : numT A.length sealed = some x) (he : A[x]? = some q) (hk : ¬ kE q = 6) :
    Calls Tryz.prog 301 #[.agg #[pt p.t.q], .string key, .string nonce, .string ad, .string sealed] w fun e w' => e = .returned (.tuple #[.string { data := #[] }, iN .i64 10]) ∧ Below w.heap.size w w' := by
  have H0 := HA.start w
  go_enter Tryz.func301, Tryz.ntmps301
  refine wp_seq (wl_region ?_)
  refine wl_make (c := #[.pointer (some ⟨p.t.q, 0, none⟩)]) H0 97 ky ky ?_
  intro q1 w2 (h3 : HA (bs w) [(q1, 97, #[.pointer (some ⟨p.t.q, 0, none⟩)])] w2)
  refine zv (.string ({ data := #[] })) ?_
  refine zv (iN .i64 0) ?_
  refine wl_nil (then_at rfl (wp_seq (wl_region ?_)))
  refine wl_load h3 0 rfl ky ky Tryz.underlying97 rfl ky ?_
  refine zv (.string sealed) ?_
  refine wl_call (v := .tuple #[.slice none 0 0, .bool false]) h3 ky enter311 #[.agg (#[.pointer (some ⟨p.t.q, 0, none⟩)]), iN .i64 6, .string sealed] ky (po_o (PH.keep H h3.old.old) sealed hn he hk) ?_
  intro w4 h5
  refine zv (.tuple #[.slice none 0 0, .bool false]) ?_
  refine zv (.slice none 0 0) ?_
  refine zv (.bool false) ?_
  refine zv (.slice none 0 0) ?_
  refine zv (.bool false) ?_
  refine wl_nil (then_at rfl (wp_seq (wp_seq ?_)))
  refine wp_region_wx (HA (bs w) [(q1, 97, #[.pointer (some ⟨p.t.q, 0, none⟩)])]) (fun AQ w' => AQ = ⟨(.agg #[pt p.t.q] :: .string key :: .string nonce :: .string ad :: .string sealed :: pt q1 :: un :: un :: un :: un :: .string ({ data := #[] }) :: iN .i64 0 :: .slice none 0 0 :: .bool false :: .tuple #[.slice none 0 0, .bool false] :: .agg (#[pt p.t.q]) :: .string sealed :: .tuple #[.slice none 0 0, .bool false] :: .slice none 0 0 :: .bool false :: .bool false :: .bool true :: .bool true :: un :: un :: un :: un :: un :: un :: un :: .bool true :: .bool true :: un :: un :: un :: un :: un :: un :: un :: .bool true :: .bool true :: un :: un :: un :: un :: un :: un :: un :: .bool true :: List.replicate 5 un).toArray, []⟩ ∧ HA (bs w) [(q1, 97, #[.pointer (some ⟨p.t.q, 0, none⟩)])] w') 29 ky ky ky ky ky (h5.drew) ?_ ?_
  · have h6 := h5.drew
    refine zp 0 (.bool false) ?_
    refine zp 1 (.bool true) ?_
    refine zp 2 (.bool true) ?_
    refine wx_skip (i := 3) rfl rfl ky ky ?_
    refine wx_skip (i := 4) rfl rfl ky ky ?_
    refine wx_skip (i := 5) rfl rfl ky ky ?_
    refine wx_skip (i := 6) rfl rfl ky ky ?_
    refine wx_skip (i := 7) rfl rfl ky ky ?_
    refine wx_skip (i := 8) rfl rfl ky ky ?_
    refine wx_skip (i := 9) rfl rfl ky ky ?_
    refine zp 10 (.bool true) ?_
    refine zp 11 (.bool true) ?_
    refine wx_skip (i := 12) rfl rfl ky ky ?_
    refine wx_skip (i := 13) rfl rfl ky ky ?_
    refine wx_skip (i := 14) rfl rfl ky ky ?_
    refine wx_skip (i := 15) rfl rfl ky ky ?_
    refine wx_skip (i := 16) rfl rfl ky ky ?_
    refine wx_skip (i := 17) rfl rfl ky ky ?_
    refine wx_skip (i := 18) rfl rfl ky ky ?_
    refine zp 19 (.bool true) ?_
    refine zp 20 (.bool true) ?_
    refine wx_skip (i := 21) rfl rfl ky ky ?_
    refine wx_skip (i := 22) rfl rfl ky ky ?_
    refine wx_skip (i := 23) rfl rfl ky ky ?_
    refine wx_skip (i := 24) rfl rfl ky ky ?_
    refine wx_skip (i := 25) rfl rfl ky ky ?_
    refine wx_skip (i := 26) rfl rfl ky ky ?_
    refine wx_skip (i := 27) rfl rfl ky ky ?_
    refine zp 28 (.bool true) ?_
    refine wx_end fun w7 hbx _ => ?_
    have h8 := HA.keep _ _ h6 hbx
    exact ⟨by kernel_rfl, h8⟩
  · rintro _ w9 ⟨rfl, h10⟩
    refine then_at rfl ?_
    refine wp_cond_true ky ?_
    refine wp_seq (wl_region ?_)
    refine zv (.string ({ data := #[] })) ?_
    refine zv (iN .i64 10) ?_
    refine wl_nil (then_at rfl ?_)
    refine wp_ret ?_
    repeat first | refine then_ret ?_ | refine block_ret ?_
    exact bodyPost_ret (v := .tuple #[.string { data := #[] }, iN .i64 10]) ky rfl ⟨rfl, h10.old.old⟩
set_option maxRecDepth 100000 in
set_option maxHeartbeats 2000000 in
theorem op_3 {w0 w : World} {M : ML} {p : Pr} {A : List Ent} {n : Nat} {L : BL} (H : PH w0 M p A n L w) (key nonce ad sealed : ByteArray) {x : Nat} {q : Ent} (hn : numT A.length sealed = some x) (he : A[x]? = some q) (hk : kE q = 6) (hl4 : (psE q).length = 4) (hlt : ∀ j, j < 4 → (psE q).getD j 0 < A.length) (i0 : isA A ((psE q).getD 0 0) key = false) :
    Calls Tryz.prog 301 #[.agg #[pt p.t.q], .string key, .string nonce, .string ad, .string sealed] w fun e w' => e = .returned (.tuple #[.string { data := #[] }, iN .i64 10]) ∧ Below w.heap.size w w' := by
  have H0 := HA.start w
  go_enter Tryz.func301, Tryz.ntmps301
  refine wp_seq (wl_region ?_)
  refine wl_make (c := #[.pointer (some ⟨p.t.q, 0, none⟩)]) H0 97 ky ky ?_
  intro q1 w2 (h3 : HA (bs w) [(q1, 97, #[.pointer (some ⟨p.t.q, 0, none⟩)])] w2)
  refine zv (.string ({ data := #[] })) ?_
  refine zv (iN .i64 0) ?_
  refine wl_nil (then_at rfl (wp_seq (wl_region ?_)))
  refine wl_load h3 0 rfl ky ky Tryz.underlying97 rfl ky ?_
  refine zv (.string sealed) ?_
  refine wl_callx ky enter311 #[.agg (#[.pointer (some ⟨p.t.q, 0, none⟩)]), iN .i64 6, .string sealed] ky (po_y (PH.keep H h3.old.old) sealed hn he hk hl4) ?_
  rintro _ w11 ⟨b4, c5, cc6, rfl, hc7, hl8, hk9, hb10⟩
  refine ⟨_, rfl, ?_⟩
  have h12 := HA.addNew h3 hb10 hl8 hk9
  refine zv (.tuple #[.slice (some ⟨b4, 0, none⟩) 4 cc6, .bool true]) ?_
  refine zv (.slice (some ⟨b4, 0, none⟩) 4 cc6) ?_
  refine zv (.bool true) ?_
  refine zv (.slice (some ⟨b4, 0, none⟩) 4 cc6) ?_
  refine zv (.bool true) ?_
  refine wl_nil (then_at rfl (wp_seq (wp_seq ?_)))
  refine wp_region_wx (HA (bs w) [(b4, 3, c5), (q1, 97, #[.pointer (some ⟨p.t.q, 0, none⟩)])]) (fun AQ w' => AQ = ⟨(.agg #[pt p.t.q] :: .string key :: .string nonce :: .string ad :: .string sealed :: pt q1 :: un :: un :: un :: un :: .string ({ data := #[] }) :: iN .i64 0 :: .slice (some ⟨b4, 0, none⟩) 4 cc6 :: .bool true :: .tuple #[.slice (some ⟨b4, 0, none⟩) 4 cc6, .bool true] :: .agg (#[pt p.t.q]) :: .string sealed :: .tuple #[.slice (some ⟨b4, 0, none⟩) 4 cc6, .bool true] :: .slice (some ⟨b4, 0, none⟩) 4 cc6 :: .bool true :: .bool true :: .bool false :: .bool false :: .agg (#[pt p.t.q]) :: .slice (some ⟨b4, 0, none⟩) 4 cc6 :: pt b4 :: iN .i64 ((psE q).getD 0 0) :: .string key :: .bool false :: .bool true :: .bool true :: .bool true :: un :: un :: un :: un :: un :: un :: un :: .bool true :: .bool true :: un :: un :: un :: un :: un :: un :: un :: .bool true :: List.replicate 5 un).toArray, []⟩ ∧ HA (bs w) [(b4, 3, c5), (q1, 97, #[.pointer (some ⟨p.t.q, 0, none⟩)])] w') 29 ky ky ky ky ky (h12.drew) ?_ ?_
  · have h13 := h12.drew
    refine zp 0 (.bool true) ?_
    refine zp 1 (.bool false) ?_
    refine zp 2 (.bool false) ?_
    refine wx_val (i := 3) (.agg (#[.pointer (some ⟨p.t.q, 0, none⟩)])) rfl rfl ky ky (fun w' h' => run_load_blk ky (h'.get 1 rfl) Tryz.underlying97 rfl ky) ?_
    refine zp 4 (.slice (some ⟨b4, 0, none⟩) 4 cc6) ?_
    refine wx_pure (i := 5) (.pointer (some ⟨b4, 0, none⟩)) rfl rfl ky ky (fun _ => (run_addr_slice (q := b4) (n := 4) (m := cc6) (a := 0) Tryz.underlying81 (fun w => Tryz.sizeOf3 w) ky ky (by decide))) ?_
    refine wx_val (i := 6) (iN .i64 ((psE q).getD 0 0)) rfl rfl ky ky (fun w' h' => run_load1 (fun w => Tryz.isAgg3 w) ky (((h'.get 0 rfl).cell 0).trans (hc7 0 (by decide)))) ?_
    refine zp 7 (.string key) ?_
    refine wx_call (i := 8) (.bool false) (fun _ _ h hb => HA.keep _ _ h hb) rfl rfl ky ky enter312 #[.agg (#[.pointer (some ⟨p.t.q, 0, none⟩)]), iN .i64 ((psE q).getD 0 0), .string key] ky (fun w' h' => ((is_P (PH.keep H h'.old.old) ((psE q).getD 0 0) key (hlt _ (by decide))).mono fun _ _ h => ⟨h.1.trans (by rw [i0]), h.2⟩)) ?_
    refine zp 9 (.bool true) ?_
    refine zp 10 (.bool true) ?_
    refine zp 11 (.bool true) ?_
    refine wx_skip (i := 12) rfl rfl ky ky ?_
    refine wx_skip (i := 13) rfl rfl ky ky ?_
    refine wx_skip (i := 14) rfl rfl ky ky ?_
    refine wx_skip (i := 15) rfl rfl ky ky ?_
    refine wx_skip (i := 16) rfl rfl ky ky ?_
    refine wx_skip (i := 17) rfl rfl ky ky ?_
    refine wx_skip (i := 18) rfl rfl ky ky ?_
    refine zp 19 (.bool true) ?_
    refine zp 20 (.bool true) ?_
    refine wx_skip (i := 21) rfl rfl ky ky ?_
    refine wx_skip (i := 22) rfl rfl ky ky ?_
    refine wx_skip (i := 23) rfl rfl ky ky ?_
    refine wx_skip (i := 24) rfl rfl ky ky ?_
    refine wx_skip (i := 25) rfl rfl ky ky ?_
    refine wx_skip (i := 26) rfl rfl ky ky ?_
    refine wx_skip (i := 27) rfl rfl ky ky ?_
    refine zp 28 (.bool true) ?_
    refine wx_end fun w14 hbx _ => ?_
    have h15 := HA.keep _ _ h13 hbx
    exact ⟨by kernel_rfl, h15⟩
  · rintro _ w16 ⟨rfl, h17⟩
    refine then_at rfl ?_
    refine wp_cond_true ky ?_
    refine wp_seq (wl_region ?_)
    refine zv (.string ({ data := #[] })) ?_
    refine zv (iN .i64 10) ?_
    refine wl_nil (then_at rfl ?_)
    refine wp_ret ?_
    repeat first | refine then_ret ?_ | refine block_ret ?_
    exact bodyPost_ret (v := .tuple #[.string { data := #[] }, iN .i64 10]) ky rfl ⟨rfl, h17.old.old⟩
set_option maxRecDepth 100000 in
set_option maxHeartbeats 2000000 in
theorem op_4 {w0 w : World} {M : ML} {p : Pr} {A : List Ent} {n : Nat} {L : BL} (H : PH w0 M p A n L w) (key nonce ad sealed : ByteArray) {x : Nat} {q : Ent} (hn : numT A.length sealed = some x) (he : A[x]? = some q) (hk : kE q = 6) (hl4 : (psE q).length = 4) (hlt : ∀ j, j < 4 → (psE q).getD j 0 < A.length) (i0 : isA A ((psE q).getD 0 0) key = true) (i1 : isA A ((psE q).getD 1 0) nonce = false) :
    Calls Tryz.prog 301 #[.agg #[pt p.t.q], .string key, .string nonce, .string ad, .string sealed] w fun e w' => e = .returned (.tuple #[.string { data := #[] }, iN .i64 10]) ∧ Below w.heap.size w w' := by
  have H0 := HA.start w
  go_enter Tryz.func301, Tryz.ntmps301
  refine wp_seq (wl_region ?_)
  refine wl_make (c := #[.pointer (some ⟨p.t.q, 0, none⟩)]) H0 97 ky ky ?_
  intro q1 w2 (h3 : HA (bs w) [(q1, 97, #[.pointer (some ⟨p.t.q, 0, none⟩)])] w2)
  refine zv (.string ({ data := #[] })) ?_
  refine zv (iN .i64 0) ?_
  refine wl_nil (then_at rfl (wp_seq (wl_region ?_)))
  refine wl_load h3 0 rfl ky ky Tryz.underlying97 rfl ky ?_
  refine zv (.string sealed) ?_
  refine wl_callx ky enter311 #[.agg (#[.pointer (some ⟨p.t.q, 0, none⟩)]), iN .i64 6, .string sealed] ky (po_y (PH.keep H h3.old.old) sealed hn he hk hl4) ?_
  rintro _ w11 ⟨b4, c5, cc6, rfl, hc7, hl8, hk9, hb10⟩
  refine ⟨_, rfl, ?_⟩
  have h12 := HA.addNew h3 hb10 hl8 hk9
  refine zv (.tuple #[.slice (some ⟨b4, 0, none⟩) 4 cc6, .bool true]) ?_
  refine zv (.slice (some ⟨b4, 0, none⟩) 4 cc6) ?_
  refine zv (.bool true) ?_
  refine zv (.slice (some ⟨b4, 0, none⟩) 4 cc6) ?_
  refine zv (.bool true) ?_
  refine wl_nil (then_at rfl (wp_seq (wp_seq ?_)))
  refine wp_region_wx (HA (bs w) [(b4, 3, c5), (q1, 97, #[.pointer (some ⟨p.t.q, 0, none⟩)])]) (fun AQ w' => AQ = ⟨(.agg #[pt p.t.q] :: .string key :: .string nonce :: .string ad :: .string sealed :: pt q1 :: un :: un :: un :: un :: .string ({ data := #[] }) :: iN .i64 0 :: .slice (some ⟨b4, 0, none⟩) 4 cc6 :: .bool true :: .tuple #[.slice (some ⟨b4, 0, none⟩) 4 cc6, .bool true] :: .agg (#[pt p.t.q]) :: .string sealed :: .tuple #[.slice (some ⟨b4, 0, none⟩) 4 cc6, .bool true] :: .slice (some ⟨b4, 0, none⟩) 4 cc6 :: .bool true :: .bool true :: .bool false :: .bool false :: .agg (#[pt p.t.q]) :: .slice (some ⟨b4, 0, none⟩) 4 cc6 :: pt b4 :: iN .i64 ((psE q).getD 0 0) :: .string key :: .bool true :: .bool false :: .bool false :: .bool false :: .agg (#[pt p.t.q]) :: .slice (some ⟨b4, 0, none⟩) 4 cc6 :: .pointer (some ⟨b4, 1, none⟩) :: iN .i64 ((psE q).getD 1 0) :: .string nonce :: .bool false :: .bool true :: .bool true :: .bool true :: un :: un :: un :: un :: un :: un :: un :: .bool true :: List.replicate 5 un).toArray, []⟩ ∧ HA (bs w) [(b4, 3, c5), (q1, 97, #[.pointer (some ⟨p.t.q, 0, none⟩)])] w') 29 ky ky ky ky ky (h12.drew) ?_ ?_
  · have h13 := h12.drew
    refine zp 0 (.bool true) ?_
    refine zp 1 (.bool false) ?_
    refine zp 2 (.bool false) ?_
    refine wx_val (i := 3) (.agg (#[.pointer (some ⟨p.t.q, 0, none⟩)])) rfl rfl ky ky (fun w' h' => run_load_blk ky (h'.get 1 rfl) Tryz.underlying97 rfl ky) ?_
    refine zp 4 (.slice (some ⟨b4, 0, none⟩) 4 cc6) ?_
    refine wx_pure (i := 5) (.pointer (some ⟨b4, 0, none⟩)) rfl rfl ky ky (fun _ => (run_addr_slice (q := b4) (n := 4) (m := cc6) (a := 0) Tryz.underlying81 (fun w => Tryz.sizeOf3 w) ky ky (by decide))) ?_
    refine wx_val (i := 6) (iN .i64 ((psE q).getD 0 0)) rfl rfl ky ky (fun w' h' => run_load1 (fun w => Tryz.isAgg3 w) ky (((h'.get 0 rfl).cell 0).trans (hc7 0 (by decide)))) ?_
    refine zp 7 (.string key) ?_
    refine wx_call (i := 8) (.bool true) (fun _ _ h hb => HA.keep _ _ h hb) rfl rfl ky ky enter312 #[.agg (#[.pointer (some ⟨p.t.q, 0, none⟩)]), iN .i64 ((psE q).getD 0 0), .string key] ky (fun w' h' => ((is_P (PH.keep H h'.old.old) ((psE q).getD 0 0) key (hlt _ (by decide))).mono fun _ _ h => ⟨h.1.trans (by rw [i0]), h.2⟩)) ?_
    refine zp 9 (.bool false) ?_
    refine zp 10 (.bool false) ?_
    refine zp 11 (.bool false) ?_
    refine wx_val (i := 12) (.agg (#[.pointer (some ⟨p.t.q, 0, none⟩)])) rfl rfl ky ky (fun w' h' => run_load_blk ky (h'.get 1 rfl) Tryz.underlying97 rfl ky) ?_
    refine zp 13 (.slice (some ⟨b4, 0, none⟩) 4 cc6) ?_
    refine wx_pure (i := 14) (.pointer (some ⟨b4, 1, none⟩)) rfl rfl ky ky (fun _ => (run_addr_slice (q := b4) (n := 4) (m := cc6) (a := 1) Tryz.underlying81 (fun w => Tryz.sizeOf3 w) ky ky (by decide))) ?_
    refine wx_val (i := 15) (iN .i64 ((psE q).getD 1 0)) rfl rfl ky ky (fun w' h' => run_load1 (fun w => Tryz.isAgg3 w) ky (((h'.get 0 rfl).cell 1).trans (hc7 1 (by decide)))) ?_
    refine zp 16 (.string nonce) ?_
    refine wx_call (i := 17) (.bool false) (fun _ _ h hb => HA.keep _ _ h hb) rfl rfl ky ky enter312 #[.agg (#[.pointer (some ⟨p.t.q, 0, none⟩)]), iN .i64 ((psE q).getD 1 0), .string nonce] ky (fun w' h' => ((is_P (PH.keep H h'.old.old) ((psE q).getD 1 0) nonce (hlt _ (by decide))).mono fun _ _ h => ⟨h.1.trans (by rw [i1]), h.2⟩)) ?_
    refine zp 18 (.bool true) ?_
    refine zp 19 (.bool true) ?_
    refine zp 20 (.bool true) ?_
    refine wx_skip (i := 21) rfl rfl ky ky ?_
    refine wx_skip (i := 22) rfl rfl ky ky ?_
    refine wx_skip (i := 23) rfl rfl ky ky ?_
    refine wx_skip (i := 24) rfl rfl ky ky ?_
    refine wx_skip (i := 25) rfl rfl ky ky ?_
    refine wx_skip (i := 26) rfl rfl ky ky ?_
    refine wx_skip (i := 27) rfl rfl ky ky ?_
    refine zp 28 (.bool true) ?_
    refine wx_end fun w14 hbx _ => ?_
    have h15 := HA.keep _ _ h13 hbx
    exact ⟨by kernel_rfl, h15⟩
  · rintro _ w16 ⟨rfl, h17⟩
    refine then_at rfl ?_
    refine wp_cond_true ky ?_
    refine wp_seq (wl_region ?_)
    refine zv (.string ({ data := #[] })) ?_
    refine zv (iN .i64 10) ?_
    refine wl_nil (then_at rfl ?_)
    refine wp_ret ?_
    repeat first | refine then_ret ?_ | refine block_ret ?_
    exact bodyPost_ret (v := .tuple #[.string { data := #[] }, iN .i64 10]) ky rfl ⟨rfl, h17.old.old⟩
set_option maxRecDepth 100000 in
set_option maxHeartbeats 2000000 in
theorem op_5 {w0 w : World} {M : ML} {p : Pr} {A : List Ent} {n : Nat} {L : BL} (H : PH w0 M p A n L w) (key nonce ad sealed : ByteArray) {x : Nat} {q : Ent} (hn : numT A.length sealed = some x) (he : A[x]? = some q) (hk : kE q = 6) (hl4 : (psE q).length = 4) (hlt : ∀ j, j < 4 → (psE q).getD j 0 < A.length) (i0 : isA A ((psE q).getD 0 0) key = true) (i1 : isA A ((psE q).getD 1 0) nonce = true) (i2 : isA A ((psE q).getD 2 0) ad = false) :
    Calls Tryz.prog 301 #[.agg #[pt p.t.q], .string key, .string nonce, .string ad, .string sealed] w fun e w' => e = .returned (.tuple #[.string { data := #[] }, iN .i64 10]) ∧ Below w.heap.size w w' := by
  have H0 := HA.start w
  go_enter Tryz.func301, Tryz.ntmps301
  refine wp_seq (wl_region ?_)
  refine wl_make (c := #[.pointer (some ⟨p.t.q, 0, none⟩)]) H0 97 ky ky ?_
  intro q1 w2 (h3 : HA (bs w) [(q1, 97, #[.pointer (some ⟨p.t.q, 0, none⟩)])] w2)
  refine zv (.string ({ data := #[] })) ?_
  refine zv (iN .i64 0) ?_
  refine wl_nil (then_at rfl (wp_seq (wl_region ?_)))
  refine wl_load h3 0 rfl ky ky Tryz.underlying97 rfl ky ?_
  refine zv (.string sealed) ?_
  refine wl_callx ky enter311 #[.agg (#[.pointer (some ⟨p.t.q, 0, none⟩)]), iN .i64 6, .string sealed] ky (po_y (PH.keep H h3.old.old) sealed hn he hk hl4) ?_
  rintro _ w11 ⟨b4, c5, cc6, rfl, hc7, hl8, hk9, hb10⟩
  refine ⟨_, rfl, ?_⟩
  have h12 := HA.addNew h3 hb10 hl8 hk9
  refine zv (.tuple #[.slice (some ⟨b4, 0, none⟩) 4 cc6, .bool true]) ?_
  refine zv (.slice (some ⟨b4, 0, none⟩) 4 cc6) ?_
  refine zv (.bool true) ?_
  refine zv (.slice (some ⟨b4, 0, none⟩) 4 cc6) ?_
  refine zv (.bool true) ?_
  refine wl_nil (then_at rfl (wp_seq (wp_seq ?_)))
  refine wp_region_wx (HA (bs w) [(b4, 3, c5), (q1, 97, #[.pointer (some ⟨p.t.q, 0, none⟩)])]) (fun AQ w' => AQ = ⟨(.agg #[pt p.t.q] :: .string key :: .string nonce :: .string ad :: .string sealed :: pt q1 :: un :: un :: un :: un :: .string ({ data := #[] }) :: iN .i64 0 :: .slice (some ⟨b4, 0, none⟩) 4 cc6 :: .bool true :: .tuple #[.slice (some ⟨b4, 0, none⟩) 4 cc6, .bool true] :: .agg (#[pt p.t.q]) :: .string sealed :: .tuple #[.slice (some ⟨b4, 0, none⟩) 4 cc6, .bool true] :: .slice (some ⟨b4, 0, none⟩) 4 cc6 :: .bool true :: .bool true :: .bool false :: .bool false :: .agg (#[pt p.t.q]) :: .slice (some ⟨b4, 0, none⟩) 4 cc6 :: pt b4 :: iN .i64 ((psE q).getD 0 0) :: .string key :: .bool true :: .bool false :: .bool false :: .bool false :: .agg (#[pt p.t.q]) :: .slice (some ⟨b4, 0, none⟩) 4 cc6 :: .pointer (some ⟨b4, 1, none⟩) :: iN .i64 ((psE q).getD 1 0) :: .string nonce :: .bool true :: .bool false :: .bool false :: .bool false :: .agg (#[pt p.t.q]) :: .slice (some ⟨b4, 0, none⟩) 4 cc6 :: .pointer (some ⟨b4, 2, none⟩) :: iN .i64 ((psE q).getD 2 0) :: .string ad :: .bool false :: .bool true :: .bool true :: List.replicate 5 un).toArray, []⟩ ∧ HA (bs w) [(b4, 3, c5), (q1, 97, #[.pointer (some ⟨p.t.q, 0, none⟩)])] w') 29 ky ky ky ky ky (h12.drew) ?_ ?_
  · have h13 := h12.drew
    refine zp 0 (.bool true) ?_
    refine zp 1 (.bool false) ?_
    refine zp 2 (.bool false) ?_
    refine wx_val (i := 3) (.agg (#[.pointer (some ⟨p.t.q, 0, none⟩)])) rfl rfl ky ky (fun w' h' => run_load_blk ky (h'.get 1 rfl) Tryz.underlying97 rfl ky) ?_
    refine zp 4 (.slice (some ⟨b4, 0, none⟩) 4 cc6) ?_
    refine wx_pure (i := 5) (.pointer (some ⟨b4, 0, none⟩)) rfl rfl ky ky (fun _ => (run_addr_slice (q := b4) (n := 4) (m := cc6) (a := 0) Tryz.underlying81 (fun w => Tryz.sizeOf3 w) ky ky (by decide))) ?_
    refine wx_val (i := 6) (iN .i64 ((psE q).getD 0 0)) rfl rfl ky ky (fun w' h' => run_load1 (fun w => Tryz.isAgg3 w) ky (((h'.get 0 rfl).cell 0).trans (hc7 0 (by decide)))) ?_
    refine zp 7 (.string key) ?_
    refine wx_call (i := 8) (.bool true) (fun _ _ h hb => HA.keep _ _ h hb) rfl rfl ky ky enter312 #[.agg (#[.pointer (some ⟨p.t.q, 0, none⟩)]), iN .i64 ((psE q).getD 0 0), .string key] ky (fun w' h' => ((is_P (PH.keep H h'.old.old) ((psE q).getD 0 0) key (hlt _ (by decide))).mono fun _ _ h => ⟨h.1.trans (by rw [i0]), h.2⟩)) ?_
    refine zp 9 (.bool false) ?_
    refine zp 10 (.bool false) ?_
    refine zp 11 (.bool false) ?_
    refine wx_val (i := 12) (.agg (#[.pointer (some ⟨p.t.q, 0, none⟩)])) rfl rfl ky ky (fun w' h' => run_load_blk ky (h'.get 1 rfl) Tryz.underlying97 rfl ky) ?_
    refine zp 13 (.slice (some ⟨b4, 0, none⟩) 4 cc6) ?_
    refine wx_pure (i := 14) (.pointer (some ⟨b4, 1, none⟩)) rfl rfl ky ky (fun _ => (run_addr_slice (q := b4) (n := 4) (m := cc6) (a := 1) Tryz.underlying81 (fun w => Tryz.sizeOf3 w) ky ky (by decide))) ?_
    refine wx_val (i := 15) (iN .i64 ((psE q).getD 1 0)) rfl rfl ky ky (fun w' h' => run_load1 (fun w => Tryz.isAgg3 w) ky (((h'.get 0 rfl).cell 1).trans (hc7 1 (by decide)))) ?_
    refine zp 16 (.string nonce) ?_
    refine wx_call (i := 17) (.bool true) (fun _ _ h hb => HA.keep _ _ h hb) rfl rfl ky ky enter312 #[.agg (#[.pointer (some ⟨p.t.q, 0, none⟩)]), iN .i64 ((psE q).getD 1 0), .string nonce] ky (fun w' h' => ((is_P (PH.keep H h'.old.old) ((psE q).getD 1 0) nonce (hlt _ (by decide))).mono fun _ _ h => ⟨h.1.trans (by rw [i1]), h.2⟩)) ?_
    refine zp 18 (.bool false) ?_
    refine zp 19 (.bool false) ?_
    refine zp 20 (.bool false) ?_
    refine wx_val (i := 21) (.agg (#[.pointer (some ⟨p.t.q, 0, none⟩)])) rfl rfl ky ky (fun w' h' => run_load_blk ky (h'.get 1 rfl) Tryz.underlying97 rfl ky) ?_
    refine zp 22 (.slice (some ⟨b4, 0, none⟩) 4 cc6) ?_
    refine wx_pure (i := 23) (.pointer (some ⟨b4, 2, none⟩)) rfl rfl ky ky (fun _ => (run_addr_slice (q := b4) (n := 4) (m := cc6) (a := 2) Tryz.underlying81 (fun w => Tryz.sizeOf3 w) ky ky (by decide))) ?_
    refine wx_val (i := 24) (iN .i64 ((psE q).getD 2 0)) rfl rfl ky ky (fun w' h' => run_load1 (fun w => Tryz.isAgg3 w) ky (((h'.get 0 rfl).cell 2).trans (hc7 2 (by decide)))) ?_
    refine zp 25 (.string ad) ?_
    refine wx_call (i := 26) (.bool false) (fun _ _ h hb => HA.keep _ _ h hb) rfl rfl ky ky enter312 #[.agg (#[.pointer (some ⟨p.t.q, 0, none⟩)]), iN .i64 ((psE q).getD 2 0), .string ad] ky (fun w' h' => ((is_P (PH.keep H h'.old.old) ((psE q).getD 2 0) ad (hlt _ (by decide))).mono fun _ _ h => ⟨h.1.trans (by rw [i2]), h.2⟩)) ?_
    refine zp 27 (.bool true) ?_
    refine zp 28 (.bool true) ?_
    refine wx_end fun w14 hbx _ => ?_
    have h15 := HA.keep _ _ h13 hbx
    exact ⟨by kernel_rfl, h15⟩
  · rintro _ w16 ⟨rfl, h17⟩
    refine then_at rfl ?_
    refine wp_cond_true ky ?_
    refine wp_seq (wl_region ?_)
    refine zv (.string ({ data := #[] })) ?_
    refine zv (iN .i64 10) ?_
    refine wl_nil (then_at rfl ?_)
    refine wp_ret ?_
    repeat first | refine then_ret ?_ | refine block_ret ?_
    exact bodyPost_ret (v := .tuple #[.string { data := #[] }, iN .i64 10]) ky rfl ⟨rfl, h17.old.old⟩
set_option maxRecDepth 100000 in
set_option maxHeartbeats 2000000 in
theorem op_6 {w0 w : World} {M : ML} {p : Pr} {A : List Ent} {n : Nat} {L : BL} (H : PH w0 M p A n L w) (key nonce ad sealed : ByteArray) {x : Nat} {q : Ent} (hn : numT A.length sealed = some x) (he : A[x]? = some q) (hk : kE q = 6) (hl4 : (psE q).length = 4) (hlt : ∀ j, j < 4 → (psE q).getD j 0 < A.length) (i0 : isA A ((psE q).getD 0 0) key = true) (i1 : isA A ((psE q).getD 1 0) nonce = true) (i2 : isA A ((psE q).getD 2 0) ad = true) :
    Calls Tryz.prog 301 #[.agg #[pt p.t.q], .string key, .string nonce, .string ad, .string sealed] w fun e w' => e = .returned (.tuple #[.string (parT A ((psE q).getD 3 0)), iN .i64 0]) ∧ Below w.heap.size w w' := by
  have H0 := HA.start w
  go_enter Tryz.func301, Tryz.ntmps301
  refine wp_seq (wl_region ?_)
  refine wl_make (c := #[.pointer (some ⟨p.t.q, 0, none⟩)]) H0 97 ky ky ?_
  intro q1 w2 (h3 : HA (bs w) [(q1, 97, #[.pointer (some ⟨p.t.q, 0, none⟩)])] w2)
  refine zv (.string ({ data := #[] })) ?_
  refine zv (iN .i64 0) ?_
  refine wl_nil (then_at rfl (wp_seq (wl_region ?_)))
  refine wl_load h3 0 rfl ky ky Tryz.underlying97 rfl ky ?_
  refine zv (.string sealed) ?_
  refine wl_callx ky enter311 #[.agg (#[.pointer (some ⟨p.t.q, 0, none⟩)]), iN .i64 6, .string sealed] ky (po_y (PH.keep H h3.old.old) sealed hn he hk hl4) ?_
  rintro _ w11 ⟨b4, c5, cc6, rfl, hc7, hl8, hk9, hb10⟩
  refine ⟨_, rfl, ?_⟩
  have h12 := HA.addNew h3 hb10 hl8 hk9
  refine zv (.tuple #[.slice (some ⟨b4, 0, none⟩) 4 cc6, .bool true]) ?_
  refine zv (.slice (some ⟨b4, 0, none⟩) 4 cc6) ?_
  refine zv (.bool true) ?_
  refine zv (.slice (some ⟨b4, 0, none⟩) 4 cc6) ?_
  refine zv (.bool true) ?_
  refine wl_nil (then_at rfl (wp_seq (wp_seq ?_)))
  refine wp_region_wx (HA (bs w) [(b4, 3, c5), (q1, 97, #[.pointer (some ⟨p.t.q, 0, none⟩)])]) (fun AQ w' => AQ = ⟨(.agg #[pt p.t.q] :: .string key :: .string nonce :: .string ad :: .string sealed :: pt q1 :: un :: un :: un :: un :: .string ({ data := #[] }) :: iN .i64 0 :: .slice (some ⟨b4, 0, none⟩) 4 cc6 :: .bool true :: .tuple #[.slice (some ⟨b4, 0, none⟩) 4 cc6, .bool true] :: .agg (#[pt p.t.q]) :: .string sealed :: .tuple #[.slice (some ⟨b4, 0, none⟩) 4 cc6, .bool true] :: .slice (some ⟨b4, 0, none⟩) 4 cc6 :: .bool true :: .bool true :: .bool false :: .bool false :: .agg (#[pt p.t.q]) :: .slice (some ⟨b4, 0, none⟩) 4 cc6 :: pt b4 :: iN .i64 ((psE q).getD 0 0) :: .string key :: .bool true :: .bool false :: .bool false :: .bool false :: .agg (#[pt p.t.q]) :: .slice (some ⟨b4, 0, none⟩) 4 cc6 :: .pointer (some ⟨b4, 1, none⟩) :: iN .i64 ((psE q).getD 1 0) :: .string nonce :: .bool true :: .bool false :: .bool false :: .bool false :: .agg (#[pt p.t.q]) :: .slice (some ⟨b4, 0, none⟩) 4 cc6 :: .pointer (some ⟨b4, 2, none⟩) :: iN .i64 ((psE q).getD 2 0) :: .string ad :: .bool true :: .bool false :: .bool false :: List.replicate 5 un).toArray, []⟩ ∧ HA (bs w) [(b4, 3, c5), (q1, 97, #[.pointer (some ⟨p.t.q, 0, none⟩)])] w') 29 ky ky ky ky ky (h12.drew) ?_ ?_
  · have h13 := h12.drew
    refine zp 0 (.bool true) ?_
    refine zp 1 (.bool false) ?_
    refine zp 2 (.bool false) ?_
    refine wx_val (i := 3) (.agg (#[.pointer (some ⟨p.t.q, 0, none⟩)])) rfl rfl ky ky (fun w' h' => run_load_blk ky (h'.get 1 rfl) Tryz.underlying97 rfl ky) ?_
    refine zp 4 (.slice (some ⟨b4, 0, none⟩) 4 cc6) ?_
    refine wx_pure (i := 5) (.pointer (some ⟨b4, 0, none⟩)) rfl rfl ky ky (fun _ => (run_addr_slice (q := b4) (n := 4) (m := cc6) (a := 0) Tryz.underlying81 (fun w => Tryz.sizeOf3 w) ky ky (by decide))) ?_
    refine wx_val (i := 6) (iN .i64 ((psE q).getD 0 0)) rfl rfl ky ky (fun w' h' => run_load1 (fun w => Tryz.isAgg3 w) ky (((h'.get 0 rfl).cell 0).trans (hc7 0 (by decide)))) ?_
    refine zp 7 (.string key) ?_
    refine wx_call (i := 8) (.bool true) (fun _ _ h hb => HA.keep _ _ h hb) rfl rfl ky ky enter312 #[.agg (#[.pointer (some ⟨p.t.q, 0, none⟩)]), iN .i64 ((psE q).getD 0 0), .string key] ky (fun w' h' => ((is_P (PH.keep H h'.old.old) ((psE q).getD 0 0) key (hlt _ (by decide))).mono fun _ _ h => ⟨h.1.trans (by rw [i0]), h.2⟩)) ?_
    refine zp 9 (.bool false) ?_
    refine zp 10 (.bool false) ?_
    refine zp 11 (.bool false) ?_
    refine wx_val (i := 12) (.agg (#[.pointer (some ⟨p.t.q, 0, none⟩)])) rfl rfl ky ky (fun w' h' => run_load_blk ky (h'.get 1 rfl) Tryz.underlying97 rfl ky) ?_
    refine zp 13 (.slice (some ⟨b4, 0, none⟩) 4 cc6) ?_
    refine wx_pure (i := 14) (.pointer (some ⟨b4, 1, none⟩)) rfl rfl ky ky (fun _ => (run_addr_slice (q := b4) (n := 4) (m := cc6) (a := 1) Tryz.underlying81 (fun w => Tryz.sizeOf3 w) ky ky (by decide))) ?_
    refine wx_val (i := 15) (iN .i64 ((psE q).getD 1 0)) rfl rfl ky ky (fun w' h' => run_load1 (fun w => Tryz.isAgg3 w) ky (((h'.get 0 rfl).cell 1).trans (hc7 1 (by decide)))) ?_
    refine zp 16 (.string nonce) ?_
    refine wx_call (i := 17) (.bool true) (fun _ _ h hb => HA.keep _ _ h hb) rfl rfl ky ky enter312 #[.agg (#[.pointer (some ⟨p.t.q, 0, none⟩)]), iN .i64 ((psE q).getD 1 0), .string nonce] ky (fun w' h' => ((is_P (PH.keep H h'.old.old) ((psE q).getD 1 0) nonce (hlt _ (by decide))).mono fun _ _ h => ⟨h.1.trans (by rw [i1]), h.2⟩)) ?_
    refine zp 18 (.bool false) ?_
    refine zp 19 (.bool false) ?_
    refine zp 20 (.bool false) ?_
    refine wx_val (i := 21) (.agg (#[.pointer (some ⟨p.t.q, 0, none⟩)])) rfl rfl ky ky (fun w' h' => run_load_blk ky (h'.get 1 rfl) Tryz.underlying97 rfl ky) ?_
    refine zp 22 (.slice (some ⟨b4, 0, none⟩) 4 cc6) ?_
    refine wx_pure (i := 23) (.pointer (some ⟨b4, 2, none⟩)) rfl rfl ky ky (fun _ => (run_addr_slice (q := b4) (n := 4) (m := cc6) (a := 2) Tryz.underlying81 (fun w => Tryz.sizeOf3 w) ky ky (by decide))) ?_
    refine wx_val (i := 24) (iN .i64 ((psE q).getD 2 0)) rfl rfl ky ky (fun w' h' => run_load1 (fun w => Tryz.isAgg3 w) ky (((h'.get 0 rfl).cell 2).trans (hc7 2 (by decide)))) ?_
    refine zp 25 (.string ad) ?_
    refine wx_call (i := 26) (.bool true) (fun _ _ h hb => HA.keep _ _ h hb) rfl rfl ky ky enter312 #[.agg (#[.pointer (some ⟨p.t.q, 0, none⟩)]), iN .i64 ((psE q).getD 2 0), .string ad] ky (fun w' h' => ((is_P (PH.keep H h'.old.old) ((psE q).getD 2 0) ad (hlt _ (by decide))).mono fun _ _ h => ⟨h.1.trans (by rw [i2]), h.2⟩)) ?_
    refine zp 27 (.bool false) ?_
    refine zp 28 (.bool false) ?_
    refine wx_end fun w14 hbx _ => ?_
    have h15 := HA.keep _ _ h13 hbx
    exact ⟨by kernel_rfl, h15⟩
  · rintro _ w16 ⟨rfl, h17⟩
    refine then_at rfl ?_
    refine wp_cond_false ky ?_
    refine wp_skip (then_at rfl (wp_seq ?_))
    refine wp_region_wx (HA (bs w) [(b4, 3, c5), (q1, 97, #[.pointer (some ⟨p.t.q, 0, none⟩)])]) (fun AQ w' => AQ = ⟨(.agg #[pt p.t.q] :: .string key :: .string nonce :: .string ad :: .string sealed :: pt q1 :: un :: un :: un :: un :: .string (parT A ((psE q).getD 3 0)) :: iN .i64 0 :: .slice (some ⟨b4, 0, none⟩) 4 cc6 :: .bool true :: .tuple #[.slice (some ⟨b4, 0, none⟩) 4 cc6, .bool true] :: .agg (#[pt p.t.q]) :: .string sealed :: .tuple #[.slice (some ⟨b4, 0, none⟩) 4 cc6, .bool true] :: .slice (some ⟨b4, 0, none⟩) 4 cc6 :: .bool true :: .bool true :: .bool false :: .bool false :: .agg (#[pt p.t.q]) :: .slice (some ⟨b4, 0, none⟩) 4 cc6 :: pt b4 :: iN .i64 ((psE q).getD 0 0) :: .string key :: .bool true :: .bool false :: .bool false :: .bool false :: .agg (#[pt p.t.q]) :: .slice (some ⟨b4, 0, none⟩) 4 cc6 :: .pointer (some ⟨b4, 1, none⟩) :: iN .i64 ((psE q).getD 1 0) :: .string nonce :: .bool true :: .bool false :: .bool false :: .bool false :: .agg (#[pt p.t.q]) :: .slice (some ⟨b4, 0, none⟩) 4 cc6 :: .pointer (some ⟨b4, 2, none⟩) :: iN .i64 ((psE q).getD 2 0) :: .string ad :: .bool true :: .bool false :: .bool false :: .agg (#[pt p.t.q]) :: .slice (some ⟨b4, 0, none⟩) 4 cc6 :: .pointer (some ⟨b4, 3, none⟩) :: iN .i64 ((psE q).getD 3 0) :: .string (parT A ((psE q).getD 3 0)) :: List.replicate 0 un).toArray, []⟩ ∧ HA (bs w) [(b4, 3, c5), (q1, 97, #[.pointer (some ⟨p.t.q, 0, none⟩)])] w') 7 ky ky ky ky ky (h17.drew) ?_ ?_
    · have h18 := h17.drew
      refine wx_val (i := 0) (.agg (#[.pointer (some ⟨p.t.q, 0, none⟩)])) rfl rfl ky ky (fun w' h' => run_load_blk ky (h'.get 1 rfl) Tryz.underlying97 rfl ky) ?_
      refine zp 1 (.slice (some ⟨b4, 0, none⟩) 4 cc6) ?_
      refine wx_pure (i := 2) (.pointer (some ⟨b4, 3, none⟩)) rfl rfl ky ky (fun _ => (run_addr_slice (q := b4) (n := 4) (m := cc6) (a := 3) Tryz.underlying81 (fun w => Tryz.sizeOf3 w) ky ky (by decide))) ?_
      refine wx_val (i := 3) (iN .i64 ((psE q).getD 3 0)) rfl rfl ky ky (fun w' h' => run_load1 (fun w => Tryz.isAgg3 w) ky (((h'.get 0 rfl).cell 3).trans (hc7 3 (by decide)))) ?_
      refine wx_call (i := 4) (.string (parT A ((psE q).getD 3 0))) (fun _ _ h hb => HA.keep _ _ h hb) rfl rfl ky ky enter302 #[.agg (#[.pointer (some ⟨p.t.q, 0, none⟩)]), iN .i64 ((psE q).getD 3 0)] ky (fun w' h' => parT_P (PH.keep H h'.old.old) ((psE q).getD 3 0) (hlt _ (by decide))) ?_
      refine zp 5 (.string (parT A ((psE q).getD 3 0))) ?_
      refine zp 6 (iN .i64 0) ?_
      refine wx_end fun w19 hbx _ => ?_
      have h20 := HA.keep _ _ h18 hbx
      exact ⟨by kernel_rfl, h20⟩
    · rintro _ w21 ⟨rfl, h22⟩
      refine then_at rfl ?_
      refine wp_ret ?_
      repeat first | refine then_ret ?_ | refine block_ret ?_
      exact bodyPost_ret (v := .tuple #[.string (parT A ((psE q).getD 3 0)), iN .i64 0]) ky rfl ⟨rfl, h22.old.old⟩
/-- what Open answers -/
def opnV : Option ByteArray → Value
  | some s => .tuple #[.string s, iN .i64 0]
  | none => .tuple #[.string { data := #[] }, iN .i64 10]
theorem tk_open {w0 w : World} {M : ML} {p : Pr} {A : List Ent} {n : Nat} {L : BL} (H : PH w0 M p A n L w) (key nonce ad sealed : ByteArray) :
    Calls Tryz.prog 301 #[.agg #[pt p.t.q], .string key, .string nonce, .string ad, .string sealed] w fun e w' => e = .returned (opnV (opnA A key nonce ad sealed)) ∧ Below w.heap.size w w' := by
  unfold opnA
  cases hn : numT A.length sealed with
  | none => exact op_1 H key nonce ad sealed hn
  | some x =>
    obtain ⟨q, he⟩ : ∃ q, A[x]? = some q := ⟨_, List.getElem?_eq_getElem (numT_lt hn)⟩
    simp only [he]
    cases q with
    | nm y => exact op_2 H key nonce ad sealed hn he (by simp [kE])
    | dt y => exact op_2 H key nonce ad sealed hn he (by simp [kE])
    | mk k y z ps b =>
      obtain ⟨h3, hl, h6⟩ := H.mk he
      by_cases hk : k = 6
      · subst hk
        have hl4 := h6 rfl
        have hlt : ∀ j, j < 4 → ps.getD j 0 < A.length := fun j hj => by
          have hj' : j < ps.length := by omega
          rw [List.getD_eq_getElem?_getD, List.getElem?_eq_getElem hj']
          exact hl _ (List.getElem_mem hj')
        cases i0 : isA A (ps.getD 0 0) key with
        | false => simp only [i0, Bool.false_eq_true, false_and, and_false, if_false]; exact op_3 H key nonce ad sealed hn he rfl hl4 hlt i0
        | true =>
          cases i1 : isA A (ps.getD 1 0) nonce with
          | false => simp only [i0, i1, Bool.false_eq_true, false_and, and_false, if_false]; exact op_4 H key nonce ad sealed hn he rfl hl4 hlt i0 i1
          | true =>
            cases i2 : isA A (ps.getD 2 0) ad with
            | false => simp only [i0, i1, i2, Bool.false_eq_true, and_false, if_false]; exact op_5 H key nonce ad sealed hn he rfl hl4 hlt i0 i1 i2
            | true => simp only [i0, i1, i2, true_and, if_true]; exact op_6 H key nonce ad sealed hn he rfl hl4 hlt i0 i1 i2
      · simp only [hk, false_and, if_false]
        exact op_2 H key nonce ad sealed hn he hk
theorem tk_open_eq {w0 w : World} {M : ML} {p : Pr} {A : List Ent} {n : Nat} {L : BL} (H : PH w0 M p A n L w) (key nonce ad sealed : ByteArray) {o : Option ByteArray} (ho : opnA A key nonce ad sealed = o) :
    Calls Tryz.prog 301 #[.agg #[pt p.t.q], .string key, .string nonce, .string ad, .string sealed] w fun e w' => e = .returned (opnV o) ∧ Below w.heap.size w w' := ho ▸ tk_open H key nonce ad sealed
set_option maxRecDepth 100000 in
set_option maxHeartbeats 2000000 in
theorem apart_any (k : Nat) (s1 s2 s3 s4 s5 : ByteArray) (z1 : s1.size ≤ 1000000) (z2 : s2.size ≤ 1000000) (z3 : s3.size ≤ 1000000) (z4 : s4.size ≤ 1000000) (z5 : s5.size ≤ 1000000) (w : World) :
    Calls Tryz.prog 72 #[.agg #[iN .i64 k, .string s1, .string s2, .string s3, .string s4, .string s5]] w fun e w' => e = .returned (.agg #[iN .i64 k, .string s1, .string s2, .string s3, .string s4, .string s5]) ∧ Below w.heap.size w w' := by
  have H0 := HA.start w
  go_enter Tryz.func72, Tryz.ntmps72
  refine wp_seq (wl_region ?_)
  refine wl_make (c := #[iN .i64 k, .string s1, .string s2, .string s3, .string s4, .string s5]) H0 68 ky ky ?_
  intro q1 w2 (h3 : HA (bs w) [(q1, 68, #[iN .i64 k, .string s1, .string s2, .string s3, .string s4, .string s5])] w2)
  refine wl_make (c := #[iN .i64 0, .string ({ data := #[] }), .string ({ data := #[] }), .string ({ data := #[] }), .string ({ data := #[] }), .string ({ data := #[] })]) h3 68 ky ky ?_
  intro q4 w5 (h6 : HA (bs w) [(q4, 68, #[iN .i64 0, .string ({ data := #[] }), .string ({ data := #[] }), .string ({ data := #[] }), .string ({ data := #[] }), .string ({ data := #[] })]), (q1, 68, #[iN .i64 k, .string s1, .string s2, .string s3, .string s4, .string s5])] w5)
  refine wl_nil (then_at rfl (wp_seq ?_))
  refine wp_region_wx (HA (bs w) [(q4, 68, #[iN .i64 0, .string ({ data := #[] }), .string ({ data := #[] }), .string ({ data := #[] }), .string ({ data := #[] }), .string ({ data := #[] })]), (q1, 68, #[iN .i64 k, .string s1, .string s2, .string s3, .string s4, .string s5])]) (fun AQ w' => AQ = ⟨(.agg #[iN .i64 k, .string s1, .string s2, .string s3, .string s4, .string s5] :: pt q1 :: pt q4 :: pt q1 :: iN .i64 k :: .pointer (some ⟨q1, 1, none⟩) :: .string s1 :: .string s1 :: .pointer (some ⟨q1, 2, none⟩) :: .string s2 :: .string s2 :: .pointer (some ⟨q1, 3, none⟩) :: .string s3 :: .string s3 :: .pointer (some ⟨q1, 4, none⟩) :: .string s4 :: .string s4 :: .pointer (some ⟨q1, 5, none⟩) :: .string s5 :: .string s5 :: .agg #[iN .i64 k, .string s1, .string s2, .string s3, .string s4, .string s5] :: List.replicate 0 un).toArray, []⟩ ∧ HA (bs w) [(q4, 68, #[iN .i64 k, .string s1, .string s2, .string s3, .string s4, .string s5]), (q1, 68, #[iN .i64 k, .string s1, .string s2, .string s3, .string s4, .string s5])] w') 19 ky ky ky ky ky (h6.drew) ?_ ?_
  · have h7 := h6.drew
    refine zp 0 (.pointer (some ⟨q1, 0, none⟩)) ?_
    refine wx_val (i := 1) (iN .i64 k) rfl rfl ky ky (fun w' h' => run_load1 (fun w => Tryz.isAgg3 w) ky (((h'.get 1 rfl).cell 0).trans rfl)) ?_
    refine zp 2 (.pointer (some ⟨q1, 1, none⟩)) ?_
    refine wx_val (i := 3) (.string s1) rfl rfl ky ky (fun w' h' => run_load1 (fun w => Tryz.isAgg9 w) ky (((h'.get 1 rfl).cell 1).trans rfl)) ?_
    refine wx_call (i := 4) (.string s1) (fun _ _ h hb => HA.keep _ _ h hb) rfl rfl ky ky enter47 #[.string s1] ky (fun w' h' => clone_any s1 (by omega) w') ?_
    refine zp 5 (.pointer (some ⟨q1, 2, none⟩)) ?_
    refine wx_val (i := 6) (.string s2) rfl rfl ky ky (fun w' h' => run_load1 (fun w => Tryz.isAgg9 w) ky (((h'.get 1 rfl).cell 2).trans rfl)) ?_
    refine wx_call (i := 7) (.string s2) (fun _ _ h hb => HA.keep _ _ h hb) rfl rfl ky ky enter47 #[.string s2] ky (fun w' h' => clone_any s2 (by omega) w') ?_
    refine zp 8 (.pointer (some ⟨q1, 3, none⟩)) ?_
    refine wx_val (i := 9) (.string s3) rfl rfl ky ky (fun w' h' => run_load1 (fun w => Tryz.isAgg9 w) ky (((h'.get 1 rfl).cell 3).trans rfl)) ?_
    refine wx_call (i := 10) (.string s3) (fun _ _ h hb => HA.keep _ _ h hb) rfl rfl ky ky enter47 #[.string s3] ky (fun w' h' => clone_any s3 (by omega) w') ?_
    refine zp 11 (.pointer (some ⟨q1, 4, none⟩)) ?_
    refine wx_val (i := 12) (.string s4) rfl rfl ky ky (fun w' h' => run_load1 (fun w => Tryz.isAgg9 w) ky (((h'.get 1 rfl).cell 4).trans rfl)) ?_
    refine wx_call (i := 13) (.string s4) (fun _ _ h hb => HA.keep _ _ h hb) rfl rfl ky ky enter47 #[.string s4] ky (fun w' h' => clone_any s4 (by omega) w') ?_
    refine zp 14 (.pointer (some ⟨q1, 5, none⟩)) ?_
    refine wx_val (i := 15) (.string s5) rfl rfl ky ky (fun w' h' => run_load1 (fun w => Tryz.isAgg9 w) ky (((h'.get 1 rfl).cell 5).trans rfl)) ?_
    refine wx_call (i := 16) (.string s5) (fun _ _ h hb => HA.keep _ _ h hb) rfl rfl ky ky enter47 #[.string s5] ky (fun w' h' => clone_any s5 (by omega) w') ?_
    refine zp 17 (.agg #[iN .i64 k, .string s1, .string s2, .string s3, .string s4, .string s5]) ?_
    refine wx_one 18 ky ?_
    refine ex_skipT rfl ky h7 fun w8 h9 => ⟨_, run_store_blk (c' := #[iN .i64 k, .string s1, .string s2, .string s3, .string s4, .string s5]) ky ky (h9.get 0 rfl) rfl ky ky, ?_⟩
    have h10 : HA (bs w) [(q4, 68, #[iN .i64 k, .string s1, .string s2, .string s3, .string s4, .string s5]), (q1, 68, #[iN .i64 k, .string s1, .string s2, .string s3, .string s4, .string s5])] _ := h9.fill 0 rfl (c' := #[iN .i64 k, .string s1, .string s2, .string s3, .string s4, .string s5]) rfl
    refine ⟨_, .inl ky, h10, ?_⟩
    refine wx_end fun w11 hbx _ => ?_
    have h12 := HA.keep _ _ h10 hbx
    exact ⟨by kernel_rfl, h12⟩
  · rintro _ w13 ⟨rfl, h14⟩
    refine then_at rfl ?_
    refine wp_ret ?_
    repeat first | refine then_ret ?_ | refine block_ret ?_
    exact bodyPost_ret (v := .agg #[iN .i64 k, .string s1, .string s2, .string s3, .string s4, .string s5]) (res_cell (p := 2) ky ky (h14.get 0 rfl) Tryz.underlying68 rfl ky) rfl ⟨rfl, h14.old.old⟩
theorem info68 : (Tryz.prog.info? 68).map (fun i => (i.zero, i.size, i.bytes)) = some (some (.agg #[.int .i64 0, .string { data := #[] }, .string { data := #[] }, .string { data := #[] }, .string { data := #[] }, .string { data := #[] }]), 6, 88) := by kernel_rfl
section
variable {P : Program} {ops : Array Oper} {J : Act → World → Prop} {n : Nat} {S : World → Prop} {l lp : List Nat} {a : Act} {w : World} {z : Base} {L Lr : BL} {i : Nat}
theorem ex_append {dst : Option Tmp} {ty : TypeId} {pos : String} {aft : Array Edge} {gd : Option (Nat × Bool)} {e t : TypeId} {sz k m c p : Nat} {v : Value} {xs : List Value} {news : Array Value} {x y : Operand} (hR : Row e sz v k xs Lr) (H : HA z ((p, e, news) :: (Lr ++ L)) w) (he : e ≠ 5) (zv : Value) (bytes : Nat)
    (ht : P.underlying t = some (.slice e)) (hi : (P.info? e).map (fun i => (i.zero, i.size, i.bytes)) = some (some zv, sz, bytes)) (hzs : zv.cells.size = sz) (hsz : 0 < sz)
    (ho : ops.toList[i]? = some ⟨dst, .call { callee := .builtin .append, args := #[x, y], argTypes := #[t, t] }, ty, pos, aft, gd⟩) (hw : Region.wanted ⟨dst, .call { callee := .builtin .append, args := #[x, y], argTypes := #[t, t] }, ty, pos, aft, gd⟩ (yielded ops a.tmps) = true)
    (hx : a.eval x = v) (hy : a.eval y = .slice (some ⟨p, 0, none⟩) m c) (hl : news.size = m * sz) (h1 : news.all (·.oneCell') = true) (h63 : k + m ≤ maxLen) (hbytes : (k + m) * bytes ≤ 140737488355328) (hm : 0 < m)
    (h : ∀ v' w' Lr', Row e sz v' (k + m) (xs ++ news.toList) Lr' → HA z (Lr' ++ L) w' → ∃ S', (barB ops i l lp = true ∨ S' = S) ∧ S' w' ∧ WXS P ops J n S' (i :: l) (i :: lp) (a.put dst v') w') : EX P ops J n S l lp i a w := by
  refine ex_doT ho hw H fun w1 H1 => ?_
  obtain ⟨i, hi, hh⟩ := Option.map_eq_some_iff.1 hi
  simp only [Prod.mk.injEq] at hh
  have hp := H1.get 0 rfl
  obtain ⟨v', w', Lr', hrun, hR', H'⟩ := hR.append H1.tl he t ty i zv bytes ht hi hh.1 hh.2.1 hh.2.2 hzs hsz ⟨p, 0, none⟩ m c news.toList (by simpa using hl) (fun j u hu => by
    have hadd : (⟨p, 0, none⟩ : Addr).add j = ⟨p, j, none⟩ := by unfold Addr.add; split <;> simp_all
    rw [hadd, hp.cell j]
    simpa using hu) (fun u hu => by
    have := Array.all_eq_true'.1 h1 u (by simpa using hu)
    exact this) h63 hbytes hm
  refine ⟨v', w', ?_, h v' w' Lr' hR' H'⟩
  unfold execOp
  simp only [resolve, invoke, builtin, Sem.run_bind, Sem.run_pure, Result.andThen_ok, List.map_toArray, List.map_cons, List.map_nil, hx, hy, hrun]
theorem HA.mv2 {a b c : Nat × TypeId × Array Value} {R : BL} (H : HA z (a :: b :: c :: (Lr ++ R)) w) : HA z (a :: (Lr ++ (b :: c :: R))) w := H.perm (by
  refine List.Perm.cons _ ?_
  have e : (b :: c :: (Lr ++ R)) = ([b, c] ++ Lr) ++ R := by simp
  have e2 : Lr ++ (b :: c :: R) = (Lr ++ [b, c]) ++ R := by simp
  rw [e, e2]
  exact List.Perm.append_right _ List.perm_append_comm)
theorem HA.bk2 {b c : Nat × TypeId × Array Value} {R : BL} (H : HA z (Lr ++ (b :: c :: R)) w) : HA z (b :: c :: (Lr ++ R)) w := H.perm (by
  have e : (b :: c :: (Lr ++ R)) = ([b, c] ++ Lr) ++ R := by simp
  have e2 : Lr ++ (b :: c :: R) = (Lr ++ [b, c]) ++ R := by simp
  rw [e, e2]
  exact List.Perm.append_right _ List.perm_append_comm)
end
section
variable {w0 w : World} {M : ML} {p : Pr} {A : List Ent} {n : Nat} {L : BL}
theorem perm_jr (a c : Nat × TypeId × Array Value) (R B J L' : BL) : (c :: (J ++ (L' ++ (a :: (R ++ B))))).Perm (a :: (R ++ (B ++ (c :: (J ++ L'))))) := by
  have e : c :: (J ++ (L' ++ (a :: (R ++ B)))) = (c :: (J ++ L')) ++ (a :: (R ++ B)) := by simp
  have e2 : a :: (R ++ (B ++ (c :: (J ++ L')))) = (a :: (R ++ B)) ++ (c :: (J ++ L')) := by simp
  rw [e, e2]
  exact List.perm_append_comm
/-- a prim's journal -/
theorem PH.jr (h : PH w0 M p A n L w) : ∃ z X jv xs Lj, Row 68 6 jv n xs Lj ∧ (∀ jv' n' xs' Lj' L' w', Row 68 6 jv' n' xs' Lj' → HA z ((p.q, 95, pcell p jv') :: (Lj' ++ (L' ++ X))) w' → PH w0 M p A n' L' w') ∧ HA z ((p.q, 95, pcell p jv) :: (Lj ++ (L ++ X))) w := by
  obtain ⟨es, jv, xs, Lj, h1, h2, h3, v, Lr, h4, H⟩ := h
  exact ⟨zb w0 M p.t es, _, jv, xs, Lj, h3, fun jv' n' xs' Lj' L' w' h3' H' => ⟨es, jv', xs', Lj', h1, h2, h3', v, Lr, h4, H'.perm (perm_jr _ _ Lr (PB es) Lj' L')⟩, H.perm (perm_jr _ _ Lr (PB es) Lj L).symm⟩
end
set_option maxRecDepth 100000 in
set_option maxHeartbeats 2000000 in
theorem note_P {w0 w : World} {M : ML} {p : Pr} {A : List Ent} {n : Nat} {L : BL} (H : PH w0 M p A n L w) (k : Nat) (s1 s2 s3 s4 s5 : ByteArray) (z1 : s1.size ≤ 1000000) (z2 : s2.size ≤ 1000000) (z3 : s3.size ≤ 1000000) (z4 : s4.size ≤ 1000000) (z5 : s5.size ≤ 1000000) (hj : n < 1000000) :
    Calls Tryz.prog 97 #[pt p.q, .agg #[iN .i64 k, .string s1, .string s2, .string s3, .string s4, .string s5]] w fun e w' => e = .returned (.tuple #[]) ∧ PH w0 M p A (n + 1) L w' := by
  obtain ⟨z0, X0, jv0, xs0, Lj0, hR0, hcj0, H0⟩ := PH.jr H
  go_enter Tryz.func97, Tryz.ntmps97
  refine wp_seq (wl_region ?_)
  refine wl_make (c := #[iN .i64 k, .string s1, .string s2, .string s3, .string s4, .string s5]) H0 68 ky ky ?_
  intro q1 w2 (h3 : HA z0 ((q1, 68, #[iN .i64 k, .string s1, .string s2, .string s3, .string s4, .string s5]) :: (p.q, 95, pcell p jv0) :: (Lj0 ++ (L ++ X0))) w2)
  refine wl_nil (then_at rfl ?_)
  refine wp_region_wx (HA z0 ((q1, 68, #[iN .i64 k, .string s1, .string s2, .string s3, .string s4, .string s5]) :: (p.q, 95, pcell p jv0) :: (Lj0 ++ (L ++ X0)))) (fun AQ w' => ∃ (po16 : Option Addr) (cc17 : Nat) (Lj11 : BL) (q7 : Nat), AQ = ⟨(pt p.q :: .agg #[iN .i64 k, .string s1, .string s2, .string s3, .string s4, .string s5] :: un :: pt q1 :: pt p.q :: pt p.q :: pt p.q :: .pointer (some ⟨p.q, 1, none⟩) :: jv0 :: .agg (#[iN .i64 k, .string s1, .string s2, .string s3, .string s4, .string s5]) :: .agg #[iN .i64 k, .string s1, .string s2, .string s3, .string s4, .string s5] :: .slice (some ⟨q7, 0, none⟩) 1 1 :: .slice po16 (n + 1) cc17 :: pt p.q :: .pointer (some ⟨p.q, 1, none⟩) :: List.replicate 0 un).toArray, []⟩ ∧ Row 68 6 (.slice po16 (n + 1) cc17) (n + 1) (xs0 ++ (#[iN .i64 k, .string s1, .string s2, .string s3, .string s4, .string s5] : Array Value).toList) Lj11 ∧ HA z0 ((q1, 68, #[iN .i64 k, .string s1, .string s2, .string s3, .string s4, .string s5]) :: (p.q, 95, #[.iface 97 (kitv p), .slice po16 (n + 1) cc17]) :: (Lj11 ++ (L ++ X0))) w') 12 ky ky ky ky ky (h3.drew) ?_ ?_
  · have h4 := h3.drew
    refine zp 0 (.pointer (some ⟨p.q, 0, none⟩)) ?_
    refine zp 1 (.pointer (some ⟨p.q, 0, none⟩)) ?_
    refine zp 2 (.pointer (some ⟨p.q, 0, none⟩)) ?_
    refine zp 3 (.pointer (some ⟨p.q, 1, none⟩)) ?_
    refine wx_val (i := 4) (jv0) rfl rfl ky ky (fun w' h' => run_load1 (fun w => Tryz.isAgg35 w) ky (((h'.get 1 rfl).cell 1).trans rfl)) ?_
    refine wx_val (i := 5) (.agg (#[iN .i64 k, .string s1, .string s2, .string s3, .string s4, .string s5])) rfl rfl ky ky (fun w' h' => run_load_blk ky (h'.get 0 rfl) Tryz.underlying68 rfl ky) ?_
    refine wx_call (i := 6) (.agg #[iN .i64 k, .string s1, .string s2, .string s3, .string s4, .string s5]) (fun _ _ h hb => HA.keep _ _ h hb) rfl rfl ky ky enter72 #[.agg (#[iN .i64 k, .string s1, .string s2, .string s3, .string s4, .string s5])] ky (fun w' h' => apart_any k s1 s2 s3 s4 s5 z1 z2 z3 z4 z5 w') ?_
    refine wx_one 7 ky ?_
    refine ex_makeT (c := #[iN .i64 k, .string s1, .string s2, .string s3, .string s4, .string s5]) rfl ky h4 68 (fun q => .slice (some ⟨q, 0, none⟩) 1 1) (fun _ => ky) ?_
    intro q7 w5 (h6 : HA z0 ((q7, 68, #[iN .i64 k, .string s1, .string s2, .string s3, .string s4, .string s5]) :: (q1, 68, #[iN .i64 k, .string s1, .string s2, .string s3, .string s4, .string s5]) :: (p.q, 95, pcell p jv0) :: (Lj0 ++ (L ++ X0))) w5)
    refine ⟨_, .inr rfl, (HA.sub h6 (List.Sublist.cons _ (List.Sublist.cons_cons _ (List.Sublist.cons_cons _ (List.Sublist.refl _))))), ?_⟩
    refine wx_one 8 ky ?_
    refine ex_append (m := 1) (c := 1) hR0 (HA.mv2 h6) (by decide) _ 88 Tryz.underlying35 info68 rfl (by decide) rfl ky ky ky rfl ky (by unfold maxLen; omega) (by omega) (by decide) ?_
    intro v10 w15 Lj11 hR12 h13
    obtain ⟨po16, cc17, rfl⟩ := hR12.form
    have h14 : HA z0 ((q1, 68, #[iN .i64 k, .string s1, .string s2, .string s3, .string s4, .string s5]) :: (p.q, 95, pcell p jv0) :: (Lj11 ++ (L ++ X0))) w15 := HA.bk2 h13
    refine ⟨_, .inl ky, h14, ?_⟩
    refine zp 9 (.pointer (some ⟨p.q, 0, none⟩)) ?_
    refine zp 10 (.pointer (some ⟨p.q, 1, none⟩)) ?_
    refine wx_one 11 ky ?_
    refine ex_skipT rfl ky h14 fun w18 h19 => ⟨_, run_storev (q := p.q) (i := 1) (v := .slice po16 (n + 1) cc17) (fun w => Tryz.sizeOf35 w) ky ky ky (by rw [(h19.get 1 rfl).cell]; rfl) ((h19.get 1 rfl).free _ (by show 1 < 2; decide)), ?_⟩
    have h20 : HA z0 ((q1, 68, #[iN .i64 k, .string s1, .string s2, .string s3, .string s4, .string s5]) :: (p.q, 95, #[.iface 97 (kitv p), .slice po16 (n + 1) cc17]) :: (Lj11 ++ (L ++ X0))) _ := h19.put 1 rfl 1 (.slice po16 (n + 1) cc17)
    refine ⟨_, .inl ky, h20, ?_⟩
    refine wx_end fun w21 hbx _ => ?_
    have h22 := HA.keep _ _ h20 hbx
    exact ⟨po16, cc17, Lj11, q7, by kernel_rfl, hR12, h22⟩
  · rintro _ w23 ⟨po16, cc17, Lj11, q7, rfl, hR12, h24⟩
    exact bodyPost_end (v := .tuple #[]) ky rfl ⟨rfl, hcj0 _ _ _ _ _ _ hR12 (HA.sub h24 (List.Sublist.cons _ (List.Sublist.refl _)))⟩
end Go.Proofs.YtcjjbpbehapjpaaGreat
