/-
  recipe: how a thing was made.
-/
import Derived.Test.YtoogiblkommdfaaGreatTS
import Derived.Test.YtoogiblkommdfaaGreatTG
import Derived.Test.YtoogiblkommdfaaGreatSh
set_option linter.unusedVariables false
namespace Go.Proofs.YtoogiblkommdfaaGreat
open Go.RowKit

set_option maxRecDepth 100000 in
set_option maxHeartbeats 2000000 in
theorem clone_any (s : ByteArray) (hs : s.size ≤ 281474976710656) (w : World) :
    Calls Tryz.prog 113 #[.string s] w fun e w' => e = .returned (.string s) ∧ Below w.heap.size w w' := by
  have H0 := HA.start w
  go_enter Tryz.func113, Tryz.ntmps113
  refine wp_seq (wl_region ?_)
  refine zv (.string ({ data := #[] })) ?_
  refine wl_nil (then_at rfl (wp_seq (wl_region ?_)))
  refine zv (.string s) ?_
  refine wl_call (v := .string s) H0 ky enter152 #[.string s] ky (Tryz.stringslite_Clone s w hs) ?_
  intro w1 h2
  refine zv (.string s) ?_
  refine wl_nil (then_at rfl ?_)
  refine wp_ret ?_
  repeat first | refine then_ret ?_ | refine block_ret ?_
  exact bodyPost_ret (v := .string s) ky rfl ⟨rfl, h2.old.old⟩
theorem laidL_snoc (ps : List Nat) (k : Nat) (hk : k < ps.length) : laidL (ps.take (k + 1)) = laidL (ps.take k) ++ p4 ByteArray.empty (ps.getD k 0) := by
  rw [List.take_succ_eq_append_getElem hk, laidL, laidL, List.flatMap_append, List.getD_eq_getElem?_getD, List.getElem?_eq_getElem hk]
  simp
theorem laidL_len : ∀ ps : List Nat, (laidL ps).length = 4 * ps.length
  | [] => rfl
  | p :: ps => by
    have := laidL_len ps
    simp only [laidL, List.flatMap_cons, List.length_append, List.length_cons] at this ⊢
    rw [this, p4_len]
    simp only [ByteArray.size_empty]
    omega
theorem str_cells (l : List UInt8) : Lib.strCells ⟨l.toArray⟩ = Lib.byteCells l := by simp [Lib.strCells, Lib.byteCells]
theorem byte_cells_app (l m : List UInt8) : Lib.byteCells (l ++ m) = Lib.byteCells l ++ Lib.byteCells m := by simp [Lib.byteCells]
theorem byte_cells_len (l : List UInt8) : (Lib.byteCells l).length = l.length := by simp [Lib.byteCells]
theorem putS_size (s : ByteArray) (n : Nat) : (putS s n).size = s.size + 4 := by
  show (p4 s n).toArray.size = _
  rw [List.size_toArray, p4_len]
theorem bld_keep {B b : Nat} {bs : List Value} {w w' : World} (h : Lib.IsBuilder 284 5 B b bs w) (hb : Below w.heap.size w w') : Lib.IsBuilder 284 5 B b bs w' := by
  have key : ∀ p, Lib.BuilderAt 284 5 B b p bs w → Lib.BuilderAt 284 5 B b p bs w' := fun p hp => by
    obtain ⟨h1, v, h2, h3, h4⟩ := hp
    refine ⟨h1, v, (hb.block _ (lt_of_block h2)).trans h2, ⟨h3.1, ?_⟩, h4⟩
    rcases h3.2 with hn | ⟨g, cap, cur, hv, k1, k2, k3⟩
    · exact .inl hn
    · exact .inr ⟨g, cap, cur, hv, k1, (hb.block _ (lt_of_block k2)).trans k2, k3⟩
  exact h.imp (key _) (key _)
set_option maxRecDepth 100000 in
set_option maxHeartbeats 2000000 in
theorem recipe_any {w : World} (k n : Nat) (s : ByteArray) (ps : List Nat) (b : Nat) (hb : Blk w b 3 (intc ps)) (hl : ps.length ≤ 1000) (hp : ∀ i, ps.getD i 0 < 1000000) :
    Calls Tryz.prog 211 #[mkv k n s b ps.length] w fun e w' => e = .returned (recV (recOf k n s ps)) ∧ Below w.heap.size w w' := by
  have H0 := HA.start w
  go_enter Tryz.func211, Tryz.ntmps211
  refine wp_seq (wl_region ?_)
  refine wl_make (c := #[iN .i64 k, iN .i64 n, .string s, .slice (some ⟨b, 0, none⟩) ps.length ps.length]) H0 190 ky ky ?_
  intro q1 w2 (h3 : HA (bs w) [(q1, 190, #[iN .i64 k, iN .i64 n, .string s, .slice (some ⟨b, 0, none⟩) ps.length ps.length])] w2)
  refine wl_make (c := #[iN .i64 0, iN .i64 0, .string ({ data := #[] }), .string ({ data := #[] })]) h3 276 ky ky ?_
  intro q4 w5 (h6 : HA (bs w) [(q4, 276, #[iN .i64 0, iN .i64 0, .string ({ data := #[] }), .string ({ data := #[] })]), (q1, 190, #[iN .i64 k, iN .i64 n, .string s, .slice (some ⟨b, 0, none⟩) ps.length ps.length])] w5)
  refine wl_nil (then_at rfl (wp_seq (wl_region ?_)))
  refine wl_any (v := .pointer (some ⟨w5.heap.size, 0, none⟩)) (w' := w5.alloc (.cells #[.pointer none, .slice none 0 0] 284)) ky ky ?_
  have hbd : Lib.IsBuilder 284 5 w5.heap.size w5.heap.size (Lib.byteCells (laidL (ps.take 0))) (w5.alloc (.cells #[.pointer none, .slice none 0 0] 284)) := Lib.fresh_isBuilder 284 5 w5
  have hbl : Below w5.heap.size w5 (w5.alloc (.cells #[.pointer none, .slice none 0 0] 284)) := (Below.refl _ _).alloc (Nat.le_refl _) _
  generalize w5.alloc (.cells #[.pointer none, .slice none 0 0] 284) = w7 at hbd hbl ⊢
  have h8 := HA.keep _ _ h6 hbl
  refine wl_nil (then_at rfl (wp_seq (wp_seq (wl_region ?_))))
  refine zv (.pointer (some ⟨q1, 3, none⟩)) ?_
  refine zu (.slice (some ⟨b, 0, none⟩) ps.length ps.length) (run_load1 (fun w => Tryz.isAgg84 w) ky (((h8.get 1 rfl).cell 3).trans rfl)) ?_
  refine zv (iN .i64 ps.length) ?_
  refine zv (iN .i64 0) ?_
  refine wl_nil (then_at rfl (wp_block ?_))
  refine wp_count (fun i A w' => ∃ u9 : Nat → Value, A = ⟨(.agg #[iN .i64 k, iN .i64 n, .string s, .slice (some ⟨b, 0, none⟩) ps.length ps.length] :: pt q1 :: pt q4 :: pt w5.heap.size :: un :: u9 5 :: .pointer (some ⟨q1, 3, none⟩) :: .slice (some ⟨b, 0, none⟩) ps.length ps.length :: iN .i64 ps.length :: iN .i64 i :: u9 10 :: u9 11 :: u9 12 :: u9 13 :: u9 14 :: u9 15 :: u9 16 :: u9 17 :: List.replicate 8 un).toArray, []⟩ ∧ HA (bs w) [(q4, 276, #[iN .i64 0, iN .i64 0, .string ({ data := #[] }), .string ({ data := #[] })]), (q1, 190, #[iN .i64 k, iN .i64 n, .string s, .slice (some ⟨b, 0, none⟩) ps.length ps.length])] w' ∧ (Below w5.heap.size w5 w' ∧ Lib.IsBuilder 284 5 w5.heap.size w5.heap.size (Lib.byteCells (laidL (ps.take i))) w')) ps.length ?_ ?_ ?_
  · exact ⟨fun ii => (([(5, undef), (10, undef), (11, undef), (12, undef), (13, undef), (14, undef), (15, undef), (16, undef), (17, undef)] : List (Nat × Value)).find? (·.1 == ii)).elim undef (·.2), by kernel_rfl, h8, ⟨hbl, hbd⟩⟩
  · rintro i hk _ w10 ⟨u9, rfl, h11, ⟨hbl1, hbd1⟩⟩
    refine wp_seq (wl_region ?_)
    refine zu (.bool true) (run_lss (k := .i64) (a := i) (b := ps.length) ky ky true (decide_eq_true (by omega))) ?_
    refine wl_nil (then_at rfl (wp_seq ?_))
    refine wp_cond_true ky ?_
    refine wp_skip (then_at rfl (wp_seq (wp_block (wp_seq (wl_region ?_)))))
    refine zu (.pointer (some ⟨b, i, none⟩)) (run_addr_slice (q := b) (n := ps.length) (m := ps.length) (a := i) Tryz.underlying84 (fun w => Tryz.sizeOf3 w) ky ky (by omega)) ?_
    refine zu (iN .i64 (ps.getD i 0)) (run_load1 (fun w => Tryz.isAgg3 w) ky (((hb.keep h11.old.old).cell i).trans (intc_get ps i (by omega)))) ?_
    refine zv (iN .i64 (ps.getD i 0)) ?_
    refine wl_nil (then_at rfl (wl_region ?_))
    refine zv (iN .i64 (ps.getD i 0)) ?_
    refine zu (iN .u64 (ps.getD i 0)) (run_conv .u64 Tryz.underlying3 Tryz.underlying95 ky (by have := hp i; simp only [top]; omega)) ?_
    refine wl_callx ky enter75 #[.string ({ data := #[] }), iN .i64 4, iN .u64 (ps.getD i 0)] ky (PutNumber_4 { data := #[] } (ps.getD i 0) (by decide) (by have := hp i; omega) w10) ?_
    rintro _ w13 ⟨rfl, hb12⟩
    refine ⟨_, rfl, ?_⟩
    have h14 := HA.keep _ _ h11 hb12
    have hbl15 := hbl1.trans (hb12.mono hbl1.size)
    have hbd16 := bld_keep hbd1 hb12
    refine wl_callx ky enter214 #[.pointer (some ⟨w5.heap.size, 0, none⟩), .string (putS { data := #[] } (ps.getD i 0))] ky (bwrite_any _ _ _ _ w13 hbd16 (by rw [byte_cells_len, laidL_len, List.length_take, putS_size, show ({ data := #[] } : ByteArray).size = 0 from rfl]; omega) hbl15.size) ?_
    rintro _ w19 ⟨rfl, hat17, hbe18⟩
    refine ⟨_, rfl, ?_⟩
    have hbl20 := hbl15.trans hbe18
    have h21 := HA.keep _ _ h6 hbl20
    refine wl_nil (block_normal (then_at rfl (wl_region ?_)))
    refine zu (iN .i64 (i + 1)) (run_add (k := .i64) (a := i) (b := 1) ky ky (by simp only [top]; omega)) ?_
    refine zv (iN .i64 (i + 1)) ?_
    refine wl_nil ?_
    exact then_I ⟨fun ii => (([(5, iN .i64 (ps.getD i 0)), (10, .bool true), (11, .pointer (some ⟨b, i, none⟩)), (12, iN .i64 (ps.getD i 0)), (13, iN .i64 (ps.getD i 0)), (14, iN .u64 (ps.getD i 0)), (15, .string (putS { data := #[] } (ps.getD i 0))), (16, .tuple #[.int .i64 (putS { data := #[] } (ps.getD i 0)).size, .nilIface]), (17, iN .i64 (i + 1))] : List (Nat × Value)).find? (·.1 == ii)).elim undef (·.2), by kernel_rfl, h21, ⟨hbl20, .inr (by rw [laidL_snoc ps i hk, byte_cells_app, ← str_cells (p4 _ _)]; exact hat17)⟩⟩
  · rintro _ w22 ⟨u9, rfl, h23, ⟨hbl1, hbd1⟩⟩
    refine wp_seq (wl_region ?_)
    refine zu (.bool false) (run_lss (k := .i64) (a := ps.length) (b := ps.length) ky ky false (decide_eq_false (by omega))) ?_
    refine wl_nil (then_at rfl (wp_seq ?_))
    refine wp_cond_false ky ?_
    refine wp_exit ?_
    repeat first | refine then_exit ?_ | refine block_exit ?_ | refine block_exit_ne (by decide) ?_
    refine then_at rfl (wp_seq ?_)
    have hdr : Lib.IsBuilder 284 5 w5.heap.size w5.heap.size (Lib.byteCells (laidL (ps.take ps.length))) w22.drew := hbd1
    refine wp_region_ghost (fun g : Nat → Nat => (⟨(.agg #[iN .i64 k, iN .i64 n, .string s, .slice (some ⟨b, 0, none⟩) ps.length ps.length] :: pt q1 :: pt q4 :: pt w5.heap.size :: un :: u9 5 :: .pointer (some ⟨q1, 3, none⟩) :: .slice (some ⟨b, 0, none⟩) ps.length ps.length :: iN .i64 ps.length :: iN .i64 ps.length :: .bool false :: u9 11 :: u9 12 :: u9 13 :: u9 14 :: u9 15 :: u9 16 :: u9 17 :: pt q1 :: iN .i64 k :: .pointer (some ⟨q1, 1, none⟩) :: iN .i64 n :: .pointer (some ⟨q1, 2, none⟩) :: .string s :: .string (laid ps) :: .agg #[iN .i64 k, iN .i64 n, .string s, .string (laid ps)] :: List.replicate 0 un).toArray, []⟩ : Act)) (G2 (HA (bs w) [(q1, 190, #[iN .i64 k, iN .i64 n, .string s, .slice (some ⟨b, 0, none⟩) ps.length ps.length])]) (fun w' => HA (bs w) [(q4, 276, #[iN .i64 0, iN .i64 0, .string { data := #[] }, .string { data := #[] }]), (q1, 190, #[iN .i64 k, iN .i64 n, .string s, .slice (some ⟨b, 0, none⟩) ps.length ps.length])] w' ∧ Below w5.heap.size w5 w' ∧ Lib.IsBuilder 284 5 w5.heap.size w5.heap.size (Lib.byteCells (laidL (ps.take ps.length))) w') (fun _ w' => HA (bs w) [(q4, 276, #[iN .i64 0, iN .i64 0, .string { data := #[] }, .string { data := #[] }]), (q1, 190, #[iN .i64 k, iN .i64 n, .string s, .slice (some ⟨b, 0, none⟩) ps.length ps.length])] w') (fun _ w' => HA (bs w) [(q4, 276, #[iN .i64 k, iN .i64 n, .string s, .string (laid ps)]), (q1, 190, #[iN .i64 k, iN .i64 n, .string s, .slice (some ⟨b, 0, none⟩) ps.length ps.length])] w') (fun i => ([[], [], [], [], [], [], [], [], [6]] : List (List Nat)).getD i []) 6 8) [.pointer (some ⟨q1, 0, none⟩), iN .i64 k, .pointer (some ⟨q1, 1, none⟩), iN .i64 n, .pointer (some ⟨q1, 2, none⟩), .string s, .string (laid ps), .agg #[iN .i64 k, iN .i64 n, .string s, .string (laid ps)], undef] ky ky ky ky (fun _ _ _ _ h => h) (fun d hd => G2.start (h23.drew.tl) ⟨h23.drew, hbl1.drew, hdr⟩ (hd 6 (by decide)) (hd 8 (by decide)) (Cl.start (n := 9) hd (by decide))) ?_ ?_
    · refine AllGhost.cons (g2_read (v := fun g => .pointer (some ⟨q1, 0, none⟩)) (by decide) (by decide) ky (fun _ => by kernel_rfl) (fun _ => by kernel_rfl) (fun g _ _ => ky)) ?_
      refine AllGhost.cons (g2_read (v := fun g => iN .i64 k) (by decide) (by decide) ky (fun _ => by kernel_rfl) (fun _ => by kernel_rfl) (fun g w' h' => run_load1 (fun w => Tryz.isAgg3 w) ky (((h'.get 0 rfl).cell 0).trans rfl))) ?_
      refine AllGhost.cons (g2_read (v := fun g => .pointer (some ⟨q1, 1, none⟩)) (by decide) (by decide) ky (fun _ => by kernel_rfl) (fun _ => by kernel_rfl) (fun g _ _ => ky)) ?_
      refine AllGhost.cons (g2_read (v := fun g => iN .i64 n) (by decide) (by decide) ky (fun _ => by kernel_rfl) (fun _ => by kernel_rfl) (fun g w' h' => run_load1 (fun w => Tryz.isAgg3 w) ky (((h'.get 0 rfl).cell 1).trans rfl))) ?_
      refine AllGhost.cons (g2_read (v := fun g => .pointer (some ⟨q1, 2, none⟩)) (by decide) (by decide) ky (fun _ => by kernel_rfl) (fun _ => by kernel_rfl) (fun g _ _ => ky)) ?_
      refine AllGhost.cons (g2_read (v := fun g => .string s) (by decide) (by decide) ky (fun _ => by kernel_rfl) (fun _ => by kernel_rfl) (fun g w' h' => run_load1 (fun w => Tryz.isAgg9 w) ky (((h'.get 0 rfl).cell 2).trans rfl))) ?_
      refine AllGhost.cons (g2_call0 (v := fun _ => .string (laid ps)) (args := #[.pointer (some ⟨w5.heap.size, 0, none⟩)]) (by decide) (fun d hc hm => hm 6 (by decide)) ky (fun _ => by kernel_rfl) (fun _ _ => by kernel_rfl) enter215 (fun _ => by kernel_rfl) (fun w' _ h0 => (Tryz.Builder_String_any _ _ (laidL (ps.take ps.length)) w' h0.2.2 h0.2.1.size).mono (fun e w2 h2 => ⟨0, h2.1.trans (by rw [List.take_length]; rfl), (HA.keep _ _ h6 (h0.2.1.trans h2.2)).tl, HA.keep _ _ h6 (h0.2.1.trans h2.2)⟩))) ?_
      refine AllGhost.cons (g2_read (v := fun g => .agg #[iN .i64 k, iN .i64 n, .string s, .string (laid ps)]) (by decide) (by decide) ky (fun _ => by kernel_rfl) (fun _ => by kernel_rfl) (fun g _ _ => ky)) ?_
      refine AllGhost.cons (g2_act1 (fun d hc hm => hm 6 (by decide)) ky (fun _ => by kernel_rfl) (fun _ => by kernel_rfl) (fun g w' _ h' => ⟨_, run_store_blk (c' := #[iN .i64 k, iN .i64 n, .string s, .string (laid ps)]) ky ky (h'.get 0 rfl) rfl ky ky, (h'.fill (c' := #[iN .i64 k, iN .i64 n, .string s, .string (laid ps)]) 0 rfl rfl).tl, h'.fill (c' := #[iN .i64 k, iN .i64 n, .string s, .string (laid ps)]) 0 rfl rfl⟩)) ?_
      exact AllGhost.nil
    intro g w24 gg25
    have h26 := gg25.held
    rw [if_pos rfl] at h26
    clear gg25
    generalize g 6 = n27 at h26 ⊢
    clear g
    refine then_at rfl ?_
    refine wp_ret ?_
    repeat first | refine then_ret ?_ | refine block_ret ?_
    exact bodyPost_ret (v := recV (recOf k n s ps)) (res_cell (p := 2) ky ky (h26.get 0 rfl) Tryz.underlying276 rfl ky) rfl ⟨rfl, h26.old.old⟩
end Go.Proofs.YtoogiblkommdfaaGreat
