/-
 packs; StoreKnown.
-/
import Derived.Test.YtckmlaempffpjaaGreatSKm
import Derived.Test.YtckmlaempffpjaaGreatSLast
namespace Go.Proofs.YtckmlaempffpjaaGreat
open Go.RowKit

set_option linter.unusedVariables false in
set_option maxRecDepth 100000 in
set_option maxHeartbeats 2000000 in
theorem snone_zero {w : World} {q : Nat} (hq : Blk w q 73 #[.pointer none, .map none, iN .i64 0, iN .i64 0]) :
  Calls Tryz.prog 47 #[pt q] w fun e w' => e = .returned (.bool true) ∧ Below w.heap.size w w' := by
 have H0 := HA.start w
 go_enter Tryz.func47, Tryz.ntmps47
 refine wp_seq ?_
 refine wl_region ?_
 refine zwv (.bool false) ?_
 refine wl_nil ?_
 refine then_at rfl ?_
 refine wp_seq ?_
 refine wl_region ?_
 refine zwv (.pointer (some ⟨q, 0, none⟩)) ?_
 refine zwv (.bool false) ?_
 refine zwv (.bool false) ?_
 refine zwv (.pointer (some ⟨q, 0, none⟩)) ?_
 refine zwv (.pointer (some ⟨q, 0, none⟩)) ?_
 refine zwv (.pointer (some ⟨q, 1, none⟩)) ?_
 refine zwx (.map none) (run_load1 (fun w => Tryz.isAgg71 w) (by kernel_rfl) (((hq.keep H0.old.old).cell 1).trans rfl)) ?_
 refine zwv (.bool true) ?_
 refine zwv (.bool true) ?_
 refine zwv (.bool true) ?_
 refine wl_nil ?_
 refine then_at rfl ?_
 refine wp_ret ?_
 repeat first | refine then_ret ?_ | refine block_ret ?_
 exact bodyPost_ret (v := .bool true) (by kernel_rfl) rfl ⟨rfl, H0.old.old⟩
set_option linter.unusedVariables false in
set_option maxRecDepth 100000 in
set_option maxHeartbeats 2000000 in
theorem Do_nil (w : World) :
  Calls Tryz.prog 17 #[.pointer none, .slice none 0 0, .slice none 0 0] w fun e w' => e = .returned (iN .i64 1) ∧ Below w.heap.size w w' := by
 have H0 := HA.start w
 go_enter Tryz.func17, Tryz.ntmps17
 refine wp_seq ?_
 refine wl_region ?_
 refine zwv (iN .i64 0) ?_
 refine wl_nil ?_
 refine then_at rfl ?_
 refine wp_seq ?_
 refine wp_seq ?_
 refine wl_region ?_
 refine zwv (.pointer none) ?_
 refine wl_call (v := .bool true) H0 (by kernel_rfl) enter47 #[.pointer none] (by kernel_rfl) (snone_nil w) ?_
 intro w1 h2
 refine wl_nil ?_
 refine then_at rfl ?_
 refine wp_cond_true (by kernel_rfl) ?_
 refine wp_seq ?_
 refine wl_region ?_
 refine zwv (iN .i64 1) ?_
 refine wl_nil ?_
 refine then_at rfl ?_
 refine wp_ret ?_
 repeat first | refine then_ret ?_ | refine block_ret ?_
 exact bodyPost_ret (v := iN .i64 1) (by kernel_rfl) rfl ⟨rfl, h2.old.old⟩
set_option linter.unusedVariables false in
set_option maxRecDepth 100000 in
set_option maxHeartbeats 2000000 in
theorem Len_nil (w : World) :
  Calls Tryz.prog 26 #[.pointer none] w fun e w' => e = .returned (iN .i64 0) ∧ Below w.heap.size w w' := by
 have H0 := HA.start w
 go_enter Tryz.func26, Tryz.ntmps26
 refine wp_seq ?_
 refine wl_region ?_
 refine zwv (iN .i64 0) ?_
 refine wl_nil ?_
 refine then_at rfl ?_
 refine wp_seq ?_
 refine wp_seq ?_
 refine wl_region ?_
 refine zwv (.pointer none) ?_
 refine wl_call (v := .bool true) H0 (by kernel_rfl) enter47 #[.pointer none] (by kernel_rfl) (snone_nil w) ?_
 intro w1 h2
 refine wl_nil ?_
 refine then_at rfl ?_
 refine wp_cond_true (by kernel_rfl) ?_
 refine wp_seq ?_
 refine wl_region ?_
 refine zwv (iN .i64 0) ?_
 refine wl_nil ?_
 refine then_at rfl ?_
 refine wp_ret ?_
 repeat first | refine then_ret ?_ | refine block_ret ?_
 exact bodyPost_ret (v := iN .i64 0) (by kernel_rfl) rfl ⟨rfl, h2.old.old⟩
set_option linter.unusedVariables false in
set_option maxRecDepth 100000 in
set_option maxHeartbeats 2000000 in
theorem Pack_zero {w : World} {q : Nat} (hq : Blk w q 73 #[.pointer none, .map none, iN .i64 0, iN .i64 0]) :
  Calls Tryz.prog 15 #[pt q] w fun e w' => e = .returned (iN .i64 1) ∧ Below w.heap.size w w' := by
 have H0 := HA.start w
 go_enter Tryz.func15, Tryz.ntmps15
 refine wp_seq ?_
 refine wl_region ?_
 refine zwv (iN .i64 0) ?_
 refine wl_nil ?_
 refine then_at rfl ?_
 refine wp_seq ?_
 refine wp_seq ?_
 refine wl_region ?_
 refine zwv (.pointer (some ⟨q, 0, none⟩)) ?_
 refine wl_call (v := .bool true) H0 (by kernel_rfl) enter47 #[.pointer (some ⟨q, 0, none⟩)] (by kernel_rfl) (snone_zero (hq.keep H0.old.old)) ?_
 intro w1 h2
 refine wl_nil ?_
 refine then_at rfl ?_
 refine wp_cond_true (by kernel_rfl) ?_
 refine wp_seq ?_
 refine wl_region ?_
 refine zwv (iN .i64 1) ?_
 refine wl_nil ?_
 refine then_at rfl ?_
 refine wp_ret ?_
 repeat first | refine then_ret ?_ | refine block_ret ?_
 exact bodyPost_ret (v := iN .i64 1) (by kernel_rfl) rfl ⟨rfl, h2.old.old⟩
set_option linter.unusedVariables false in
set_option maxRecDepth 100000 in
set_option maxHeartbeats 2000000 in
theorem List_zero {w : World} {q : Nat} (hq : Blk w q 73 #[.pointer none, .map none, iN .i64 0, iN .i64 0]) (p : ByteArray) :
  Calls Tryz.prog 27 #[pt q, .string p] w fun e w' => e = .returned (.slice none 0 0) ∧ Below w.heap.size w w' := by
 have H0 := HA.start w
 go_enter Tryz.func27, Tryz.ntmps27
 refine wp_seq ?_
 refine wl_region ?_
 refine zwv (.slice none 0 0) ?_
 refine wl_nil ?_
 refine then_at rfl ?_
 refine wp_seq ?_
 refine wp_seq ?_
 refine wl_region ?_
 refine zwv (.pointer (some ⟨q, 0, none⟩)) ?_
 refine wl_call (v := .bool true) H0 (by kernel_rfl) enter47 #[.pointer (some ⟨q, 0, none⟩)] (by kernel_rfl) (snone_zero (hq.keep H0.old.old)) ?_
 intro w1 h2
 refine wl_nil ?_
 refine then_at rfl ?_
 refine wp_cond_true (by kernel_rfl) ?_
 refine wp_seq ?_
 refine wl_region ?_
 refine zwv (.slice none 0 0) ?_
 refine wl_nil ?_
 refine then_at rfl ?_
 refine wp_ret ?_
 repeat first | refine then_ret ?_ | refine block_ret ?_
 exact bodyPost_ret (v := .slice none 0 0) (by kernel_rfl) rfl ⟨rfl, h2.old.old⟩
set_option linter.unusedVariables false in
set_option maxRecDepth 100000 in
set_option maxHeartbeats 2000000 in
theorem Read_nil (s : ByteArray) (w : World) :
  Calls Tryz.prog 22 #[.pointer none, .string s] w fun e w' => e = .returned (.tuple #[.string { data := #[] }, iN .i64 1]) ∧ Below w.heap.size w w' := by
 have H0 := HA.start w
 go_enter Tryz.func22, Tryz.ntmps22
 refine wp_seq ?_
 refine wl_region ?_
 refine zwv (.string ({ data := #[] })) ?_
 refine zwv (iN .i64 0) ?_
 refine wl_nil ?_
 refine then_at rfl ?_
 refine wp_seq ?_
 refine wp_seq ?_
 refine wl_region ?_
 refine zwv (.pointer none) ?_
 refine wl_call (v := iN .i64 1) H0 (by kernel_rfl) enter46 #[.pointer none] (by kernel_rfl) (refused_nil w) ?_
 intro w1 h2
 refine zwv (iN .i64 1) ?_
 refine wl_nil ?_
 refine then_at rfl ?_
 refine wp_seq ?_
 refine wl_region ?_
 refine zwv (iN .i64 1) ?_
 refine zwx (.bool true) (run_nei (k := .i64) (a := 1) (b := 0) (by kernel_rfl) (by kernel_rfl) true (by decide)) ?_
 refine wl_nil ?_
 refine then_at rfl ?_
 refine wp_cond_true (by kernel_rfl) ?_
 refine wp_seq ?_
 refine wl_region ?_
 refine zwv (iN .i64 1) ?_
 refine zwv (.string ({ data := #[] })) ?_
 refine zwv (iN .i64 1) ?_
 refine wl_nil ?_
 refine then_at rfl ?_
 refine wp_ret ?_
 repeat first | refine then_ret ?_ | refine block_ret ?_
 exact bodyPost_ret (v := .tuple #[.string { data := #[] }, iN .i64 1]) (by kernel_rfl) rfl ⟨rfl, h2.old.old⟩
set_option linter.unusedVariables false in
set_option maxRecDepth 100000 in
set_option maxHeartbeats 2000000 in
theorem Open_nil (w : World) :
  Calls Tryz.prog 13 #[.pointer none] w fun e w' => e = .returned (.tuple #[.pointer none, iN .i64 1]) ∧ Below w.heap.size w w' := by
 have H0 := HA.start w
 go_enter Tryz.func13, Tryz.ntmps13
 refine wp_seq ?_
 refine wl_region ?_
 refine zwv (.pointer none) ?_
 refine zwv (iN .i64 0) ?_
 refine wl_nil ?_
 refine then_at rfl ?_
 refine wp_seq ?_
 refine wl_region ?_
 refine zwv (.pointer none) ?_
 refine wl_call (v := .tuple #[.string ({ data := #[] }), iN .i64 1]) H0 (by kernel_rfl) enter22 #[.pointer none, .string ({ data := #[115] })] (by kernel_rfl) (Read_nil _ w) ?_
 intro w1 h2
 refine zwv (.tuple #[.string ({ data := #[] }), iN .i64 1]) ?_
 refine zwv (.string ({ data := #[] })) ?_
 refine zwv (iN .i64 1) ?_
 refine zwv (.string ({ data := #[] })) ?_
 refine zwv (iN .i64 1) ?_
 refine wl_nil ?_
 refine then_at rfl ?_
 refine wp_seq ?_
 refine wp_seq ?_
 refine wl_region ?_
 refine zwv (iN .i64 1) ?_
 refine zwx (.bool true) (run_nei (k := .i64) (a := 1) (b := 0) (by kernel_rfl) (by kernel_rfl) true (by decide)) ?_
 refine zwv (.bool true) ?_
 refine zwv (iN .i64 1) ?_
 refine zwx (.bool true) (run_nei (k := .i64) (a := 1) (b := 5) (by kernel_rfl) (by kernel_rfl) true (by decide)) ?_
 refine zwv (.bool true) ?_
 refine wl_nil ?_
 refine then_at rfl ?_
 refine wp_cond_true (by kernel_rfl) ?_
 refine wp_seq ?_
 refine wl_region ?_
 refine zwv (iN .i64 1) ?_
 refine zwv (.pointer none) ?_
 refine zwv (iN .i64 1) ?_
 refine wl_nil ?_
 refine then_at rfl ?_
 refine wp_ret ?_
 repeat first | refine then_ret ?_ | refine block_ret ?_
 exact bodyPost_ret (v := .tuple #[.pointer none, iN .i64 1]) (by kernel_rfl) rfl ⟨rfl, h2.old.old⟩
theorem read_S {w0 : World} {M : ML} {s : Sk} {S : SS} {L : BL} {w : World} (h : SH w0 M s S L w) (nm : ByteArray) : Calls Tryz.prog 22 #[pt s.d.q, .string nm] w fun e w' => e = .returned (.tuple #[.string (readD S.D nm).1, iN .i64 (readD S.D nm).2]) ∧ Below w.heap.size w w' := by
 obtain ⟨rs, nx, h1, h2, hD⟩ := h
 exact Read_any hD nm
theorem app_S {w0 : World} {M : ML} {s : Sk} {S : SS} {L : BL} {w : World} (h : SH w0 M s S L w) {R N : Nat} (hg : DG S.D R N) (hN : N ≤ 100000000) (nm fr : ByteArray) (hR : R + fr.size ≤ 1000000000) : Calls Tryz.prog 24 #[pt s.d.q, .string nm, .string fr] w fun e w' => e = .returned (iN .i64 (AppendD S.D nm fr).2) ∧ SH w0 M s ⟨(AppendD S.D nm fr).1, S.rows, S.size⟩ L w' := by
 obtain ⟨rs, nx, h1, h2, hD⟩ := h
 exact (Append_any hD nm fr hg.db (by omega) (by omega)).mono fun e w' hr => ⟨hr.1, rs, nx, h1, h2, hr.2⟩
theorem opn_S {w0 : World} {M : ML} {s : Sk} {S : SS} {L : BL} {w : World} (h : SH w0 M s S L w) {R N : Nat} (hg : DG S.D R N) (hN : N ≤ 10000000) (hR : R ≤ 300000000) (hlg : (lgD S.D).size ≤ 600000000) {er : Nat} (h0 : (opnS S.D).2 = er) (he : er ≠ 0) : Calls Tryz.prog 13 #[pt s.d.q] w fun e w' => e = .returned (.tuple #[.pointer none, iN .i64 er]) ∧ SH w0 M s ⟨(opnS S.D).1.D, S.rows, S.size⟩ L w' := by
 obtain ⟨rs, nx, h1, h2, hD⟩ := h
 exact (Open_no hD hg hN hR hlg h0 he).mono fun e w' hr => ⟨hr.1, rs, nx, h1, h2, hr.2⟩
/-! a log does not grow without an end -/
def pz : Rw := ⟨bK, zB 100⟩
theorem pz_sz : rsz pz = 109 := by
 unfold rsz
 show 8 + bK.size + (zB 100).size = 109
 rw [zB_size]; rfl
theorem pz_put {l : List Rw} (h : l = [] ∨ l = [pz]) : putR l pz = [pz] := by
 rcases h with rfl | rfl
 ·rfl
 ·unfold putR dropR; simp
structure Pk (S : SS) (i : Nat) : Prop where
 g : ∃ cs a b, Gd S cs a b (2000 + 117 * i)
 dg : DG S.D 1048576 (4 + 20 * i)
 ro : roomD S.D = 1048576
 lf : S.D.left = 0
 rw : S.rows = [] ∨ S.rows = [pz]
theorem Pk.rb {S : SS} {i : Nat} (h : Pk S i) : RB S.rows 10 := by
 obtain ⟨cs, a, b, g⟩ := h.g
 exact RB.of g.ro (by rcases h.rw with e | e <;> rw [e] <;> decide)
theorem Pk.size {S : SS} {i : Nat} (h : Pk S i) : S.size ≤ 2000 + 117 * i := by
 obtain ⟨cs, a, b, g⟩ := h.g
 rw [g.sz, ← g.len]
 exact g.la
theorem Pk.new : Pk (opnS ⟨[], 1048576, 0, false, []⟩).1 0 := by
 obtain ⟨o1, o2, o3, g⟩ := opn_new 1048576 2000
 have hg0 : DG ⟨[], 1048576, 0, false, []⟩ 1048576 0 := DG.new (by decide)
 exact ⟨⟨_, _, _, g⟩, hg0.opnS, by rw [o2]; simp [roomD, used], by rw [o2], .inl o3⟩
theorem rd_size {S : SS} {cs : List Chg} {a b : Fi} {B : Nat} (h : Gd S cs a b B) : (readD S.D nS).1.size = S.size := by
 unfold readD
 rw [if_neg (by rw [h.up]; decide), h.v.s, h.sz]
 rcases h.fa with ⟨rfl, rfl⟩ | rfl
 ·rfl
 ·show (logB cs).toArray.size = _
  rw [List.size_toArray]
theorem Pk.step {S : SS} {i : Nat} (h : Pk S i) (hi : i < 60) : (DoS S [pz] []).2 = 0 ∧ Pk (DoS S [pz] []).1 (i + 1) ∧ (readD (DoS S [pz] []).1.D nS).1.size ≤ 1375 := by
 have hr : refR [pz] [] = 0 := by
  rw [ref_one]
  have h1 := zB_size 100
  rw [if_neg (by show ¬ bK.size = 0; decide), if_neg (by show ¬ (64 < bK.size ∨ 262144 < (zB 100).size); rw [h1]; decide)]
 have hc : ChOk [pz] [] := ⟨hr, by decide⟩
 have hf : (frameB [pz] []).length = 117 := by rw [frame_one, pz_sz]
 have hp := pz_put h.rw
 obtain ⟨cs, a, b, g⟩ := h.g
 have hpl : (packL [pz]).length = 117 := by
  rw [packL_len (l := [pz]) (by simp)]
  have : laidR [pz] = 109 := by simp [laidR, pz_sz]
  rw [this]; rfl
 have hps : (packL S.rows).length ≤ 117 := by
  rcases h.rw with e | e
  ·rw [e, packL_len (l := []) List.nodup_nil]; decide
  ·rw [e, hpl]; exact Nat.le_refl _
 have hpk : (packL (applyR S.rows [pz] [])).length ≤ 2000 + 117 * i + (frameB [pz] []).length := by
  rw [one_apply, hp, hpl]; omega
 have hro := h.ro
 have hro2 : 2000 + 117 * i + (2000 + 117 * i) + (frameB [pz] []).length ≤ roomD S.D := by rw [hro, hf]; omega
 obtain ⟨e1, e2, e3, cs', a', b', g'⟩ := do_ok hc g h.dg h.lf hro2 hpk
 have hl := do_len hc g h.dg h.lf hro2 e1
 refine ⟨e1, ⟨⟨cs', a', b', g'.mono (by omega)⟩, (h.dg.doS [pz] []).mono (by omega), (room_do h.dg [pz] []).trans hro, e2, .inr (by rw [e3, one_apply, hp])⟩, ?_⟩
 rw [rd_size g']
 omega
theorem zcv {l : List UInt8} {n : Nat} (h : l.length = n) : (⟨(l.take n).toArray⟩ : ByteArray) = ⟨l.toArray⟩ := by rw [List.take_of_length_le (by omega)]
section
variable {ρ : Operand → Value} {x y : Operand} {w : World} {dst : Option Tmp} {ty : TypeId} {pos : String} {aft : Array Edge} {gd : Option (Nat × Bool)}
theorem run_sl30 {a : Option Addr} {n cap m : Nat} (hx : ρ x = .slice a n cap) (hy : ρ y = iN .i64 m) (hm : m ≤ cap) : (execOp ρ ⟨dst, .slice 30 x none (some y) none, ty, pos, aft, gd⟩).run Tryz.prog w = .ok (.value (.slice a m cap)) w := by
 have ha : a.map (·.add 0) = a := by
  cases a with
  | none => rfl
  | some b => cases b; simp [Addr.add]
 simp only [execOp, hx, iN] at hy ⊢
 simp [Instr.sliceAt, Instr.slice, Instr.sliceBounds, Instr.sliceBound, run_underlying Tryz.underlying30, Tryz.sizeOf64, hy, asIntOf, hm, ha]
end
set_option linter.unusedVariables false in
set_option maxRecDepth 100000 in
set_option maxHeartbeats 4000000 in
theorem packs_any (w : World) :
  Calls Tryz.prog 25 #[] w fun e w' => e = .returned (.bool true) ∧ Below w.heap.size w w' := by
 have H0 := HA.start w
 have hPk0 := Pk.new
 go_enter Tryz.func25, Tryz.ntmps25
 refine wp_seq ?_
 refine wl_region ?_
 refine zwv (.bool false) ?_
 refine wl_nil ?_
 refine then_at rfl ?_
 refine wp_seq ?_
 refine wl_region ?_
 refine wl_callx (by kernel_rfl) enter7 #[iN .i64 1048576] (by kernel_rfl) (New_any 1048576 H0) ?_
 rintro _ w1 ⟨d, rfl, hD0⟩
 refine ⟨_, rfl, ?_⟩
 have hD1 : DH w [] d ⟨[], 1048576, 0, false, []⟩ [] w1 := hD0
 obtain ⟨z2, X3, hcl4, hbe5, h6⟩ := DH.front hD1
 have h7 : HA z2 ([] ++ X3) w1 := h6
 refine zwv (.pointer (some ⟨d.q, 0, none⟩)) ?_
 refine wl_nil ?_
 refine then_at rfl ?_
 refine wp_seq ?_
 refine wl_region ?_
 refine zwv (.pointer (some ⟨d.q, 0, none⟩)) ?_
 refine wl_callx (by kernel_rfl) enter13 #[.pointer (some ⟨d.q, 0, none⟩)] (by kernel_rfl) (Open_d (hcl4 ([]) _ h7) (DG.new (by decide)) (by decide) (by decide) (by rw [lg_new]; decide) (opn_new 1048576 0).1) ?_
 rintro _ w8 ⟨sq, sr, rfl, hO⟩
 refine ⟨_, rfl, ?_⟩
 generalize (opnS ⟨[], 1048576, 0, false, []⟩).1 = S0 at hO hPk0
 obtain ⟨m9, X9, hc9, rs9, nx9, hrs9, hK9, hH9⟩ := SH.opn hO
 have h10 : HA ⟨w, m9 :: (sr, .mp (eR rs9) nx9) :: []⟩ ((sq, 73, scell d.q sr ((laidR S0.rows)) S0.size) :: ([] ++ X9)) w8 := hH9
 refine zwv (.tuple #[.pointer (some ⟨sq, 0, none⟩), iN .i64 0]) ?_
 refine zwv (.pointer (some ⟨sq, 0, none⟩)) ?_
 refine zwv (iN .i64 0) ?_
 refine zwv (.pointer (some ⟨sq, 0, none⟩)) ?_
 refine zwv (iN .i64 0) ?_
 refine wl_nil ?_
 refine then_at rfl ?_
 refine wp_seq ?_
 refine wp_seq ?_
 refine wl_region ?_
 refine zwv (iN .i64 0) ?_
 refine zwx (.bool false) (run_nei (k := .i64) (a := 0) (b := 0) (by kernel_rfl) (by kernel_rfl) false (by decide)) ?_
 refine wl_nil ?_
 refine then_at rfl ?_
 refine wp_cond_false (by kernel_rfl) ?_
 refine wp_skip ?_
 refine then_at rfl ?_
 refine wp_seq ?_
 refine wp_seq ?_
 refine wl_region ?_
 refine zwv (iN .i64 0) ?_
 refine wl_nil ?_
 refine then_at rfl ?_
 refine wp_block ?_
 refine wp_count (fun i AQ w' => ∃ (S : SS) (u11 : Nat → Value), AQ = ⟨(u11 0 :: pt d.q :: pt sq :: iN .i64 0 :: iN .i64 i :: u11 5 :: u11 6 :: pt d.q :: .tuple #[pt sq, iN .i64 0] :: pt d.q :: .tuple #[pt sq, iN .i64 0] :: pt sq :: iN .i64 0 :: iN .i64 0 :: .bool false :: u11 15 :: u11 16 :: u11 17 :: u11 18 :: u11 19 :: u11 20 :: u11 21 :: u11 22 :: u11 23 :: u11 24 :: u11 25 :: u11 26 :: u11 27 :: u11 28 :: u11 29 :: u11 30 :: u11 31 :: u11 32 :: u11 33 :: List.replicate 0 un).toArray, []⟩ ∧ Pk S i ∧ SH w [] ⟨sq, sr, d⟩ S [] w') 60 ?_ ?_ ?_
 ·exact ⟨S0, fun ii => (([(0, .bool false), (5, undef), (6, undef), (15, undef), (16, undef), (17, undef), (18, undef), (19, undef), (20, undef), (21, undef), (22, undef), (23, undef), (24, undef), (25, undef), (26, undef), (27, undef), (28, undef), (29, undef), (30, undef), (31, undef), (32, undef), (33, undef)] : List (Nat × Value)).find? (·.1 == ii)).elim undef (·.2), by kernel_rfl, hPk0, (hc9 _ _ ([]) _ ⟨_, _, hrs9, hK9, h10⟩)⟩
 ·rintro i hi _ w12 ⟨S, u11, rfl, hPk, hS⟩
  obtain ⟨m13, X13, hc13, rs13, nx13, hrs13, hK13, hH13⟩ := SH.opn hS
  have h14 : HA ⟨w, m13 :: (sr, .mp (eR rs13) nx13) :: []⟩ ((sq, 73, scell d.q sr ((laidR S.rows)) S.size) :: ([] ++ X13)) w12 := hH13
  obtain ⟨hdo, hPk2, hrd⟩ := hPk.step hi
  refine wp_seq ?_
  refine wp_seq ?_
  refine wl_region ?_
  refine zwv (iN .i64 i) ?_
  refine zwx (.bool true) (run_lss (k := .i64) (a := i) (b := 60) (by kernel_rfl) (by kernel_rfl) true (decide_eq_true (by omega))) ?_
  refine wl_nil ?_
  refine then_at rfl ?_
  refine wp_cond_true (by kernel_rfl) ?_
  refine wp_skip ?_
  refine then_at rfl ?_
  refine wp_seq ?_
  refine wp_block ?_
  refine wp_seq ?_
  refine wp_seq ?_
  refine wl_region ?_
  refine zwv (.pointer (some ⟨sq, 0, none⟩)) ?_
  refine wl_mks (n := 100) (m := 100) (c := bc (zN 100)) h14 5 (by kernel_rfl) (run_mk (k := .i64) (m := 100) (c := 100) (by kernel_rfl) (by kernel_rfl) (Nat.le_refl _) (by decide)) ?_
  intro q15 w16 (h17 : HA ⟨w, m13 :: (sr, .mp (eR rs13) nx13) :: []⟩ ((q15, 5, bc (zN 100)) :: (sq, 73, scell d.q sr ((laidR S.rows)) S.size) :: ([] ++ X13)) w16)
  refine zwx (.string (zB 100)) (((run_textg (m := 100) (c := 100) (l := zN 100) (by kernel_rfl) (h17.get 0 rfl) (by rw [zN_len]; exact Nat.le_refl _)).trans (by rw [zcv (zN_len 100)]; rfl))) ?_
  refine wl_call (v := rwv ⟨bK, zB 100⟩) h17 (by kernel_rfl) enter21 #[.string bK, .string (zB 100)] (by kernel_rfl) (row_any _ _ w16) ?_
  intro w18 h19
  refine wl_mks (n := 1) (m := 1) (c := #[.string bK, .string (zB 100)]) h19 64 (by kernel_rfl) (by kernel_rfl) ?_
  intro q20 w21 (h22 : HA ⟨w, m13 :: (sr, .mp (eR rs13) nx13) :: []⟩ ((q20, 64, #[.string bK, .string (zB 100)]) :: (q15, 5, bc (zN 100)) :: (sq, 73, scell d.q sr ((laidR S.rows)) S.size) :: ([] ++ X13)) w21)
  refine wl_callx (by kernel_rfl) enter17 #[.pointer (some ⟨sq, 0, none⟩), .slice (some ⟨q20, 0, none⟩) 1 1, .slice none 0 0] (by kernel_rfl) (by have h9 := Do_any (hc13 _ _ ((q20, 64, #[.string bK, .string (zB 100)]) :: (q15, 5, bc (zN 100)) :: []) _ ⟨_, _, hrs13, hK13, (HA.perm h22 (List.perm_middle (l₁ := ([(q20, 64, #[.string bK, .string (zB 100)]), (q15, 5, bc (zN 100))] : BL))))⟩) hPk.dg (by omega) hPk.rb (by decide) (by decide) (po := some ⟨q20, 0, none⟩) (pc := 1) (do_ := none) (dc := 0) (ps := [pz]) (ds := []) (PV.blk (ps := [pz]) (List.mem_of_getElem? (i := 0) rfl)) (DV.nil none) (by decide) (by decide) (by have := hPk.size; show S.size ≤ 1000000000000; omega); rw [hdo] at h9; exact h9) ?_
  rintro _ w23 ⟨rfl, hP⟩
  refine ⟨_, rfl, ?_⟩
  generalize (DoS S [pz] []).1 = S2 at hP hPk2 hrd
  obtain ⟨m24, X24, hc24, rs24, nx24, hrs24, hK24, hH24⟩ := SH.opn hP
  have h25 : HA ⟨w, m24 :: (sr, .mp (eR rs24) nx24) :: []⟩ ((sq, 73, scell d.q sr ((laidR S2.rows)) S2.size) :: (q20, 64, #[.string bK, .string (zB 100)]) :: (q15, 5, bc (zN 100)) :: ([] ++ X24)) w23 := hH24
  refine zwx (.bool false) (run_nei (k := .i64) (a := 0) (b := 0) (by kernel_rfl) (by kernel_rfl) false (by decide)) ?_
  refine wl_nil ?_
  refine then_at rfl ?_
  refine wp_cond_false (by kernel_rfl) ?_
  refine wp_skip ?_
  refine then_at rfl ?_
  refine wp_seq ?_
  refine wl_region ?_
  refine zwv (.pointer (some ⟨d.q, 0, none⟩)) ?_
  refine wl_call (v := .tuple #[.string ((readD S2.D nS).1), iN .i64 ((readD S2.D nS).2)]) h25 (by kernel_rfl) enter22 #[.pointer (some ⟨d.q, 0, none⟩), .string nS] (by kernel_rfl) (read_S (hc24 _ _ ((q20, 64, #[.string bK, .string (zB 100)]) :: (q15, 5, bc (zN 100)) :: []) _ ⟨_, _, hrs24, hK24, h25⟩) nS) ?_
  intro w26 h27
  refine zwv (.tuple #[.string ((readD S2.D nS).1), iN .i64 ((readD S2.D nS).2)]) ?_
  refine zwv (.string ((readD S2.D nS).1)) ?_
  refine zwv (iN .i64 ((readD S2.D nS).2)) ?_
  refine zwv (.string ((readD S2.D nS).1)) ?_
  refine zwv (iN .i64 ((readD S2.D nS).2)) ?_
  refine wl_nil ?_
  refine then_at rfl ?_
  refine wp_seq ?_
  refine wl_region ?_
  refine zwv (.string ((readD S2.D nS).1)) ?_
  refine wl_val (iN .i64 (((readD S2.D nS).1).size)) (by kernel_rfl) (run_len (s := (readD S2.D nS).1) (by kernel_rfl)) ?_
  refine zwx (.bool false) (run_gtr (k := .i64) (a := ((readD S2.D nS).1).size) (b := 1375) (by kernel_rfl) (by kernel_rfl) false (decide_eq_false (by omega))) ?_
  refine wl_nil ?_
  refine then_at rfl ?_
  refine wp_cond_false (by kernel_rfl) ?_
  refine wp_skip ?_
  refine block_normal ?_
  refine then_at rfl ?_
  refine wl_region ?_
  refine zwv (iN .i64 i) ?_
  refine zwx (iN .i64 (i + 1)) (run_add (k := .i64) (a := i) (b := 1) (by kernel_rfl) (by kernel_rfl) (by first | omega | (simp only [top]; omega))) ?_
  refine zwv (iN .i64 (i + 1)) ?_
  refine wl_nil ?_
  exact then_I ⟨S2, fun ii => (([(0, u11 0), (5, .string ((readD S2.D nS).1)), (6, iN .i64 ((readD S2.D nS).2)), (15, iN .i64 i), (16, .bool true), (17, iN .i64 i), (18, iN .i64 (i + 1)), (19, .pointer (some ⟨sq, 0, none⟩)), (20, .slice (some ⟨q15, 0, none⟩) 100 100), (21, .string (zB 100)), (22, rwv ⟨bK, zB 100⟩), (23, .slice (some ⟨q20, 0, none⟩) 1 1), (24, iN .i64 0), (25, .bool false), (26, .tuple #[.string ((readD S2.D nS).1), iN .i64 ((readD S2.D nS).2)]), (27, .pointer (some ⟨d.q, 0, none⟩)), (28, .tuple #[.string ((readD S2.D nS).1), iN .i64 ((readD S2.D nS).2)]), (29, .string ((readD S2.D nS).1)), (30, iN .i64 ((readD S2.D nS).2)), (31, .string ((readD S2.D nS).1)), (32, iN .i64 (((readD S2.D nS).1).size)), (33, .bool false)] : List (Nat × Value)).find? (·.1 == ii)).elim undef (·.2), by kernel_rfl, hPk2, SH.sub (hc24 _ _ ((q20, 64, #[.string bK, .string (zB 100)]) :: (q15, 5, bc (zN 100)) :: []) _ ⟨_, _, hrs24, hK24, h27⟩) (List.nil_sublist _)⟩
 ·rintro _ w28 ⟨S, u11, rfl, hPk, hS⟩
  obtain ⟨m29, X29, hc29, rs29, nx29, hrs29, hK29, hH29⟩ := SH.opn hS
  have h30 : HA ⟨w, m29 :: (sr, .mp (eR rs29) nx29) :: []⟩ ((sq, 73, scell d.q sr ((laidR S.rows)) S.size) :: ([] ++ X29)) w28 := hH29
  refine wp_seq ?_
  refine wp_seq ?_
  refine wl_region ?_
  refine zwv (iN .i64 60) ?_
  refine zwx (.bool false) (run_lss (k := .i64) (a := 60) (b := 60) (by kernel_rfl) (by kernel_rfl) false (by decide)) ?_
  refine wl_nil ?_
  refine then_at rfl ?_
  refine wp_cond_false (by kernel_rfl) ?_
  refine wp_exit ?_
  repeat first | refine then_exit ?_ | refine block_exit ?_ | refine block_exit_ne (by decide) ?_
  refine then_at rfl ?_
  refine wp_seq ?_
  refine wl_region ?_
  refine zwv (.bool true) ?_
  refine wl_nil ?_
  refine then_at rfl ?_
  refine wp_ret ?_
  repeat first | refine then_ret ?_ | refine block_ret ?_
  exact bodyPost_ret (v := .bool true) (by kernel_rfl) rfl ⟨rfl, h30.old.old⟩
end Go.Proofs.YtckmlaempffpjaaGreat
