/-
 The reference's store: packed, List.
-/
import Derived.Test.YtckmlaempffpjaaGreatGQ2
namespace Go.Proofs.YtckmlaempffpjaaGreat
set_option linter.unusedVariables false
set_option maxRecDepth 100000
set_option maxHeartbeats 2000000
open Go.RowKit Go.Proofs.Tryz
theorem zsz (l : List UInt8) : (⟨l.toArray⟩ : ByteArray).size = l.length := by show l.toArray.size = _; simp
theorem zcat (a b : List UInt8) : (⟨a.toArray⟩ : ByteArray) ++ ⟨b.toArray⟩ = ⟨(a ++ b).toArray⟩ := by
 have h := Wi.str_append a ⟨b.toArray⟩;have e : (⟨b.toArray⟩ : ByteArray).data.toList = b := by simp
 rw [e] at h;exact h
theorem rpk_any {w : World} {rm nf cf lf nz cz : Nat} {pf pz : Option Addr} {dn : Bool} {o : Option Addr} {c : Nat} {ls : List Rw} (hP : RowsAt w o ls) (hl : ls.length ≤ 1000000) (hlc : ls.length ≤ c) (hla : laidR ls ≤ 500000000) :
  Calls prog 84 #[.agg (d6 rm pf nf cf dn lf pz nz cz o ls.length c)] w fun e w' => e = .returned (.string ⟨(pkO ls ((ls.length + 63) / 64)).toArray⟩) ∧ Below w.heap.size w w' := by
 have H0 := HA.start w
 go_enter Tryz.func84, Tryz.ntmps84
 refine zsr ?_;refine wl_make (c := (d6 rm pf nf cf dn lf pz nz cz o ls.length c)) H0 32 ?_;intro q1 w2 h3;refine zwv (.string ({ data := #[] })) ?_;refine znt (zsr ?_);refine zwv (.string ({ data := #[] })) ?_;refine znt (wp_seq (zsr ?_));refine zwv (i6 0) ?_;refine znt ?_;refine wp_block ?_;refine zcn (fun Z0 k A w' => ∃ u4 : Nat → Value, A = pts Z0 [(3, u4 3), (4, i6 (64 * k)), (5, u4 5), (6, u4 6), (7, u4 7), (8, u4 8), (9, u4 9), (10, u4 10), (11, u4 11), (12, u4 12), (13, u4 13), (14, u4 14), (15, u4 15), (16, u4 16), (17, u4 17), (18, u4 18), (19, u4 19), (20, u4 20), (21, u4 21), (22, u4 22), (23, u4 23), (24, u4 24)] ∧ u4 3 = .string (⟨(pkO ls k).toArray⟩ : ByteArray) ∧ HA (bs w) [(q1, 32, (d6 rm pf nf cf dn lf pz nz cz o ls.length c))] w') ((ls.length + 63) / 64) ?_ ?_ ?_
 ·exact zey [(3, .string ({ data := #[] }))] ⟨rfl, h3⟩
 ·rintro k hk _ w5 ⟨u4, rfl, hU, hL⟩;rw [hU];have h64 : 64 * k < ls.length := by omega
  obtain ⟨x, hx⟩ : ∃ x, ls[64 * k]? = some x := ⟨_, List.getElem?_eq_getElem h64⟩;obtain ⟨oa, hoa, hx0, hx1⟩ := hP (64 * k) x hx;have hpl := piece_ln ls k;have hpi := laid_sub (piece_sub ls k);have hbo := body_one (pieceR ls k);have hfo := frame_len (pieceR ls k);have hpk := pkO_le ls k;refine wp_seq (zsr ?_);refine zwv (i6 (64 * k)) ?_;refine zwv (.pointer (some ⟨q1, 5, none⟩)) ?_;refine zwu (v := .slice o ls.length c) (run_load1 isAgg30 (((hL.get 0 rfl).cell 5).trans rfl)) ?_;refine zwv (i6 ls.length) ?_;refine zwu (run_lss (k := .i64) (a := 64 * k) (b := ls.length) true (dt (by omega))) ?_;refine znt (zct (wp_skip (zt (wp_seq ?_))));refine wp_block ?_;refine wl_region ?_;refine zwv (.string ((⟨(pkO ls k).toArray⟩ : ByteArray))) ?_;refine zwv (.pointer (some ⟨q1, 5, none⟩)) ?_;refine zwu (v := .slice o ls.length c) (run_load1 isAgg30 (((hL.get 0 rfl).cell 5).trans rfl)) ?_;refine zwv (i6 (64 * k)) ?_;refine zwv (i6 (64 * k)) ?_;refine zwu (run_add (k := .i64) (a := 64 * k) (b := 64) (by first | omega | (simp only [top]; omega))) ?_;refine zwv (.pointer (some ⟨q1, 5, none⟩)) ?_;refine zwu (v := .slice o ls.length c) (run_load1 isAgg30 (((hL.get 0 rfl).cell 5).trans rfl)) ?_;refine zwv (i6 ls.length) ?_;refine zwu (run_min (i := (64 * k) + 64) (j := ls.length)) ?_;refine zwu (run_slb (a := oa) (n := ls.length) (cap := c) (i := 64 * k) (e := min (64 * k + 64) ls.length) (by rw [← hoa]; kernel_rfl) (by kernel_rfl) (by kernel_rfl) (by omega) (by omega)) ?_;refine wl_call (v := .string ((⟨(frameB (pieceR ls k) []).toArray⟩ : ByteArray))) hL enter85 #[.slice (some (oa.add (64 * k * 2))) (min (64 * k + 64) ls.length - 64 * k) (c - 64 * k), .slice none 0 0] (by have h9 := rfr_any (po := some (oa.add (64 * k * 2))) (pc := c - 64 * k) (do_ := none) (dc := 0) (piece_at (by rw [← hoa]; exact hP.keep hL.old.old) k) (ds := []) (fun i x hi => by simp at hi) (by omega) (by decide) (by omega); rw [hpl] at h9; exact h9) ?_;intro w6 h7;refine zwu (v := .string ((⟨(pkO ls k ++ frameB (pieceR ls k) []).toArray⟩ : ByteArray))) ((run_cat (s := (⟨(pkO ls k).toArray⟩ : ByteArray)) (t := (⟨(frameB (pieceR ls k) []).toArray⟩ : ByteArray)) (by kernel_rfl) (by kernel_rfl) (by rw [zsz, zsz]; omega)).trans (by rw [zcat])) ?_;refine zwv (.string ((⟨(pkO ls k ++ frameB (pieceR ls k) []).toArray⟩ : ByteArray))) ?_;refine wl_nil ?_;refine block_normal ?_;refine zt (wl_region ?_);refine zwv (i6 (64 * k)) ?_;refine zwu (run_add (k := .i64) (a := 64 * k) (b := 64) (by first | omega | (simp only [top]; omega))) ?_;refine zwv (i6 ((64 * k) + 64)) ?_;refine wl_nil ?_;exact then_I ⟨lku (fun _ => undef) [(3, .string ((⟨(pkO ls k ++ frameB (pieceR ls k) []).toArray⟩ : ByteArray))), (5, i6 (64 * k)), (6, .pointer (some ⟨q1, 5, none⟩)), (7, .slice o ls.length c), (8, i6 ls.length), (9, .bool true), (10, i6 (64 * k)), (11, i6 ((64 * k) + 64)), (12, .string ((⟨(pkO ls k).toArray⟩ : ByteArray))), (13, .pointer (some ⟨q1, 5, none⟩)), (14, .slice o ls.length c), (15, i6 (64 * k)), (16, i6 (64 * k)), (17, i6 ((64 * k) + 64)), (18, .pointer (some ⟨q1, 5, none⟩)), (19, .slice o ls.length c), (20, i6 ls.length), (21, i6 (min ((64 * k) + 64) ls.length)), (22, .slice (some (oa.add (64 * k * 2))) (min (64 * k + 64) ls.length - 64 * k) (c - 64 * k)), (23, .string ((⟨(frameB (pieceR ls k) []).toArray⟩ : ByteArray))), (24, .string ((⟨(pkO ls k ++ frameB (pieceR ls k) []).toArray⟩ : ByteArray)))], (by rw [show 64 * (k + 1) = 64 * k + 64 by omega]; kernel_rfl), (by rw [pkO_succ]; rfl), h7⟩
 ·rintro _ w8 ⟨u4, rfl, hU, hL⟩;rw [hU];refine wp_seq (zsr ?_);refine zwv (i6 (64 * ((ls.length + 63) / 64))) ?_;refine zwv (.pointer (some ⟨q1, 5, none⟩)) ?_;refine zwu (v := .slice o ls.length c) (run_load1 isAgg30 (((hL.get 0 rfl).cell 5).trans rfl)) ?_;refine zwv (i6 ls.length) ?_;refine zwu (run_lss (k := .i64) (a := 64 * ((ls.length + 63) / 64)) (b := ls.length) false (df (by omega))) ?_;refine znt (zcf ?_);refine wp_exit ?_
  repeat first | refine then_exit ?_ | refine block_exit ?_ | refine block_exit_ne (by decide) ?_
  refine zt (zsr ?_);refine zwv (.string ((⟨(pkO ls ((ls.length + 63) / 64)).toArray⟩ : ByteArray))) ?_;refine zwv (.string ((⟨(pkO ls ((ls.length + 63) / 64)).toArray⟩ : ByteArray))) ?_;refine znt ?_;refine wp_ret ?_
  repeat first|refine zrt ?_|refine block_ret ?_
  exact zb ⟨rfl, hL.old.old⟩
theorem rlst_any {w : World} {rm nf cf lf nz cz : Nat} {pf pz : Option Addr} {dn : Bool} {o : Option Addr} {c : Nat} {ls : List Rw} (hP : RowsAt w o ls) (hl : ls.length ≤ 1000000) (p : ByteArray) :
  Calls prog 87 #[.agg (d6 rm pf nf cf dn lf pz nz cz o ls.length c), .string p] w fun e w' => ∃ v N, e = .returned v ∧ Row 9 1 v (lsO ls p).length (scl (lsO ls p)) N ∧ HA (bs w) N w' := by
 have H0 := HA.start w
 go_enter Tryz.func87, Tryz.ntmps87
 refine zsr ?_;refine wl_make (c := (d6 rm pf nf cf dn lf pz nz cz o ls.length c)) H0 32 ?_;intro q1 w2 h3;refine zwv (.slice none 0 0) ?_;refine znt (zsr ?_);refine zwv (.slice none 0 0) ?_;refine znt (wp_seq (zsr ?_));refine zwv (i6 0) ?_;refine znt ?_;refine wp_block ?_;refine zcn (fun Z0 k A w' => ∃ u4 : Nat → Value, A = pts Z0 [(5, u4 5), (6, i6 k), (7, u4 7), (8, u4 8), (9, u4 9), (10, u4 10), (11, u4 11), (12, u4 12), (13, u4 13), (14, u4 14), (15, u4 15), (16, u4 16), (17, u4 17), (18, u4 18), (19, u4 19), (20, u4 20), (21, u4 21), (22, u4 22), (23, u4 23), (24, u4 24), (25, u4 25), (26, u4 26), (27, u4 27), (28, u4 28), (29, u4 29), (30, u4 30), (31, u4 31), (32, u4 32), (33, u4 33), (34, u4 34), (35, u4 35), (36, u4 36), (37, u4 37)] ∧ ∃ v N, Row 9 1 v (lsO (ls.take k) p).length (scl (lsO (ls.take k) p)) N ∧ u4 5 = v ∧ HA (bs w) ((q1, 32, (d6 rm pf nf cf dn lf pz nz cz o ls.length c)) :: (N ++ [])) w') ls.length ?_ ?_ ?_
 ·exact zey [(5, .slice none 0 0)] ⟨_, [], Row.nil 9 1, rfl, h3⟩
 ·rintro k hk _ w5 ⟨u4, rfl, v, N, hR, rfl, hL⟩;obtain ⟨x, hx⟩ : ∃ x, ls[k]? = some x := ⟨_, List.getElem?_eq_getElem hk⟩;obtain ⟨oa, hoa, hx0, hx1⟩ := hP k x hx;rw [← aadd] at hx1;have hdl : (lsO (ls.take k) p).length ≤ k := Nat.le_trans (lsO_len _ _) (by rw [List.length_take]; omega);refine wp_seq (zsr ?_);refine zwv (i6 k) ?_;refine zwv (.pointer (some ⟨q1, 5, none⟩)) ?_;refine zwu (v := .slice o ls.length c) (run_load1 isAgg30 (((hL.get 0 rfl).cell 5).trans rfl)) ?_;refine zwv (i6 ls.length) ?_;refine zwu (run_lss (k := .i64) (a := k) (b := ls.length) true (dt (by omega))) ?_;refine znt (zct (wp_skip (zt (wp_seq ?_))));refine wp_block ?_;refine zsr ?_;refine zwv (.pointer (some ⟨q1, 5, none⟩)) ?_;refine zwu (v := .slice o ls.length c) (run_load1 isAgg30 (((hL.get 0 rfl).cell 5).trans rfl)) ?_;refine zwv (i6 k) ?_;refine zwu (v := .pointer (some (oa.add (k * 2)))) (run_addrT (o := o) (a := oa) (n := ls.length) (m := c) (i := k) hoa underlying30 sizeOf64 (by omega)) ?_;refine zwv (.pointer (some ((oa.add (k * 2)).add 0))) ?_;refine zwu (v := .string x.k) (run_load_at (b := (oa.add (k * 2)).add 0) isAgg9 (cell_old hL.old.old hx0)) ?_;refine zwv (.string x.k) ?_;refine znt (wp_seq ?_);have hpx := pfx_raw x.k p
  by_cases hsz : p.size ≤ x.k.size
  ·by_cases hex : x.k.extract 0 p.size = p
   ·have hpf : pfx x.k p = true := by rw [hpx, decide_eq_true hsz, decide_eq_true hex]; rfl
    refine wl_region ?_;refine zwv (.string x.k) ?_;refine zwu (run_len (s := x.k)) ?_;refine zwv (.string p) ?_;refine zwu (run_len (s := p)) ?_;refine zwu (run_geq (k := .i64) (a := x.k.size) (b := p.size) true (dt hsz)) ?_;refine zwv (.bool true) ?_;refine zwv (.string x.k) ?_;refine zwv (.string p) ?_;refine zwu (run_len (s := p)) ?_;refine zwu (v := .string (x.k.extract 0 p.size)) (run_cut_hi (s := x.k) (b := p.size) (by omega)) ?_;refine zwv (.string p) ?_;refine zwu (run_eqs (s := x.k.extract 0 p.size) (t := p) true (dt hex)) ?_;refine zwv (.bool true) ?_;refine znt (zct (wl_region ?_));refine zwv (u4 5) ?_;refine zwv (.string x.k) ?_;refine wl_mks (n := 1) (m := 1) (c := #[.string x.k]) hL 9 ?_;intro q6 w7 h8;have h9 := h8.perm (List.Perm.cons _ (perm_mv [(q1, 32, (d6 rm pf nf cf dn lf pz nz cz o ls.length c))] N []));refine wl_append (Lr := N) (L := [(q1, 32, (d6 rm pf nf cf dn lf pz nz cz o ls.length c))] ++ []) (m := 1) (c := 1) hR h9 (.string { data := #[] }) 16 underlying39 info9s rfl rfl (by unfold maxLen; omega) (by omega) ?_;intro v10 w11 N10 hR10 h12;have h13 : HA (bs w) ((q1, 32, (d6 rm pf nf cf dn lf pz nz cz o ls.length c)) :: (N10 ++ [])) w11 := h12.perm (perm_mv [(q1, 32, (d6 rm pf nf cf dn lf pz nz cz o ls.length c))] N10 []).symm;refine zwv (v10) ?_;refine wl_nil ?_;refine block_normal ?_;refine zt (wl_region ?_);refine zwv (i6 k) ?_;refine zwu (run_add (k := .i64) (a := k) (b := 1) (by first | omega | (simp only [top]; omega))) ?_;refine zwv (i6 (k + 1)) ?_;refine wl_nil ?_;exact then_I (zey [(5, v10)] ⟨_, N10, (by rw [lsO_take hx, if_pos hpf, scl_snoc, List.length_append]; exact hR10), rfl, h13⟩)
   ·have hpf : ¬ pfx x.k p = true := by rw [hpx, decide_eq_false hex, Bool.and_false]; decide
    refine wl_region ?_;refine zwv (.string x.k) ?_;refine zwu (run_len (s := x.k)) ?_;refine zwv (.string p) ?_;refine zwu (run_len (s := p)) ?_;refine zwu (run_geq (k := .i64) (a := x.k.size) (b := p.size) true (dt hsz)) ?_;refine zwv (.bool true) ?_;refine zwv (.string x.k) ?_;refine zwv (.string p) ?_;refine zwu (run_len (s := p)) ?_;refine zwu (v := .string (x.k.extract 0 p.size)) (run_cut_hi (s := x.k) (b := p.size) (by omega)) ?_;refine zwv (.string p) ?_;refine zwu (run_eqs (s := x.k.extract 0 p.size) (t := p) false (df hex)) ?_;refine zwv (.bool false) ?_;refine znt (zcf (wp_skip ?_));refine block_normal ?_;refine zt (wl_region ?_);refine zwv (i6 k) ?_;refine zwu (run_add (k := .i64) (a := k) (b := 1) (by first | omega | (simp only [top]; omega))) ?_;refine zwv (i6 (k + 1)) ?_;refine wl_nil ?_;exact then_I (zey [(5, u4 5)] ⟨_, N, (by rw [lsO_take hx, if_neg hpf, List.append_nil]; exact hR), rfl, hL⟩)
  ·have hpf : ¬ pfx x.k p = true := by rw [hpx, decide_eq_false hsz, Bool.false_and]; decide
   refine wl_region ?_;refine zwv (.string x.k) ?_;refine zwu (run_len (s := x.k)) ?_;refine zwv (.string p) ?_;refine zwu (run_len (s := p)) ?_;refine zwu (run_geq (k := .i64) (a := x.k.size) (b := p.size) false (df hsz)) ?_;refine zwv (.bool false) ?_;refine wl_skip ?_;refine wl_skip ?_;refine wl_skip ?_;refine wl_skip ?_;refine wl_skip ?_;refine wl_skip ?_;refine zwv (.bool false) ?_;refine znt (zcf (wp_skip ?_));refine block_normal ?_;refine zt (wl_region ?_);refine zwv (i6 k) ?_;refine zwu (run_add (k := .i64) (a := k) (b := 1) (by first | omega | (simp only [top]; omega))) ?_;refine zwv (i6 (k + 1)) ?_;refine wl_nil ?_;exact then_I (zey [(5, u4 5)] ⟨_, N, (by rw [lsO_take hx, if_neg hpf, List.append_nil]; exact hR), rfl, hL⟩)
 ·rintro _ w14 ⟨u4, rfl, v, N, hR, rfl, hL⟩;refine wp_seq (zsr ?_);refine zwv (i6 ls.length) ?_;refine zwv (.pointer (some ⟨q1, 5, none⟩)) ?_;refine zwu (v := .slice o ls.length c) (run_load1 isAgg30 (((hL.get 0 rfl).cell 5).trans rfl)) ?_;refine zwv (i6 ls.length) ?_;refine zwu (run_lss (k := .i64) (a := ls.length) (b := ls.length) false (df (by omega))) ?_;refine znt (zcf ?_);refine wp_exit ?_
  repeat first | refine then_exit ?_ | refine block_exit ?_ | refine block_exit_ne (by decide) ?_
  refine zt (zsr ?_);refine zwv (u4 5) ?_;refine zwv (u4 5) ?_;refine znt ?_;refine wp_ret ?_
  repeat first|refine zrt ?_|refine block_ret ?_
  exact zb (v := u4 5) ⟨_, N, rfl, (by have h9 := hR; rw [List.take_length] at h9; exact h9), by have h9 := hL.sub (List.sublist_cons_self _ _); rw [List.append_nil] at h9; exact h9⟩
end Go.Proofs.YtckmlaempffpjaaGreat
namespace Go.Proofs.YtckmlaempffpjaaGreat
open Go.RowKit Go.Proofs.Tryz
theorem Stand.app {w : World} {A B : BL} (h1 : Stand w A) (h2 : Stand w B) : Stand w (A ++ B) := fun x hx => (List.mem_append.1 hx).elim (h1 x) (h2 x)
theorem sub3 (A B C : BL) : (A ++ (B ++ C)) ⊆ ((B ++ A) ++ C) := fun y hy => by
 simp only [List.mem_append] at *
 rcases hy with h | h | h
 ·exact .inl (.inr h)
 ·exact .inl (.inl h)
 ·exact .inr h
theorem RD.form {v : Value} {D : DS} {rm : Nat} {N : BL} (h : RD v D rm N) : ∃ pf nf cf dn lf pz nz cz, v = .agg (d5 rm pf nf cf dn lf pz nz cz) := by
 obtain ⟨fs, dn, lf, zs, pf, cf, pz, cz, h1, _⟩ := h;exact ⟨_, _, _, _, _, _, _, _, h1⟩
theorem RD.tell {rm nf cf lf nz cz : Nat} {pf pz : Option Addr} {dn : Bool} {D : DS} {N : BL} (h : RD (.agg (d5 rm pf nf cf dn lf pz nz cz)) D rm N) : dn = D.down := by
 obtain ⟨fs, dn', lf', zs, pf', cf', pz', cz', h1, hT, _⟩ := h;have e : dn = dn' := by
  injection h1 with h1;have := congrArg (fun a : Array Value => a[2]?) h1
  simpa using this
 rw [e];exact hT.edn.symm
def inK (D : DS) (k : Nat) : Prop := bl nN ∈ (listD D nN).take k
theorem in_has {D : DS} : hasN D = true ↔ bl nN ∈ listD D nN := by
 rw [← list_has, List.any_eq_true]
 constructor
 ·rintro ⟨y, hy, e⟩;obtain ⟨b, hb, rfl⟩ := List.mem_map.1 hy;have : (⟨b.toArray⟩ : ByteArray) = nN := of_decide_eq_true e;have h2 : b = bl nN := by rw [← this]; simp [bl]
  rw [← h2]; exact hb
 ·intro h;exact ⟨_, List.mem_map.2 ⟨_, h, rfl⟩, decide_eq_true (by simp [bl])⟩
theorem lst_nodup {D : DS} {U n : Nat} (hb : DB D U n) : (listD D nN).Nodup := by
 unfold listD
 split
 ·exact List.nodup_nil
 ·unfold lstL
  rw [(List.mergeSort_perm _ _).nodup_iff];have h1 : ((D.fs.filter fun x => pfx x.nm nN).map fun x => bl x.nm).Sublist ((D.fs.map (·.nm)).map bl) := by
   rw [List.map_map];exact List.Sublist.map _ List.filter_sublist
  exact h1.nodup (List.pairwise_map.2 (hb.nd.imp fun h e => h (bl_inj e)))
theorem in_zero (D : DS) : ¬ inK D 0 := by unfold inK; simp
theorem in_all (D : DS) : inK D (listD D nN).length ↔ hasN D = true := by unfold inK; rw [List.take_length]; exact in_has.symm
theorem in_succ {D : DS} {k : Nat} {b : List UInt8} (h : (listD D nN)[k]? = some b) : inK D (k + 1) ↔ (inK D k ∨ b = bl nN) := by
 unfold inK
 rw [List.take_add_one, h]
 simp [eq_comm]
theorem in_not {D : DS} {U n k : Nat} (hb : DB D U n) (h : (listD D nN)[k]? = some (bl nN)) : ¬ inK D k := fun hk => by
 unfold inK at hk
 obtain ⟨j, hj, e⟩ := List.mem_iff_getElem.1 hk;rw [List.length_take] at hj;rw [List.getElem_take] at e;obtain ⟨h1, e1⟩ := List.getElem?_eq_some_iff.1 h;have := (List.pairwise_iff_getElem.1 (lst_nodup hb)) j k (by omega) h1 (by omega);exact this (e.trans e1.symm)
theorem nm_enc (ls : List (List UInt8)) : ls.map encStr = scl (ls.map fun b => (⟨b.toArray⟩ : ByteArray)) := by
 rw [scl, List.map_map];exact List.map_congr_left fun b _ => rfl
theorem nm_at {ls : List (List UInt8)} {Lr : BL} {p : Option Addr} {c n : Nat} {b : List UInt8} (h : Row 9 1 (.slice p ls.length c) ls.length (ls.map encStr) Lr) (hn : ls[n]? = some b) : ∃ a, p = some a ∧ ∀ w, (∀ y ∈ Lr, Blk w y.1 y.2.1 y.2.2) → w.cell? (a.add n) = some (.string ⟨b.toArray⟩) := by
 have h2 : Row 9 1 (.slice p (ls.map fun b => (⟨b.toArray⟩ : ByteArray)).length c) (ls.map fun b => (⟨b.toArray⟩ : ByteArray)).length (scl (ls.map fun b => (⟨b.toArray⟩ : ByteArray))) Lr := by rw [List.length_map, ← nm_enc]; exact h
 have hi : (ls.map fun b => (⟨b.toArray⟩ : ByteArray))[n]? = some ⟨b.toArray⟩ := by rw [List.getElem?_map, hn]; rfl
 cases p with
 | none =>
  rcases h.2 with ⟨e1, e2, _⟩ | ⟨g, cap, cur, e1, _⟩
  ·exfalso
   injection e1 with _ h0 _;have := (List.getElem?_eq_some_iff.1 hn).1
   omega
  ·cases e1
 | some a =>
  refine ⟨a, rfl, fun w hw => ?_⟩;obtain ⟨a', e, hc⟩ := Row.keys h2 hw n _ hi
  cases e
  exact hc
end Go.Proofs.YtckmlaempffpjaaGreat
namespace Go.Proofs.YtckmlaempffpjaaGreat
set_option linter.unusedVariables false
set_option maxRecDepth 100000
set_option maxHeartbeats 4000000
open Go.RowKit Go.Proofs.Tryz
set_option linter.unusedSimpArgs false in
theorem res_ct {w : World} {fn : Func} {p q8 : Tmp} {t ty : TypeId} {ts : Array Value} {q : Nat} {c : Array Value} {D : TypeDesc} {v : Value} (hf : fn.results = #[.cell q8 ty, .tmp p]) (hv : ts.getD p undef = v) (ht : ts.getD q8 undef = pq q) (h : Blk w q t c) (hu : prog.underlying ty = some D) (hd : D.isRow = true) (hi : (prog.info? ty).map (·.size) = some c.size) :
  (results fn ts).run prog w = .ok (.tuple #[.agg c, v]) w := by
 have := run_loadVar_mid (P := prog) w q 0 ty c.toList D h.range hu hd (by simpa using hi);have ht2 : ts[q8]?.getD undef = pq q := by simpa using ht
 have hv' : ts[p]?.getD undef = v := by simpa using hv
 simp [results, hf, Sem.run_bind, Sem.run_pure, Result.andThen_ok, asAddr, ht2, hv', this]
theorem rlay_any {w : World} {rm nf cf lf nz cz : Nat} {pf pz : Option Addr} {dn : Bool} {D : DS} {N : BL} (hR : RD (.agg (d5 rm pf nf cf dn lf pz nz cz)) D rm N) (hS : Stand w N) {U n : Nat} (hb : DB D U n) (hn : n ≤ 900) (fr : ByteArray) (hU : U + fr.size ≤ 100000000) :
  Calls prog 74 #[.agg (d5 rm pf nf cf dn lf pz nz cz), .string fr] w fun e w' => ROD w w' N e (layD D fr).1 rm (layD D fr).2 := by
 have H0 := HA.start w
 go_enter Tryz.func74, Tryz.ntmps74
 refine zsr ?_;refine wl_make (c := (d5 rm pf nf cf dn lf pz nz cz)) H0 29 ?_;intro q1 w2 h3;refine wl_make (c := (d5 0 none 0 0 false 0 none 0 0)) h3 29 ?_;intro q4 w5 h6;refine zwv (i6 0) ?_;refine wl_nil ?_;have h7 := h6;clear h6;generalize q4 = q4 at h7 ⊢;have h8 := h7;clear h7;generalize q1 = q2 at h8 ⊢;refine zt (zsr ?_);refine zwu (v := .agg (d5 rm pf nf cf dn lf pz nz cz)) (run_load_blk (h8.get 1 rfl) underlying29 rfl) ?_;refine wl_callx enter40 #[.agg (d5 rm pf nf cf dn lf pz nz cz), .string nN] (rList hR (Stand.app (A := []) (fun y hy => h8.blk y (mc (mc (hy)))) (hS.keep h8.old.old)) hb (by omega) (by omega) nN) ?_;rintro _ w9 ⟨vl, Nl, rfl, hRl, hNl, hbl⟩;refine ⟨_, rfl, ?_⟩;obtain ⟨pl, cl, rfl⟩ := hRl.form;have h10 : HA (bs w) ((q4, 29, (d5 0 none 0 0 false 0 none 0 0)) :: (q2, 29, (d5 rm pf nf cf dn lf pz nz cz)) :: ([] ++ Nl)) w9 := HA.addL h8 hbl hNl;refine zwv (.slice pl (listD D nN).length cl) ?_;refine znt (wp_seq (zsr ?_));refine zwv (i6 0) ?_;refine znt ?_;refine wp_block ?_;refine zcn (fun Z0 k AQ w' => ∃ (D1 : DS) (pg py : Option Addr) (ng cg lg ny cy : Nat) (dm : Bool) (N1 : BL) (u11 : Nat → Value), AQ = pts Z0 [(5, u11 5), (7, i6 k), (8, u11 8), (9, u11 9), (13, u11 13), (14, u11 14), (15, u11 15), (16, u11 16), (17, u11 17), (18, u11 18), (19, u11 19), (20, u11 20), (21, u11 21), (22, u11 22), (23, u11 23), (24, u11 24), (25, u11 25), (26, u11 26), (27, u11 27), (28, u11 28), (29, u11 29), (30, u11 30), (31, u11 31), (32, u11 32), (33, u11 33)] ∧ ((¬ inK D k ∧ D1 = D) ∨ (inK D k ∧ hasN D = true ∧ (RemoveD D nN).2 = 0 ∧ D1 = (RemoveD D nN).1)) ∧ DB D1 U (n + 1) ∧ RD (.agg (d5 rm pg ng cg dm lg py ny cy)) D1 rm ((Nl ++ N1) ++ N) ∧ HA (bs w) ((q4, 29, (d5 0 none 0 0 false 0 none 0 0)) :: (q2, 29, (d5 rm pg ng cg dm lg py ny cy)) :: (Nl ++ N1)) w') ((listD D nN).length) ?_ ?_ ?_
 ·exact ⟨D, pf, pz, nf, cf, lf, nz, cz, dn, [], zey [] ⟨.inl ⟨in_zero D, rfl⟩, hb.mono (Nat.le_refl _) (Nat.le_succ _), hR.mono (fun y hy => by simp [hy]), (by have h9 := h10; rw [List.append_nil]; exact h9)⟩⟩
 ·rintro k hk _ w12 ⟨D1, pg, py, ng, cg, lg, ny, cy, dm, N1, u11, rfl, hst, hb1, hR1, hL⟩;obtain ⟨b, hbk⟩ : ∃ b, (listD D nN)[k]? = some b := ⟨_, List.getElem?_eq_getElem hk⟩;obtain ⟨la, hla, ha3⟩ := nm_at hRl hbk;have hll := list_len D nN;have hct := hb.ct;refine wp_seq (zsr ?_);refine zwv (i6 k) ?_;refine zwv (.slice pl (listD D nN).length cl) ?_;refine zwv (i6 ((listD D nN).length)) ?_;refine zwu (run_lss (k := .i64) (a := k) (b := (listD D nN).length) true (dt (by omega))) ?_;refine znt (zct (wp_skip (zt (wp_seq ?_))));refine wp_block ?_;refine wp_seq ?_
  by_cases hbn : (⟨b.toArray⟩ : ByteArray) = nN
  ·have hbb : b = bl nN := by rw [← hbn]; simp [bl]
   have hnk : ¬ inK D k := in_not hb (by rw [hbk, hbb]);have hD1 : D1 = D := (hst.resolve_right (fun h => hnk h.1)).2;rw [hD1] at hR1 hb1;have hhas : hasN D = true := in_has.2 (by rw [← hbb]; exact List.mem_of_getElem? hbk);refine wl_region ?_;refine zwv (.slice pl (listD D nN).length cl) ?_;refine zwv (i6 k) ?_;refine zwu (v := .pointer (some (la.add k))) (run_addr39 (o := pl) (a := la) (n := (listD D nN).length) (m := cl) (i := k) hla (by omega)) ?_;refine zwu (v := .string ((⟨b.toArray⟩ : ByteArray))) (run_load_at (b := la.add k) isAgg9 (ha3 _ (fun y hy => hL.blk y (by simp [hy])))) ?_;refine zwu (run_eqs (s := (⟨b.toArray⟩ : ByteArray)) (t := nN) true (dt hbn)) ?_;refine znt (zct (zsr ?_));refine zwu (v := .agg (d5 rm pg ng cg dm lg py ny cy)) (run_load_blk (hL.get 1 rfl) underlying29 rfl) ?_;refine wl_callx enter88 #[.agg (d5 rm pg ng cg dm lg py ny cy), .string nN] (rRemove hR1 (Stand.app (A := (Nl ++ N1)) (fun y hy => hL.blk y (mc (mc (hy)))) (hS.keep hL.old.old)) hb1 (by omega) (by omega) nN) ?_;rintro _ w14 ⟨v13, N13, rfl, hR13, hN13, hb13⟩;refine ⟨_, rfl, ?_⟩;have h15 : HA (bs w) ((q4, 29, (d5 0 none 0 0 false 0 none 0 0)) :: (q2, 29, (d5 rm pg ng cg dm lg py ny cy)) :: ((Nl ++ N1) ++ N13)) w14 := HA.addL hL hb13 hN13;replace hR13 := hR13.mono (sub3 N13 (Nl ++ N1) N);obtain ⟨pf13, nf13, cf13, dn13, lf13, pz13, nz13, cz13, rfl⟩ := RD.form hR13;have hdb13 := Remove_DB hb1 nN;refine zwv (.tuple #[.agg (d5 rm pf13 nf13 cf13 dn13 lf13 pz13 nz13 cz13), i6 ((RemoveD D nN).2)]) ?_;refine zwv (.agg (d5 rm pf13 nf13 cf13 dn13 lf13 pz13 nz13 cz13)) ?_;refine zwv (i6 ((RemoveD D nN).2)) ?_;refine wl_make (c := (d5 0 none 0 0 false 0 none 0 0)) h15 29 ?_;intro q16 w17 h18;refine wl_fill (c' := (d5 rm pf13 nf13 cf13 dn13 lf13 pz13 nz13 cz13)) h18 0 rfl rfl ?_;intro w19 h20;refine zwv (i6 ((RemoveD D nN).2)) ?_;refine znt (zsr ?_);refine zwu (v := .agg (d5 rm pf13 nf13 cf13 dn13 lf13 pz13 nz13 cz13)) (run_load_blk (h20.get 0 rfl) underlying29 rfl) ?_;refine wl_fill (c' := (d5 rm pf13 nf13 cf13 dn13 lf13 pz13 nz13 cz13)) h20 2 rfl rfl ?_;intro w21 h22;refine znt (wp_seq ?_)
   by_cases her : (RemoveD D nN).2 ≠ 0
   ·refine wl_region ?_;refine zwv (i6 ((RemoveD D nN).2)) ?_;refine zwu (run_nei (k := .i64) (a := (RemoveD D nN).2) (b := 0) true (dt her)) ?_;refine znt (zct (zsr ?_));refine zwu (v := .agg (d5 rm pf13 nf13 cf13 dn13 lf13 pz13 nz13 cz13)) (run_load_blk (h22.get 2 rfl) underlying29 rfl) ?_;refine zwv (i6 ((RemoveD D nN).2)) ?_;refine wl_fill (c' := (d5 rm pf13 nf13 cf13 dn13 lf13 pz13 nz13 cz13)) h22 1 rfl rfl ?_;intro w23 h24;refine zwv (i6 ((RemoveD D nN).2)) ?_;refine znt ?_;refine wp_ret ?_
    repeat first|refine zrt ?_|refine block_ret ?_
    exact bodyPost_ret (v := .tuple #[.agg (d5 rm pf13 nf13 cf13 dn13 lf13 pz13 nz13 cz13), i6 ((RemoveD D nN).2)]) (res_ct (p := 5) (q8 := 4) (by kernel_rfl) (by kernel_rfl) (by kernel_rfl) (h24.get 1 rfl) underlying29 rfl (by kernel_rfl)) rfl ⟨_, ((Nl ++ N1) ++ N13), (by rw [layD, rmN, if_pos hhas, if_pos her]), (by rw [layD, rmN, if_pos hhas, if_pos her]; exact hR13), h24.newerS (sk (sk (sk (sr)))), h24.old.old⟩
   ·refine wl_region ?_;refine zwv (i6 ((RemoveD D nN).2)) ?_;refine zwu (run_nei (k := .i64) (a := (RemoveD D nN).2) (b := 0) false (df her)) ?_;refine znt (zcf (wp_skip ?_));refine block_normal ?_;refine zt (wl_region ?_);refine zwv (i6 k) ?_;refine zwu (run_add (k := .i64) (a := k) (b := 1) (by first | omega | (simp only [top]; omega))) ?_;refine zwv (i6 (k + 1)) ?_;refine wl_nil ?_;exact then_I ⟨(RemoveD D nN).1, pf13, pz13, nf13, cf13, lf13, nz13, cz13, dn13, N1 ++ N13, zey [] ⟨.inr ⟨(in_succ hbk).2 (.inr hbb), hhas, Decidable.not_not.1 her, rfl⟩, (Remove_DB hb nN).mono (Nat.le_refl _) (Nat.le_refl _), (by rw [← List.append_assoc]; exact hR13), (by rw [← List.append_assoc]; exact h22.sub (sk (sr)))⟩⟩
  ·refine wl_region ?_;refine zwv (.slice pl (listD D nN).length cl) ?_;refine zwv (i6 k) ?_;refine zwu (v := .pointer (some (la.add k))) (run_addr39 (o := pl) (a := la) (n := (listD D nN).length) (m := cl) (i := k) hla (by omega)) ?_;refine zwu (v := .string ((⟨b.toArray⟩ : ByteArray))) (run_load_at (b := la.add k) isAgg9 (ha3 _ (fun y hy => hL.blk y (by simp [hy])))) ?_;refine zwu (run_eqs (s := (⟨b.toArray⟩ : ByteArray)) (t := nN) false (df hbn)) ?_;refine znt (zcf (wp_skip ?_));refine block_normal ?_;refine zt (wl_region ?_);refine zwv (i6 k) ?_;refine zwu (run_add (k := .i64) (a := k) (b := 1) (by first | omega | (simp only [top]; omega))) ?_;refine zwv (i6 (k + 1)) ?_;refine wl_nil ?_;exact then_I ⟨D1, pg, py, ng, cg, lg, ny, cy, dm, N1, zey [] ⟨(hst.imp (fun h => ⟨fun h2 => ((in_succ hbk).1 h2).elim h.1 (fun e => hbn (by rw [e]; simp [bl])), h.2⟩) (fun h => ⟨(in_succ hbk).2 (.inl h.1), h.2⟩)), hb1, hR1, hL⟩⟩
 ·rintro _ w25 ⟨D1, pg, py, ng, cg, lg, ny, cy, dm, N1, u11, rfl, hst, hb1, hR1, hL⟩;refine wp_seq (zsr ?_);refine zwv (i6 ((listD D nN).length)) ?_;refine zwv (.slice pl (listD D nN).length cl) ?_;refine zwv (i6 ((listD D nN).length)) ?_;refine zwu (run_lss (k := .i64) (a := (listD D nN).length) (b := (listD D nN).length) false (df (by omega))) ?_;refine znt (zcf ?_);refine wp_exit ?_
  repeat first | refine then_exit ?_ | refine block_exit ?_ | refine block_exit_ne (by decide) ?_
  refine zt (wp_seq ?_);have hrm : rmN D = (D1, 0) := by
   rcases hst with h9 | h9
   ·have hno : ¬ hasN D = true := fun h => h9.1 ((in_all D).2 h)
    unfold rmN
    rw [if_neg hno, h9.2]
   ·unfold rmN
    rw [if_pos h9.2.1, h9.2.2.2, ← h9.2.2.1]
  have hrD : D1 = (rmN D).1 := by rw [hrm]
  rw [hrD] at hR1 hb1;refine wl_region ?_;refine zwu (v := .agg (d5 rm pg ng cg dm lg py ny cy)) (run_load_blk (hL.get 1 rfl) underlying29 rfl) ?_;refine zwv (.string fr) ?_;refine wl_callx enter33 #[.agg (d5 rm pg ng cg dm lg py ny cy), .string nN, .string fr] (rAppend hR1 (Stand.app (A := (Nl ++ N1)) (fun y hy => hL.blk y (mc (mc (hy)))) (hS.keep hL.old.old)) hb1 (by omega) (by omega) nN fr (by omega)) ?_;rintro _ w27 ⟨v26, N26, rfl, hR26, hN26, hb26⟩;refine ⟨_, rfl, ?_⟩;have h28 : HA (bs w) ((q4, 29, (d5 0 none 0 0 false 0 none 0 0)) :: (q2, 29, (d5 rm pg ng cg dm lg py ny cy)) :: ((Nl ++ N1) ++ N26)) w27 := HA.addL hL hb26 hN26;replace hR26 := hR26.mono (sub3 N26 (Nl ++ N1) N);obtain ⟨pf26, nf26, cf26, dn26, lf26, pz26, nz26, cz26, rfl⟩ := RD.form hR26;have hdb26 := Append_DB hb1 nN fr;refine zwv (.tuple #[.agg (d5 rm pf26 nf26 cf26 dn26 lf26 pz26 nz26 cz26), i6 ((AppendD ((rmN D).1) nN fr).2)]) ?_;refine zwv (.agg (d5 rm pf26 nf26 cf26 dn26 lf26 pz26 nz26 cz26)) ?_;refine zwv (i6 ((AppendD ((rmN D).1) nN fr).2)) ?_;refine wl_fill (c' := (d5 rm pf26 nf26 cf26 dn26 lf26 pz26 nz26 cz26)) h28 1 rfl rfl ?_;intro w29 h30;refine zwv (i6 ((AppendD ((rmN D).1) nN fr).2)) ?_;refine znt (wp_seq (wp_seq ?_))
  by_cases hc2 : (AppendD (rmN D).1 nN fr).2 ≠ 0
  ·refine wl_region ?_;refine zwv (i6 ((AppendD ((rmN D).1) nN fr).2)) ?_;refine zwu (run_nei (k := .i64) (a := (AppendD ((rmN D).1) nN fr).2) (b := 0) true (dt hc2)) ?_;refine znt (zct (zsr ?_));refine zwu (v := .agg (d5 rm pf26 nf26 cf26 dn26 lf26 pz26 nz26 cz26)) (run_load_blk (h30.get 1 rfl) underlying29 rfl) ?_;refine zwv (i6 ((AppendD ((rmN D).1) nN fr).2)) ?_;refine wl_fill (c' := (d5 rm pf26 nf26 cf26 dn26 lf26 pz26 nz26 cz26)) h30 0 rfl rfl ?_;intro w31 h32;refine zwv (i6 ((AppendD ((rmN D).1) nN fr).2)) ?_;refine znt ?_;refine wp_ret ?_
   repeat first|refine zrt ?_|refine block_ret ?_
   exact bodyPost_ret (v := .tuple #[.agg (d5 rm pf26 nf26 cf26 dn26 lf26 pz26 nz26 cz26), i6 ((AppendD ((rmN D).1) nN fr).2)]) (res_ct (p := 5) (q8 := 4) (by kernel_rfl) (by kernel_rfl) (by kernel_rfl) (h32.get 0 rfl) underlying29 rfl (by kernel_rfl)) rfl ⟨_, ((Nl ++ N1) ++ N26), (by rw [layD, if_neg (by rw [hrm]; exact fun h => h rfl), if_pos hc2]), (by rw [layD, if_neg (by rw [hrm]; exact fun h => h rfl), if_pos hc2]; exact hR26), h32.newerS (sk (sk (sr))), h32.old.old⟩
  ·refine wl_region ?_;refine zwv (i6 ((AppendD ((rmN D).1) nN fr).2)) ?_;refine zwu (run_nei (k := .i64) (a := (AppendD ((rmN D).1) nN fr).2) (b := 0) false (df hc2)) ?_;refine znt (zcf (wp_skip (zt (zsr ?_))));refine zwu (v := .agg (d5 rm pf26 nf26 cf26 dn26 lf26 pz26 nz26 cz26)) (run_load_blk (h30.get 1 rfl) underlying29 rfl) ?_;refine wl_callx enter34 #[.agg (d5 rm pf26 nf26 cf26 dn26 lf26 pz26 nz26 cz26), .string nN] (rSync hR26 (Stand.app (A := ((Nl ++ N1) ++ N26)) (fun y hy => h30.blk y (mc (mc (hy)))) (hS.keep h30.old.old)) hdb26 (by omega) (by omega) nN) ?_;rintro _ w34 ⟨v33, N33, rfl, hR33, hN33, hb33⟩;refine ⟨_, rfl, ?_⟩;have h35 : HA (bs w) ((q4, 29, (d5 0 none 0 0 false 0 none 0 0)) :: (q2, 29, (d5 rm pf26 nf26 cf26 dn26 lf26 pz26 nz26 cz26)) :: (((Nl ++ N1) ++ N26) ++ N33)) w34 := HA.addL h30 hb33 hN33;replace hR33 := hR33.mono (sub3 N33 ((Nl ++ N1) ++ N26) N);obtain ⟨pf33, nf33, cf33, dn33, lf33, pz33, nz33, cz33, rfl⟩ := RD.form hR33;have hdb33 := Sync_DB hdb26 nN;refine zwv (.tuple #[.agg (d5 rm pf33 nf33 cf33 dn33 lf33 pz33 nz33 cz33), i6 ((SyncD ((AppendD ((rmN D).1) nN fr).1) nN).2)]) ?_;refine zwv (.agg (d5 rm pf33 nf33 cf33 dn33 lf33 pz33 nz33 cz33)) ?_;refine zwv (i6 ((SyncD ((AppendD ((rmN D).1) nN fr).1) nN).2)) ?_;refine wl_fill (c' := (d5 rm pf33 nf33 cf33 dn33 lf33 pz33 nz33 cz33)) h35 1 rfl rfl ?_;intro w36 h37;refine zwv (i6 ((SyncD ((AppendD ((rmN D).1) nN fr).1) nN).2)) ?_;refine znt (wp_seq (wp_seq ?_))
   by_cases hc3 : (SyncD (AppendD (rmN D).1 nN fr).1 nN).2 ≠ 0
   ·refine wl_region ?_;refine zwv (i6 ((SyncD ((AppendD ((rmN D).1) nN fr).1) nN).2)) ?_;refine zwu (run_nei (k := .i64) (a := (SyncD ((AppendD ((rmN D).1) nN fr).1) nN).2) (b := 0) true (dt hc3)) ?_;refine znt (zct (zsr ?_));refine zwu (v := .agg (d5 rm pf33 nf33 cf33 dn33 lf33 pz33 nz33 cz33)) (run_load_blk (h37.get 1 rfl) underlying29 rfl) ?_;refine zwv (i6 ((SyncD ((AppendD ((rmN D).1) nN fr).1) nN).2)) ?_;refine wl_fill (c' := (d5 rm pf33 nf33 cf33 dn33 lf33 pz33 nz33 cz33)) h37 0 rfl rfl ?_;intro w38 h39;refine zwv (i6 ((SyncD ((AppendD ((rmN D).1) nN fr).1) nN).2)) ?_;refine znt ?_;refine wp_ret ?_
    repeat first|refine zrt ?_|refine block_ret ?_
    exact bodyPost_ret (v := .tuple #[.agg (d5 rm pf33 nf33 cf33 dn33 lf33 pz33 nz33 cz33), i6 ((SyncD ((AppendD ((rmN D).1) nN fr).1) nN).2)]) (res_ct (p := 5) (q8 := 4) (by kernel_rfl) (by kernel_rfl) (by kernel_rfl) (h39.get 0 rfl) underlying29 rfl (by kernel_rfl)) rfl ⟨_, (((Nl ++ N1) ++ N26) ++ N33), (by rw [layD, if_neg (by rw [hrm]; exact fun h => h rfl), if_neg hc2, if_pos hc3]), (by rw [layD, if_neg (by rw [hrm]; exact fun h => h rfl), if_neg hc2, if_pos hc3]; exact hR33), h39.newerS (sk (sk (sr))), h39.old.old⟩
   ·refine wl_region ?_;refine zwv (i6 ((SyncD ((AppendD ((rmN D).1) nN fr).1) nN).2)) ?_;refine zwu (run_nei (k := .i64) (a := (SyncD ((AppendD ((rmN D).1) nN fr).1) nN).2) (b := 0) false (df hc3)) ?_;refine znt (zcf (wp_skip (zt (zsr ?_))));refine zwu (v := .agg (d5 rm pf33 nf33 cf33 dn33 lf33 pz33 nz33 cz33)) (run_load_blk (h37.get 1 rfl) underlying29 rfl) ?_;refine wl_callx enter118 #[.agg (d5 rm pf33 nf33 cf33 dn33 lf33 pz33 nz33 cz33), .string nN, .string nS] (rRename hR33 (Stand.app (A := (((Nl ++ N1) ++ N26) ++ N33)) (fun y hy => h37.blk y (mc (mc (hy)))) (hS.keep h37.old.old)) hdb33 (by omega) (by omega) nN nS) ?_;rintro _ w41 ⟨v40, N40, rfl, hR40, hN40, hb40⟩;refine ⟨_, rfl, ?_⟩;have h42 : HA (bs w) ((q4, 29, (d5 0 none 0 0 false 0 none 0 0)) :: (q2, 29, (d5 rm pf33 nf33 cf33 dn33 lf33 pz33 nz33 cz33)) :: ((((Nl ++ N1) ++ N26) ++ N33) ++ N40)) w41 := HA.addL h37 hb40 hN40;replace hR40 := hR40.mono (sub3 N40 (((Nl ++ N1) ++ N26) ++ N33) N);obtain ⟨pf40, nf40, cf40, dn40, lf40, pz40, nz40, cz40, rfl⟩ := RD.form hR40;have hdb40 := Rename_DB hdb33 nN nS;refine zwv (.agg (d5 rm pf40 nf40 cf40 dn40 lf40 pz40 nz40 cz40)) ?_;refine zwv (i6 ((RenameD ((SyncD ((AppendD ((rmN D).1) nN fr).1) nN).1) nN nS).2)) ?_;refine wl_fill (c' := (d5 rm pf40 nf40 cf40 dn40 lf40 pz40 nz40 cz40)) h42 0 rfl rfl ?_;intro w43 h44;refine zwv (i6 ((RenameD ((SyncD ((AppendD ((rmN D).1) nN fr).1) nN).1) nN nS).2)) ?_;refine znt ?_;refine wp_ret ?_
    repeat first|refine zrt ?_|refine block_ret ?_
    exact bodyPost_ret (v := .tuple #[.agg (d5 rm pf40 nf40 cf40 dn40 lf40 pz40 nz40 cz40), i6 ((RenameD ((SyncD ((AppendD ((rmN D).1) nN fr).1) nN).1) nN nS).2)]) (res_ct (p := 5) (q8 := 4) (by kernel_rfl) (by kernel_rfl) (by kernel_rfl) (h44.get 0 rfl) underlying29 rfl (by kernel_rfl)) rfl ⟨_, ((((Nl ++ N1) ++ N26) ++ N33) ++ N40), (by rw [layD, if_neg (by rw [hrm]; exact fun h => h rfl), if_neg hc2, if_neg hc3]), (by rw [layD, if_neg (by rw [hrm]; exact fun h => h rfl), if_neg hc2, if_neg hc3]; exact hR40), h44.newerS (sk (sk (sr))), h44.old.old⟩
end Go.Proofs.YtckmlaempffpjaaGreat
namespace Go.Proofs.YtckmlaempffpjaaGreat
open Go.RowKit Go.Proofs.Tryz
def bB (l : List UInt8) : ByteArray := ⟨l.toArray⟩
theorem bB_size (l : List UInt8) : (bB l).size = l.length := zsz l
theorem bB_list (l : List UInt8) : (bB l).data.toList = l := by simp [bB]
theorem bB_drop (l : List UInt8) (n : Nat) : (bB l).extract n (bB l).size = bB (l.drop n) := by
 apply bl_inj
 rw [bl_extract]
 show ((bl (bB l)).drop n).take ((bB l).size - n) = _
 have e : bl (bB l) = l := bl_mk l;have e2 : bl (bB (l.drop n)) = l.drop n := bl_mk _;rw [e, e2, bB_size, List.take_of_length_le (by rw [List.length_drop]; omega)]
theorem bB_take (l : List UInt8) (a n : Nat) : (bB l).extract a (a + n) = bB ((l.drop a).take n) := by
 apply bl_inj
 rw [bl_extract];have e : bl (bB l) = l := bl_mk l;have e2 : bl (bB ((l.drop a).take n)) = (l.drop a).take n := bl_mk _;rw [e, e2, Nat.add_sub_cancel_left]
section
variable {z : Base} {L : BL} {w : World} {b : Nat} {bs : List UInt8}
theorem rd_put (H : HA z ((b, 165, #[.string (bB bs)]) :: L) w) (us : List UInt8) : HA z ((b, 165, #[.string (bB us)]) :: L) (w.setCell ⟨b, 0, none⟩ (.string (bB us))) := H.put 0 rfl 0 (.string (bB us))
theorem rd_cell (H : HA z ((b, 165, #[.string (bB bs)]) :: L) w) : w.cell? ⟨b, 0, none⟩ = some (.string (bB bs)) ∧ w.frozen? ⟨b, 0, none⟩ = false := ⟨(H.get 0 rfl).cell 0, (H.get 0 rfl).free 0 (by simp)⟩
theorem rnew_H (H : HA z L w) (bs : List UInt8) : Calls prog 68 #[.string (bB bs)] w fun e w' => ∃ b, e = .returned (pt b) ∧ HA z ((b, 165, #[.string (bB bs)]) :: L) w' :=
 (Wi.rNew_any w (bB bs)).mono fun e w' hr => ⟨w.heap.size, hr.1, by rw [hr.2]; exact H.make 165 _⟩
theorem rnum_H (H : HA z ((b, 165, #[.string (bB bs)]) :: L) w) (m : Nat) (h1 : 1 ≤ m) (h8 : m ≤ 8) : Calls prog 69 #[pt b, i6 m] w fun e w' => e = .returned (.tuple #[iN .u64 (nxn m bs).1, .bool (nxn m bs).2.1]) ∧ HA z ((b, 165, #[.string (bB (nxn m bs).2.2)]) :: L) w' := by
 obtain ⟨hc, hf⟩ := rd_cell H
 by_cases h : m ≤ bs.length
 ·refine (Wi.rNumber_yes w b m (bB bs) hc hf h1 h8 (by rw [bB_size]; exact h)).mono fun e w' hr => ?_
  have e1 : nxn m bs = (Wi.val (bs.take m), true, bs.drop m) := by unfold nxn; exact if_pos h
  rw [e1];refine ⟨by rw [hr.1, bB_list]; rfl, ?_⟩;rw [hr.2, bB_drop];exact rd_put H _
 ·refine (Wi.rNumber_no w b m (bB bs) hc (.inr (.inr (by rw [bB_size]; omega)))).mono fun e w' hr => ?_
  have e1 : nxn m bs = (0, false, bs) := by unfold nxn; exact if_neg h
  rw [e1];exact ⟨hr.1, by rw [hr.2]; exact H⟩
theorem rleft_H (H : HA z ((b, 165, #[.string (bB bs)]) :: L) w) : Calls prog 70 #[pt b] w fun e w' => e = .returned (i6 bs.length) ∧ Below w.heap.size w w' :=
 (Wi.rLeft_any w b (bB bs) (rd_cell H).1).mono fun e w' hr => ⟨by rw [hr.1, bB_size]; rfl, by rw [hr.2]; exact Below.refl _ _⟩
theorem rtake_H (H : HA z ((b, 165, #[.string (bB bs)]) :: L) w) (n : Nat) (hn : n ≤ bs.length) : Calls prog 71 #[pt b, i6 n] w fun e w' => e = .returned (.tuple #[.string (bB (bs.take n)), .bool true]) ∧ HA z ((b, 165, #[.string (bB (bs.drop n))]) :: L) w' := by
 obtain ⟨hc, hf⟩ := rd_cell H;refine (Wi.rTake_yes w b n (bB bs) hc hf (by rw [bB_size]; exact hn)).mono fun e w' hr => ?_
 refine ⟨?_, by rw [hr.2, bB_drop]; exact rd_put H _⟩;have := bB_take bs 0 n;rw [Nat.zero_add, List.drop_zero] at this;rw [hr.1, this]
theorem rtext_H (H : HA z ((b, 165, #[.string (bB bs)]) :: L) w) (m : Nat) (hm : m < 1000000) (hl : bs.length ≤ 1000000000) : Calls prog 115 #[pt b, i6 m] w fun e w' => e = .returned (.tuple #[.string (nxt m bs).1, .bool (nxt m bs).2.1]) ∧ HA z ((b, 165, #[.string (bB (nxt m bs).2.2)]) :: L) w' := by
 obtain ⟨hc, hf⟩ := rd_cell H
 by_cases h : 4 ≤ bs.length ∧ Wi.val (bs.take 4) ≤ m ∧ 4 + Wi.val (bs.take 4) ≤ bs.length
 ·have e1 : nxt m bs = (⟨(Wi.txt bs).toArray⟩, true, bs.drop (4 + Wi.val (bs.take 4))) := by unfold nxt; exact if_pos h
  refine (Wi.rText_yes w b m (bB bs) hc hf (by rw [bB_size]; exact hl) (by rw [bB_size]; exact h.1) (by rw [bB_list]; exact h.2.1) (by rw [bB_list, bB_size]; exact h.2.2) (by omega)).mono fun e w' hr => ?_
  rw [e1];refine ⟨?_, by rw [hr.2, bB_list, bB_drop]; exact rd_put H _⟩;rw [hr.1, bB_list, bB_take]
  rfl
 ·have e1 : nxt m bs = ({ data := #[] }, false, bs) := by unfold nxt; exact if_neg h
  refine (Wi.rText_no w b m (bB bs) hc (by rw [bB_size]; exact hl) (by omega) (by omega) (by rw [bB_list, bB_size]; omega)).mono fun e w' hr => ?_
  rw [e1];exact ⟨hr.1, by rw [hr.2]; exact H⟩
end
end Go.Proofs.YtckmlaempffpjaaGreat
