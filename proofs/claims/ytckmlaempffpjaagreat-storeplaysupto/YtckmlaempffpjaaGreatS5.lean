/-
 The keys of a change: the iterator.
-/
import Derived.Test.YtckmlaempffpjaaGreatSK
namespace Go.Proofs.YtckmlaempffpjaaGreat
set_option linter.unusedVariables false
set_option maxRecDepth 100000
set_option maxHeartbeats 4000000
open Go.RowKit Go.Shelf Go.Proofs.Tryz
attribute [local go_sem] Oper.semAt_some
theorem keys_calls {po do_ : Option Addr} {pc dc : Nat} {ps : List Rw} {ds : List ByteArray} {w : World} {ka kb B l : Nat} {J Jx : List ByteArray → World → Prop} (hJ : AbidesFrom B J) (hP : RowsAt w po ps) (hD : KeysAt w do_ ds) (hpa0 : ps ≠ [] → apA po ka kb) (hda0 : ds ≠ [] → apA do_ ka kb) (hka : ka < w.heap.size) (hkb : kb < w.heap.size) (hpl : ps.length ≤ 1000000000) (hdl : ds.length ≤ 1000000000) (hY : ∀ pre x W1, J pre W1 → (∃ n, pre ++ [x] = (keysOf ps ds).take n) → YieldAt Fence.wide 7 prog l (encK x) W1 fun e W' => (e = .returned (.bool true) ∧ J (pre ++ [x]) W' ∧ KpC ka kb W1 W') ∨ (e = .returned (.bool false) ∧ Jx (pre ++ [x]) W')) (h0 : J [] w) :
  Calls prog 102 #[.agg #[.slice po ps.length pc, .slice do_ ds.length dc], .func (.yield l) #[] #[]] w fun e w' => (∃ v, e = .returned v) ∧ ((∃ xs, xs = keysOf ps ds ∧ J xs w') ∨ ∃ pre, Jx pre w') := by
 have H0 := HA.start w
 go_enter Tryz.func102, Tryz.ntmps102
 refine zsr ?_;refine wl_make (c := #[.slice po ps.length pc, .slice do_ ds.length dc]) H0 100 ?_;intro q1 w2 (h3 : HA (bs w) [(q1, 100, #[.slice po ps.length pc, .slice do_ ds.length dc])] w2);refine znt ?_;refine wp_seq ?_;refine zsr ?_;refine zwv (pq q1) ?_;refine zwu (v := .slice po ps.length pc) (run_load1 isAgg30 (((h3.get 0 rfl).cell 0).trans rfl)) ?_;refine zwv (i6 ps.length) ?_;refine zwv (i6 0) ?_;refine znt ?_;have hqb : w.heap.size ≤ q1 := h3.own _ (List.mem_cons_self ..);refine wp_block ?_;refine wp_count (fun k A w' => ∃ u4 : Nat → Value, A = ⟨(.agg #[.slice po ps.length pc, .slice do_ ds.length dc] :: .func (.yield l) #[] #[] :: pt q1 :: un :: un :: u4 5 :: un :: un :: pt q1 :: .slice po ps.length pc :: i6 ps.length :: i6 k :: u4 12 :: u4 13 :: u4 14 :: u4 15 :: u4 16 :: u4 17 :: u4 18 :: u4 19 :: u4 20 :: List.replicate 12 un).toArray, []⟩ ∧ J ((keysOf ps ds).take (k)) w' ∧ RowsAt w' po ps ∧ KeysAt w' do_ ds ∧ Blk w' q1 100 #[.slice po ps.length pc, .slice do_ ds.length dc]) ps.length ?_ ?_ ?_
 ·exact zey [] ⟨by rw [List.take_zero]; exact abides hJ h0 h3.old.old, hP.keep h3.old.old, hD.keep h3.old.old, h3.get 0 rfl⟩
 ·rintro k hk _ w5 ⟨u4, rfl, hJk, hPk, hDk, hBk⟩;have hL := HA.start w5;obtain ⟨x, hx⟩ : ∃ x, ps[k]? = some x := ⟨_, List.getElem?_eq_getElem hk⟩;obtain ⟨pa, hpa, hpk, hpv⟩ := hPk k x hx;refine zsr ?_;refine zwu (run_lss (k := .i64) (a := k) (b := ps.length) true (dt (by omega))) ?_;refine znt ?_;refine zit ?_;refine wp_seq ?_;refine wp_block ?_;refine zsr ?_;refine zwu (v := .pointer (some (pa.add (k * 2)))) (run_addr30 (a := pa) (n := ps.length) (m := pc) (i := k) hpa (by kernel_rfl) (by kernel_rfl) hk) ?_;refine zwu (v := rwv x) (run_loadrow (by kernel_rfl) hpk hpv) ?_;refine wl_make (c := #[.string ({ data := #[] }), .string ({ data := #[] })]) hL 64 ?_;intro q6 w7 (h8 : HA (bs w5) [(q6, 64, #[.string ({ data := #[] }), .string ({ data := #[] })])] w7);refine wl_fill (c' := #[.string x.k, .string x.v]) h8 0 rfl rfl ?_;intro w9 (h10 : HA (bs w5) [(q6, 64, #[.string x.k, .string x.v])] w9);refine znt ?_;refine wp_seq ?_;have hc5 := (h10.get 0 rfl).cell 0;have hJy := abides hJ hJk h10.old.old;have hPy := hPk.keep h10.old.old;have hDy := hDk.keep h10.old.old;have hBy := hBk.keep h10.old.old;obtain ⟨fnY, tmpsY, asgY, bodyY, hy, hRY⟩ := hY _ x.k _ hJy (⟨_, (keys_take1 hx).symm⟩)
  simp only [encK] at hy
  refine (wpIn_wide (n := 8)).1 ?_;clear hpa hpk hpv
  simp only [pt]
  gi_wp2
  first | refine hRY.mono ?_ | refine ⟨fun h => absurd h (by simp [Fence.wide]), hRY.mono ?_⟩
  rintro e W3 (⟨rfl, hJ3, hk3⟩ | ⟨rfl, hJx3⟩)
  ·gi_wp2
   have hs3 := HA.start W3;refine zt ?_;refine zcf ?_;refine wp_skip ?_;refine block_normal ?_;refine zt ?_;refine wl_region ?_;refine zwu (run_add (k := .i64) (a := k) (b := 1) (by first | omega | (simp only [top]; omega))) ?_;refine zwv (i6 (k + 1)) ?_;refine wl_nil ?_;exact then_I (zey [] ⟨by rw [keys_take1 hx]; exact hJ3, hPy.kp hk3 hpa0, hDy.kp hk3 hda0, cells_kept hBy hk3 (by omega) (by omega)⟩)
  ·gi_wp2
   have hs3 := HA.start W3;refine zt ?_;refine zct ?_;refine wp_ret ?_
   repeat first|refine zrt ?_|refine block_ret ?_
   exact zb (v := .tuple #[]) ⟨⟨_, rfl⟩, .inr ⟨_, hJx3⟩⟩
 ·rintro _ w11 ⟨u4, rfl, hJk, hPk, hDk, hBk⟩;have hL := HA.start w11;refine zsr ?_;refine zwu (run_lss (k := .i64) (a := ps.length) (b := ps.length) false (df (by omega))) ?_;refine znt ?_;refine wp_seq ?_;refine zcf ?_;refine wp_exit ?_
  repeat first | refine then_exit ?_ | refine block_exit ?_ | refine block_exit_ne (by decide) ?_
  refine zt ?_;refine zsr ?_;refine zwv (.pointer (some ⟨q1, 1, none⟩)) ?_;refine zwu (v := .slice do_ ds.length dc) (run_load1 isAgg39 (((hBk.keep hL.old.old).cell 1).trans rfl)) ?_;refine zwv (i6 ds.length) ?_;refine zwv (i6 0) ?_;refine znt ?_;refine wp_block ?_;refine wp_count (fun k A w' => ∃ u12 : Nat → Value, A = ⟨(.agg #[.slice po ps.length pc, .slice do_ ds.length dc] :: .func (.yield l) #[] #[] :: pt q1 :: un :: un :: u4 5 :: un :: u12 7 :: pt q1 :: .slice po ps.length pc :: i6 ps.length :: i6 ps.length :: .bool false :: u4 13 :: u4 14 :: u4 15 :: u4 16 :: u4 17 :: u4 18 :: u4 19 :: u4 20 :: .pointer (some ⟨q1, 1, none⟩) :: .slice do_ ds.length dc :: i6 ds.length :: i6 k :: u12 25 :: u12 26 :: u12 27 :: u12 28 :: u12 29 :: u12 30 :: u12 31 :: u12 32 :: List.replicate 0 un).toArray, []⟩ ∧ J ((keysOf ps ds).take (ps.length + k)) w' ∧ RowsAt w' po ps ∧ KeysAt w' do_ ds ∧ Blk w' q1 100 #[.slice po ps.length pc, .slice do_ ds.length dc]) ds.length ?_ ?_ ?_
  ·exact zey [] ⟨hJk, hPk, hDk, hBk⟩
  ·rintro k hk _ w13 ⟨u12, rfl, hJk, hPk, hDk, hBk⟩;have hL := HA.start w13;obtain ⟨x, hx⟩ : ∃ x, ds[k]? = some x := ⟨_, List.getElem?_eq_getElem hk⟩;obtain ⟨da, hda, hdk⟩ := hDk k x hx;refine zsr ?_;refine zwu (run_lss (k := .i64) (a := k) (b := ds.length) true (dt (by omega))) ?_;refine znt ?_;refine zit ?_;refine wp_seq ?_;refine wp_block ?_;refine zsr ?_;refine zwu (v := .pointer (some (da.add k))) (run_addr39 (a := da) (n := ds.length) (m := dc) (i := k) hda hk) ?_;refine zwu (v := .string x) (run_load_at (b := da.add k) isAgg9 hdk) ?_;refine zwv (.string x) ?_;refine znt ?_;refine wp_seq ?_;have hJy := abides hJ hJk hL.old.old;have hPy := hPk.keep hL.old.old;have hDy := hDk.keep hL.old.old;have hBy := hBk.keep hL.old.old;obtain ⟨fnY, tmpsY, asgY, bodyY, hy, hRY⟩ := hY _ x _ hJy (⟨_, (keys_take2 hx).symm⟩)
   simp only [encK] at hy
   refine (wpIn_wide (n := 8)).1 ?_;clear hda hdk
   simp only [pt]
   gi_wp2
   first | refine hRY.mono ?_ | refine ⟨fun h => absurd h (by simp [Fence.wide]), hRY.mono ?_⟩
   rintro e W3 (⟨rfl, hJ3, hk3⟩ | ⟨rfl, hJx3⟩)
   ·gi_wp2
    have hs3 := HA.start W3;refine zt ?_;refine zcf ?_;refine wp_skip ?_;refine block_normal ?_;refine zt ?_;refine wl_region ?_;refine zwu (run_add (k := .i64) (a := k) (b := 1) (by first | omega | (simp only [top]; omega))) ?_;refine zwv (i6 (k + 1)) ?_;refine wl_nil ?_;exact then_I (zey [] ⟨by rw [show ps.length + (k + 1) = ps.length + k + 1 by omega, keys_take2 hx]; exact hJ3, hPy.kp hk3 hpa0, hDy.kp hk3 hda0, cells_kept hBy hk3 (by omega) (by omega)⟩)
   ·gi_wp2
    have hs3 := HA.start W3;refine zt ?_;refine zct ?_;refine wp_ret ?_
    repeat first|refine zrt ?_|refine block_ret ?_
    exact zb (v := .tuple #[]) ⟨⟨_, rfl⟩, .inr ⟨_, hJx3⟩⟩
  ·rintro _ w14 ⟨u12, rfl, hJk, hPk, hDk, hBk⟩;have hL := HA.start w14;refine zsr ?_;refine zwu (run_lss (k := .i64) (a := ds.length) (b := ds.length) false (df (by omega))) ?_;refine znt ?_;refine wp_seq ?_;refine zcf ?_;refine wp_exit ?_
   repeat first | refine then_exit ?_ | refine block_exit ?_ | refine block_exit_ne (by decide) ?_
   exact bodyPost_end (v := .tuple #[]) (by kernel_rfl) rfl ⟨⟨_, rfl⟩, .inl ⟨_, rfl, by have h9 := hJk; rw [List.take_of_length_le (by rw [keysOf, List.length_append, List.length_map]; omega)] at h9; exact h9⟩⟩
theorem keys_seq {po do_ : Option Addr} {pc dc : Nat} {ps : List Rw} {ds : List ByteArray} {w : World} {ka kb : Nat} (hP : RowsAt w po ps) (hD : KeysAt w do_ ds) (hpa0 : ps ≠ [] → apA po ka kb) (hda0 : ds ≠ [] → apA do_ ka kb) (hka : ka < w.heap.size) (hkb : kb < w.heap.size) (hpl : ps.length ≤ 1000000000) (hdl : ds.length ≤ 1000000000) :
  SeqR prog 102 #[.agg #[.slice po ps.length pc, .slice do_ ds.length dc]] #[] encK (KpC ka kb) (fun xs => xs = keysOf ps ds) (fun xs => ∃ n, xs = (keysOf ps ds).take n) w := fun l J Jx W hW hJ hJx hY h0 =>
 callsIn_wide.2 (keys_calls hJ (hP.keep hW) (hD.keep hW) hpa0 hda0 (by have := hW.size; omega) (by have := hW.size; omega) hpl hdl hY h0)
end Go.Proofs.YtckmlaempffpjaaGreat
