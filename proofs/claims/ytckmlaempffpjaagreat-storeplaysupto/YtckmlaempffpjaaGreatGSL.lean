/-
 An iterator over the rows of a store; the keys in order.
-/
import Derived.Test.YtckmlaempffpjaaGreatGS9
namespace Go.Proofs.YtckmlaempffpjaaGreat
set_option maxHeartbeats 1000000
open Go.RowKit Go.Shelf Go.Maps Go.Proofs.Tryz
/-! an iterator over a map -/
def bnR (pre : List Re) : Array Nat := (pre.map (·.bn)).toArray
theorem bnR_push (pre : List Re) (f : Re) : (bnR pre).push f.bn = bnR (pre ++ [f]) := by simp [bnR]
section
variable {w0 : World} {M : ML} {L : BL} {w : World} {it r nx : Nat} {rs pre lft : List Re} {ρ : Operand → Value} {x : Operand} {dst : Option Tmp} {ty : TypeId} {pos : String} {aft : Array Edge} {gd : Option (Nat × Bool)}
theorem run_rangeR (hb : w.heap[r]? = some (.map (eR rs) nx)) (hx : ρ x = .map (some r)) :
  (execOp ρ ⟨dst, .range 71 x, ty, pos, aft, gd⟩).run prog w = .ok (.value (pq w.heap.size)) (w.alloc (MO.it r nx #[] nx).obj) := by
 have hg : (getObj r).run prog w = .ok (.map (eR rs) nx) w := by simp [getObj, Sem.run, hb]
 simp [execOp, hx, Instr.range, run_underlying underlying71, hg, MO.obj]
theorem left_memR (hp : (pre ++ lft).Perm rs) {e : MapEntry} (he : e ∈ (leftOf (eR rs) (bnR pre)).toList) : ∃ f ∈ lft, e = entR f := by
 have h1 : e ∈ (eR rs).toList ∧ (!(bnR pre).contains e.born) = true := by
  have := he
  simp only [leftOf, Array.toList_filter, List.mem_filter] at this
  exact this
 obtain ⟨f, hf, rfl⟩ := List.mem_map.1 (show e ∈ rs.map entR by simpa [eR] using h1.1)
 rcases List.mem_append.1 (hp.mem_iff.2 hf) with h | h
 ·exfalso
  have h2 := h1.2;have : (bnR pre).contains f.bn = true := by
   simp only [bnR, List.contains_toArray]
   exact List.contains_iff_mem.2 (List.mem_map.2 ⟨f, h, rfl⟩)
  simp only [entR, this] at h2
  cases h2
 ·exact ⟨f, h, rfl⟩
theorem left_someR {g : Re} (hp : (pre ++ (g :: lft)).Perm rs) (hK : RK rs nx) : (leftOf (eR rs) (bnR pre)).size ≠ 0 := fun h0 => by
 have hg : g ∈ rs := hp.mem_iff.1 (by simp);have hn : (bnR pre).contains g.bn = false := by
  cases h : (bnR pre).contains g.bn with
  | false => rfl
  | true =>
   simp only [bnR, List.contains_toArray] at h
   obtain ⟨f, hf, e⟩ := List.mem_map.1 (List.contains_iff_mem.1 h);have hnd : ((pre ++ (g :: lft)).map (·.bn)).Nodup := (hp.map _).nodup_iff.2 hK.bns;rw [List.map_append, List.nodup_append] at hnd;exact absurd e (hnd.2.2 f.bn (List.mem_map.2 ⟨f, hf, rfl⟩) g.bn (by simp))
 have hm : entR g ∈ (leftOf (eR rs) (bnR pre)).toList := by
  simp only [leftOf, Array.toList_filter, List.mem_filter]
  exact ⟨by simpa [eR] using ⟨g, hg, rfl⟩, by simp only [entR, hn]; rfl⟩
 rw [Array.eq_empty_of_size_eq_zero h0] at hm
 cases hm
theorem bornsR (hK : RK rs nx) : ∀ x ∈ (eR rs).toList, x.born < nx := fun x hx => by
 obtain ⟨f, hf, rfl⟩ := List.mem_map.1 (show x ∈ rs.map entR by simpa [eR] using hx);exact hK.old f hf
theorem run_nextR_end (hp : (pre ++ []).Perm rs) (hK : RK rs nx) (H : HA ⟨w0, (it, .it r nx (bnR pre) nx) :: M⟩ L w) (hb : w.heap[r]? = some (.map (eR rs) nx)) (hx : ρ x = pq it) :
  (execOp ρ ⟨dst, .next x false, ty, pos, aft, gd⟩).run prog w = .ok (.value (.tuple #[.bool false])) w := by
 have hi : w.heap[it]? = some (.mapIter (some r) nx (bnR pre) nx) := H.old.maps _ (List.mem_cons_self ..)
 rcases run_next_at (P := prog) w ty it r nx nx (bnR pre) (eR rs) nx hi hb (bornsR hK) (Nat.le_refl _) with ⟨_, h⟩ | ⟨e, he, _⟩
 ·simp only [execOp, hx, Sem.run_bind, h, Result.andThen_ok, Sem.run_pure]
 ·obtain ⟨f, hf, _⟩ := left_memR hp he
  cases hf
theorem run_nextR_some {g : Re} (hp : (pre ++ (g :: lft)).Perm rs) (hK : RK rs nx) (H : HA ⟨w0, (it, .it r nx (bnR pre) nx) :: M⟩ L w) (hb : w.heap[r]? = some (.map (eR rs) nx)) (hne : r ≠ it) (hx : ρ x = pq it) :
  ∃ A f B w', g :: lft = A ++ f :: B ∧ (execOp ρ ⟨dst, .next x false, ty, pos, aft, gd⟩).run prog w = .ok (.value (.tuple #[.bool true, .string f.r.k, rwv f.r])) w' ∧
   HA ⟨w0, (it, .it r nx (bnR (pre ++ [f])) nx) :: M⟩ L w' ∧ w'.heap[r]? = some (.map (eR rs) nx) := by
 have hi : w.heap[it]? = some (.mapIter (some r) nx (bnR pre) nx) := H.old.maps _ (List.mem_cons_self ..)
 rcases run_next_at (P := prog) w ty it r nx nx (bnR pre) (eR rs) nx hi hb (bornsR hK) (Nat.le_refl _) with ⟨h0, _⟩ | ⟨e, he, w1, hw1, h⟩
 ·exact absurd h0 (left_someR hp hK)
 ·obtain ⟨f, hf, rfl⟩ := left_memR hp he;obtain ⟨A, B, hAB⟩ := List.append_of_mem hf;refine ⟨A, f, B, _, hAB, by simp only [execOp, hx, Sem.run_bind, h, Result.andThen_ok, Sem.run_pure]; rfl, ?_, ?_⟩
  ·have H1 : HA ⟨w0, (it, .it r nx (bnR pre) nx) :: M⟩ L w1 := by
    rcases hw1 with rfl | rfl
    ·exact H
    ·exact H.drew
   have := H1.setM 0 (o' := .it r nx ((bnR pre).push f.bn) nx) rfl;rw [bnR_push] at this;rw [show (entR f).born = f.bn from rfl, bnR_push];exact this
  ·have : w1.heap[r]? = some (.map (eR rs) nx) := by rcases hw1 with rfl | rfl <;> exact hb
   rw [← this]
   simp [ChangeMaps.setBlock, Ne.symm hne]
theorem run_entryR {f : Re} (hf : f ∈ rs) (hK : RK rs nx) (H : HA ⟨w0, (it, .it r nx (bnR (pre ++ [f])) nx) :: M⟩ L w) (hb : w.heap[r]? = some (.map (eR rs) nx)) (hx : ρ x = pq it) :
  (execOp ρ ⟨dst, .entry x, ty, pos, aft, gd⟩).run prog w = .ok (.value (.tuple #[.string f.r.k, rwv f.r])) w := by
 have hi : w.heap[it]? = some (.mapIter (some r) nx ((bnR pre).push (entR f).born) nx) := by
  have := H.old.maps _ (List.mem_cons_self ..);rw [show (entR f).born = f.bn from rfl, bnR_push];exact this
 have := run_entry_at (P := prog) w it r nx (bnR pre) (eR rs) nx (entR f) hi hb (by simpa [eR] using ⟨f, hf, rfl⟩) (by have := hK.bns; simpa [eR, entR, Function.comp_def] using this)
 simp only [execOp, hx, Sem.run_bind, this, Result.andThen_ok, Sem.run_pure]
 rfl
end
def Tryz.keysB_ren : Go.Shelf.Ren := ⟨fun | 7 => 97 | 10 => 132 | n => n, fun | 23 => 71 | 26 => 9 | 3 => 64 | 28 => 104 | 0 => 0 | 27 => 103 | 33 => 90 | 4 => 4 | n => n, fun | n => n⟩
theorem Tryz.keysB : Go.Proofs.SlLaysZ.n7 prog Tryz.keysB_ren := {
 mixed := by kernel_rfl
 f7 := ⟨Tryz.f97.name, by decide, Tryz.func97.trans (congrArg some (by kernel_rfl))⟩
 f10 := ⟨Tryz.f132.name, by decide, Tryz.func132.trans (congrArg some (by kernel_rfl))⟩
 t0 := underlying0
 a0 := isAgg0
 z0 := sizeOf0
 v0 := Tryz.zeroValue0
 t4 := underlying4
 a4 := isAgg4
 z4 := sizeOf4
 v4 := Tryz.zeroValue4
 t23 := underlying71
 a23 := isAgg71
 z23 := sizeOf71
 v23 := Tryz.zeroValue71
 t26 := underlying9
 a26 := isAgg9
 z26 := sizeOf9
 v26 := Tryz.zeroValue9
 t27 := underlying103
 a27 := isAgg103
 z27 := sizeOf103
 v27 := Tryz.zeroValue103
 t28 := underlying104
 a28 := isAgg104
 z28 := sizeOf104
 v28 := Tryz.zeroValue104
 t33 := underlying90
 a33 := isAgg90
 z33 := sizeOf90
 v33 := Tryz.zeroValue90 }
def keyL (l : List Rw) : List (List UInt8) := (l.map fun x => bl x.k).mergeSort leB
def D0R (rs : List Re) : DataW Unit := .map ((rs.map fun f => (Lit.string (bl f.r.k), DataW.nil)).foldr DataW.insert [])
theorem rg_entR (f : Re) (h : f.r.k.size ≤ 64) : WideElems.rg (H := Unit) prog 9 (fun _ => some (.nil, [])) (entR f) = (.string (bl f.r.k), .nil) := by
 have := Go.WideMaps.keyOf_string_mk (P := prog) underlying9 (s := f.r.k) (by simp only [maxLen]; omega)
 simp [WideElems.rg, WideElems.rd, entR, this, bl]
theorem owns_R {rs : List Re} {nx r : Nat} {w : World} (hK : RK rs nx) (hs : ∀ f ∈ rs, f.r.k.size ≤ 64) (hl : rs.length ≤ 1000000000) (hb : w.heap[r]? = some (.map (eR rs) nx)) :
  w.ownsMap (H := Unit) prog 9 (fun _ => some (.nil, [])) r rs.length (D0R rs) := by
 refine ⟨eR rs, nx, hb, ⟨?_, ⟨fun x hx => ?_, ?_, ?_⟩, fun x hx => ?_⟩, by simp [eR], ?_⟩
 ·simp only [eR, List.size_toArray, List.length_map, maxLen]; omega
 ·obtain ⟨f, hf, rfl⟩ := List.mem_map.1 (show x ∈ rs.map entR by simpa [eR] using hx);exact hK.old f hf
 ·have := hK.bns
  simpa [eR, entR, Function.comp_def] using this
 ·have h2 : ((eR rs).toList.map (·.key)) = (rs.map (·.r.k)).map Value.string := by simp [eR, entR, Function.comp_def]
  rw [h2];exact List.pairwise_map.2 (hK.nms.imp fun h e => h (by simpa using e))
 ·obtain ⟨f, hf, rfl⟩ := List.mem_map.1 (show x ∈ rs.map entR by simpa [eR] using hx);have := Go.WideMaps.keyOf_string_mk (P := prog) underlying9 (s := f.r.k) (by have := hs f hf; simp only [maxLen]; omega);exact ⟨_, by simp only [WideElems.rd, entR, this]; rfl⟩
 ·have e : (eR rs).toList.map (WideElems.rg (H := Unit) prog 9 (fun _ => some (.nil, []))) = rs.map fun f => (Lit.string (bl f.r.k), DataW.nil) := by
   rw [eR, List.map_map];refine List.map_congr_left fun f hf => ?_
   rw [Function.comp_apply, rg_entR f (hs f hf)]
  rw [e, D0R]
theorem strKeys_D0R (rs : List Re) : (strKeys (D0R rs)).Perm (rs.map fun f => bl f.r.k) := by
 have h := (WideShapes.sorted_perm (rs.map fun f => (Lit.string (bl f.r.k), (DataW.nil : DataW Unit)))).map (fun p => strOf p.1);rw [List.map_map] at h;exact h
theorem size_D0R (rs : List Re) : Maps.size (D0R rs) = rs.length := by
 simp only [D0R, Maps.size_eq, length_sorted, List.length_map]
theorem keysR_any (r : Nat) (w : World) : Calls prog 97 #[.map (some r)] w fun e w' => e = .returned (.func (.func 132) #[] #[pq w.heap.size]) ∧ w' = w.alloc (.cells #[.map (some r)] 71) :=
 (callsIn_wide (n := 5)).1 (AnyZ.keys_in Tryz.keysB Fence.wide 5 trivial rfl (some r) w)
theorem sortedR_any {rs : List Re} {nx r b : Nat} {w : World} (hK : RK rs nx) (hs : ∀ f ∈ rs, f.r.k.size ≤ 64) (hl : rs.length ≤ 1000000000) (hb : w.heap[r]? = some (.map (eR rs) nx)) (hc : Blk w b 71 #[.map (some r)]) :
  Calls prog 58 #[.func (.func 132) #[] #[pq b]] w fun e w' => ∃ v, e = .returned v ∧ w'.ownsRow w.heap.size 9 1 v rs.length ((keyL (rws rs)).map encStr) ∧ Below w.heap.size w w' := by
 refine (callsIn_wide (n := 5)).1 ?_;have hseq : SeqGives Fence.wide 2 prog 132 #[pq b] encStr (fun ss => ss.Perm (strKeys (D0R rs))) (Maps.size (D0R rs)) w :=
  AnyZ.keys_gives (ρ := Tryz.keysB_ren) { Tryz.keysB with } Fence.wide _ trivial rfl (by omega) b r rs.length (D0R rs) w hc.lt (by rw [hc.cell 0]; rfl) (owns_R hK hs hl hb)
 have cS := AnyZ.sorted_in Tryz.sortedA Fence.wide 5 trivial trivial trivial trivial rfl (by omega) (sortsA _) (enters_of Tryz.func67 (by kernel_rfl) rfl) 132 #[pq b] trivial (enters_of Tryz.func132 (by kernel_rfl) rfl) _ _ (by rw [size_D0R]; simp only [maxLen]; omega) (by rw [size_D0R]; omega) _ hseq
 change CallsIn _ _ prog 58 _ _ _ at cS
 refine cS.mono ?_;rintro e w' ⟨v, ss, rfl, hp, hrow, _, hbl⟩;have hp2 : ss.Perm (rs.map fun f => bl f.r.k) := hp.trans (strKeys_D0R rs);have e1 : ss.mergeSort (fun x y => decide (x ≤ y)) = keyL (rws rs) := by
  rw [keyL, rws, List.map_map];exact mergeSort_of_perm hp2
 have e2 : ss.length = rs.length := by rw [hp2.length_eq, List.length_map]
 rw [e1, e2] at hrow;exact ⟨v, rfl, hrow, hbl⟩
end Go.Proofs.YtckmlaempffpjaaGreat
namespace Go.Proofs.YtckmlaempffpjaaGreat
set_option linter.unusedVariables false
set_option maxRecDepth 100000
set_option maxHeartbeats 2000000
open Go.RowKit Go.Proofs.Tryz
def nmsR (rs : List Re) (p : ByteArray) : List (List UInt8) := (rs.filter fun f => pfx f.r.k p).map fun f => bl f.r.k
def lstR (l : List Rw) (p : ByteArray) : List (List UInt8) := ((l.filter fun x => pfx x.k p).map fun x => bl x.k).mergeSort leB
theorem nmsR_snoc (pre : List Re) (f : Re) (p : ByteArray) : nmsR (pre ++ [f]) p = nmsR pre p ++ (if pfx f.r.k p = true then [bl f.r.k] else []) := by
 by_cases h : pfx f.r.k p = true
 ·simp [nmsR, h]
 ·simp [nmsR, h]
theorem nmsR_len (pre : List Re) (p : ByteArray) : (nmsR pre p).length ≤ pre.length := by
 unfold nmsR
 rw [List.length_map];exact List.length_filter_le _ _
theorem nmsR_sort {rs : List Re} {l : List Rw} {pre : List Re} {p : ByteArray} (h : rws rs = l) (hp : (pre ++ []).Perm rs) : (nmsR pre p).mergeSort leB = lstR l p := by
 rw [lstR];refine mergeSort_of_perm ?_;have h1 : (nmsR pre p).Perm (nmsR rs p) := by
  rw [List.append_nil] at hp;exact (hp.filter _).map _
 have h2 : nmsR rs p = (l.filter fun x => pfx x.k p).map fun x => bl x.k := by
  rw [← h, nmsR, rws, List.filter_map, List.map_map]
  rfl
 rw [← h2];exact h1
theorem slist_any {w : World} {q dq r size nx : Nat} {rs : List Re} {rows : List Rw} {laid : Nat} (hq : Blk w q 73 (scell dq r laid size)) (hm : w.heap[r]? = some (.map (eR rs) nx)) (hrs : rws rs = rows) (hK : RK rs nx) (hns : ∀ f ∈ rs, f.r.k.size ≤ 1000000000) (hct : rs.length ≤ 1000000000) (p : ByteArray) :
  Calls prog 27 #[pt q, .string p] w fun e w' => ∃ v' Lr', e = .returned v' ∧ Row 9 1 v' (lstR rows p).length ((lstR rows p).map encStr) Lr' ∧ HA (bs w) Lr' w' := by
 have H0 := HA.start w
 go_enter Tryz.func27, Tryz.ntmps27
 refine zsr (zv (znt (wp_seq (zsr (zv ?_)))));refine wl_call (v := .bool false) H0 enter47 #[pq q] (snone_no (hq.keep H0.old.old)) ?_;intro w1 h2;refine znt (zcf (wp_skip (zt (zsr (zv (znt (wp_seq (zsr (zv (zv ?_))))))))));refine zv ?_;refine zwu (v := .map (some r)) (run_load1 isAgg71 (((hq.keep h2.old.old).cell 1).trans rfl)) ?_;refine wl_any (by kernel_rfl) (run_rangeR ((h2.old.old.block _ (lt_of_block hm)).trans hm) (by kernel_rfl)) ?_;have h3 := h2.newM (.it r nx (bnR []) nx);have hge : w.heap.size ≤ w1.heap.size := h2.size;have hrit : r ≠ w1.heap.size := by have := lt_of_block hm; omega
 generalize hit : w1.heap.size = it at h3 hge hrit ⊢
 change HA _ _ (w1.alloc (MO.it r nx #[] nx).obj) at h3
 generalize w1.alloc (MO.it r nx #[] nx).obj = w4 at h3 ⊢;refine znt ?_;refine wp_block ?_;refine zwh (fun Z0 mq A w' => ∃ (pre lft : List Re) (vv : Value) (Lr2 : BL) (u5 : Nat → Value), mq = lft.length ∧ A = pts Z0 [(5, vv), (6, u5 6), (14, u5 14), (15, u5 15), (16, u5 16), (17, u5 17), (18, u5 18), (19, u5 19), (20, u5 20), (21, u5 21), (22, u5 22), (23, u5 23), (24, u5 24), (25, u5 25)] ∧ (pre ++ lft).Perm rs ∧ Row 9 1 vv (nmsR pre p).length ((nmsR pre p).map encStr) Lr2 ∧ HA ⟨w, [(it, .it r nx (bnR pre) nx)]⟩ Lr2 w') rs.length ?_ ?_
 ·exact ⟨[], rs, .slice none 0 0, [], lku (fun _ => undef) [], rfl, by kernel_rfl, List.Perm.refl _, Row.nil 9 1, h3⟩
 rintro _ _ w6 ⟨pre, lft, vv, Lr2, u5, rfl, rfl, hp, hR2, hL⟩
 rcases lft with _ | ⟨g0, lf⟩
 ·skip
  refine zsr ?_;refine zwu (run_nextR_end hp hK hL ((hL.old.old.block _ (lt_of_block hm)).trans hm) (by kernel_rfl)) ?_;refine zv (znt (wp_seq (zcf ?_)));refine wp_exit ?_
  repeat first | refine then_exit ?_ | refine block_exit ?_ | refine block_exit_ne (by decide) ?_
  refine zt (zsr (zv ?_));refine wl_callx enter67 #[vv] (sort_row (L := []) hR2 (by simpa using hL) (by have := nmsR_len pre p; have := hp.length_eq; simp at this; omega)) ?_;rintro _ w7 ⟨rfl, Lr4, hR4, hS⟩;refine ⟨_, rfl, ?_⟩;refine znt (zsr (zv (zv (znt ?_))));refine wp_ret ?_
  repeat first|refine zrt ?_|refine block_ret ?_
  exact zb (v := vv) ⟨vv, Lr4, rfl, by rw [← nmsR_sort hrs hp, List.length_mergeSort]; exact hR4, HA.noM (by simpa using hS)⟩
 ·have hlp := hp.length_eq;rw [List.length_append, List.length_cons] at hlp;have hnl := nmsR_len pre p;refine zsr ?_;obtain ⟨A, f, B, wn, hAB, hrn, hn2, hmn⟩ := run_nextR_some (ρ := _) (x := _) (dst := _) (ty := _) (pos := _) (aft := _) (gd := _) hp hK hL ((hL.old.old.block _ (lt_of_block hm)).trans hm) hrit (by kernel_rfl);refine wl_any (by kernel_rfl) hrn ?_;have hff : f ∈ rs := hp.mem_iff.1 (by rw [hAB]; simp);refine zv (znt (zit ?_));refine wp_block ?_;refine zsr ?_;refine zwu (run_entryR hff hK hn2 ((hn2.old.old.block _ (lt_of_block hm)).trans hm) (by kernel_rfl)) ?_;refine zv (zv (znt (wp_seq ?_)))
  rcases hpx : pfx f.r.k p with _ | _
  ·refine wl_region (zv (zv ?_));refine wl_call (v := .bool false) hn2 enter66 #[.string f.r.k, .string p] (by have := HasPrefix_any f.r.k p wn; rw [hpx] at this; exact this) ?_;intro w8 h9;refine znt (zcf (wp_skip ?_));refine block_normal ?_;exact then_I ⟨(A ++ B).length, (by rw [show (g0 :: lf).length = (A ++ f :: B).length by rw [hAB]]; simp), pre ++ [f], A ++ B, vv, Lr2, lku u5 [(6, .string f.r.k), (14, .tuple #[.bool true, .string f.r.k, rwv f.r]), (15, .bool true), (16, .tuple #[.string f.r.k, rwv f.r]), (17, .string f.r.k), (18, .string f.r.k), (19, .string p), (20, .bool false)], rfl, by kernel_rfl, by rw [hAB] at hp; rw [List.append_assoc]; refine List.Perm.trans (List.Perm.append_left pre ?_) hp; show (f :: (A ++ B)).Perm (A ++ f :: B); exact List.perm_middle.symm, by rw [nmsR_snoc, hpx]; simpa using hR2, h9⟩
  ·refine wl_region (zv (zv ?_));refine wl_call (v := .bool true) hn2 enter66 #[.string f.r.k, .string p] (by have := HasPrefix_any f.r.k p wn; rw [hpx] at this; exact this) ?_;intro w10 h11;refine znt (zct (wl_region (zv (zv ?_))));refine wl_call (v := .string f.r.k) h11 enter61 #[.string f.r.k] (sclone_any f.r.k w10 (by have := hns f hff; omega)) ?_;intro w12 h13;refine wl_mks (n := 1) (m := 1) (c := #[.string f.r.k]) h13 9 ?_;intro q14 w15 h16;refine wl_append (Lr := Lr2) (L := []) (m := 1) (c := 1) hR2 (by simpa using h16) (.string { data := #[] }) 16 underlying39 info9 rfl rfl (by unfold maxLen; omega) (by omega) ?_;intro v3 w17 Lr3 hR3 h18;refine zv (wl_nil ?_);refine block_normal ?_;exact then_I ⟨(A ++ B).length, (by rw [show (g0 :: lf).length = (A ++ f :: B).length by rw [hAB]]; simp), pre ++ [f], A ++ B, v3, (Lr3 ++ []), lku (fun _ => undef) [(6, .string f.r.k), (14, .tuple #[.bool true, .string f.r.k, rwv f.r]), (15, .bool true), (16, .tuple #[.string f.r.k, rwv f.r]), (17, .string f.r.k), (18, .string f.r.k), (19, .string p), (20, .bool true), (21, vv), (22, .string f.r.k), (23, .string f.r.k), (24, .slice (some ⟨q14, 0, none⟩) 1 1), (25, v3)], rfl, by kernel_rfl, by rw [hAB] at hp; rw [List.append_assoc]; refine List.Perm.trans (List.Perm.append_left pre ?_) hp; show (f :: (A ++ B)).Perm (A ++ f :: B); exact List.perm_middle.symm, by rw [List.append_nil]; rw [nmsR_snoc, if_pos hpx, List.length_append, List.map_append]; simpa [enc_nm] using hR3, h18⟩
theorem index_no {w : World} {o : Option Addr} {c : Nat} {ds : List ByteArray} (hK : KeysAt w o ds) (hdl : ds.length ≤ 1000000000) (x : ByteArray) (hn : ∀ y ∈ ds, y ≠ x) :
  Calls prog 148 #[.slice o ds.length c, .string x] w fun e w' => e = .returned (.int .i64 (-1)) ∧ Below w.heap.size w w' := by
 have H0 := HA.start w
 go_enter Tryz.func148, Tryz.ntmps148
 refine zsr (zv (znt (wp_seq (zsr (zv (zv (zv (znt ?_))))))));refine wp_block ?_;refine zcn (fun Z0 k A w' => ∃ u1 : Nat → Value, A = pts Z0 [(4, u1 4), (5, u1 5), (8, i6 k), (9, u1 9), (10, u1 10), (11, u1 11), (12, u1 12), (13, u1 13), (14, u1 14), (15, u1 15), (16, u1 16), (17, u1 17), (18, u1 18)] ∧ HA (bs w) [] w') ds.length ?_ ?_ ?_
 ·exact zey [] H0
 ·rintro k hk _ w2 ⟨u1, rfl, hL⟩;have hkd := hk;obtain ⟨y, hy⟩ : ∃ y, ds[k]? = some y := ⟨_, List.getElem?_eq_getElem hkd⟩;obtain ⟨da, hda, hdk⟩ := hK k y hy;have hyx : y ≠ x := hn y (List.mem_of_getElem? hy);refine zsr ?_;refine zwu (run_lss (k := .i64) (a := k) (b := ds.length) true (dt (by omega))) ?_;refine znt (zit (wp_seq ?_));refine wp_block ?_;refine zsr (zv (zv (znt (zsr (zv (zv (zv ?_)))))));refine zwu (v := .pointer (some (da.add k))) (run_addr39 (a := da) (n := ds.length) (m := c) (i := k) hda hkd) ?_;refine zwu (v := .string y) (run_load_at (b := da.add k) isAgg9 (cell_old hL.old.old hdk)) ?_;refine zwu (run_eqs (s := x) (t := y) false (df (Ne.symm hyx))) ?_;refine znt (zcf (wp_skip ?_));refine block_normal ?_;refine zt (wl_region ?_);refine zwu (run_add (k := .i64) (a := k) (b := 1) (by first | omega | (simp only [top]; omega))) ?_;refine zv (wl_nil ?_);exact then_I (zey [] hL)
 ·rintro _ w3 ⟨u1, rfl, hL⟩;refine zsr ?_;refine zwu (run_lss (k := .i64) (a := ds.length) (b := ds.length) false (df (by omega))) ?_;refine znt (wp_seq (zcf ?_));refine wp_exit ?_
  repeat first | refine then_exit ?_ | refine block_exit ?_ | refine block_exit_ne (by decide) ?_
  refine zt (zsr (zv (znt ?_)));refine wp_ret ?_
  repeat first|refine zrt ?_|refine block_ret ?_
  exact zb ⟨rfl, hL.old.old⟩
theorem index_yes {w : World} {o : Option Addr} {c : Nat} {ds : List ByteArray} (hK : KeysAt w o ds) (hdl : ds.length ≤ 1000000000) (x : ByteArray) {A B : List ByteArray} (hds : ds = A ++ x :: B) (hA : ∀ y ∈ A, y ≠ x) :
  Calls prog 148 #[.slice o ds.length c, .string x] w fun e w' => e = .returned (i6 A.length) ∧ Below w.heap.size w w' := by
 have H0 := HA.start w;have hAl : A.length < ds.length := by rw [hds]; simp
 go_enter Tryz.func148, Tryz.ntmps148
 refine zsr (zv (znt (wp_seq (zsr (zv (zv (zv (znt ?_))))))));refine wp_block ?_;refine zcn (fun Z0 k A w' => ∃ u1 : Nat → Value, A = pts Z0 [(4, u1 4), (5, u1 5), (8, i6 k), (9, u1 9), (10, u1 10), (11, u1 11), (12, u1 12), (13, u1 13), (14, u1 14), (15, u1 15), (16, u1 16), (17, u1 17), (18, u1 18)] ∧ HA (bs w) [] w') A.length ?_ ?_ ?_
 ·exact zey [] H0
 ·rintro k hk _ w2 ⟨u1, rfl, hL⟩;have hkd : k < ds.length := by omega
  obtain ⟨y, hy⟩ : ∃ y, ds[k]? = some y := ⟨_, List.getElem?_eq_getElem hkd⟩;obtain ⟨da, hda, hdk⟩ := hK k y hy;have hyx : y ≠ x := hA y (by rw [hds, List.getElem?_append_left hk] at hy; exact List.mem_of_getElem? hy);refine zsr ?_;refine zwu (run_lss (k := .i64) (a := k) (b := ds.length) true (dt (by omega))) ?_;refine znt (zit (wp_seq ?_));refine wp_block ?_;refine zsr (zv (zv (znt (zsr (zv (zv (zv ?_)))))));refine zwu (v := .pointer (some (da.add k))) (run_addr39 (a := da) (n := ds.length) (m := c) (i := k) hda hkd) ?_;refine zwu (v := .string y) (run_load_at (b := da.add k) isAgg9 (cell_old hL.old.old hdk)) ?_;refine zwu (run_eqs (s := x) (t := y) false (df (Ne.symm hyx))) ?_;refine znt (zcf (wp_skip ?_));refine block_normal ?_;refine zt (wl_region ?_);refine zwu (run_add (k := .i64) (a := k) (b := 1) (by first | omega | (simp only [top]; omega))) ?_;refine zv (wl_nil ?_);exact then_I (zey [] hL)
 ·rintro _ w3 ⟨u1, rfl, hL⟩;have hxA : ds[A.length]? = some x := by rw [hds]; simp
  obtain ⟨da, hda, hdk⟩ := hK A.length x hxA;refine zsr ?_;refine zwu (run_lss (k := .i64) (a := A.length) (b := ds.length) true (dt (by omega))) ?_;refine znt (zit (wp_seq ?_));refine wp_block ?_;refine zsr (zv (zv (znt (zsr (zv (zv (zv ?_)))))));refine zwu (v := .pointer (some (da.add A.length))) (run_addr39 (a := da) (n := ds.length) (m := c) (i := A.length) hda hAl) ?_;refine zwu (v := .string x) (run_load_at (b := da.add A.length) isAgg9 (cell_old hL.old.old hdk)) ?_;refine zwu (run_eqs (s := x) (t := x) true (dt rfl)) ?_;refine znt (zct (zsr (zv (zv (znt ?_)))));refine wp_ret ?_
  repeat first|refine zrt ?_|refine block_ret ?_
  exact zb ⟨rfl, hL.old.old⟩
theorem contains_no {w : World} {o : Option Addr} {c : Nat} {ds : List ByteArray} (hK : KeysAt w o ds) (hdl : ds.length ≤ 1000000000) (x : ByteArray) (hn : ∀ y ∈ ds, y ≠ x) :
  Calls prog 129 #[.slice o ds.length c, .string x] w fun e w' => e = .returned (.bool false) ∧ Below w.heap.size w w' := by
 have H0 := HA.start w
 go_enter Tryz.func129, Tryz.ntmps129
 refine zsr (zv (znt (zsr (zv (zv ?_)))));refine wl_call (v := .int .i64 (-1)) H0 enter148 #[.slice o ds.length c, .string x] (index_no (hK.keep H0.old.old) hdl x hn) ?_;intro w1 h2;refine zv (zv (znt ?_));refine wp_ret ?_
 repeat first|refine zrt ?_|refine block_ret ?_
 exact zb ⟨rfl, h2.old.old⟩
theorem contains_yes {w : World} {o : Option Addr} {c : Nat} {ds : List ByteArray} (hK : KeysAt w o ds) (hdl : ds.length ≤ 1000000000) (x : ByteArray) {A B : List ByteArray} (hds : ds = A ++ x :: B) (hA : ∀ y ∈ A, y ≠ x) :
  Calls prog 129 #[.slice o ds.length c, .string x] w fun e w' => e = .returned (.bool true) ∧ Below w.heap.size w w' := by
 have H0 := HA.start w
 go_enter Tryz.func129, Tryz.ntmps129
 refine zsr (zv (znt (zsr (zv (zv ?_)))));refine wl_call (v := i6 A.length) H0 enter148 #[.slice o ds.length c, .string x] (index_yes (hK.keep H0.old.old) hdl x hds hA) ?_;intro w1 h2;refine zwu (run_geq (k := .i64) (a := A.length) (b := 0) true (dt (by omega))) ?_;refine zv (znt ?_);refine wp_ret ?_
 repeat first|refine zrt ?_|refine block_ret ?_
 exact zb ⟨rfl, h2.old.old⟩
theorem first_split {x : ByteArray} : ∀ {l : List ByteArray}, x ∈ l → ∃ A B, l = A ++ x :: B ∧ ∀ y ∈ A, y ≠ x
 | [], h => by cases h
 | y :: l, h => by
  by_cases e : y = x
  ·subst e; exact ⟨[], l, rfl, fun _ h => by cases h⟩
  ·rcases List.mem_cons.1 h with rfl | h
   ·exact absurd rfl e
   ·obtain ⟨A, B, rfl, hA⟩ := first_split h;exact ⟨y :: A, B, rfl, fun z hz => by rcases List.mem_cons.1 hz with rfl | hz; exact e; exact hA z hz⟩
theorem contains_any {w : World} {o : Option Addr} {c : Nat} {ds : List ByteArray} (hK : KeysAt w o ds) (hdl : ds.length ≤ 1000000000) (x : ByteArray) :
  Calls prog 129 #[.slice o ds.length c, .string x] w fun e w' => e = .returned (.bool (ds.any fun y => decide (y = x))) ∧ Below w.heap.size w w' := by
 cases h : ds.any fun y => decide (y = x) with
 | true =>
  obtain ⟨y, hy, e⟩ := List.any_eq_true.1 h;obtain rfl : y = x := of_decide_eq_true e;obtain ⟨A, B, hds, hA⟩ := first_split hy;exact contains_yes hK hdl y hds hA
 | false =>
  exact contains_no hK hdl x fun y hy e => List.any_eq_false.1 h y hy (dt e)
end Go.Proofs.YtckmlaempffpjaaGreat
namespace Go.Proofs.YtckmlaempffpjaaGreat
open Go.RowKit Go.Proofs.Tryz
def roomD (D : DS) : Nat := D.free + used D.fs
theorem room_op {D D2 : DS} (h : roomD D2 = roomD D) (put er : Nat) : roomD (opD D D2 put er).1 = roomD D := by
 unfold opD
 split
 ·rfl
 ·split
  ·exact h
  ·exact h
theorem room_on {D D2 : DS} (h : roomD D2 = roomD D) (nm : ByteArray) (er : Nat) : roomD (OnD D D2 nm er).1 = roomD D := by
 refine room_op ?_ _ _
 unfold onD
 split
 ·exact h
 ·rfl
theorem room_Remove (D : DS) (nm : ByteArray) : roomD (RemoveD D nm).1 = roomD D := by
 refine room_on ?_ _ _;have h1 := used_split D.fs nm
 show D.free + used (keepF D.fs nm) + used (delF D.fs nm) = D.free + used D.fs
 omega
structure DG (D : DS) (R N : Nat) : Prop where
 db : DB D R N
 ro : roomD D ≤ R
theorem DG.of {D D' : DS} {U R N : Nat} (h : DB D' U N) (hr : roomD D' = roomD D) (ho : roomD D ≤ R) : DG D' R N :=
 ⟨⟨h.rm, h.lf, by have := hr; unfold roomD at this ho; omega, h.sz, h.nm, h.ct, h.nd⟩, by omega⟩
section
variable {D : DS} {R N : Nat}
theorem DG.rem (h : DG D R N) (nm : ByteArray) : DG (RemoveD D nm).1 R (N + 1) := .of (Remove_DB h.db nm) (room_Remove D nm) h.ro
theorem DG.mono (h : DG D R N) {N' : Nat} (hN : N ≤ N') : DG D R N' := ⟨h.db.mono (Nat.le_refl _) hN, h.ro⟩
end
/-! the names of the store's files -/
def nN : ByteArray := { data := #[110] }
def nS : ByteArray := { data := #[115] }
def hasN (D : DS) : Bool := !D.down && D.fs.any fun x => decide (x.nm = nN)
def rmN (D : DS) : DS × Nat := if hasN D = true then RemoveD D nN else (D, 0)
def layD (D : DS) (fr : ByteArray) : DS × Nat :=
 if (rmN D).2 ≠ 0 then rmN D
 else if (AppendD (rmN D).1 nN fr).2 ≠ 0 then AppendD (rmN D).1 nN fr
 else if (SyncD (AppendD (rmN D).1 nN fr).1 nN).2 ≠ 0 then SyncD (AppendD (rmN D).1 nN fr).1 nN
 else RenameD (SyncD (AppendD (rmN D).1 nN fr).1 nN).1 nN nS
theorem DG.rmN {D : DS} {R N : Nat} (h : DG D R N) : DG (rmN D).1 R (N + 1) := by
 unfold YtckmlaempffpjaaGreat.rmN
 split
 ·exact h.rem _
 ·exact h.mono (Nat.le_succ _)
theorem list_names (D : DS) (p : ByteArray) : (listD D p).map encStr = scl ((listD D p).map fun b => (⟨b.toArray⟩ : ByteArray)) := by
 rw [scl, List.map_map];exact List.map_congr_left fun b _ => rfl
theorem list_has (D : DS) : ((listD D nN).map fun b => (⟨b.toArray⟩ : ByteArray)).any (fun y => decide (y = nN)) = hasN D := by
 have key : ∀ x : ByteArray, (⟨(bl x).toArray⟩ : ByteArray) = x := fun x => by simp [bl]
 rw [Bool.eq_iff_iff, List.any_eq_true]
 unfold hasN listD
 by_cases hd : D.down = true
 ·simp [hd]
 ·have hd' : D.down = false := by cases h : D.down <;> simp_all
  simp only [hd', Bool.not_false, Bool.true_and, Bool.false_eq_true, if_false, lstL]
  rw [List.any_eq_true]
  constructor
  ·rintro ⟨y, hy, e⟩;obtain ⟨b, hb, rfl⟩ := List.mem_map.1 hy;obtain ⟨x, hx, rfl⟩ := List.mem_map.1 ((List.mergeSort_perm _ _).mem_iff.1 hb);rw [key] at e;exact ⟨x, (List.mem_filter.1 hx).1, e⟩
  ·rintro ⟨x, hx, e⟩;have e' : x.nm = nN := of_decide_eq_true e;refine ⟨x.nm, List.mem_map.2 ⟨bl x.nm, (List.mergeSort_perm _ _).mem_iff.2 (List.mem_map.2 ⟨x, List.mem_filter.2 ⟨hx, ?_⟩, rfl⟩), key _⟩, e⟩;rw [e']; decide
theorem list_len (D : DS) (p : ByteArray) : (listD D p).length ≤ D.fs.length := by
 unfold listD
 split
 ·exact Nat.zero_le _
 ·rw [lstL, List.length_mergeSort, List.length_map];exact List.length_filter_le _ _
end Go.Proofs.YtckmlaempffpjaaGreat
