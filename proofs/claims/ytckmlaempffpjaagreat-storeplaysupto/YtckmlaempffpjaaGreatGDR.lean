/-
 Going through a map; names sorted.
-/
import Derived.Test.YtckmlaempffpjaaGreatGD9
import Derived.Sort.OwnSorted
namespace Go.Proofs.YtckmlaempffpjaaGreat
open Go.RowKit Go.Sort Go.Proofs.Tryz
theorem HA.rowS {z : Base} {L : BL} {w : World} {q : Nat} {c : Array Value} (H : HA z ((q, 9, c) :: L) w) (d : Array (List UInt8)) (n : Nat) (os : Array Obj) : HA z ((q, 9, Sort.putCells encStr 0 d c) :: L) (Sort.grow (Sort.putRow encStr (Sort.ahead w n) q 0 d) os) := by
 have hq := H.get 0 rfl;have hnd := H.nd
 simp only [List.map_cons, List.nodup_cons] at hnd
 have hlt : q < w.heap.size := hq.lt;have hne : ∀ b, b < w.heap.size → b ≠ q → (Sort.grow (Sort.putRow encStr (Sort.ahead w n) q 0 d) os).heap[b]? = w.heap[b]? := fun b hb hbq => by
  rw [Sort.heap_grow_old _ _ (by simpa using hb)]
  simp [Sort.putRow, Sort.mapBlock, Array.getElem?_modify, Ne.symm hbq]
 have hB : Blk (Sort.grow (Sort.putRow encStr (Sort.ahead w n) q 0 d) os) q 9 (Sort.putCells encStr 0 d c) := by
  obtain ⟨f, hf, hff⟩ := hq;refine ⟨f, ?_, ?_⟩
  ·rw [Sort.heap_grow_old _ _ (by simpa using hlt)]
   simp only [Sort.putRow, Sort.mapBlock, Array.getElem?_modify, Sort.heap_ahead, hf, if_true]
   rfl
  ·rcases hff with h | ⟨h, _⟩
   ·exact .inl h
   ·cases h
 have hg : w.grownBy (Sort.grow (Sort.putRow encStr (Sort.ahead w n) q 0 d) os) (some q) := ⟨rfl, rfl, rfl, by simp, fun b hb hbq => hne b hb (fun e => hbq (by rw [e]))⟩;have HL : HA z L (Sort.grow (Sort.putRow encStr (Sort.ahead w n) q 0 d) os) := HA.grownL (row := some q) H.tl hg (fun k hk => by
  obtain rfl := Option.some.inj hk;exact ⟨H.own _ (List.mem_cons_self ..), fun x hx e => hnd.1 (List.mem_map.2 ⟨x, hx, e⟩), H.tl.old.far hq⟩)
 exact HL.consNew hB (H.own _ (List.mem_cons_self ..)) (fun x hx e => hnd.1 (List.mem_map.2 ⟨x, hx, e⟩))
theorem sort_row {z : Base} {L Lr : BL} {w : World} {v : Value} {ss : List (List UInt8)} (hR : Row 9 1 v ss.length (ss.map encStr) Lr) (H : HA z (Lr ++ L) w) (hl : ss.length ≤ 1000000000) :
  Calls prog 67 #[v] w fun e w' => e = .returned (.tuple #[]) ∧ ∃ Lr', Row 9 1 v ss.length ((ss.mergeSort leB).map encStr) Lr' ∧ HA z (Lr' ++ L) w' := by
 rcases hR.2 with ⟨rfl, h2, rfl⟩ | ⟨g, cap, cur, rfl, rfl, k1, k2, k3, k4⟩
 ·have hn : ss = [] := List.length_eq_zero_iff.1 h2;subst hn;refine (Tryz.slices_Sort_string_none none 0 w).mono ?_;rintro e w' ⟨rfl, rfl⟩;exact ⟨rfl, [], by simpa using Row.nil 9 1, H⟩
 ·have hb : Blk w g 9 cur := H.get 0 rfl;rw [Nat.mul_one] at k3 k4;have hcell : ∀ j, j < ss.length → cur[j]? = some (encStr (ss.getD j [])) := fun j hj => by
   have h1 : (cur.toList.take ss.length)[j]? = (ss.map encStr)[j]? := by rw [k4]
   rw [List.getElem?_take, if_pos hj, List.getElem?_map, List.getElem?_eq_getElem hj, Array.getElem?_toList] at h1;rw [h1]
   simp [hj]
  refine (Tryz.slices_Sort_string g 0 cap ss w (fun j hj => ?_) hb.lt (by omega)).mono ?_
  ·have hj' : j < ss.length := by simpa using hj
   rw [Nat.zero_add, hb.cell j, hcell j hj', getElem!_pos _ j (by simpa using hj)];exact ⟨by simp [hj'], hb.free j (by omega)⟩
  ·rintro e w' ⟨rfl, n, os, rfl⟩;refine ⟨rfl, [(g, 9, Sort.putCells encStr 0 (ss.mergeSort leB).toArray cur)], ⟨by simp, .inr ⟨g, cap, _, rfl, rfl, k1, k2, ?_, ?_⟩⟩, HA.rowS H _ n os⟩
   ·simp [Sort.putCells, k3]
   ·have h := take_putCells cur (ss.mergeSort leB) (by simp; omega);rw [List.length_mergeSort] at h;rw [Nat.mul_one];exact h
/-! an iterator over a map -/
def bnA (pre : List Fl) : Array Nat := (pre.map (·.bn)).toArray
theorem bnA_push (pre : List Fl) (f : Fl) : (bnA pre).push f.bn = bnA (pre ++ [f]) := by simp [bnA]
section
variable {w0 : World} {M : ML} {L : BL} {w : World} {it r nx : Nat} {fl pre lft : List Fl} {ρ : Operand → Value} {x : Operand} {dst : Option Tmp} {ty : TypeId} {pos : String} {aft : Array Edge} {gd : Option (Nat × Bool)}
theorem run_range (hb : w.heap[r]? = some (.map (eF fl) nx)) (hx : ρ x = .map (some r)) :
  (execOp ρ ⟨dst, .range 76 x, ty, pos, aft, gd⟩).run prog w = .ok (.value (pq w.heap.size)) (w.alloc (MO.it r nx #[] nx).obj) := by
 have hg : (getObj r).run prog w = .ok (.map (eF fl) nx) w := by simp [getObj, Sem.run, hb]
 simp [execOp, hx, Instr.range, run_underlying underlying76, hg, MO.obj]
theorem left_mem (hp : (pre ++ lft).Perm fl) {e : MapEntry} (he : e ∈ (leftOf (eF fl) (bnA pre)).toList) : ∃ f ∈ lft, e = ent f := by
 have h1 : e ∈ (eF fl).toList ∧ (!(bnA pre).contains e.born) = true := by
  have := he
  simp only [leftOf, Array.toList_filter, List.mem_filter] at this
  exact this
 obtain ⟨f, hf, rfl⟩ := List.mem_map.1 (show e ∈ fl.map ent by simpa [eF] using h1.1)
 rcases List.mem_append.1 (hp.mem_iff.2 hf) with h | h
 ·exfalso
  have h2 := h1.2;have : (bnA pre).contains f.bn = true := by
   simp only [bnA, List.contains_toArray]
   exact List.contains_iff_mem.2 (List.mem_map.2 ⟨f, h, rfl⟩)
  simp only [ent, this] at h2
  cases h2
 ·exact ⟨f, h, rfl⟩
theorem left_some {g : Fl} (hp : (pre ++ (g :: lft)).Perm fl) (hK : FK fl nx) : (leftOf (eF fl) (bnA pre)).size ≠ 0 := fun h0 => by
 have hg : g ∈ fl := hp.mem_iff.1 (by simp);have hn : (bnA pre).contains g.bn = false := by
  cases h : (bnA pre).contains g.bn with
  | false => rfl
  | true =>
   simp only [bnA, List.contains_toArray] at h
   obtain ⟨f, hf, e⟩ := List.mem_map.1 (List.contains_iff_mem.1 h);have hnd : ((pre ++ (g :: lft)).map (·.bn)).Nodup := (hp.map _).nodup_iff.2 hK.bns;rw [List.map_append, List.nodup_append] at hnd;exact absurd e (hnd.2.2 f.bn (List.mem_map.2 ⟨f, hf, rfl⟩) g.bn (by simp))
 have hm : ent g ∈ (leftOf (eF fl) (bnA pre)).toList := by
  simp only [leftOf, Array.toList_filter, List.mem_filter]
  exact ⟨by simpa [eF] using ⟨g, hg, rfl⟩, by simp only [ent, hn]; rfl⟩
 rw [Array.eq_empty_of_size_eq_zero h0] at hm
 cases hm
theorem borns (hK : FK fl nx) : ∀ x ∈ (eF fl).toList, x.born < nx := fun x hx => by
 obtain ⟨f, hf, rfl⟩ := List.mem_map.1 (show x ∈ fl.map ent by simpa [eF] using hx);exact hK.old f hf
theorem run_next_end (hp : (pre ++ []).Perm fl) (hK : FK fl nx) (H : HA ⟨w0, (it, .it r nx (bnA pre) nx) :: M⟩ L w) (hb : w.heap[r]? = some (.map (eF fl) nx)) (hx : ρ x = pq it) :
  (execOp ρ ⟨dst, .next x false, ty, pos, aft, gd⟩).run prog w = .ok (.value (.tuple #[.bool false])) w := by
 have hi : w.heap[it]? = some (.mapIter (some r) nx (bnA pre) nx) := H.old.maps _ (List.mem_cons_self ..)
 rcases run_next_at (P := prog) w ty it r nx nx (bnA pre) (eF fl) nx hi hb (borns hK) (Nat.le_refl _) with ⟨_, h⟩ | ⟨e, he, _⟩
 ·simp only [execOp, hx, Sem.run_bind, h, Result.andThen_ok, Sem.run_pure]
 ·obtain ⟨f, hf, _⟩ := left_mem hp he
  cases hf
theorem run_next_some {g : Fl} (hp : (pre ++ (g :: lft)).Perm fl) (hK : FK fl nx) (H : HA ⟨w0, (it, .it r nx (bnA pre) nx) :: M⟩ L w) (hb : w.heap[r]? = some (.map (eF fl) nx)) (hne : r ≠ it) (hx : ρ x = pq it) :
  ∃ A f B w', g :: lft = A ++ f :: B ∧ (execOp ρ ⟨dst, .next x false, ty, pos, aft, gd⟩).run prog w = .ok (.value (.tuple #[.bool true, .string f.nm, pq f.p])) w' ∧
   HA ⟨w0, (it, .it r nx (bnA (pre ++ [f])) nx) :: M⟩ L w' ∧ w'.heap[r]? = some (.map (eF fl) nx) := by
 have hi : w.heap[it]? = some (.mapIter (some r) nx (bnA pre) nx) := H.old.maps _ (List.mem_cons_self ..)
 rcases run_next_at (P := prog) w ty it r nx nx (bnA pre) (eF fl) nx hi hb (borns hK) (Nat.le_refl _) with ⟨h0, _⟩ | ⟨e, he, w1, hw1, h⟩
 ·exact absurd h0 (left_some hp hK)
 ·obtain ⟨f, hf, rfl⟩ := left_mem hp he;obtain ⟨A, B, hAB⟩ := List.append_of_mem hf;refine ⟨A, f, B, _, hAB, by simp only [execOp, hx, Sem.run_bind, h, Result.andThen_ok, Sem.run_pure]; rfl, ?_, ?_⟩
  ·have H1 : HA ⟨w0, (it, .it r nx (bnA pre) nx) :: M⟩ L w1 := by
    rcases hw1 with rfl | rfl
    ·exact H
    ·exact H.drew
   have := H1.setM 0 (o' := .it r nx ((bnA pre).push f.bn) nx) rfl;rw [bnA_push] at this;rw [show (ent f).born = f.bn from rfl, bnA_push];exact this
  ·have : w1.heap[r]? = some (.map (eF fl) nx) := by rcases hw1 with rfl | rfl <;> exact hb
   rw [← this]
   simp [ChangeMaps.setBlock, Ne.symm hne]
theorem run_entry_f {f : Fl} (hf : f ∈ fl) (hK : FK fl nx) (H : HA ⟨w0, (it, .it r nx (bnA (pre ++ [f])) nx) :: M⟩ L w) (hb : w.heap[r]? = some (.map (eF fl) nx)) (hx : ρ x = pq it) :
  (execOp ρ ⟨dst, .entry x, ty, pos, aft, gd⟩).run prog w = .ok (.value (.tuple #[.string f.nm, pq f.p])) w := by
 have hi : w.heap[it]? = some (.mapIter (some r) nx ((bnA pre).push (ent f).born) nx) := by
  have := H.old.maps _ (List.mem_cons_self ..);rw [show (ent f).born = f.bn from rfl, bnA_push];exact this
 have := run_entry_at (P := prog) w it r nx (bnA pre) (eF fl) nx (ent f) hi hb (by simpa [eF] using ⟨f, hf, rfl⟩) (by have := hK.bns; simpa [eF, ent, Function.comp_def] using this)
 simp only [execOp, hx, Sem.run_bind, this, Result.andThen_ok, Sem.run_pure]
 rfl
end
end Go.Proofs.YtckmlaempffpjaaGreat
namespace Go.Proofs.YtckmlaempffpjaaGreat
set_option linter.unusedVariables false
set_option maxRecDepth 100000
set_option maxHeartbeats 2000000
open Go.RowKit Go.Proofs.Tryz
def pfx (s p : ByteArray) : Bool := Lib.hasPrefix (bl s) (bl p)
def nmsP (fl : List Fl) (p : ByteArray) : List (List UInt8) := (fl.filter fun f => pfx f.nm p).map fun f => bl f.nm
def lstL (fs : List FA) (p : ByteArray) : List (List UInt8) := ((fs.filter fun x => pfx x.nm p).map fun x => bl x.nm).mergeSort leB
def listD (D : DS) (p : ByteArray) : List (List UInt8) := if D.down = true then [] else lstL D.fs p
theorem nmsP_snoc (pre : List Fl) (f : Fl) (p : ByteArray) : nmsP (pre ++ [f]) p = nmsP pre p ++ (if pfx f.nm p = true then [bl f.nm] else []) := by
 by_cases h : pfx f.nm p = true
 ·simp [nmsP, h]
 ·simp [nmsP, h]
theorem nmsP_len (pre : List Fl) (p : ByteArray) : (nmsP pre p).length ≤ pre.length := by
 unfold nmsP
 rw [List.length_map];exact List.length_filter_le _ _
theorem nms_sort {fl : List Fl} {fs : List FA} {pre : List Fl} {p : ByteArray} (h : fl.map ab = fs) (hp : (pre ++ []).Perm fl) : (nmsP pre p).mergeSort leB = lstL fs p := by
 rw [lstL];refine mergeSort_of_perm ?_;have h1 : (nmsP pre p).Perm (nmsP fl p) := by
  rw [List.append_nil] at hp;exact (hp.filter _).map _
 have h2 : nmsP fl p = (fs.filter fun x => pfx x.nm p).map fun x => bl x.nm := by
  rw [← h, nmsP, List.filter_map, List.map_map]
  rfl
 rw [← h2];exact h1
theorem HasPrefix_any (s p : ByteArray) (w : World) : Calls prog 66 #[.string s, .string p] w fun e w' => e = .returned (.bool (pfx s p)) ∧ Below w.heap.size w w' :=
 (Tryz.strings_HasPrefix s p w).mono fun _ w' h => ⟨h.1, by rw [h.2]; exact Below.refl _ _⟩
theorem info9 : (prog.info? 9).map (fun i => (i.zero, i.size, i.bytes)) = some (some (.string { data := #[] }), 1, 16) := by kernel_rfl
theorem List_d {w0 : World} {M : ML} {d : Dk} {D : DS} {L : BL} {w : World} (hD : DH w0 M d D L w) (p : ByteArray) (hd : D.down = true) :
  Calls prog 38 #[pt d.q, .string p] w fun e w' => ∃ v' Lr', e = .returned v' ∧ Row 9 1 v' (listD D p).length ((listD D p).map encStr) Lr' ∧ HA (bs w) Lr' w' := by
 obtain ⟨fl, nx, v, Lr, hfl, hK, hR, HH⟩ := hD;have hm := HH.old.maps _ (List.mem_cons_self ..);have hq := HH.get 0 rfl;rw [hd] at hq;have H0 := HA.start w
 go_enter Tryz.func38, Tryz.ntmps38
 refine zsr (zv (znt (wp_seq (zsr (zv ?_)))));refine wl_call (v := .bool true) H0 enter89 #[pq d.q] (dark_true (hq.keep H0.old.old)) ?_;intro w1 h2;refine znt (zct (zsr (zv (znt ?_))));refine wp_ret ?_
 repeat first|refine zrt ?_|refine block_ret ?_
 exact zb (v := .slice none 0 0) ⟨_, [], rfl, by rw [listD, if_pos hd]; exact Row.nil 9 1, h2⟩
theorem HA.noM {w0 : World} {M : ML} {L : BL} {w : World} (h : HA ⟨w0, M⟩ L w) : HA (bs w0) L w := ⟨⟨h.old.old, fun _ h => (by cases h), fun _ h => (by cases h), List.nodup_nil⟩, h.blk, h.own, h.nd⟩
theorem List_u {w0 : World} {M : ML} {d : Dk} {D : DS} {L : BL} {w : World} (hD : DH w0 M d D L w) (p : ByteArray) (hd : D.down = false) (hns0 : ∀ x ∈ D.fs, x.nm.size ≤ 64) (hct : D.fs.length ≤ 1000000000) :
  Calls prog 38 #[pt d.q, .string p] w fun e w' => ∃ v' Lr', e = .returned v' ∧ Row 9 1 v' (listD D p).length ((listD D p).map encStr) Lr' ∧ HA (bs w) Lr' w' := by
 obtain ⟨fl, nx, v, Lr, hfl, hK, hR, HH⟩ := hD;have hm := HH.old.maps _ (List.mem_cons_self ..);have hq := HH.get 0 rfl;rw [hd] at hq;have hfn : fl.length = D.fs.length := by rw [← hfl, List.length_map]
 have hns : ∀ f ∈ fl, f.nm.size ≤ 64 := fun f hf => hns0 (ab f) (by rw [← hfl]; exact List.mem_map.2 ⟨f, hf, rfl⟩)
 have H0 := HA.start w
 go_enter Tryz.func38, Tryz.ntmps38
 refine zsr (zv (znt (wp_seq (zsr (zv ?_)))));refine wl_call (v := .bool false) H0 enter89 #[pq d.q] (dark_false (hq.keep H0.old.old)) ?_;intro w1 h2;refine znt (zcf (wp_skip (zt (zsr (zv (znt (wp_seq (zsr (zv (zv ?_))))))))));refine zv ?_;refine zwu (v := .map (some d.r)) (run_load1 isAgg76 (((hq.keep h2.old.old).cell 0).trans rfl)) ?_;refine wl_any (by kernel_rfl) (run_range ((h2.old.old.block _ (lt_of_block hm)).trans hm) (by kernel_rfl)) ?_;have h3 := h2.newM (.it d.r nx (bnA []) nx);have hge : w.heap.size ≤ w1.heap.size := h2.size;have hrit : d.r ≠ w1.heap.size := by have := lt_of_block hm; simp only at this; omega
 generalize hit : w1.heap.size = it at h3 hge hrit ⊢
 change HA _ _ (w1.alloc (MO.it d.r nx #[] nx).obj) at h3
 generalize w1.alloc (MO.it d.r nx #[] nx).obj = w4 at h3 ⊢;refine znt ?_;refine wp_block ?_;refine zwh (fun Z0 mq A w' => ∃ (pre lft : List Fl) (vv : Value) (Lr2 : BL) (u5 : Nat → Value), mq = lft.length ∧ A = pts Z0 [(5, vv), (6, u5 6), (14, u5 14), (15, u5 15), (16, u5 16), (17, u5 17), (18, u5 18), (19, u5 19), (20, u5 20), (21, u5 21), (22, u5 22), (23, u5 23), (24, u5 24), (25, u5 25)] ∧ (pre ++ lft).Perm fl ∧ Row 9 1 vv (nmsP pre p).length ((nmsP pre p).map encStr) Lr2 ∧ HA ⟨w, [(it, .it d.r nx (bnA pre) nx)]⟩ Lr2 w') fl.length ?_ ?_
 ·exact ⟨[], fl, .slice none 0 0, [], lku (fun _ => undef) [], rfl, by kernel_rfl, List.Perm.refl _, Row.nil 9 1, h3⟩
 rintro _ _ w6 ⟨pre, lft, vv, Lr2, u5, rfl, rfl, hp, hR2, hL⟩
 rcases lft with _ | ⟨g0, lf⟩
 ·skip
  refine zsr ?_;refine zwu (run_next_end hp hK hL ((hL.old.old.block _ (lt_of_block hm)).trans hm) (by kernel_rfl)) ?_;refine zv (znt (wp_seq (zcf ?_)));refine wp_exit ?_
  repeat first | refine then_exit ?_ | refine block_exit ?_ | refine block_exit_ne (by decide) ?_
  refine zt (zsr (zv ?_));refine wl_callx enter67 #[vv] (sort_row (L := []) hR2 (by simpa using hL) (by have := nmsP_len pre p; have := hp.length_eq; simp at this; omega)) ?_;rintro _ w7 ⟨rfl, Lr4, hR4, hS⟩;refine ⟨_, rfl, ?_⟩;refine znt (zsr (zv (zv (znt ?_))));refine wp_ret ?_
  repeat first|refine zrt ?_|refine block_ret ?_
  exact zb (v := vv) ⟨vv, Lr4, rfl, by rw [listD, if_neg (by rw [hd]; decide), ← nms_sort hfl hp, List.length_mergeSort]; exact hR4, HA.noM (by simpa using hS)⟩
 ·have hlp := hp.length_eq;rw [List.length_append, List.length_cons] at hlp;have hnl := nmsP_len pre p;refine zsr ?_;obtain ⟨A, f, B, wn, hAB, hrn, hn2, hmn⟩ := run_next_some (ρ := _) (x := _) (dst := _) (ty := _) (pos := _) (aft := _) (gd := _) hp hK hL ((hL.old.old.block _ (lt_of_block hm)).trans hm) hrit (by kernel_rfl);refine wl_any (by kernel_rfl) hrn ?_;have hff : f ∈ fl := hp.mem_iff.1 (by rw [hAB]; simp);refine zv (znt (zit ?_));refine wp_block ?_;refine zsr ?_;refine zwu (run_entry_f hff hK hn2 ((hn2.old.old.block _ (lt_of_block hm)).trans hm) (by kernel_rfl)) ?_;refine zv (zv (znt (wp_seq ?_)))
  rcases hpx : pfx f.nm p with _ | _
  ·refine wl_region (zv (zv ?_));refine wl_call (v := .bool false) hn2 enter66 #[.string f.nm, .string p] (by have := HasPrefix_any f.nm p wn; rw [hpx] at this; exact this) ?_;intro w8 h9;refine znt (zcf (wp_skip ?_));refine block_normal ?_;exact then_I ⟨(A ++ B).length, (by rw [show (g0 :: lf).length = (A ++ f :: B).length by rw [hAB]]; simp), pre ++ [f], A ++ B, vv, Lr2, lku u5 [(6, .string f.nm), (14, .tuple #[.bool true, .string f.nm, pq f.p]), (15, .bool true), (16, .tuple #[.string f.nm, pq f.p]), (17, .string f.nm), (18, .string f.nm), (19, .string p), (20, .bool false)], rfl, by kernel_rfl, by rw [hAB] at hp; rw [List.append_assoc]; refine List.Perm.trans (List.Perm.append_left pre ?_) hp; show (f :: (A ++ B)).Perm (A ++ f :: B); exact List.perm_middle.symm, by rw [nmsP_snoc, hpx]; simpa using hR2, h9⟩
  ·refine wl_region (zv (zv ?_));refine wl_call (v := .bool true) hn2 enter66 #[.string f.nm, .string p] (by have := HasPrefix_any f.nm p wn; rw [hpx] at this; exact this) ?_;intro w10 h11;refine znt (zct (wl_region (zv (zv ?_))));refine wl_call (v := .string f.nm) h11 enter61 #[.string f.nm] (sclone_any f.nm w10 (by have := hns f hff; omega)) ?_;intro w12 h13;refine wl_mks (n := 1) (m := 1) (c := #[.string f.nm]) h13 9 ?_;intro q14 w15 h16;refine wl_append (Lr := Lr2) (L := []) (m := 1) (c := 1) hR2 (by simpa using h16) (.string { data := #[] }) 16 underlying39 info9 rfl rfl (by unfold maxLen; omega) (by omega) ?_;intro v3 w17 Lr3 hR3 h18;refine zv (wl_nil ?_);refine block_normal ?_;exact then_I ⟨(A ++ B).length, (by rw [show (g0 :: lf).length = (A ++ f :: B).length by rw [hAB]]; simp), pre ++ [f], A ++ B, v3, (Lr3 ++ []), lku (fun _ => undef) [(6, .string f.nm), (14, .tuple #[.bool true, .string f.nm, pq f.p]), (15, .bool true), (16, .tuple #[.string f.nm, pq f.p]), (17, .string f.nm), (18, .string f.nm), (19, .string p), (20, .bool true), (21, vv), (22, .string f.nm), (23, .string f.nm), (24, .slice (some ⟨q14, 0, none⟩) 1 1), (25, v3)], rfl, by kernel_rfl, by rw [hAB] at hp; rw [List.append_assoc]; refine List.Perm.trans (List.Perm.append_left pre ?_) hp; show (f :: (A ++ B)).Perm (A ++ f :: B); exact List.perm_middle.symm, by rw [List.append_nil]; rw [nmsP_snoc, if_pos hpx, List.length_append, List.map_append]; simpa [enc_nm] using hR3, h18⟩
theorem List_any {w0 : World} {M : ML} {d : Dk} {D : DS} {L : BL} {w : World} (hD : DH w0 M d D L w) (p : ByteArray) {U N : Nat} (hb : DB D U N) (hN : N ≤ 1000000000) :
  Calls prog 38 #[pt d.q, .string p] w fun e w' => ∃ v' Lr', e = .returned v' ∧ Row 9 1 v' (listD D p).length ((listD D p).map encStr) Lr' ∧ HA (bs w) Lr' w' := by
 cases hd : D.down with
 | true => exact List_d hD p hd
 | false => exact List_u hD p hd hb.nm (Nat.le_trans hb.ct hN)
end Go.Proofs.YtckmlaempffpjaaGreat
namespace Go.Proofs.YtckmlaempffpjaaGreat
open Go.RowKit Go.Proofs.Tryz
theorem updF_nm (fs : List FA) (nm : ByteArray) (g : FA → FA) (hg : ∀ x, (g x).nm = x.nm) : (updF fs nm g).map (·.nm) = fs.map (·.nm) := by
 rw [updF, List.map_map];refine List.map_congr_left fun x _ => ?_
 simp only [Function.comp_apply]
 split
 ·exact hg x
 ·rfl
theorem updF_no {fs : List FA} {nm : ByteArray} {g : FA → FA} (h : ∀ x ∈ fs, x.nm ≠ nm) : updF fs nm g = fs := by
 rw [updF]
 conv => rhs; rw [← List.map_id fs]
 exact List.map_congr_left fun x hx => if_neg (h x hx)
theorem used_app {nm : ByteArray} {l : List UInt8} : ∀ {fs : List FA}, (fs.map (·.nm)).Nodup → (∃ x ∈ fs, x.nm = nm) → used (updF fs nm (fun x => { x with da := x.da ++ l })) = used fs + l.length
 | [], _, h => by obtain ⟨x, hx, _⟩ := h; cases hx
 | y :: fs, hn, h => by
  rw [List.map_cons, List.nodup_cons] at hn
  by_cases e : y.nm = nm
  ·have hno : ∀ x ∈ fs, x.nm ≠ nm := fun x hx e2 => hn.1 (List.mem_map.2 ⟨x, hx, e2.trans e.symm⟩)
   have h1 : updF (y :: fs) nm (fun x => { x with da := x.da ++ l }) = { y with da := y.da ++ l } :: updF fs nm (fun x => { x with da := x.da ++ l }) := by simp [updF, e]
   rw [h1, updF_no hno]
   simp only [used, List.map_cons, List.sum_cons, List.length_append]
   omega
  ·have h1 : updF (y :: fs) nm (fun x => { x with da := x.da ++ l }) = y :: updF fs nm (fun x => { x with da := x.da ++ l }) := by simp [updF, e]
   have hex : ∃ x ∈ fs, x.nm = nm := by
    obtain ⟨x, hx, e2⟩ := h
    rcases List.mem_cons.1 hx with rfl | hx
    ·exact absurd e2 e
    ·exact ⟨x, hx, e2⟩
   have ih := used_app (l := l) hn.2 hex;rw [h1]
   simp only [used, List.map_cons, List.sum_cons] at ih ⊢
   omega
theorem mkF_has (fs : List FA) (nm : ByteArray) : ∃ x ∈ mkF fs nm, x.nm = nm := by
 unfold mkF
 split
 ·rename_i h; exact h
 ·exact ⟨⟨nm, [], 0⟩, by simp, rfl⟩
theorem mkF_nodup {fs : List FA} (h : (fs.map (·.nm)).Nodup) (nm : ByteArray) : ((mkF fs nm).map (·.nm)).Nodup := by
 unfold mkF
 split
 ·exact h
 ·rename_i hno
  rw [List.map_append, List.nodup_append];exact ⟨h, by simp, fun a ha b hb e => by
   obtain ⟨x, hx, rfl⟩ := List.mem_map.1 ha;exact hno ⟨x, hx, by simpa [e] using hb⟩⟩
theorem mkF_mem {fs : List FA} {nm : ByteArray} {x : FA} (h : x ∈ mkF fs nm) : x ∈ fs ∨ x = ⟨nm, [], 0⟩ := by
 unfold mkF at h
 split at h
 ·exact .inl h
 ·rcases List.mem_append.1 h with h | h
  ·exact .inl h
  ·exact .inr (by simpa using h)
theorem mkF_len (fs : List FA) (nm : ByteArray) : (mkF fs nm).length ≤ fs.length + 1 := by
 unfold mkF
 split <;> simp
theorem nm_size {nm : ByteArray} (h : isNm nm = true) : nm.size ≤ 64 := by
 simp only [isNm, decide_eq_true_eq] at h
 exact h.2
theorem DB.mono {D : DS} {U N U' N' : Nat} (h : DB D U N) (hU : U ≤ U') (hN : N ≤ N') : DB D U' N' := ⟨h.rm, h.lf, Nat.le_trans h.us hU, Nat.le_trans h.sz hN, h.nm, Nat.le_trans h.ct hN, h.nd⟩
theorem app_DB {D : DS} {U N : Nat} (h : DB D U N) (nm s : ByteArray) : DB (appD D nm s).1 (U + s.size) (N + 1) ∧ (appD D nm s).1.sizes.length ≤ N := by
 unfold appD
 split
 ·exact ⟨h.mono (by omega) (by omega), h.sz⟩
 ·rename_i hn
  split
  ·exact ⟨h.mono (by omega) (by omega), h.sz⟩
  ·rename_i hf
   have hn' : isNm nm = true := by cases h : isNm nm <;> simp_all
   have hu : used (updF (mkF D.fs nm) nm (fun x => { x with da := x.da ++ bl s })) = used D.fs + s.size := by rw [used_app (mkF_nodup h.nd nm) (mkF_has _ _), used_mkF, bl_len]
   have h1 := h.rm;have h2 := h.us;refine ⟨⟨?_, h.lf, ?_, Nat.le_succ_of_le h.sz, fun x hx => ?_, ?_, ?_⟩, h.sz⟩
   ·show D.free - s.size + used (updF (mkF D.fs nm) nm (fun x => { x with da := x.da ++ bl s })) ≤ _
    rw [hu]; omega
   ·show used (updF (mkF D.fs nm) nm (fun x => { x with da := x.da ++ bl s })) ≤ _
    rw [hu]; omega
   ·have : x.nm ∈ (mkF D.fs nm).map (·.nm) := by
     rw [← updF_nm (mkF D.fs nm) nm (fun x => { x with da := x.da ++ bl s }) (fun _ => rfl)];exact List.mem_map.2 ⟨x, hx, rfl⟩
    obtain ⟨y, hy, e⟩ := List.mem_map.1 this
    rcases mkF_mem hy with hy | rfl
    ·rw [← e]; exact h.nm y hy
    ·rw [← e]; exact nm_size hn'
   ·have := mkF_len D.fs nm;have h3 := h.ct
    show (updF (mkF D.fs nm) nm _).length ≤ N + 1
    rw [updF, List.length_map]; omega
   ·show ((updF (mkF D.fs nm) nm (fun x => { x with da := x.da ++ bl s })).map (·.nm)).Nodup
    rw [updF_nm (mkF D.fs nm) nm (fun x => { x with da := x.da ++ bl s }) (fun _ => rfl)]; exact mkF_nodup h.nd nm
theorem op_DB {D D2 : DS} {U N put er : Nat} (h : DB D U N) (h2 : DB D2 U (N + 1)) (hs : D2.sizes.length ≤ N) : DB (opD D D2 put er).1 U (N + 1) := by
 unfold opD
 split
 ·exact (spend_DB h).mono (Nat.le_refl _) (Nat.le_succ _)
 ·split
  ·exact ⟨h2.rm, h2.lf, h2.us, by simp; omega, h2.nm, h2.ct, h2.nd⟩
  ·exact h2
theorem Append_DB {D : DS} {U N : Nat} (h : DB D U N) (nm s : ByteArray) : DB (AppendD D nm s).1 (U + s.size) (N + 1) :=
 op_DB (h.mono (by omega) (Nat.le_refl _)) (app_DB (spend_DB h) nm s).1 (app_DB (spend_DB h) nm s).2
theorem on_DB {D D2 : DS} {U N er : Nat} {nm : ByteArray} (h : DB D U N) (h2 : DB D2 U N) : DB (OnD D D2 nm er).1 U (N + 1) := by
 have h3 : DB (onD (spendD D) D2 nm er).1 U N := by
  unfold onD
  split
  ·exact h2
  ·exact spend_DB h
 exact op_DB h (h3.mono (Nat.le_refl _) (Nat.le_succ _)) h3.sz
theorem sync_DB {D : DS} {U N : Nat} (h : DB D U N) (nm : ByteArray) : DB (syncF D nm) U N := by
 have e1 : (syncF D nm).fs.map (·.nm) = D.fs.map (·.nm) := updF_nm _ _ _ (fun _ => rfl);have e2 : used (syncF D nm).fs = used D.fs := by
  simp only [syncF, used, updF, List.map_map]
  congr 1
  refine List.map_congr_left fun x _ => ?_
  simp only [Function.comp_apply]
  split <;> rfl
 refine ⟨by rw [e2]; exact h.rm, h.lf, by rw [e2]; exact h.us, h.sz, fun x hx => ?_, ?_, by rw [e1]; exact h.nd⟩
 ·have : x.nm ∈ D.fs.map (·.nm) := by rw [← e1]; exact List.mem_map.2 ⟨x, hx, rfl⟩
  obtain ⟨y, hy, e⟩ := List.mem_map.1 this;rw [← e]; exact h.nm y hy
 ·have := h.ct
  simpa [syncF, updF] using this
theorem Sync_DB {D : DS} {U N : Nat} (h : DB D U N) (nm : ByteArray) : DB (SyncD D nm).1 U (N + 1) := on_DB h (sync_DB (spend_DB h) nm)
theorem rem_DB {D : DS} {U N : Nat} (h : DB D U N) (nm : ByteArray) : DB (remF D nm) U N := by
 have h1 := used_split D.fs nm;have h2 := h.rm;have h3 := h.us;have sub : (delF D.fs nm).Sublist D.fs := List.filter_sublist;refine ⟨?_, h.lf, ?_, h.sz, fun x hx => h.nm x (sub.subset hx), Nat.le_trans sub.length_le h.ct, (sub.map _).nodup h.nd⟩
 ·show D.free + used (keepF D.fs nm) + used (delF D.fs nm) ≤ _; omega
 ·show used (delF D.fs nm) ≤ _; omega
theorem Remove_DB {D : DS} {U N : Nat} (h : DB D U N) (nm : ByteArray) : DB (RemoveD D nm).1 U (N + 1) := on_DB h (rem_DB (spend_DB h) nm)
theorem len_split (fs : List FA) (s : ByteArray) : (delF fs s).length + (keepF fs s).length = fs.length := by
 induction fs with
 | nil => rfl
 | cons x l ih =>
  by_cases h : x.nm = s
  ·have e1 : delF (x :: l) s = delF l s := by simp [delF, h]
   have e2 : keepF (x :: l) s = x :: keepF l s := by simp [keepF, h]
   rw [e1, e2, List.length_cons, List.length_cons]
   omega
  ·have e1 : delF (x :: l) s = x :: delF l s := by simp [delF, h]
   have e2 : keepF (x :: l) s = keepF l s := by simp [keepF, h]
   rw [e1, e2, List.length_cons, List.length_cons]
   omega
theorem ren_DB {D : DS} {U N : Nat} (h : DB D U N) (a b : ByteArray) : DB (renT D a b).1 U N := by
 unfold renT
 split
 ·exact h
 ·rename_i hn
  split
  ·exact h
  ·rename_i hab
   have hn' : isNm b = true := by cases h : isNm b <;> simp_all
   have h1 := used_split D.fs b;have h4 := used_split (delF D.fs b) a;have h2 := h.rm;have h3 := h.us;have e1 : used ((keepF (delF D.fs b) a).map (fun x : FA => { x with nm := b })) = used (keepF (delF D.fs b) a) := by simp only [used, List.map_map]; rfl
   have e2 : used (delF (delF D.fs b) a ++ (keepF (delF D.fs b) a).map (fun x : FA => { x with nm := b })) = used (delF D.fs b) := by
    rw [← h4, ← e1]; simp [used]
   have sub : (delF D.fs b).Sublist D.fs := List.filter_sublist;have sub2 : (delF (delF D.fs b) a).Sublist (delF D.fs b) := List.filter_sublist;have hk : (keepF (delF D.fs b) a).length ≤ 1 := by
    have hnd : ((delF D.fs b).map (·.nm)).Nodup := (sub.map _).nodup h.nd;have hnd2 : ((keepF (delF D.fs b) a).map (·.nm)).Nodup := (List.Sublist.map _ List.filter_sublist).nodup hnd
    rcases hl : keepF (delF D.fs b) a with _ | ⟨x, _ | ⟨y, l⟩⟩
    ·simp
    ·simp
    ·exfalso
     have hx : x ∈ keepF (delF D.fs b) a := by rw [hl]; simp
     have hy : y ∈ keepF (delF D.fs b) a := by rw [hl]; simp
     have ex : x.nm = a := of_decide_eq_true (List.mem_filter.1 hx).2;have ey : y.nm = a := of_decide_eq_true (List.mem_filter.1 hy).2;rw [hl, List.map_cons, List.map_cons, List.nodup_cons] at hnd2;exact hnd2.1 (by rw [ex, ey]; simp)
   have hlen : (delF (delF D.fs b) a).length + (keepF (delF D.fs b) a).length = (delF D.fs b).length := by
    exact len_split _ _
   refine ⟨?_, h.lf, ?_, h.sz, fun x hx => ?_, ?_, ?_⟩
   ·show D.free + used (keepF D.fs b) + used (delF (delF D.fs b) a ++ (keepF (delF D.fs b) a).map (fun x : FA => { x with nm := b })) ≤ _
    rw [e2]; omega
   ·show used (delF (delF D.fs b) a ++ (keepF (delF D.fs b) a).map (fun x : FA => { x with nm := b })) ≤ _
    rw [e2]; omega
   ·rcases List.mem_append.1 hx with hx | hx
    ·exact h.nm x (sub.subset (sub2.subset hx))
    ·obtain ⟨y, _, rfl⟩ := List.mem_map.1 hx;exact nm_size hn'
   ·show (delF (delF D.fs b) a ++ (keepF (delF D.fs b) a).map (fun x : FA => { x with nm := b })).length ≤ N
    rw [List.length_append, List.length_map, hlen];exact Nat.le_trans sub.length_le h.ct
   ·show ((delF (delF D.fs b) a ++ (keepF (delF D.fs b) a).map (fun x : FA => { x with nm := b })).map (fun x : FA => x.nm)).Nodup
    rw [List.map_append, List.nodup_append];refine ⟨((sub2.trans sub).map _).nodup h.nd, ?_, fun u hu v hv e => ?_⟩
    ·rcases hl : keepF (delF D.fs b) a with _ | ⟨x, _ | ⟨y, l⟩⟩
     ·simp
     ·simp
     ·rw [hl] at hk; simp at hk
    ·obtain ⟨x, hx, rfl⟩ := List.mem_map.1 hu;obtain ⟨y, hy, rfl⟩ := List.mem_map.1 hv;obtain ⟨y', _, rfl⟩ := List.mem_map.1 hy;have hx2 := sub2.subset hx;exact (of_decide_eq_true (List.mem_filter.1 hx2).2 : x.nm ≠ b) e
theorem Rename_DB {D : DS} {U N : Nat} (h : DB D U N) (a b : ByteArray) : DB (RenameD D a b).1 U (N + 1) := on_DB h (ren_DB (spend_DB h) a b)
theorem arm_DB {D : DS} {U N : Nat} (h : DB D U N) {z : Int} (hz : z ≤ 9223372036854775807) : DB (armD D z).1 U N := by
 unfold armD
 split
 ·exact h
 ·split
  ·exact h
  ·exact ⟨h.rm, by show z.toNat ≤ _; omega, h.us, h.sz, h.nm, h.ct, h.nd⟩
theorem wake_DB {D : DS} {U N : Nat} (h : DB D U N) (ks : List Int) : DB (wakeD D ks) U N := by
 have h1 := wk_used D.fs ks D.fs.length;have h2 := h.rm;have h3 := h.us;have e := wk_nm D.fs ks D.fs.length;refine ⟨?_, Nat.zero_le _, Nat.le_trans h1 h3, h.sz, fun x hx => ?_, ?_, by rw [show (wakeD D ks).fs = wkK D.fs ks D.fs.length from rfl, e]; exact h.nd⟩
 ·show D.free + used D.fs - used (wkK D.fs ks D.fs.length) + used (wkK D.fs ks D.fs.length) ≤ _; omega
 ·have : x.nm ∈ D.fs.map (·.nm) := by rw [← e]; exact List.mem_map.2 ⟨x, hx, rfl⟩
  obtain ⟨y, hy, e2⟩ := List.mem_map.1 this;rw [← e2]; exact h.nm y hy
 ·have := h.ct
  simpa [wakeD, wkK] using this
theorem new_DB {n : Nat} (h : n ≤ 9223372036854775807) : DB ⟨[], n, 0, false, []⟩ 0 0 := ⟨by simpa [used] using h, Nat.zero_le _, Nat.le_refl _, Nat.le_refl _, fun _ h => (by cases h), Nat.le_refl _, List.nodup_nil⟩
/-! a disk, and what lies beside it -/
theorem DH.front {w0 : World} {M : ML} {d : Dk} {D : DS} {L : BL} {w : World} (h : DH w0 M d D L w) : ∃ z X, (∀ L' w', HA z (L' ++ X) w' → DH w0 M d D L' w') ∧ (∀ L' w', HA z L' w' → Below w0.heap.size w0 w') ∧ HA z (L ++ X) w := by
 obtain ⟨fl, nx, v, Lr, h1, h2, h3, H⟩ := h;refine ⟨⟨w0, (d.r, .mp (eF fl) nx) :: M⟩, (d.q, 78, dcell d.r D.free D.left D.down v) :: (Lr ++ FB fl), fun L' w' H' => ⟨fl, nx, v, Lr, h1, h2, h3, ?_⟩, fun L' w' H' => H'.old.old, ?_⟩
 ·refine H'.perm ?_;have := perm_mv L' ((d.q, 78, dcell d.r D.free D.left D.down v) :: (Lr ++ FB fl)) []
  simpa [List.append_assoc] using this
 ·refine H.perm ?_;have := (perm_mv L ((d.q, 78, dcell d.r D.free D.left D.down v) :: (Lr ++ FB fl)) []).symm
  simpa [List.append_assoc] using this
theorem KV.arg {W : World} {L : BL} {o : Option Addr} {ks : List Int} (h : ∀ j, j < ks.length → ∃ a, o = some a ∧ W.cell? (a.add j) = some (.int .i64 (ks.getD j 0))) : KV W L o ks := by
 rcases ks with _ | ⟨z, l⟩
 ·exact .inl rfl
 ·obtain ⟨a, rfl, _⟩ := h 0 (by simp);refine .inr ⟨a, rfl, fun M A w H j hj => ?_⟩;obtain ⟨a', e, h2⟩ := h j hj
  cases e
  exact cell_old H.old.old h2
end Go.Proofs.YtckmlaempffpjaaGreat
