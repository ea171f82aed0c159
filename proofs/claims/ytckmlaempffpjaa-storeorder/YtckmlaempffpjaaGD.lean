/-
  The names in order; bytes as texts; rows that a call has made.
-/
import Derived.Test.YtckmlaempffpjaaGC
import Derived.Sort.KeysCollected
import Derived.StringKeys
namespace Go.Proofs.Ytckmlaempffpjaa
open Go.RowKit Go.Shelf Go.Maps

/-- names in order, byte by byte -/
def srtL (fs : List FA) : List (List UInt8) := (fs.map fun x => bl x.nm).mergeSort leB
theorem sortsA (m : Nat) : AnyZ.SortsIn Try.prog Try.sortedA_ren Fence.wide m :=
  ⟨fun blk off cap ss W hH hblk hsz => callsIn_wide.2 (AnyM.slices_Sort_string Try.sortA blk off cap ss W hH hblk hsz),
   fun p cap W => callsIn_wide.2 (AnyM.slices_Sort_string_none Try.sortA p cap W)⟩
/-- a row that a call has made is one's own -/
theorem HA.owned {z : Base} {L : BL} {w w' : World} {e : TypeId} {v : Value} {n : Nat} {xs : List Value} (H : HA z L w) (hb : Below w.heap.size w w') (h : w'.ownsRow w.heap.size e 1 v n xs) : ∃ Lr, Row e 1 v n xs Lr ∧ HA z (Lr ++ L) w' := by
  have H' := H.keep _ _ hb
  refine ⟨match v with | .slice (some a) _ _ => (match w'.heap[a.block]? with | some (.cells c _ _) => [(a.block, e, c)] | _ => []) | _ => [], ?_⟩
  obtain ⟨h1, h2⟩ := h
  rcases h2 with ⟨rfl, rfl⟩ | ⟨g, cap, cur, rfl, hg, hh, k1, k2, k3, k4⟩
  · exact ⟨⟨h1, .inl ⟨rfl, rfl, rfl⟩⟩, H'⟩
  · simp only [hh]
    refine ⟨⟨h1, .inr ⟨g, cap, cur, rfl, rfl, k1, k2, k3, k4⟩⟩, H'.consNew ⟨(0, 0), hh, .inl rfl⟩ (Nat.le_trans H.size hg) (fun x hx => ?_)⟩
    have := (H.blk x hx).lt
    omega
/-- bytes as a text -/
theorem run_textB {ρ : Operand → Value} {x : Operand} {w : World} {dst : Option Tmp} {ty : TypeId} {pos : String} {aft : Array Edge} {gd : Option (Nat × Bool)} {v : Value} {da : List UInt8} {Lr : BL} (h : RowB v da Lr) (hB : ∀ y ∈ Lr, Blk w y.1 y.2.1 y.2.2) (hx : ρ x = v) :
    (execOp ρ ⟨dst, .convert 60 9 x, ty, pos, aft, gd⟩).run Try.prog w = .ok (.value (.string ⟨da.toArray⟩)) w := by
  rcases h with ⟨rfl, rfl, rfl⟩ | ⟨g, cap, cur, rfl, rfl, k1, k2, k3, k4⟩
  · simp only [execOp, hx]
    have e : (convert 60 9 (.slice none 0 0)).run Try.prog w = .ok (.string { data := #[] }) w := by kernel_rfl
    rw [Sem.run_bind, e]
    rfl
  · have := run_textg (dst := dst) (ty := ty) (pos := pos) (aft := aft) (gd := gd) hx (hB (g, 5, bc cur) (by simp)) (by omega)
    rw [this, k4]
end Go.Proofs.Ytckmlaempffpjaa

namespace Go.Proofs.Ytckmlaempffpjaa
open Go.RowKit

def getF (fs : List FA) (nm : ByteArray) : Option FA := fs.find? fun x => decide (x.nm = nm)
theorem get_no {fl : List Fl} {s : ByteArray} (h : ∀ f ∈ fl, f.nm ≠ s) : getF (fl.map ab) s = none := by
 unfold getF
 refine List.find?_eq_none.2 fun x hx => ?_
 obtain ⟨f, hf, rfl⟩ := List.mem_map.1 hx
 simp only [decide_eq_true_eq]
 exact h f hf
theorem get_yes {A B : List Fl} {f : Fl} (h : ∀ g ∈ A, g.nm ≠ f.nm) : getF ((A ++ f :: B).map ab) f.nm = some (ab f) := by
 have := get_no h
 unfold getF at this ⊢
 rw [List.map_append, List.find?_append, this]
 simp [ab]
def readD (D : DS) (nm : ByteArray) : ByteArray × Nat := if D.down = true then ({ data := #[] }, 16) else match getF D.fs nm with | none => ({ data := #[] }, 5) | some x => (⟨x.da.toArray⟩, 0)
set_option linter.unusedVariables false in
set_option maxRecDepth 100000 in
set_option maxHeartbeats 2000000 in
theorem Read_d {w0 : World} {M : ML} {d : Dk} {D : DS} {L : BL} {w : World} (hD : DH w0 M d D L w) (nm : ByteArray) (hd : D.down = true) :
  Calls Try.prog 12 #[pt d.q, .string nm] w fun e w' => e = .returned (.tuple #[.string (readD D nm).1, iN .i64 (readD D nm).2]) ∧ Below w.heap.size w w' := by
 obtain ⟨fl, nx, v, Lr, hfl, hK, hR, HH⟩ := hD
 have hm := HH.old.maps _ (List.mem_cons_self ..)
 have hq := HH.get 0 rfl
 rw [hd] at hq
 have H0 := HA.start w
 go_enter Try.func12, Try.ntmps12
 refine wp_seq ?_
 refine wl_region ?_
 refine wl_val (.string ({ data := #[] })) (by kernel_rfl) (by kernel_rfl) ?_
 refine wl_val (iN .i64 0) (by kernel_rfl) (by kernel_rfl) ?_
 refine wl_nil ?_
 refine then_at (F := ⟨(pt d.q :: .string nm :: un :: un :: .string ({ data := #[] }) :: iN .i64 0 :: List.replicate 20 un).toArray, []⟩) (by kernel_rfl) ?_
 refine wp_seq ?_
 refine wp_seq ?_
 refine wl_region ?_
 refine wl_val (.pointer (some ⟨d.q, 0, none⟩)) (by kernel_rfl) (by kernel_rfl) ?_
 refine wl_call (v := iN .i64 16) H0 (by kernel_rfl) enter26 #[.pointer (some ⟨d.q, 0, none⟩)] (by kernel_rfl) (refused_true (hq.keep H0.old.old)) ?_
 intro w1 h2
 refine wl_val (iN .i64 16) (by kernel_rfl) (by kernel_rfl) ?_
 refine wl_nil ?_
 refine then_at (F := ⟨(pt d.q :: .string nm :: un :: un :: .string ({ data := #[] }) :: iN .i64 0 :: iN .i64 16 :: un :: pt d.q :: iN .i64 16 :: List.replicate 16 un).toArray, []⟩) (by kernel_rfl) ?_
 refine wp_seq ?_
 refine wl_region ?_
 refine wl_val (iN .i64 16) (by kernel_rfl) (by kernel_rfl) ?_
 refine wl_val (.bool true) (by kernel_rfl) (run_nei (k := .i64) (a := 16) (b := 0) (by kernel_rfl) (by kernel_rfl) true (by decide)) ?_
 refine wl_nil ?_
 refine then_at (F := ⟨(pt d.q :: .string nm :: un :: un :: .string ({ data := #[] }) :: iN .i64 0 :: iN .i64 16 :: un :: pt d.q :: iN .i64 16 :: iN .i64 16 :: .bool true :: List.replicate 14 un).toArray, []⟩) (by kernel_rfl) ?_
 refine wp_cond_true (by kernel_rfl) ?_
 refine wp_seq ?_
 refine wl_region ?_
 refine wl_val (iN .i64 16) (by kernel_rfl) (by kernel_rfl) ?_
 refine wl_val (.string ({ data := #[] })) (by kernel_rfl) (by kernel_rfl) ?_
 refine wl_val (iN .i64 16) (by kernel_rfl) (by kernel_rfl) ?_
 refine wl_nil ?_
 refine then_at (F := ⟨(pt d.q :: .string nm :: un :: un :: .string ({ data := #[] }) :: iN .i64 16 :: iN .i64 16 :: un :: pt d.q :: iN .i64 16 :: iN .i64 16 :: .bool true :: iN .i64 16 :: List.replicate 13 un).toArray, []⟩) (by kernel_rfl) ?_
 refine wp_ret ?_
 repeat first | refine then_ret ?_ | refine block_ret ?_
 exact bodyPost_ret (v := .tuple #[.string { data := #[] }, iN .i64 16]) (by kernel_rfl) rfl ⟨by rw [readD, if_pos hd], h2.old.old⟩
set_option linter.unusedVariables false in
set_option maxRecDepth 100000 in
set_option maxHeartbeats 2000000 in
theorem Read_n {w0 : World} {M : ML} {d : Dk} {D : DS} {L : BL} {w : World} (hD : DH w0 M d D L w) (nm : ByteArray) (hd : D.down = false) (h : ¬ ∃ x ∈ D.fs, x.nm = nm) :
  Calls Try.prog 12 #[pt d.q, .string nm] w fun e w' => e = .returned (.tuple #[.string (readD D nm).1, iN .i64 (readD D nm).2]) ∧ Below w.heap.size w w' := by
 obtain ⟨fl, nx, v, Lr, hfl, hK, hR, HH⟩ := hD
 have hm := HH.old.maps _ (List.mem_cons_self ..)
 have hq := HH.get 0 rfl
 rw [hd] at hq
 have hn : ∀ f ∈ fl, f.nm ≠ nm := fun f hf e => h ((ex_ab hfl).2 ⟨f, hf, e⟩)
 have H0 := HA.start w
 go_enter Try.func12, Try.ntmps12
 refine wp_seq ?_
 refine wl_region ?_
 refine wl_val (.string ({ data := #[] })) (by kernel_rfl) (by kernel_rfl) ?_
 refine wl_val (iN .i64 0) (by kernel_rfl) (by kernel_rfl) ?_
 refine wl_nil ?_
 refine then_at (F := ⟨(pt d.q :: .string nm :: un :: un :: .string ({ data := #[] }) :: iN .i64 0 :: List.replicate 20 un).toArray, []⟩) (by kernel_rfl) ?_
 refine wp_seq ?_
 refine wp_seq ?_
 refine wl_region ?_
 refine wl_val (.pointer (some ⟨d.q, 0, none⟩)) (by kernel_rfl) (by kernel_rfl) ?_
 refine wl_call (v := iN .i64 0) H0 (by kernel_rfl) enter26 #[.pointer (some ⟨d.q, 0, none⟩)] (by kernel_rfl) (refused_false (hq.keep H0.old.old)) ?_
 intro w1 h2
 refine wl_val (iN .i64 0) (by kernel_rfl) (by kernel_rfl) ?_
 refine wl_nil ?_
 refine then_at (F := ⟨(pt d.q :: .string nm :: un :: un :: .string ({ data := #[] }) :: iN .i64 0 :: iN .i64 0 :: un :: pt d.q :: iN .i64 0 :: List.replicate 16 un).toArray, []⟩) (by kernel_rfl) ?_
 refine wp_seq ?_
 refine wl_region ?_
 refine wl_val (iN .i64 0) (by kernel_rfl) (by kernel_rfl) ?_
 refine wl_val (.bool false) (by kernel_rfl) (run_nei (k := .i64) (a := 0) (b := 0) (by kernel_rfl) (by kernel_rfl) false (by decide)) ?_
 refine wl_nil ?_
 refine then_at (F := ⟨(pt d.q :: .string nm :: un :: un :: .string ({ data := #[] }) :: iN .i64 0 :: iN .i64 0 :: un :: pt d.q :: iN .i64 0 :: iN .i64 0 :: .bool false :: List.replicate 14 un).toArray, []⟩) (by kernel_rfl) ?_
 refine wp_cond_false (by kernel_rfl) ?_
 refine wp_skip ?_
 refine then_at (F := ⟨(pt d.q :: .string nm :: un :: un :: .string ({ data := #[] }) :: iN .i64 0 :: iN .i64 0 :: un :: pt d.q :: iN .i64 0 :: iN .i64 0 :: .bool false :: List.replicate 14 un).toArray, []⟩) (by kernel_rfl) ?_
 refine wp_seq ?_
 refine wl_region ?_
 refine wl_val (.pointer (some ⟨d.q, 0, none⟩)) (by kernel_rfl) (by kernel_rfl) ?_
 refine wl_val (.pointer (some ⟨d.q, 0, none⟩)) (by kernel_rfl) (by kernel_rfl) ?_
 refine wl_val (.pointer (some ⟨d.q, 0, none⟩)) (by kernel_rfl) (by kernel_rfl) ?_
 refine wl_val (.map (some d.r)) (by kernel_rfl) (run_load1 (fun w => Try.isAgg46 w) (by kernel_rfl) (((hq.keep h2.old.old).cell 0).trans rfl)) ?_
 refine wl_val (.string nm) (by kernel_rfl) (by kernel_rfl) ?_
 refine wl_val (.pointer none) (by kernel_rfl) (run_look_no ((h2.old.old.block _ (lt_of_block hm)).trans hm) hn (by kernel_rfl) (by kernel_rfl)) ?_
 refine wl_val (.pointer none) (by kernel_rfl) (by kernel_rfl) ?_
 refine wl_nil ?_
 refine then_at (F := ⟨(pt d.q :: .string nm :: un :: un :: .string ({ data := #[] }) :: iN .i64 0 :: iN .i64 0 :: .pointer none :: pt d.q :: iN .i64 0 :: iN .i64 0 :: .bool false :: un :: pt d.q :: pt d.q :: pt d.q :: .map (some d.r) :: .string nm :: .pointer none :: List.replicate 7 un).toArray, []⟩) (by kernel_rfl) ?_
 refine wp_seq ?_
 refine wp_seq ?_
 refine wl_region ?_
 refine wl_val (.pointer none) (by kernel_rfl) (by kernel_rfl) ?_
 refine wl_val (.bool true) (by kernel_rfl) (by kernel_rfl) ?_
 refine wl_nil ?_
 refine then_at (F := ⟨(pt d.q :: .string nm :: un :: un :: .string ({ data := #[] }) :: iN .i64 0 :: iN .i64 0 :: .pointer none :: pt d.q :: iN .i64 0 :: iN .i64 0 :: .bool false :: un :: pt d.q :: pt d.q :: pt d.q :: .map (some d.r) :: .string nm :: .pointer none :: .pointer none :: .bool true :: List.replicate 5 un).toArray, []⟩) (by kernel_rfl) ?_
 refine wp_cond_true (by kernel_rfl) ?_
 refine wp_seq ?_
 refine wl_region ?_
 refine wl_val (.string ({ data := #[] })) (by kernel_rfl) (by kernel_rfl) ?_
 refine wl_val (iN .i64 5) (by kernel_rfl) (by kernel_rfl) ?_
 refine wl_nil ?_
 refine then_at (F := ⟨(pt d.q :: .string nm :: un :: un :: .string ({ data := #[] }) :: iN .i64 5 :: iN .i64 0 :: .pointer none :: pt d.q :: iN .i64 0 :: iN .i64 0 :: .bool false :: un :: pt d.q :: pt d.q :: pt d.q :: .map (some d.r) :: .string nm :: .pointer none :: .pointer none :: .bool true :: List.replicate 5 un).toArray, []⟩) (by kernel_rfl) ?_
 refine wp_ret ?_
 repeat first | refine then_ret ?_ | refine block_ret ?_
 exact bodyPost_ret (v := .tuple #[.string { data := #[] }, iN .i64 5]) (by kernel_rfl) rfl ⟨by have hg := get_no hn; rw [hfl] at hg; simp only [readD, hd, hg]; rfl, h2.old.old⟩
set_option linter.unusedVariables false in
set_option maxRecDepth 100000 in
set_option maxHeartbeats 2000000 in
theorem Read_y {w0 : World} {M : ML} {d : Dk} {D : DS} {L : BL} {w : World} (hD : DH w0 M d D L w) (nm : ByteArray) (hd : D.down = false) (h : ∃ x ∈ D.fs, x.nm = nm) :
  Calls Try.prog 12 #[pt d.q, .string nm] w fun e w' => e = .returned (.tuple #[.string (readD D nm).1, iN .i64 (readD D nm).2]) ∧ Below w.heap.size w w' := by
 obtain ⟨fl, nx, v, Lr, hfl, hK, hR, HH⟩ := hD
 have hm := HH.old.maps _ (List.mem_cons_self ..)
 have hq := HH.get 0 rfl
 rw [hd] at hq
 have h := (ex_ab hfl).1 h
 obtain ⟨A, f, B, rfl, hf, hA⟩ := fl_split h
 have hfb : Blk w f.p 62 (fcell f.v f.sy) := HH.blk (f.p, 62, fcell f.v f.sy) (by simp [FB_app, FB_cons, fb])
 have hlr : ∀ y ∈ f.Lr, Blk w y.1 y.2.1 y.2.2 := fun y hy => HH.blk y (by simp [FB_app, FB_cons, fb, hy])
 have hrow := hK.row f (by simp)
 obtain ⟨pf, cf, hv⟩ := hrow.form
 rw [hv] at hfb hrow
 have H0 := HA.start w
 go_enter Try.func12, Try.ntmps12
 refine wp_seq ?_
 refine wl_region ?_
 refine wl_val (.string ({ data := #[] })) (by kernel_rfl) (by kernel_rfl) ?_
 refine wl_val (iN .i64 0) (by kernel_rfl) (by kernel_rfl) ?_
 refine wl_nil ?_
 refine then_at (F := ⟨(pt d.q :: .string nm :: un :: un :: .string ({ data := #[] }) :: iN .i64 0 :: List.replicate 20 un).toArray, []⟩) (by kernel_rfl) ?_
 refine wp_seq ?_
 refine wp_seq ?_
 refine wl_region ?_
 refine wl_val (.pointer (some ⟨d.q, 0, none⟩)) (by kernel_rfl) (by kernel_rfl) ?_
 refine wl_call (v := iN .i64 0) H0 (by kernel_rfl) enter26 #[.pointer (some ⟨d.q, 0, none⟩)] (by kernel_rfl) (refused_false (hq.keep H0.old.old)) ?_
 intro w1 h2
 refine wl_val (iN .i64 0) (by kernel_rfl) (by kernel_rfl) ?_
 refine wl_nil ?_
 refine then_at (F := ⟨(pt d.q :: .string nm :: un :: un :: .string ({ data := #[] }) :: iN .i64 0 :: iN .i64 0 :: un :: pt d.q :: iN .i64 0 :: List.replicate 16 un).toArray, []⟩) (by kernel_rfl) ?_
 refine wp_seq ?_
 refine wl_region ?_
 refine wl_val (iN .i64 0) (by kernel_rfl) (by kernel_rfl) ?_
 refine wl_val (.bool false) (by kernel_rfl) (run_nei (k := .i64) (a := 0) (b := 0) (by kernel_rfl) (by kernel_rfl) false (by decide)) ?_
 refine wl_nil ?_
 refine then_at (F := ⟨(pt d.q :: .string nm :: un :: un :: .string ({ data := #[] }) :: iN .i64 0 :: iN .i64 0 :: un :: pt d.q :: iN .i64 0 :: iN .i64 0 :: .bool false :: List.replicate 14 un).toArray, []⟩) (by kernel_rfl) ?_
 refine wp_cond_false (by kernel_rfl) ?_
 refine wp_skip ?_
 refine then_at (F := ⟨(pt d.q :: .string nm :: un :: un :: .string ({ data := #[] }) :: iN .i64 0 :: iN .i64 0 :: un :: pt d.q :: iN .i64 0 :: iN .i64 0 :: .bool false :: List.replicate 14 un).toArray, []⟩) (by kernel_rfl) ?_
 refine wp_seq ?_
 refine wl_region ?_
 refine wl_val (.pointer (some ⟨d.q, 0, none⟩)) (by kernel_rfl) (by kernel_rfl) ?_
 refine wl_val (.pointer (some ⟨d.q, 0, none⟩)) (by kernel_rfl) (by kernel_rfl) ?_
 refine wl_val (.pointer (some ⟨d.q, 0, none⟩)) (by kernel_rfl) (by kernel_rfl) ?_
 refine wl_val (.map (some d.r)) (by kernel_rfl) (run_load1 (fun w => Try.isAgg46 w) (by kernel_rfl) (((hq.keep h2.old.old).cell 0).trans rfl)) ?_
 refine wl_val (.string nm) (by kernel_rfl) (by kernel_rfl) ?_
 refine wl_val (.pointer (some ⟨f.p, 0, none⟩)) (by kernel_rfl) (run_look_yes ((h2.old.old.block _ (lt_of_block hm)).trans hm) hf hA (by kernel_rfl) (by kernel_rfl)) ?_
 refine wl_val (.pointer (some ⟨f.p, 0, none⟩)) (by kernel_rfl) (by kernel_rfl) ?_
 refine wl_nil ?_
 refine then_at (F := ⟨(pt d.q :: .string nm :: un :: un :: .string ({ data := #[] }) :: iN .i64 0 :: iN .i64 0 :: pt f.p :: pt d.q :: iN .i64 0 :: iN .i64 0 :: .bool false :: un :: pt d.q :: pt d.q :: pt d.q :: .map (some d.r) :: .string nm :: pt f.p :: List.replicate 7 un).toArray, []⟩) (by kernel_rfl) ?_
 refine wp_seq ?_
 refine wp_seq ?_
 refine wl_region ?_
 refine wl_val (.pointer (some ⟨f.p, 0, none⟩)) (by kernel_rfl) (by kernel_rfl) ?_
 refine wl_val (.bool false) (by kernel_rfl) (by kernel_rfl) ?_
 refine wl_nil ?_
 refine then_at (F := ⟨(pt d.q :: .string nm :: un :: un :: .string ({ data := #[] }) :: iN .i64 0 :: iN .i64 0 :: pt f.p :: pt d.q :: iN .i64 0 :: iN .i64 0 :: .bool false :: un :: pt d.q :: pt d.q :: pt d.q :: .map (some d.r) :: .string nm :: pt f.p :: pt f.p :: .bool false :: List.replicate 5 un).toArray, []⟩) (by kernel_rfl) ?_
 refine wp_cond_false (by kernel_rfl) ?_
 refine wp_skip ?_
 refine then_at (F := ⟨(pt d.q :: .string nm :: un :: un :: .string ({ data := #[] }) :: iN .i64 0 :: iN .i64 0 :: pt f.p :: pt d.q :: iN .i64 0 :: iN .i64 0 :: .bool false :: un :: pt d.q :: pt d.q :: pt d.q :: .map (some d.r) :: .string nm :: pt f.p :: pt f.p :: .bool false :: List.replicate 5 un).toArray, []⟩) (by kernel_rfl) ?_
 refine wp_seq ?_
 refine wl_region ?_
 refine wl_val (.pointer (some ⟨f.p, 0, none⟩)) (by kernel_rfl) (by kernel_rfl) ?_
 refine wl_val (.pointer (some ⟨f.p, 0, none⟩)) (by kernel_rfl) (by kernel_rfl) ?_
 refine wl_val (.pointer (some ⟨f.p, 0, none⟩)) (by kernel_rfl) (by kernel_rfl) ?_
 refine wl_val (.slice pf f.da.length cf) (by kernel_rfl) (run_load1 (fun w => Try.isAgg60 w) (by kernel_rfl) (((hfb.keep h2.old.old).cell 0).trans rfl)) ?_
 refine wl_val (.string ⟨f.da.toArray⟩) (by kernel_rfl) (run_textB hrow (fun y hy => (hlr y hy).keep h2.old.old) (by kernel_rfl)) ?_
 refine wl_val (.string ⟨f.da.toArray⟩) (by kernel_rfl) (by kernel_rfl) ?_
 refine wl_val (iN .i64 0) (by kernel_rfl) (by kernel_rfl) ?_
 refine wl_nil ?_
 refine then_at (F := ⟨(pt d.q :: .string nm :: un :: un :: .string ⟨f.da.toArray⟩ :: iN .i64 0 :: iN .i64 0 :: pt f.p :: pt d.q :: iN .i64 0 :: iN .i64 0 :: .bool false :: un :: pt d.q :: pt d.q :: pt d.q :: .map (some d.r) :: .string nm :: pt f.p :: pt f.p :: .bool false :: pt f.p :: pt f.p :: pt f.p :: .slice pf f.da.length cf :: .string ⟨f.da.toArray⟩ :: List.replicate 0 un).toArray, []⟩) (by kernel_rfl) ?_
 refine wp_ret ?_
 repeat first | refine then_ret ?_ | refine block_ret ?_
 exact bodyPost_ret (v := .tuple #[.string ⟨f.da.toArray⟩, iN .i64 0]) (by kernel_rfl) rfl ⟨by have hg := get_yes (f := f) (B := B) (hf ▸ hA); rw [hfl, hf] at hg; simp only [readD, hd, hg]; rfl, h2.old.old⟩
theorem Read_any {w0 : World} {M : ML} {d : Dk} {D : DS} {L : BL} {w : World} (hD : DH w0 M d D L w) (nm : ByteArray) :
  Calls Try.prog 12 #[pt d.q, .string nm] w fun e w' => e = .returned (.tuple #[.string (readD D nm).1, iN .i64 (readD D nm).2]) ∧ Below w.heap.size w w' := by
 cases hd : D.down with
 | true => exact Read_d hD nm hd
 | false =>
  by_cases h : ∃ x ∈ D.fs, x.nm = nm
  ·exact Read_y hD nm hd h
  ·exact Read_n hD nm hd h
end Go.Proofs.Ytckmlaempffpjaa

namespace Go.Proofs.Ytckmlaempffpjaa
open Go.RowKit

def cutA (x : FA) (z : Int) : FA := ⟨x.nm, x.da.take (x.sy + stayN z (x.da.length - x.sy)), x.sy + stayN z (x.da.length - x.sy)⟩
def rankF (fs : List FA) (nm : ByteArray) : Nat := (srtL fs).idxOf (bl nm)
def wkK (fs : List FA) (ks : List Int) (k : Nat) : List FA := fs.map fun x => if rankF fs x.nm < k then cutA x (ks.getD (rankF fs x.nm) 0) else x
theorem srt_perm (fs : List FA) : (srtL fs).Perm (fs.map fun x => bl x.nm) := List.mergeSort_perm _ _
theorem srt_len (fs : List FA) : (srtL fs).length = fs.length := by rw [(srt_perm fs).length_eq, List.length_map]
theorem wk_nm (fs : List FA) (ks : List Int) (k : Nat) : (wkK fs ks k).map (·.nm) = fs.map (·.nm) := by
  rw [wkK, List.map_map]
  refine List.map_congr_left fun x _ => ?_
  simp only [Function.comp_apply]
  split <;> rfl
theorem Row.at {e : TypeId} {n k c : Nat} {p : Option Addr} {xs : List Value} {Lr : BL} (h : Row e 1 (.slice p n c) n xs Lr) (hk : k < n) : ∃ g cur, p = some ⟨g, 0, none⟩ ∧ Lr = [(g, e, cur)] ∧ cur[k]? = xs[k]? := by
  rcases h.2 with ⟨h1, h2, _⟩ | ⟨g, cap, cur, h1, h2, _, _, h5, h6⟩
  · omega
  · refine ⟨g, cur, ?_, h2, ?_⟩
    · simp only [Value.slice.injEq] at h1
      exact h1.1
    · rw [Nat.mul_one] at h6
      rw [← h6, List.getElem?_take, if_pos hk, Array.getElem?_toList]
section
variable {ρ : Operand → Value} {x y : Operand} {w : World} {dst : Option Tmp} {ty : TypeId} {pos : String} {aft : Array Edge} {gd : Option (Nat × Bool)}
theorem run_load_at {T : TypeId} {b : Addr} {v : Value} (hT : ∀ w, (isAgg T).run Try.prog w = .ok false w) (hx : ρ x = .pointer (some b)) (h : w.cell? b = some v) : (execOp ρ ⟨dst, .load T x, ty, pos, aft, gd⟩).run Try.prog w = .ok (.value v) w := by
  simp only [execOp, hx]
  simp [go_sem, hT, h]
end
/-- numbers that are only read -/
def KV (w0 : World) (L : BL) (o : Option Addr) (ks : List Int) : Prop :=
  ks = [] ∨ ∃ b, o = some b ∧ ∀ (M : ML) (A : BL) (w : World), HA ⟨w0, M⟩ (A ++ L) w → ∀ j, j < ks.length → w.cell? (b.add j) = some (.int .i64 (ks.getD j 0))
theorem add_lit (b j : Nat) : (⟨b, 0, none⟩ : Addr).add j = ⟨b, j, none⟩ := by unfold Addr.add; split <;> simp_all
theorem cell_old {W w : World} {a : Addr} {v : Value} (hb : Below W.heap.size W w) (h : W.cell? a = some v) : w.cell? a = some v := by
  have hlt : a.block < W.heap.size := by
    unfold World.cell? at h
    cases hh : W.heap[a.block]? with
    | none => simp [hh] at h
    | some o => exact lt_of_block hh
  have := hb.block a.block hlt
  unfold World.cell? at h ⊢
  rw [this]
  exact h
theorem enc_nm (s : ByteArray) : encStr (bl s) = .string s := by simp [encStr, bl]
end Go.Proofs.Ytckmlaempffpjaa

namespace Go.Proofs.Ytckmlaempffpjaa
open Go.RowKit

def wakeD (D : DS) (ks : List Int) : DS := ⟨wkK D.fs ks D.fs.length, D.free + used D.fs - used (wkK D.fs ks D.fs.length), 0, false, D.sizes⟩
theorem wk_used (fs : List FA) (ks : List Int) (k : Nat) : used (wkK fs ks k) ≤ used fs := by
 unfold wkK
 generalize rankF fs = r
 induction fs with
 | nil => exact Nat.le_refl _
 | cons x l ih =>
  simp only [used, List.map_cons, List.sum_cons] at ih ⊢
  have : (if r x.nm < k then cutA x (ks.getD (r x.nm) 0) else x).da.length ≤ x.da.length := by
   split
   ·simp only [cutA, List.length_take]; omega
   ·exact Nat.le_refl _
  omega
end Go.Proofs.Ytckmlaempffpjaa
