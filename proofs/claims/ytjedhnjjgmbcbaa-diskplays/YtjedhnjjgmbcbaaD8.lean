/-
  The names in order; bytes as texts; rows that a call has made.
-/
import Derived.Test.YtjedhnjjgmbcbaaD7
import Derived.Sort.KeysCollected
import Derived.StringKeys
namespace Go.Proofs.Ytjedhnjjgmbcbaa
open Go.RowKit Go.Shelf Go.Maps

/-- names in order, byte by byte -/
def srtL (fs : List FA) : List (List UInt8) := (fs.map fun x => bl x.nm).mergeSort leB
def D0 (fl : List Fl) : DataW Unit := .map ((fl.map fun f => (Lit.string (bl f.nm), DataW.nil)).foldr DataW.insert [])
theorem rg_ent (f : Fl) (h : f.nm.size ≤ 64) : WideElems.rg (H := Unit) Try.prog 9 (fun _ => some (.nil, [])) (ent f) = (.string (bl f.nm), .nil) := by
  have := Go.WideMaps.keyOf_string_mk (P := Try.prog) Try.underlying9 (s := f.nm) (by simp only [maxLen]; omega)
  simp [WideElems.rg, WideElems.rd, ent, this, bl]
theorem owns_F {fl : List Fl} {nx r : Nat} {w : World} (hK : FK fl nx) (hs : ∀ f ∈ fl, f.nm.size ≤ 64) (hl : fl.length ≤ 1000000) (hb : w.heap[r]? = some (.map (eF fl) nx)) :
    w.ownsMap (H := Unit) Try.prog 9 (fun _ => some (.nil, [])) r fl.length (D0 fl) := by
  refine ⟨eF fl, nx, hb, ⟨?_, ⟨fun x hx => ?_, ?_, ?_⟩, fun x hx => ?_⟩, by simp [eF], ?_⟩
  · simp only [eF, List.size_toArray, List.length_map, maxLen]; omega
  · obtain ⟨f, hf, rfl⟩ := List.mem_map.1 (show x ∈ fl.map ent by simpa [eF] using hx)
    exact hK.old f hf
  · have := hK.bns
    simpa [eF, ent, Function.comp_def] using this
  · have h2 : ((eF fl).toList.map (·.key)) = (fl.map (·.nm)).map Value.string := by simp [eF, ent, Function.comp_def]
    rw [h2]
    exact List.pairwise_map.2 (hK.nms.imp fun h e => h (by simpa using e))
  · obtain ⟨f, hf, rfl⟩ := List.mem_map.1 (show x ∈ fl.map ent by simpa [eF] using hx)
    have := Go.WideMaps.keyOf_string_mk (P := Try.prog) Try.underlying9 (s := f.nm) (by have := hs f hf; simp only [maxLen]; omega)
    exact ⟨_, by simp only [WideElems.rd, ent, this]; rfl⟩
  · have e : (eF fl).toList.map (WideElems.rg (H := Unit) Try.prog 9 (fun _ => some (.nil, []))) = fl.map fun f => (Lit.string (bl f.nm), DataW.nil) := by
      rw [eF, List.map_map]
      refine List.map_congr_left fun f hf => ?_
      rw [Function.comp_apply, rg_ent f (hs f hf)]
    rw [e, D0]
theorem strKeys_D0 (fl : List Fl) : (strKeys (D0 fl)).Perm (fl.map fun f => bl f.nm) := by
  have h := (WideShapes.sorted_perm (fl.map fun f => (Lit.string (bl f.nm), (DataW.nil : DataW Unit)))).map (fun p => strOf p.1)
  rw [List.map_map] at h
  exact h
theorem size_D0 (fl : List Fl) : Maps.size (D0 fl) = fl.length := by
  simp only [D0, Maps.size_eq, length_sorted, List.length_map]
theorem sortsA (m : Nat) : AnyZ.SortsIn Try.prog Try.sortedA_ren Fence.wide m :=
  ⟨fun blk off cap ss W hH hblk hsz => callsIn_wide.2 (AnyM.slices_Sort_string Try.sortA blk off cap ss W hH hblk hsz),
   fun p cap W => callsIn_wide.2 (AnyM.slices_Sort_string_none Try.sortA p cap W)⟩
theorem keys_any (r : Nat) (w : World) : Calls Try.prog 52 #[.map (some r)] w fun e w' => e = .returned (.func (.func 66) #[] #[.pointer (some ⟨w.heap.size, 0, none⟩)]) ∧ w' = w.alloc (.cells #[.map (some r)] 59) :=
  (callsIn_wide (n := 5)).1 (AnyZ.keys_in Try.keysA Fence.wide 5 trivial rfl (some r) w)
set_option maxHeartbeats 1000000 in
theorem sorted_any {fl : List Fl} {nx r b : Nat} {w : World} (hK : FK fl nx) (hs : ∀ f ∈ fl, f.nm.size ≤ 64) (hl : fl.length ≤ 1000000) (hb : w.heap[r]? = some (.map (eF fl) nx)) (hc : Blk w b 59 #[.map (some r)]) :
    Calls Try.prog 51 #[.func (.func 66) #[] #[.pointer (some ⟨b, 0, none⟩)]] w fun e w' => ∃ v, e = .returned v ∧ w'.ownsRow w.heap.size 9 1 v fl.length ((srtL (fl.map ab)).map encStr) ∧ Below w.heap.size w w' := by
  refine (callsIn_wide (n := 5)).1 ?_
  have hseq : SeqGives Fence.wide 2 Try.prog 66 #[.pointer (some ⟨b, 0, none⟩)] encStr (fun ss => ss.Perm (strKeys (D0 fl))) (Maps.size (D0 fl)) w :=
    AnyZ.keys_gives (ρ := Try.keysA_ren) { Try.keysA with } Fence.wide _ trivial rfl (by omega) b r fl.length (D0 fl) w hc.lt (by rw [hc.cell 0]; rfl) (owns_F hK hs hl hb)
  have cS := AnyZ.sorted_in Try.sortedA Fence.wide 5 trivial trivial trivial trivial rfl (by omega) (sortsA _) (enters_of Try.func61 (by kernel_rfl) rfl) 66 #[.pointer (some ⟨b, 0, none⟩)] trivial (enters_of Try.func66 (by kernel_rfl) rfl) _ _ (by rw [size_D0]; simp only [maxLen]; omega) (by rw [size_D0]; omega) _ hseq
  change CallsIn _ _ Try.prog 51 _ _ _ at cS
  refine cS.mono ?_
  rintro e w' ⟨v, ss, rfl, hp, hrow, _, hbl⟩
  have hp2 : ss.Perm (fl.map fun f => bl f.nm) := hp.trans (strKeys_D0 fl)
  have e1 : ss.mergeSort (fun x y => decide (x ≤ y)) = srtL (fl.map ab) := by
    rw [srtL, List.map_map]
    exact mergeSort_of_perm hp2
  have e2 : ss.length = fl.length := by rw [hp2.length_eq, List.length_map]
  rw [e1, e2] at hrow
  exact ⟨v, rfl, hrow, hbl⟩
/-- a row that a call has made is one's own -/
theorem HA.owned {z : Base} {L : BL} {w w' : World} {e : TypeId} {v : Value} {n : Nat} {xs : List Value} (H : HA z L w) (hb : Below w.heap.size w w') (h : w'.ownsRow w.heap.size e 1 v n xs) : ∃ Lr, Row e 1 v n xs Lr ∧ HA z (Lr ++ L) w' := by
  have H' := H.keep _ _ hb
  refine ⟨match v with | .slice (some a) _ _ => (match w'.heap[a.block]? with | some (.cells c _ _) => [(a.block, e, c)] | _ => []) | _ => [], ?_⟩
  obtain ⟨h1, h2⟩ := h
  rcases h2 with ⟨rfl, rfl⟩ | ⟨g, cap, cur, rfl, hg, hh, k1, k2, k3, k4⟩
  · exact ⟨⟨h1, .inl ⟨rfl, rfl, rfl⟩⟩, H'⟩
  · simp only [hh]
    refine ⟨⟨h1, .inr ⟨g, cap, cur, rfl, rfl, k1, k2, k3, k4⟩⟩, H'.consNew ⟨(0, 0), hh, .inl rfl⟩ (Nat.le_trans H.size hg) (fun x hx => ?_)⟩
    have := (H.blk x hx).lt
    omega
/-- bytes as a text -/
theorem run_textB {ρ : Operand → Value} {x : Operand} {w : World} {dst : Option Tmp} {ty : TypeId} {pos : String} {aft : Array Edge} {gd : Option (Nat × Bool)} {v : Value} {da : List UInt8} {Lr : BL} (h : RowB v da Lr) (hB : ∀ y ∈ Lr, Blk w y.1 y.2.1 y.2.2) (hx : ρ x = v) :
    (execOp ρ ⟨dst, .convert 52 9 x, ty, pos, aft, gd⟩).run Try.prog w = .ok (.value (.string ⟨da.toArray⟩)) w := by
  rcases h with ⟨rfl, rfl, rfl⟩ | ⟨g, cap, cur, rfl, rfl, k1, k2, k3, k4⟩
  · simp only [execOp, hx]
    have e : (convert 52 9 (.slice none 0 0)).run Try.prog w = .ok (.string { data := #[] }) w := by kernel_rfl
    rw [Sem.run_bind, e]
    rfl
  · have := run_textg (dst := dst) (ty := ty) (pos := pos) (aft := aft) (gd := gd) hx (hB (g, 5, bc cur) (by simp)) (by omega)
    rw [this, k4]
end Go.Proofs.Ytjedhnjjgmbcbaa
