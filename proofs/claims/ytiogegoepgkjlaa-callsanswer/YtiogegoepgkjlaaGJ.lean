/-
  The law's shortList and shortCall.
-/
import Derived.Test.YtiogegoepgkjlaaJ6
import Derived.Test.YtiogegoepgkjlaaGH
import Derived.Test.YtiogegoepgkjlaaK4
set_option linter.unusedVariables false
set_option linter.unusedSimpArgs false
namespace Go.Proofs.Ytiogegoepgkjlaa
open Go.RowKit

section
variable {ρ : Operand → Value} {x y : Operand} {w : World} {dst : Option Tmp} {ty : TypeId} {pos : String} {aft : Array Edge} {gd : Option (Nat × Bool)}
theorem run_sl23 {a : Option Addr} {n cap m : Nat} (hx : ρ x = .slice a n cap) (hy : ρ y = iN .i64 m) (hm : m ≤ cap) : (execOp ρ ⟨dst, .slice 23 x none (some y) none, ty, pos, aft, gd⟩).run Try.prog w = .ok (.value (.slice a m cap)) w := by
  have ha : a.map (·.add 0) = a := by
    cases a with
    | none => rfl
    | some b => cases b; simp [Addr.add]
  simp only [execOp, hx, iN] at hy ⊢
  simp [Instr.sliceAt, Instr.slice, Instr.sliceBounds, Instr.sliceBound, run_underlying Try.underlying23, Try.sizeOf67, hy, asIntOf, hm, ha]
theorem app0_23 {o : Option Addr} {c : Nat} : (Builtin.append_ #[23, 23] ty #[.slice none 0 0, .slice o 0 c]).run Try.prog w = .ok (.slice none 0 0) w := by
  cases o <;> simp [Builtin.append_, run_underlying Try.underlying23, Try.sizeOf67, Builtin.lenOf, Builtin.firstCells, loadCells, loadCellsFrom, Sem.run_bind, Result.andThen]
end
theorem Row.cap {e : TypeId} {sz n : Nat} {p : Option Addr} {c : Nat} {xs : List Value} {Lr : BL} (h : Row e sz (.slice p n c) n xs Lr) : n ≤ c := by
  rcases h.2 with ⟨_, h2, _⟩ | ⟨g, cap, cur, h1, _, h3, _⟩
  · omega
  · cases h1; exact h3
theorem At.pre {w : World} {o : Option Addr} {xs ys : List Value} (h : At w o (xs ++ ys)) : At w o xs := fun j v hj => h j v (by
  rw [List.getElem?_append_left (List.getElem?_eq_some_iff.1 hj).1]; exact hj)
theorem At.takeM {w : World} {o : Option Addr} {ds : List Mb} (h : At w o (mcl ds)) (k : Nat) : At w o (mcl (ds.take k)) := by
  have e : mcl ds = mcl (ds.take k) ++ mcl (ds.drop k) := by
    unfold mcl; rw [← List.flatMap_append, List.take_append_drop]
  rw [e] at h; exact h.pre
theorem mcl_one {ds : List Mb} : ∀ u ∈ mcl ds, u.oneCell' = true := by
  intro u hu
  unfold mcl at hu
  obtain ⟨x, _, hx⟩ := List.mem_flatMap.1 hu
  simp only [List.mem_cons, List.not_mem_nil, or_false] at hx
  rcases hx with rfl | rfl | rfl <;> rfl
/-- a row of what stands elsewhere, in memory of its own -/
theorem row_cut {e t : TypeId} {sz m c : Nat} {o : Option Addr} {cs : List Value} {z : Base} {L : BL} {w : World} (H : HA z L w) (hA : At w o cs) (hl : cs.length = m * sz) (h1 : ∀ u ∈ cs, u.oneCell' = true) (he : e ≠ 5) (zv : Value) (bytes : Nat) (ty : TypeId)
    (ht : Try.prog.underlying t = some (.slice e)) (hi : (Try.prog.info? e).map (fun i => (i.zero, i.size, i.bytes)) = some (some zv, sz, bytes)) (hzs : zv.cells.size = sz) (hsz : 0 < sz) (h63 : m ≤ maxLen) (hbytes : m * bytes ≤ 140737488355328)
    (h0 : (Builtin.append_ #[t, t] ty #[.slice none 0 0, .slice o 0 c]).run Try.prog w = .ok (.slice none 0 0) w) :
    ∃ v' w' Lr', (Builtin.append_ #[t, t] ty #[.slice none 0 0, .slice o m c]).run Try.prog w = .ok v' w' ∧ Row e sz v' m cs Lr' ∧ HA z (Lr' ++ L) w' := by
  by_cases hm : m = 0
  · subst hm
    obtain rfl : cs = [] := List.length_eq_zero_iff.1 (by omega)
    exact ⟨_, w, [], h0, Row.nil e sz, H⟩
  · have hp : 0 < cs.length := by rw [hl]; exact Nat.mul_pos (by omega) hsz
    obtain ⟨a, rfl, hA⟩ := hA.ex hp
    obtain ⟨i, hi, hh⟩ := Option.map_eq_some_iff.1 hi
    simp only [Prod.mk.injEq] at hh
    have := (Row.nil e sz).append (Lr := []) (w := w) (z := z) (L := L) H he t ty i zv bytes ht hi hh.1 hh.2.1 hh.2.2 hzs hsz a m c cs hl (fun j u hu => hA.get hu) h1 (by omega) (by rw [Nat.zero_add]; exact hbytes) (by omega)
    rw [Nat.zero_add, List.nil_append] at this
    exact this
theorem cutM {ds : List Mb} {o : Option Addr} {c : Nat} {z : Base} {L : BL} {w : World} (ty : TypeId) (H : HA z L w) (hP : At w o (mcl ds)) : ∃ p q w' Lr, (Builtin.append_ #[23, 23] ty #[.slice none 0 0, .slice o (min ds.length 6) c]).run Try.prog w = .ok (.slice p (ds.take 6).length q) w' ∧ Row 67 3 (.slice p (ds.take 6).length q) (ds.take 6).length (mcl (ds.take 6)) Lr ∧ HA z (Lr ++ L) w' := by
  have e : (ds.take 6).length = min ds.length 6 := by rw [List.length_take, Nat.min_comm]
  obtain ⟨v, w', Lr, h1, h2, h3⟩ := row_cut (m := (ds.take 6).length) (c := c) H (hP.takeM 6) (mcl_len _) mcl_one (by decide) (.agg #[iN .i64 0, .string { data := #[] }, .string { data := #[] }]) 40 ty Try.underlying23 info67z rfl (by decide) (by rw [e]; unfold maxLen; omega) (by rw [e]; omega) app0_23
  obtain ⟨p, q, rfl⟩ := h2.form
  rw [← e]
  exact ⟨p, q, w', Lr, h1, h2, h3⟩
/-- six devices at most -/
def shL (l : Li) : Li := ⟨l.u, l.v, l.ac, l.ds.take 6, l.sg⟩
set_option maxRecDepth 100000 in
set_option maxHeartbeats 2000000 in
theorem shl_any {w : World} (l : Li) {o : Option Addr} {c : Nat} (hP : At w o (mcl l.ds)) (hcap : l.ds.length ≤ c) :
    Calls Try.prog 32 #[.agg (liC l (.slice o l.ds.length c))] w fun e w' => ∃ sv Lr, e = .returned (.agg (liC (shL l) sv)) ∧ Row 67 3 sv (shL l).ds.length (mcl (shL l).ds) Lr ∧ HA (bs w) Lr w' := by
  have H0 := HA.start w
  go_enter Try.func32, Try.ntmps32
  refine wp_seq (wl_region (wl_make (c := liC l (.slice o l.ds.length c)) H0 25 ky ky ?_))
  intro q1 w2 (h3 : HA (bs w) [(q1, 25, liC l (.slice o l.ds.length c))] w2)
  refine wl_make (c := #[iN .i64 0, iN .i64 0, .string ({ data := #[] }), .slice none 0 0, .string ({ data := #[] })]) h3 25 ky ky ?_
  intro q4 w5 (h6 : HA (bs w) [(q4, 25, #[iN .i64 0, iN .i64 0, .string ({ data := #[] }), .slice none 0 0, .string ({ data := #[] })]), (q1, 25, liC l (.slice o l.ds.length c))] w5)
  refine wl_nil (then_at rfl (wp_seq (wl_region (zv (.slice none 0 0) (wl_nil (then_at rfl (wp_seq (wl_region (zv (.slice none 0 0) (zv (.pointer (some ⟨q1, 3, none⟩)) (zu (.slice o l.ds.length c) (run_load1 (fun w => Try.isAgg23 w) ky (((h6.get 1 rfl).cell 3).trans rfl)) (zv (.pointer (some ⟨q1, 3, none⟩)) (zu (.slice o l.ds.length c) (run_load1 (fun w => Try.isAgg23 w) ky (((h6.get 1 rfl).cell 3).trans rfl)) (zv (iN .i64 l.ds.length) (zu (iN .i64 (min l.ds.length 6)) (run_min (i := l.ds.length) (j := 6) ky ky) (zu (.slice o (min l.ds.length 6) c) (run_sl23 (a := o) (n := l.ds.length) (cap := c) (m := min l.ds.length 6) ky ky (by have := hcap; omega)) ?_))))))))))))))))
  obtain ⟨pa7, ca8, w9, Lr10, hrun11, hR12, h13⟩ := cutM (c := c) 23 h6 (hP.keep h6.old.old)
  have h14 := (show HA (bs w) (Lr10 ++ [(q4, 25, #[iN .i64 0, iN .i64 0, .string ({ data := #[] }), .slice none 0 0, .string ({ data := #[] })]), (q1, 25, liC l (.slice o l.ds.length c))]) w9 from h13).perm (perm_nil Lr10 [(q4, 25, #[iN .i64 0, iN .i64 0, .string ({ data := #[] }), .slice none 0 0, .string ({ data := #[] })]), (q1, 25, liC l (.slice o l.ds.length c))])
  refine wl_any (v := .slice pa7 (l.ds.take 6).length ca8) ky (run_app_ops ky ky hrun11) ?_
  refine zv (.slice pa7 (l.ds.take 6).length ca8) (wl_nil (then_at rfl (wp_seq (wl_region (zv (.slice pa7 (l.ds.take 6).length ca8) (zv (.pointer (some ⟨q1, 3, none⟩)) (wl_putv (v := .slice pa7 (l.ds.take 6).length ca8) h14 1 rfl 3 (by show 3 < 5; decide) ky (fun w => Try.sizeOf23 w) ky ky ky (fun w15 h16 => (wl_nil (then_at rfl (wp_seq (wl_region (wl_load h16 1 rfl ky ky Try.underlying25 rfl ky (wl_fill (c' := #[.int .i64 l.u, .int .i64 l.v, .string l.ac, .slice pa7 (l.ds.take 6).length ca8, .string l.sg]) h16 0 rfl ky ky ky rfl ky ky (fun w17 h18 => (wl_nil (then_at rfl (wp_ret ?_))))))))))))))))))
  repeat first|refine tr ?_|refine block_ret ?_
  exact bodyPost_ret (v := .agg (#[.int .i64 l.u, .int .i64 l.v, .string l.ac, .slice pa7 (l.ds.take 6).length ca8, .string l.sg])) (res_cell (p := 2) ky ky (h18.get 0 rfl) Try.underlying25 rfl ky) rfl ⟨.slice pa7 (l.ds.take 6).length ca8, Lr10, rfl, hR12, by have hz := h18.sub (List.Sublist.cons _ (List.Sublist.cons _ (List.Sublist.refl _))); rwa [List.append_nil] at hz⟩
end Go.Proofs.Ytiogegoepgkjlaa

set_option linter.unusedVariables false
set_option linter.unusedSimpArgs false
namespace Go.Proofs.Ytiogegoepgkjlaa
open Go.RowKit

section
variable {ρ : Operand → Value} {x y : Operand} {w : World} {dst : Option Tmp} {ty : TypeId} {pos : String} {aft : Array Edge} {gd : Option (Nat × Bool)}
theorem run_sl45 {a : Option Addr} {n cap m : Nat} (hx : ρ x = .slice a n cap) (hy : ρ y = iN .i64 m) (hm : m ≤ cap) : (execOp ρ ⟨dst, .slice 45 x none (some y) none, ty, pos, aft, gd⟩).run Try.prog w = .ok (.value (.slice a m cap)) w := by
  have ha : a.map (·.add 0) = a := by
    cases a with
    | none => rfl
    | some b => cases b; simp [Addr.add]
  simp only [execOp, hx, iN] at hy ⊢
  simp [Instr.sliceAt, Instr.slice, Instr.sliceBounds, Instr.sliceBound, run_underlying Try.underlying45, Try.sizeOf62, hy, asIntOf, hm, ha]
theorem app0_45 {o : Option Addr} {c : Nat} : (Builtin.append_ #[45, 45] ty #[.slice none 0 0, .slice o 0 c]).run Try.prog w = .ok (.slice none 0 0) w := by
  cases o <;> simp [Builtin.append_, run_underlying Try.underlying45, Try.sizeOf62, Builtin.lenOf, Builtin.firstCells, loadCells, loadCellsFrom, Sem.run_bind, Result.andThen]
end
theorem At.takeI {w : World} {o : Option Addr} {ds : List It} (h : At w o (icl ds)) (k : Nat) : At w o (icl (ds.take k)) := by
  have e : icl ds = icl (ds.take k) ++ icl (ds.drop k) := by
    unfold icl; rw [← List.flatMap_append, List.take_append_drop]
  rw [e] at h; exact h.pre
theorem icl_one {ds : List It} : ∀ u ∈ icl ds, u.oneCell' = true := by
  intro u hu
  unfold icl at hu
  obtain ⟨x, _, hx⟩ := List.mem_flatMap.1 hu
  simp only [List.mem_cons, List.not_mem_nil, or_false] at hx
  rcases hx with rfl | rfl | rfl | rfl <;> rfl
theorem cutI {ds : List It} {o : Option Addr} {c : Nat} {z : Base} {L : BL} {w : World} (ty : TypeId) (H : HA z L w) (hP : At w o (icl ds)) : ∃ p q w' Lr, (Builtin.append_ #[45, 45] ty #[.slice none 0 0, .slice o (min ds.length 12) c]).run Try.prog w = .ok (.slice p (ds.take 12).length q) w' ∧ Row 62 4 (.slice p (ds.take 12).length q) (ds.take 12).length (icl (ds.take 12)) Lr ∧ HA z (Lr ++ L) w' := by
  have e : (ds.take 12).length = min ds.length 12 := by rw [List.length_take, Nat.min_comm]
  obtain ⟨v, w', Lr, h1, h2, h3⟩ := row_cut (m := (ds.take 12).length) (c := c) H (hP.takeI 12) (icl_len _) icl_one (by decide) (.agg #[iN .u64 0, iN .i64 0, iN .u64 0, .string { data := #[] }]) 40 ty Try.underlying45 info62z rfl (by decide) (by rw [e]; unfold maxLen; omega) (by rw [e]; omega) app0_45
  obtain ⟨p, q, rfl⟩ := h2.form
  rw [← e]
  exact ⟨p, q, w', Lr, h1, h2, h3⟩
/-- twelve items at most -/
def shN (a : An) : An := ⟨a.er, shL a.li, a.bu, a.its.take 12, a.bt, a.lf⟩
theorem shN_few (c : An) : (shN c).li.ds.length ≤ 6 ∧ (shN c).its.length ≤ 12 := ⟨List.length_take_le _ _, List.length_take_le _ _⟩
theorem shN_two {c : An} (h1 : c.li.ds.length ≤ 6) (h2 : c.its.length ≤ 12) : shN c = c := by
  obtain ⟨er, ⟨u, v, ac, ds, sg⟩, bu, it, bt, lf⟩ := c
  show (⟨er, ⟨u, v, ac, ds.take 6, sg⟩, bu, it.take 12, bt, lf⟩ : An) = _
  rw [List.take_of_length_le h1, List.take_of_length_le h2]
set_option maxRecDepth 100000 in
set_option maxHeartbeats 4000000 in
theorem shn_any {w : World} (a : An) {o p : Option Addr} {k m : Nat} (hP : At w o (mcl a.li.ds)) (hQ : At w p (icl a.its)) (hcap : a.li.ds.length ≤ k) (hcap2 : a.its.length ≤ m) :
    Calls Try.prog 21 #[.agg (anC a (.slice o a.li.ds.length k) (.slice p a.its.length m))] w fun e w' => ∃ sv si L1 L2, e = .returned (.agg (anC (shN a) sv si)) ∧ Row 67 3 sv (shN a).li.ds.length (mcl (shN a).li.ds) L1 ∧ Row 62 4 si (shN a).its.length (icl (shN a).its) L2 ∧ HA (bs w) (L1 ++ (L2 ++ [])) w' := by
  have H0 := HA.start w
  go_enter Try.func21, Try.ntmps21
  refine wp_seq (wl_region (wl_make (c := anC a (.slice o a.li.ds.length k) (.slice p a.its.length m)) H0 47 ky ky ?_))
  intro q1 w2 (h3 : HA (bs w) [(q1, 47, anC a (.slice o a.li.ds.length k) (.slice p a.its.length m))] w2)
  refine wl_make (c := #[iN .i64 0, iN .i64 0, iN .i64 0, .string ({ data := #[] }), .slice none 0 0, .string ({ data := #[] }), iN .i64 0, iN .i64 0, .string ({ data := #[] }), .string ({ data := #[] }), iN .i64 0, .string ({ data := #[] }), .string ({ data := #[] }), iN .i64 0, .string ({ data := #[] }), .slice none 0 0, .string ({ data := #[] }), iN .i64 0]) h3 47 ky ky ?_
  intro q4 w5 (h6 : HA (bs w) [(q4, 47, #[iN .i64 0, iN .i64 0, iN .i64 0, .string ({ data := #[] }), .slice none 0 0, .string ({ data := #[] }), iN .i64 0, iN .i64 0, .string ({ data := #[] }), .string ({ data := #[] }), iN .i64 0, .string ({ data := #[] }), .string ({ data := #[] }), iN .i64 0, .string ({ data := #[] }), .slice none 0 0, .string ({ data := #[] }), iN .i64 0]), (q1, 47, anC a (.slice o a.li.ds.length k) (.slice p a.its.length m))] w5)
  refine wl_nil (then_at rfl (wp_seq (wl_region (zv (.slice none 0 0) (wl_nil (then_at rfl (wp_seq (wl_region (zv (.slice none 0 0) (zv (.pointer (some ⟨q1, 15, none⟩)) (zu (.slice p a.its.length m) (run_load1 (fun w => Try.isAgg45 w) ky (((h6.get 1 rfl).cell 15).trans rfl)) (zv (.pointer (some ⟨q1, 15, none⟩)) (zu (.slice p a.its.length m) (run_load1 (fun w => Try.isAgg45 w) ky (((h6.get 1 rfl).cell 15).trans rfl)) (zv (iN .i64 a.its.length) (zu (iN .i64 (min a.its.length 12)) (run_min (i := a.its.length) (j := 12) ky ky) (zu (.slice p (min a.its.length 12) m) (run_sl45 (a := p) (n := a.its.length) (cap := m) (m := min a.its.length 12) ky ky (by have := hcap2; omega)) ?_))))))))))))))))
  obtain ⟨pa7, ca8, w9, Lr10, hrun11, hR12, h13⟩ := cutI (c := m) 45 h6 (hQ.keep h6.old.old)
  have h14 := (show HA (bs w) (Lr10 ++ [(q4, 47, #[iN .i64 0, iN .i64 0, iN .i64 0, .string ({ data := #[] }), .slice none 0 0, .string ({ data := #[] }), iN .i64 0, iN .i64 0, .string ({ data := #[] }), .string ({ data := #[] }), iN .i64 0, .string ({ data := #[] }), .string ({ data := #[] }), iN .i64 0, .string ({ data := #[] }), .slice none 0 0, .string ({ data := #[] }), iN .i64 0]), (q1, 47, anC a (.slice o a.li.ds.length k) (.slice p a.its.length m))]) w9 from h13).perm (perm_nil Lr10 [(q4, 47, #[iN .i64 0, iN .i64 0, iN .i64 0, .string ({ data := #[] }), .slice none 0 0, .string ({ data := #[] }), iN .i64 0, iN .i64 0, .string ({ data := #[] }), .string ({ data := #[] }), iN .i64 0, .string ({ data := #[] }), .string ({ data := #[] }), iN .i64 0, .string ({ data := #[] }), .slice none 0 0, .string ({ data := #[] }), iN .i64 0]), (q1, 47, anC a (.slice o a.li.ds.length k) (.slice p a.its.length m))])
  refine wl_any (v := .slice pa7 (a.its.take 12).length ca8) ky (run_app_ops ky ky hrun11) ?_
  refine zv (.slice pa7 (a.its.take 12).length ca8) (wl_nil (then_at rfl (wp_seq (wl_region (zv (.slice pa7 (a.its.take 12).length ca8) (zv (.pointer (some ⟨q1, 15, none⟩)) (wl_putv (v := .slice pa7 (a.its.take 12).length ca8) h14 1 rfl 15 (by show 15 < 18; decide) ky (fun w => Try.sizeOf45 w) ky ky ky (fun w15 h16 => (wl_nil (then_at rfl (wp_seq (wl_region (zv (.pointer (some ⟨q1, 1, none⟩)) (zu (.agg #[.int .i64 a.li.u, .int .i64 a.li.v, .string a.li.ac, .slice o a.li.ds.length k, .string a.li.sg]) (run_load_part (q := q1) (off := 1) (d := #[.int .i64 a.li.u, .int .i64 a.li.v, .string a.li.ac, .slice o a.li.ds.length k, .string a.li.sg]) ky (h16.get 1 rfl) Try.underlying25 rfl ky (by intro j hj; match j, hj with | 0, _ => rfl | 1, _ => rfl | 2, _ => rfl | 3, _ => rfl | 4, _ => rfl)) ?_))))))))))))))
  refine wl_callx ky enter32 #[.agg #[.int .i64 a.li.u, .int .i64 a.li.v, .string a.li.ac, .slice o a.li.ds.length k, .string a.li.sg]] ky (shl_any a.li (hP.keep h16.old.old) hcap) ?_
  rintro _ w21 ⟨sv17, Lr18, rfl, hR19, h20⟩
  refine ⟨_, rfl, ?_⟩
  have h22 := HA.join_n 2 h16 h20
  obtain ⟨po23, pc24, hvpo23⟩ := hR19.form
  subst hvpo23
  refine zv (.pointer (some ⟨q1, 1, none⟩)) (wl_puts (d := liC (shL a.li) (.slice po23 (shL a.li).ds.length pc24)) (c' := #[.int .i64 a.er, .int .i64 ((shL a.li).u), .int .i64 ((shL a.li).v), .string ((shL a.li).ac), .slice po23 (shL a.li).ds.length pc24, .string ((shL a.li).sg), .int .i64 a.bu.u, .int .i64 a.bu.d, .string a.bu.sg, .string a.bu.dh, .int .i64 a.bu.pi, .string a.bu.pr, .string a.bu.ps, .int .i64 a.bu.oi, .string a.bu.on, .slice pa7 (a.its.take 12).length ca8, .string a.bt, .int .i64 a.lf]) h22 1 rfl (off := 1) ky ky ky ky ky ky ky (fun w25 h26 => (wl_nil (then_at rfl (wp_seq (wl_region (wl_load h26 1 rfl ky ky Try.underlying47 rfl ky (wl_fill (c' := #[.int .i64 a.er, .int .i64 ((shL a.li).u), .int .i64 ((shL a.li).v), .string ((shL a.li).ac), .slice po23 (shL a.li).ds.length pc24, .string ((shL a.li).sg), .int .i64 a.bu.u, .int .i64 a.bu.d, .string a.bu.sg, .string a.bu.dh, .int .i64 a.bu.pi, .string a.bu.pr, .string a.bu.ps, .int .i64 a.bu.oi, .string a.bu.on, .slice pa7 (a.its.take 12).length ca8, .string a.bt, .int .i64 a.lf]) h26 0 rfl ky ky ky rfl ky ky (fun w27 h28 => (wl_nil (then_at rfl (wp_ret ?_))))))))))))
  repeat first|refine tr ?_|refine block_ret ?_
  exact bodyPost_ret (v := .agg (#[.int .i64 a.er, .int .i64 ((shL a.li).u), .int .i64 ((shL a.li).v), .string ((shL a.li).ac), .slice po23 (shL a.li).ds.length pc24, .string ((shL a.li).sg), .int .i64 a.bu.u, .int .i64 a.bu.d, .string a.bu.sg, .string a.bu.dh, .int .i64 a.bu.pi, .string a.bu.pr, .string a.bu.ps, .int .i64 a.bu.oi, .string a.bu.on, .slice pa7 (a.its.take 12).length ca8, .string a.bt, .int .i64 a.lf])) (res_cell (p := 2) ky ky (h28.get 0 rfl) Try.underlying47 rfl ky) rfl ⟨.slice po23 (shL a.li).ds.length pc24, .slice pa7 (a.its.take 12).length ca8, Lr18, Lr10, rfl, hR19, hR12, h28.sub (List.Sublist.cons _ (List.Sublist.cons _ (List.Sublist.refl _)))⟩
end Go.Proofs.Ytiogegoepgkjlaa
