/-
  The law's shortList and shortCall.
-/
import Derived.Test.YtiogegoepgkjlaaJ6
import Derived.Test.YtiogegoepgkjlaaGH
import Derived.ProofKit
import Derived.SizedLaws
import Derived.OpenShut
import Derived.Deep.Slices
import Derived.ChangeOld
set_option maxRecDepth 100000
set_option linter.unusedVariables false
set_option linter.unusedSimpArgs false
namespace Go.Proofs.Ytiogegoepgkjlaa
open Go.RowKit

section
variable {ρ : Operand → Value} {x y : Operand} {w : World} {dst : Option Tmp} {ty : TypeId} {pos : String} {aft : Array Edge} {gd : Option (Nat × Bool)}
theorem run_sl23 {a : Option Addr} {n cap m : Nat} (hx : ρ x = .slice a n cap) (hy : ρ y = iN .i64 m) (hm : m ≤ cap) : (execOp ρ ⟨dst, .slice 23 x none (some y) none, ty, pos, aft, gd⟩).run Try.prog w = .ok (.value (.slice a m cap)) w := by
  have ha : a.map (·.add 0) = a := by
    cases a with
    | none => rfl
    | some b => cases b; simp [Addr.add]
  simp only [execOp, hx, iN] at hy ⊢
  simp [Instr.sliceAt, Instr.slice, Instr.sliceBounds, Instr.sliceBound, run_underlying Try.underlying23, Try.sizeOf67, hy, asIntOf, hm, ha]
theorem run_sl28 {a : Option Addr} {n cap m : Nat} (hx : ρ x = .slice a n cap) (hy : ρ y = iN .i64 m) (hm : m ≤ cap) : (execOp ρ ⟨dst, .slice 28 x none (some y) none, ty, pos, aft, gd⟩).run Try.prog w = .ok (.value (.slice a m cap)) w := by
  have ha : a.map (·.add 0) = a := by
    cases a with
    | none => rfl
    | some b => cases b; simp [Addr.add]
  simp only [execOp, hx, iN] at hy ⊢
  simp [Instr.sliceAt, Instr.slice, Instr.sliceBounds, Instr.sliceBound, run_underlying Try.underlying28, Try.sizeOf9, hy, asIntOf, hm, ha]
theorem app0_23 {o : Option Addr} {c : Nat} : (Builtin.append_ #[23, 23] ty #[.slice none 0 0, .slice o 0 c]).run Try.prog w = .ok (.slice none 0 0) w := by
  cases o <;> simp [Builtin.append_, run_underlying Try.underlying23, Try.sizeOf67, Builtin.lenOf, Builtin.firstCells, loadCells, loadCellsFrom, Sem.run_bind, Result.andThen]
theorem app0_28 {o : Option Addr} {c : Nat} : (Builtin.append_ #[28, 28] ty #[.slice none 0 0, .slice o 0 c]).run Try.prog w = .ok (.slice none 0 0) w := by
  cases o <;> simp [Builtin.append_, run_underlying Try.underlying28, Try.sizeOf9, Builtin.lenOf, Builtin.firstCells, loadCells, loadCellsFrom, Sem.run_bind, Result.andThen]
end
theorem Row.cap {e : TypeId} {sz n : Nat} {p : Option Addr} {c : Nat} {xs : List Value} {Lr : BL} (h : Row e sz (.slice p n c) n xs Lr) : n ≤ c := by
  rcases h.2 with ⟨_, h2, _⟩ | ⟨g, cap, cur, h1, _, h3, _⟩
  · omega
  · cases h1; exact h3
theorem At.pre {w : World} {o : Option Addr} {xs ys : List Value} (h : At w o (xs ++ ys)) : At w o xs := fun j v hj => h j v (by
  rw [List.getElem?_append_left (List.getElem?_eq_some_iff.1 hj).1]; exact hj)
theorem At.takeM {w : World} {o : Option Addr} {ds : List Mb} (h : At w o (mcl ds)) (k : Nat) : At w o (mcl (ds.take k)) := by
  have e : mcl ds = mcl (ds.take k) ++ mcl (ds.drop k) := by
    unfold mcl; rw [← List.flatMap_append, List.take_append_drop]
  rw [e] at h; exact h.pre
theorem At.takeS {w : World} {o : Option Addr} {ds : List ByteArray} (h : At w o (scl ds)) (k : Nat) : At w o (scl (ds.take k)) := by
  have e : scl ds = scl (ds.take k) ++ scl (ds.drop k) := by
    unfold scl; rw [← List.map_append, List.take_append_drop]
  rw [e] at h; exact h.pre
theorem mcl_one {ds : List Mb} : ∀ u ∈ mcl ds, u.oneCell' = true := by
  intro u hu
  unfold mcl at hu
  obtain ⟨x, _, hx⟩ := List.mem_flatMap.1 hu
  simp only [List.mem_cons, List.not_mem_nil, or_false] at hx
  rcases hx with rfl | rfl | rfl <;> rfl
theorem scl_one {ds : List ByteArray} : ∀ u ∈ scl ds, u.oneCell' = true := by
  intro u hu
  unfold scl at hu
  obtain ⟨x, _, rfl⟩ := List.mem_map.1 hu
  rfl
/-- a row of what stands elsewhere, in memory of its own -/
theorem row_cut {e t : TypeId} {sz m c : Nat} {o : Option Addr} {cs : List Value} {z : Base} {L : BL} {w : World} (H : HA z L w) (hA : At w o cs) (hl : cs.length = m * sz) (h1 : ∀ u ∈ cs, u.oneCell' = true) (he : e ≠ 5) (zv : Value) (bytes : Nat) (ty : TypeId)
    (ht : Try.prog.underlying t = some (.slice e)) (hi : (Try.prog.info? e).map (fun i => (i.zero, i.size, i.bytes)) = some (some zv, sz, bytes)) (hzs : zv.cells.size = sz) (hsz : 0 < sz) (h63 : m ≤ maxLen) (hbytes : m * bytes ≤ 140737488355328)
    (h0 : (Builtin.append_ #[t, t] ty #[.slice none 0 0, .slice o 0 c]).run Try.prog w = .ok (.slice none 0 0) w) :
    ∃ v' w' Lr', (Builtin.append_ #[t, t] ty #[.slice none 0 0, .slice o m c]).run Try.prog w = .ok v' w' ∧ Row e sz v' m cs Lr' ∧ HA z (Lr' ++ L) w' := by
  by_cases hm : m = 0
  · subst hm
    obtain rfl : cs = [] := List.length_eq_zero_iff.1 (by omega)
    exact ⟨_, w, [], h0, Row.nil e sz, H⟩
  · have hp : 0 < cs.length := by rw [hl]; exact Nat.mul_pos (by omega) hsz
    obtain ⟨a, rfl, hA⟩ := hA.ex hp
    obtain ⟨i, hi, hh⟩ := Option.map_eq_some_iff.1 hi
    simp only [Prod.mk.injEq] at hh
    have := (Row.nil e sz).append (Lr := []) (w := w) (z := z) (L := L) H he t ty i zv bytes ht hi hh.1 hh.2.1 hh.2.2 hzs hsz a m c cs hl (fun j u hu => hA.get hu) h1 (by omega) (by rw [Nat.zero_add]; exact hbytes) (by omega)
    rw [Nat.zero_add, List.nil_append] at this
    exact this
theorem cutM {ds : List Mb} {o : Option Addr} {c : Nat} {z : Base} {L : BL} {w : World} (ty : TypeId) (H : HA z L w) (hP : At w o (mcl ds)) : ∃ p q w' Lr, (Builtin.append_ #[23, 23] ty #[.slice none 0 0, .slice o (min ds.length 6) c]).run Try.prog w = .ok (.slice p (ds.take 6).length q) w' ∧ Row 67 3 (.slice p (ds.take 6).length q) (ds.take 6).length (mcl (ds.take 6)) Lr ∧ HA z (Lr ++ L) w' := by
  have e : (ds.take 6).length = min ds.length 6 := by rw [List.length_take, Nat.min_comm]
  obtain ⟨v, w', Lr, h1, h2, h3⟩ := row_cut (m := (ds.take 6).length) (c := c) H (hP.takeM 6) (mcl_len _) mcl_one (by decide) (.agg #[iN .i64 0, .string { data := #[] }, .string { data := #[] }]) 40 ty Try.underlying23 info67z rfl (by decide) (by rw [e]; unfold maxLen; omega) (by rw [e]; omega) app0_23
  obtain ⟨p, q, rfl⟩ := h2.form
  rw [← e]
  exact ⟨p, q, w', Lr, h1, h2, h3⟩
theorem cutS {ds : List ByteArray} {o : Option Addr} {c : Nat} {z : Base} {L : BL} {w : World} (ty : TypeId) (H : HA z L w) (hP : At w o (scl ds)) : ∃ p q w' Lr, (Builtin.append_ #[28, 28] ty #[.slice none 0 0, .slice o (min ds.length 30) c]).run Try.prog w = .ok (.slice p (ds.take 30).length q) w' ∧ Row 9 1 (.slice p (ds.take 30).length q) (ds.take 30).length (scl (ds.take 30)) Lr ∧ HA z (Lr ++ L) w' := by
  have e : (ds.take 30).length = min ds.length 30 := by rw [List.length_take, Nat.min_comm]
  obtain ⟨v, w', Lr, h1, h2, h3⟩ := row_cut (m := (ds.take 30).length) (c := c) H (hP.takeS 30) (by rw [scl_len, Nat.mul_one]) scl_one (by decide) (.string { data := #[] }) 16 ty Try.underlying28 info9z rfl (by decide) (by rw [e]; unfold maxLen; omega) (by rw [e]; omega) app0_28
  obtain ⟨p, q, rfl⟩ := h2.form
  rw [← e]
  exact ⟨p, q, w', Lr, h1, h2, h3⟩
/-- six devices at most -/
def shL (l : Li) : Li := ⟨l.u, l.v, l.ac, l.ds.take 6, l.sg⟩
/-- thirty keys at most -/
def shC (c : Ca) : Ca := ⟨c.kd, c.us, c.dv, shL c.li, c.bu, c.on.take 30, c.tt, c.no, c.af, c.nm, c.ix, c.bt⟩
theorem shC_few (c : Ca) : (shC c).li.ds.length ≤ 6 ∧ (shC c).on.length ≤ 30 := ⟨List.length_take_le _ _, List.length_take_le _ _⟩
theorem shC_two {c : Ca} (h1 : c.li.ds.length ≤ 6) (h2 : c.on.length ≤ 30) : shC c = c := by
  obtain ⟨kd, us, dv, ⟨u, v, ac, ds, sg⟩, bu, on, tt, no, af, nm, ix, bt⟩ := c
  show (⟨kd, us, dv, ⟨u, v, ac, ds.take 6, sg⟩, bu, on.take 30, tt, no, af, nm, ix, bt⟩ : Ca) = _
  rw [List.take_of_length_le h1, List.take_of_length_le h2]
set_option maxHeartbeats 2000000 in
theorem shl_any {w : World} (l : Li) {o : Option Addr} {c : Nat} (hP : At w o (mcl l.ds)) (hcap : l.ds.length ≤ c) :
    Calls Try.prog 32 #[.agg (liC l (.slice o l.ds.length c))] w fun e w' => ∃ sv Lr, e = .returned (.agg (liC (shL l) sv)) ∧ Row 67 3 sv (shL l).ds.length (mcl (shL l).ds) Lr ∧ HA (bs w) Lr w' := by
  have H0 := HA.start w
  go_enter Try.func32, Try.ntmps32
  refine wp_seq (wl_region (wl_make (c := liC l (.slice o l.ds.length c)) H0 25 ky ky ?_))
  intro q1 w2 (h3 : HA (bs w) [(q1, 25, liC l (.slice o l.ds.length c))] w2)
  refine wl_make (c := #[iN .i64 0, iN .i64 0, .string ({ data := #[] }), .slice none 0 0, .string ({ data := #[] })]) h3 25 ky ky ?_
  intro q4 w5 (h6 : HA (bs w) [(q4, 25, #[iN .i64 0, iN .i64 0, .string ({ data := #[] }), .slice none 0 0, .string ({ data := #[] })]), (q1, 25, liC l (.slice o l.ds.length c))] w5)
  refine wl_nil (then_at rfl (wp_seq (wl_region (zv (.slice none 0 0) (wl_nil (then_at rfl (wp_seq (wl_region (zv (.slice none 0 0) (zv (.pointer (some ⟨q1, 3, none⟩)) (zu (.slice o l.ds.length c) (run_load1 (fun w => Try.isAgg23 w) ky (((h6.get 1 rfl).cell 3).trans rfl)) (zv (.pointer (some ⟨q1, 3, none⟩)) (zu (.slice o l.ds.length c) (run_load1 (fun w => Try.isAgg23 w) ky (((h6.get 1 rfl).cell 3).trans rfl)) (zv (iN .i64 l.ds.length) (zu (iN .i64 (min l.ds.length 6)) (run_min (i := l.ds.length) (j := 6) ky ky) (zu (.slice o (min l.ds.length 6) c) (run_sl23 (a := o) (n := l.ds.length) (cap := c) (m := min l.ds.length 6) ky ky (by have := hcap; omega)) ?_))))))))))))))))
  obtain ⟨pa7, ca8, w9, Lr10, hrun11, hR12, h13⟩ := cutM (c := c) 23 h6 (hP.keep h6.old.old)
  have h14 := (show HA (bs w) (Lr10 ++ [(q4, 25, #[iN .i64 0, iN .i64 0, .string ({ data := #[] }), .slice none 0 0, .string ({ data := #[] })]), (q1, 25, liC l (.slice o l.ds.length c))]) w9 from h13).perm (perm_nil Lr10 [(q4, 25, #[iN .i64 0, iN .i64 0, .string ({ data := #[] }), .slice none 0 0, .string ({ data := #[] })]), (q1, 25, liC l (.slice o l.ds.length c))])
  refine wl_any (v := .slice pa7 (l.ds.take 6).length ca8) ky (run_app_ops ky ky hrun11) ?_
  refine zv (.slice pa7 (l.ds.take 6).length ca8) (wl_nil (then_at rfl (wp_seq (wl_region (zv (.slice pa7 (l.ds.take 6).length ca8) (zv (.pointer (some ⟨q1, 3, none⟩)) (wl_putv (v := .slice pa7 (l.ds.take 6).length ca8) h14 1 rfl 3 (by show 3 < 5; decide) ky (fun w => Try.sizeOf23 w) ky ky ky (fun w15 h16 => (wl_nil (then_at rfl (wp_seq (wl_region (wl_load h16 1 rfl ky ky Try.underlying25 rfl ky (wl_fill (c' := #[.int .i64 l.u, .int .i64 l.v, .string l.ac, .slice pa7 (l.ds.take 6).length ca8, .string l.sg]) h16 0 rfl ky ky ky rfl ky ky (fun w17 h18 => (wl_nil (then_at rfl (wp_ret ?_))))))))))))))))))
  repeat first|refine tr ?_|refine block_ret ?_
  exact bodyPost_ret (v := .agg (#[.int .i64 l.u, .int .i64 l.v, .string l.ac, .slice pa7 (l.ds.take 6).length ca8, .string l.sg])) (res_cell (p := 2) ky ky (h18.get 0 rfl) Try.underlying25 rfl ky) rfl ⟨.slice pa7 (l.ds.take 6).length ca8, Lr10, rfl, hR12, by have hz := h18.sub (List.Sublist.cons _ (List.Sublist.cons _ (List.Sublist.refl _))); rwa [List.append_nil] at hz⟩
set_option maxHeartbeats 4000000 in
theorem shc_any {w : World} (c : Ca) {o p : Option Addr} {k m : Nat} (hP : At w o (mcl c.li.ds)) (hQ : At w p (scl c.on)) (hcap : c.li.ds.length ≤ k) (hcap2 : c.on.length ≤ m) :
    Calls Try.prog 7 #[.agg (caC c (.slice o c.li.ds.length k) (.slice p c.on.length m))] w fun e w' => ∃ sv so L1 L2, e = .returned (.agg (caC (shC c) sv so)) ∧ Row 67 3 sv (shC c).li.ds.length (mcl (shC c).li.ds) L1 ∧ Row 9 1 so (shC c).on.length (scl (shC c).on) L2 ∧ HA (bs w) (L1 ++ (L2 ++ [])) w' := by
  have H0 := HA.start w
  go_enter Try.func7, Try.ntmps7
  refine wp_seq (wl_region (wl_make (c := caC c (.slice o c.li.ds.length k) (.slice p c.on.length m)) H0 30 ky ky ?_))
  intro q1 w2 (h3 : HA (bs w) [(q1, 30, caC c (.slice o c.li.ds.length k) (.slice p c.on.length m))] w2)
  refine wl_make (c := #[iN .i64 0, iN .i64 0, iN .i64 0, iN .i64 0, iN .i64 0, .string ({ data := #[] }), .slice none 0 0, .string ({ data := #[] }), iN .i64 0, iN .i64 0, .string ({ data := #[] }), .string ({ data := #[] }), iN .i64 0, .string ({ data := #[] }), .string ({ data := #[] }), iN .i64 0, .string ({ data := #[] }), .slice none 0 0, iN .i64 0, iN .u64 0, iN .u64 0, .string ({ data := #[] }), iN .i64 0, .string ({ data := #[] })]) h3 30 ky ky ?_
  intro q4 w5 (h6 : HA (bs w) [(q4, 30, #[iN .i64 0, iN .i64 0, iN .i64 0, iN .i64 0, iN .i64 0, .string ({ data := #[] }), .slice none 0 0, .string ({ data := #[] }), iN .i64 0, iN .i64 0, .string ({ data := #[] }), .string ({ data := #[] }), iN .i64 0, .string ({ data := #[] }), .string ({ data := #[] }), iN .i64 0, .string ({ data := #[] }), .slice none 0 0, iN .i64 0, iN .u64 0, iN .u64 0, .string ({ data := #[] }), iN .i64 0, .string ({ data := #[] })]), (q1, 30, caC c (.slice o c.li.ds.length k) (.slice p c.on.length m))] w5)
  refine wl_nil (then_at rfl (wp_seq (wl_region (zv (.slice none 0 0) (wl_nil (then_at rfl (wp_seq (wl_region (zv (.slice none 0 0) (zv (.pointer (some ⟨q1, 17, none⟩)) (zu (.slice p c.on.length m) (run_load1 (fun w => Try.isAgg28 w) ky (((h6.get 1 rfl).cell 17).trans rfl)) (zv (.pointer (some ⟨q1, 17, none⟩)) (zu (.slice p c.on.length m) (run_load1 (fun w => Try.isAgg28 w) ky (((h6.get 1 rfl).cell 17).trans rfl)) (zv (iN .i64 c.on.length) (zu (iN .i64 (min c.on.length 30)) (run_min (i := c.on.length) (j := 30) ky ky) (zu (.slice p (min c.on.length 30) m) (run_sl28 (a := p) (n := c.on.length) (cap := m) (m := min c.on.length 30) ky ky (by have := hcap2; omega)) ?_))))))))))))))))
  obtain ⟨pa7, ca8, w9, Lr10, hrun11, hR12, h13⟩ := cutS (c := m) 28 h6 (hQ.keep h6.old.old)
  have h14 := (show HA (bs w) (Lr10 ++ [(q4, 30, #[iN .i64 0, iN .i64 0, iN .i64 0, iN .i64 0, iN .i64 0, .string ({ data := #[] }), .slice none 0 0, .string ({ data := #[] }), iN .i64 0, iN .i64 0, .string ({ data := #[] }), .string ({ data := #[] }), iN .i64 0, .string ({ data := #[] }), .string ({ data := #[] }), iN .i64 0, .string ({ data := #[] }), .slice none 0 0, iN .i64 0, iN .u64 0, iN .u64 0, .string ({ data := #[] }), iN .i64 0, .string ({ data := #[] })]), (q1, 30, caC c (.slice o c.li.ds.length k) (.slice p c.on.length m))]) w9 from h13).perm (perm_nil Lr10 [(q4, 30, #[iN .i64 0, iN .i64 0, iN .i64 0, iN .i64 0, iN .i64 0, .string ({ data := #[] }), .slice none 0 0, .string ({ data := #[] }), iN .i64 0, iN .i64 0, .string ({ data := #[] }), .string ({ data := #[] }), iN .i64 0, .string ({ data := #[] }), .string ({ data := #[] }), iN .i64 0, .string ({ data := #[] }), .slice none 0 0, iN .i64 0, iN .u64 0, iN .u64 0, .string ({ data := #[] }), iN .i64 0, .string ({ data := #[] })]), (q1, 30, caC c (.slice o c.li.ds.length k) (.slice p c.on.length m))])
  refine wl_any (v := .slice pa7 (c.on.take 30).length ca8) ky (run_app_ops ky ky hrun11) ?_
  refine zv (.slice pa7 (c.on.take 30).length ca8) (wl_nil (then_at rfl (wp_seq (wl_region (zv (.slice pa7 (c.on.take 30).length ca8) (zv (.pointer (some ⟨q1, 17, none⟩)) (wl_putv (v := .slice pa7 (c.on.take 30).length ca8) h14 1 rfl 17 (by show 17 < 24; decide) ky (fun w => Try.sizeOf28 w) ky ky ky (fun w15 h16 => (wl_nil (then_at rfl (wp_seq (wl_region (zv (.pointer (some ⟨q1, 3, none⟩)) (zu (.agg #[.int .i64 c.li.u, .int .i64 c.li.v, .string c.li.ac, .slice o c.li.ds.length k, .string c.li.sg]) (run_load_part (q := q1) (off := 3) (d := #[.int .i64 c.li.u, .int .i64 c.li.v, .string c.li.ac, .slice o c.li.ds.length k, .string c.li.sg]) ky (h16.get 1 rfl) Try.underlying25 rfl ky (by intro j hj; match j, hj with | 0, _ => rfl | 1, _ => rfl | 2, _ => rfl | 3, _ => rfl | 4, _ => rfl)) ?_))))))))))))))
  refine wl_callx ky enter32 #[.agg #[.int .i64 c.li.u, .int .i64 c.li.v, .string c.li.ac, .slice o c.li.ds.length k, .string c.li.sg]] ky (shl_any c.li (hP.keep h16.old.old) hcap) ?_
  rintro _ w21 ⟨sv17, Lr18, rfl, hR19, h20⟩
  refine ⟨_, rfl, ?_⟩
  have h22 := HA.join_n 2 h16 h20
  obtain ⟨po23, pc24, hvpo23⟩ := hR19.form
  subst hvpo23
  refine zv (.pointer (some ⟨q1, 3, none⟩)) (wl_puts (d := liC (shL c.li) (.slice po23 (shL c.li).ds.length pc24)) (c' := #[.int .i64 c.kd, .int .i64 c.us, .int .i64 c.dv, .int .i64 ((shL c.li).u), .int .i64 ((shL c.li).v), .string ((shL c.li).ac), .slice po23 (shL c.li).ds.length pc24, .string ((shL c.li).sg), .int .i64 c.bu.u, .int .i64 c.bu.d, .string c.bu.sg, .string c.bu.dh, .int .i64 c.bu.pi, .string c.bu.pr, .string c.bu.ps, .int .i64 c.bu.oi, .string c.bu.on, .slice pa7 (c.on.take 30).length ca8, .int .i64 c.tt, iN .u64 c.no, iN .u64 c.af, .string c.nm, .int .i64 c.ix, .string c.bt]) h22 1 rfl (off := 3) ky ky ky ky ky ky ky (fun w25 h26 => (wl_nil (then_at rfl (wp_seq (wl_region (wl_load h26 1 rfl ky ky Try.underlying30 rfl ky (wl_fill (c' := #[.int .i64 c.kd, .int .i64 c.us, .int .i64 c.dv, .int .i64 ((shL c.li).u), .int .i64 ((shL c.li).v), .string ((shL c.li).ac), .slice po23 (shL c.li).ds.length pc24, .string ((shL c.li).sg), .int .i64 c.bu.u, .int .i64 c.bu.d, .string c.bu.sg, .string c.bu.dh, .int .i64 c.bu.pi, .string c.bu.pr, .string c.bu.ps, .int .i64 c.bu.oi, .string c.bu.on, .slice pa7 (c.on.take 30).length ca8, .int .i64 c.tt, iN .u64 c.no, iN .u64 c.af, .string c.nm, .int .i64 c.ix, .string c.bt]) h26 0 rfl ky ky ky rfl ky ky (fun w27 h28 => (wl_nil (then_at rfl (wp_ret ?_))))))))))))
  repeat first|refine tr ?_|refine block_ret ?_
  exact bodyPost_ret (v := .agg (#[.int .i64 c.kd, .int .i64 c.us, .int .i64 c.dv, .int .i64 ((shL c.li).u), .int .i64 ((shL c.li).v), .string ((shL c.li).ac), .slice po23 (shL c.li).ds.length pc24, .string ((shL c.li).sg), .int .i64 c.bu.u, .int .i64 c.bu.d, .string c.bu.sg, .string c.bu.dh, .int .i64 c.bu.pi, .string c.bu.pr, .string c.bu.ps, .int .i64 c.bu.oi, .string c.bu.on, .slice pa7 (c.on.take 30).length ca8, .int .i64 c.tt, iN .u64 c.no, iN .u64 c.af, .string c.nm, .int .i64 c.ix, .string c.bt])) (res_cell (p := 2) ky ky (h28.get 0 rfl) Try.underlying30 rfl ky) rfl ⟨.slice po23 (shL c.li).ds.length pc24, .slice pa7 (c.on.take 30).length ca8, Lr18, Lr10, rfl, hR19, hR12, h28.sub (List.Sublist.cons _ (List.Sublist.cons _ (List.Sublist.refl _)))⟩
end Go.Proofs.Ytiogegoepgkjlaa

set_option maxRecDepth 100000
set_option linter.unusedVariables false
set_option linter.unusedSimpArgs false
namespace Go.Proofs.Ytiogegoepgkjlaa
open Go.ChangeShapes Go.WideShapes Go.ChangeAt Go.RowKit Go.Deep

theorem cons_of {α : Type} {l : List α} {n : Nat} (h : l.length = n + 1) : ∃ v t, l = v :: t ∧ t.length = n := by
  cases l with
  | nil => simp at h
  | cons v t => exact ⟨v, t, rfl, by simpa using h⟩
theorem exists_list {α : Type} (d : α) {P : Nat → α → Prop} : ∀ n, (∀ i, i < n → ∃ x, P i x) → ∃ l : List α, l.length = n ∧ ∀ i, i < n → P i (l.getD i d)
  | 0, _ => ⟨[], rfl, fun i hi => by omega⟩
  | n + 1, h => by
    obtain ⟨l, h1, h2⟩ := exists_list d n (fun i hi => h i (by omega))
    obtain ⟨x, hx⟩ := h n (by omega)
    refine ⟨l ++ [x], by simp [h1], fun i hi => ?_⟩
    by_cases e : i = n
    · subst e
      rw [List.getD_eq_getElem?_getD, List.getElem?_append_right (by omega), h1, Nat.sub_self]
      exact hx
    · have hi' : i < l.length := by omega
      rw [List.getD_eq_getElem?_getD, List.getElem?_append_left hi', ← List.getD_eq_getElem?_getD]
      exact h2 i (by omega)
theorem cells_9 : Try.prog.cellsOf 9 = 1 := by kernel_rfl
theorem cells_67 : Try.prog.cellsOf 67 = 3 := by kernel_rfl
theorem cells_25 : Try.prog.cellsOf 25 = 5 := by kernel_rfl
theorem cells_27 : Try.prog.cellsOf 27 = 9 := by kernel_rfl
theorem cells_30 : Try.prog.cellsOf 30 = 24 := by kernel_rfl
theorem cells_31 : Try.prog.cellsOf 31 = 48 := by kernel_rfl
theorem At_ofM {W : World} {a : Addr} {ds : List Mb} (h : ∀ i, i < ds.length → ∀ j v, (mbC (ds.getD i mb0)).toList[j]? = some v → W.cell? ((a.add (i * 3)).add j) = some v) : At W (some a) (mcl ds) := fun j v hj => by
  have hlt : j < ds.length * 3 := by rw [← mcl_len]; exact (List.getElem?_eq_some_iff.1 hj).1
  have hi : j / 3 < ds.length := by omega
  have e : j / 3 * 3 + j % 3 = j := by omega
  refine ⟨a, rfl, ?_⟩
  have h2 := fm_at (fun x : Mb => [.int .i64 x.dv, .string x.sg, .string x.dh]) (fun _ => rfl) ds (gd_at mb0 hi) (Nat.mod_lt j (by decide : 0 < 3))
  rw [e] at h2
  have h3 := h (j / 3) hi (j % 3) v (h2.symm.trans hj)
  rw [add_two', e] at h3
  exact h3
theorem At_ofS {W : World} {a : Addr} {ds : List ByteArray} (h : ∀ i, i < ds.length → W.cell? (a.add i) = some (.string (ds.getD i ByteArray.empty))) : At W (some a) (scl ds) := fun j v hj => by
  have hlt : j < ds.length := by rw [← scl_len]; exact (List.getElem?_eq_some_iff.1 hj).1
  refine ⟨a, rfl, ?_⟩
  rw [scl_at hlt] at hj
  cases hj
  exact h j hlt
section
variable {H : Type} {enc : TypeId × Value → H} {W : World}
theorem u64_lo {n : Int} (h : (Lit.int .u64 n).wf = true) : 0 ≤ n := by
  have : 0 ≤ n ∧ n ≤ 18446744073709551615 := by simpa [Lit.wf, IntKind.min, IntKind.max, IntKind.signed, IntKind.bits] using h
  exact this.1
theorem open_67 {n : Nat} {cs : List Value} {x : DataW H × List MemPlace} (h : DataW.trod enc Try.prog W 0 (fun _ => true) true n 67 cs = some x) :
    ∃ p : Mb, cs = (mbC p).toList := by
  obtain ⟨xs, k, _, _, hlen, hxl, hf⟩ := DataW.trod_struct Try.underlying67 h
  rw [cells_67] at hlen
  obtain ⟨v0, cs0, rfl, hn0⟩ := cons_of hlen
  obtain ⟨v1, cs1, rfl, hn1⟩ := cons_of hn0
  obtain ⟨v2, cs2, rfl, hn2⟩ := cons_of hn1
  obtain rfl := List.length_eq_zero_iff.1 hn2
  have hxl : xs.length = 3 := hxl
  obtain ⟨y0, xs0, rfl, hx0⟩ := cons_of hxl
  obtain ⟨y1, xs1, rfl, hx1⟩ := cons_of hx0
  obtain ⟨y2, xs2, rfl, hx2⟩ := cons_of hx1
  have g0 := hf 0 _ rfl
  have g0 : DataW.trod enc Try.prog W 0 (fun _ => true) true k 3 [v0] = some y0 := g0
  obtain ⟨z0, e0, _⟩ := DataW.trod_int Try.underlying3 g0
  cases e0
  have g1 := hf 1 _ rfl
  have g1 : DataW.trod enc Try.prog W 0 (fun _ => true) true k 9 [v1] = some y1 := g1
  obtain ⟨z1, e1, _⟩ := DataW.trod_string Try.underlying9 g1
  cases e1
  have g2 := hf 2 _ rfl
  have g2 : DataW.trod enc Try.prog W 0 (fun _ => true) true k 9 [v2] = some y2 := g2
  obtain ⟨z2, e2, _⟩ := DataW.trod_string Try.underlying9 g2
  cases e2
  exact ⟨⟨z0, z1, z2⟩, rfl⟩
theorem open_23 {n : Nat} {cs : List Value} {x : DataW H × List MemPlace} (h : DataW.trod enc Try.prog W 0 (fun _ => true) true n 23 cs = some x) :
    ∃ (o : Option Addr) (ds : List Mb) (c : Nat), cs = [.slice o ds.length c] ∧ At W o (mcl ds) ∧ ds.length ≤ c := by
  rcases open_slice Try.underlying23 h with ⟨rfl, _⟩ | ⟨a, len, cap, m, k, D, Pl, rfl, _, hl, hm, hmm, _, hx⟩
  · exact ⟨none, [], 0, rfl, At.nil W, Nat.le_refl _⟩
  · have hmc : m = cap := by rw [hmm]; rfl
    rw [cells_67] at hx
    obtain ⟨ds, h1, h2⟩ := exists_list mb0 (P := fun i (p : Mb) => ∀ j v, (mbC p).toList[j]? = some v → W.cell? ((a.add (i * 3)).add j) = some v) len (fun i hi => by
      obtain ⟨cs', hc, ht⟩ := hx i (by omega)
      obtain ⟨p, rfl⟩ := open_67 ht
      obtain ⟨_, _, hcell⟩ := World.cells?_some hc
      exact ⟨p, fun j v hj => by
        have hj3 : j < 3 := (List.getElem?_eq_some_iff.1 hj).1
        exact (hcell j hj3).trans hj⟩)
    subst h1
    exact ⟨some a, ds, cap, rfl, At_ofM h2, hl⟩
theorem open_28 {n : Nat} {cs : List Value} {x : DataW H × List MemPlace} (h : DataW.trod enc Try.prog W 0 (fun _ => true) true n 28 cs = some x) :
    ∃ (o : Option Addr) (ds : List ByteArray) (c : Nat), cs = [.slice o ds.length c] ∧ At W o (scl ds) ∧ ds.length ≤ c := by
  rcases open_slice Try.underlying28 h with ⟨rfl, _⟩ | ⟨a, len, cap, m, k, D, Pl, rfl, _, hl, hm, hmm, _, hx⟩
  · exact ⟨none, [], 0, rfl, At.nil W, Nat.le_refl _⟩
  · have hmc : m = cap := by rw [hmm]; rfl
    rw [cells_9] at hx
    obtain ⟨ds, h1, h2⟩ := exists_list ByteArray.empty (P := fun i (p : ByteArray) => W.cell? (a.add i) = some (.string p)) len (fun i hi => by
      obtain ⟨cs', hc, ht⟩ := hx i (by omega)
      obtain ⟨_, hlen, hcell⟩ := World.cells?_some hc
      obtain ⟨v, cs', rfl, hn⟩ := cons_of hlen
      obtain rfl := List.length_eq_zero_iff.1 hn
      obtain ⟨p, e, _⟩ := DataW.trod_string Try.underlying9 ht
      cases e
      have := hcell 0 (by decide)
      rw [Nat.mul_one, add_two', Nat.add_zero] at this
      exact ⟨p, this⟩)
    subst h1
    exact ⟨some a, ds, cap, rfl, At_ofS h2, hl⟩
theorem open_25 {n : Nat} {cs : List Value} {x : DataW H × List MemPlace} (h : DataW.trod enc Try.prog W 0 (fun _ => true) true n 25 cs = some x) :
    ∃ (l : Li) (o : Option Addr) (c : Nat), cs = (liC l (.slice o l.ds.length c)).toList ∧ At W o (mcl l.ds) ∧ l.ds.length ≤ c := by
  obtain ⟨xs, k, _, _, hlen, hxl, hf⟩ := DataW.trod_struct Try.underlying25 h
  rw [cells_25] at hlen
  obtain ⟨v0, cs0, rfl, hn0⟩ := cons_of hlen
  obtain ⟨v1, cs1, rfl, hn1⟩ := cons_of hn0
  obtain ⟨v2, cs2, rfl, hn2⟩ := cons_of hn1
  obtain ⟨v3, cs3, rfl, hn3⟩ := cons_of hn2
  obtain ⟨v4, cs4, rfl, hn4⟩ := cons_of hn3
  obtain rfl := List.length_eq_zero_iff.1 hn4
  have hxl : xs.length = 5 := hxl
  obtain ⟨y0, xs0, rfl, hx0⟩ := cons_of hxl
  obtain ⟨y1, xs1, rfl, hx1⟩ := cons_of hx0
  obtain ⟨y2, xs2, rfl, hx2⟩ := cons_of hx1
  obtain ⟨y3, xs3, rfl, hx3⟩ := cons_of hx2
  obtain ⟨y4, xs4, rfl, hx4⟩ := cons_of hx3
  have g0 := hf 0 _ rfl
  have g0 : DataW.trod enc Try.prog W 0 (fun _ => true) true k 3 [v0] = some y0 := g0
  obtain ⟨z0, e0, _⟩ := DataW.trod_int Try.underlying3 g0
  cases e0
  have g1 := hf 1 _ rfl
  have g1 : DataW.trod enc Try.prog W 0 (fun _ => true) true k 3 [v1] = some y1 := g1
  obtain ⟨z1, e1, _⟩ := DataW.trod_int Try.underlying3 g1
  cases e1
  have g2 := hf 2 _ rfl
  have g2 : DataW.trod enc Try.prog W 0 (fun _ => true) true k 9 [v2] = some y2 := g2
  obtain ⟨z2, e2, _⟩ := DataW.trod_string Try.underlying9 g2
  cases e2
  have g3 := hf 3 _ rfl
  have g3 : DataW.trod enc Try.prog W 0 (fun _ => true) true k 23 [v3] = some y3 := g3
  obtain ⟨o3, ds3, c3, e3, ha3, hc3⟩ := open_23 g3
  cases e3
  have g4 := hf 4 _ rfl
  have g4 : DataW.trod enc Try.prog W 0 (fun _ => true) true k 9 [v4] = some y4 := g4
  obtain ⟨z4, e4, _⟩ := DataW.trod_string Try.underlying9 g4
  cases e4
  exact ⟨⟨z0, z1, z2, ds3, z4⟩, o3, c3, rfl, ha3, hc3⟩
theorem open_27 {n : Nat} {cs : List Value} {x : DataW H × List MemPlace} (h : DataW.trod enc Try.prog W 0 (fun _ => true) true n 27 cs = some x) :
    ∃ x : Bu, cs = (buC x).toList := by
  obtain ⟨xs, k, _, _, hlen, hxl, hf⟩ := DataW.trod_struct Try.underlying27 h
  rw [cells_27] at hlen
  obtain ⟨v0, cs0, rfl, hn0⟩ := cons_of hlen
  obtain ⟨v1, cs1, rfl, hn1⟩ := cons_of hn0
  obtain ⟨v2, cs2, rfl, hn2⟩ := cons_of hn1
  obtain ⟨v3, cs3, rfl, hn3⟩ := cons_of hn2
  obtain ⟨v4, cs4, rfl, hn4⟩ := cons_of hn3
  obtain ⟨v5, cs5, rfl, hn5⟩ := cons_of hn4
  obtain ⟨v6, cs6, rfl, hn6⟩ := cons_of hn5
  obtain ⟨v7, cs7, rfl, hn7⟩ := cons_of hn6
  obtain ⟨v8, cs8, rfl, hn8⟩ := cons_of hn7
  obtain rfl := List.length_eq_zero_iff.1 hn8
  have hxl : xs.length = 9 := hxl
  obtain ⟨y0, xs0, rfl, hx0⟩ := cons_of hxl
  obtain ⟨y1, xs1, rfl, hx1⟩ := cons_of hx0
  obtain ⟨y2, xs2, rfl, hx2⟩ := cons_of hx1
  obtain ⟨y3, xs3, rfl, hx3⟩ := cons_of hx2
  obtain ⟨y4, xs4, rfl, hx4⟩ := cons_of hx3
  obtain ⟨y5, xs5, rfl, hx5⟩ := cons_of hx4
  obtain ⟨y6, xs6, rfl, hx6⟩ := cons_of hx5
  obtain ⟨y7, xs7, rfl, hx7⟩ := cons_of hx6
  obtain ⟨y8, xs8, rfl, hx8⟩ := cons_of hx7
  have g0 := hf 0 _ rfl
  have g0 : DataW.trod enc Try.prog W 0 (fun _ => true) true k 3 [v0] = some y0 := g0
  obtain ⟨z0, e0, _⟩ := DataW.trod_int Try.underlying3 g0
  cases e0
  have g1 := hf 1 _ rfl
  have g1 : DataW.trod enc Try.prog W 0 (fun _ => true) true k 3 [v1] = some y1 := g1
  obtain ⟨z1, e1, _⟩ := DataW.trod_int Try.underlying3 g1
  cases e1
  have g2 := hf 2 _ rfl
  have g2 : DataW.trod enc Try.prog W 0 (fun _ => true) true k 9 [v2] = some y2 := g2
  obtain ⟨z2, e2, _⟩ := DataW.trod_string Try.underlying9 g2
  cases e2
  have g3 := hf 3 _ rfl
  have g3 : DataW.trod enc Try.prog W 0 (fun _ => true) true k 9 [v3] = some y3 := g3
  obtain ⟨z3, e3, _⟩ := DataW.trod_string Try.underlying9 g3
  cases e3
  have g4 := hf 4 _ rfl
  have g4 : DataW.trod enc Try.prog W 0 (fun _ => true) true k 3 [v4] = some y4 := g4
  obtain ⟨z4, e4, _⟩ := DataW.trod_int Try.underlying3 g4
  cases e4
  have g5 := hf 5 _ rfl
  have g5 : DataW.trod enc Try.prog W 0 (fun _ => true) true k 9 [v5] = some y5 := g5
  obtain ⟨z5, e5, _⟩ := DataW.trod_string Try.underlying9 g5
  cases e5
  have g6 := hf 6 _ rfl
  have g6 : DataW.trod enc Try.prog W 0 (fun _ => true) true k 9 [v6] = some y6 := g6
  obtain ⟨z6, e6, _⟩ := DataW.trod_string Try.underlying9 g6
  cases e6
  have g7 := hf 7 _ rfl
  have g7 : DataW.trod enc Try.prog W 0 (fun _ => true) true k 3 [v7] = some y7 := g7
  obtain ⟨z7, e7, _⟩ := DataW.trod_int Try.underlying3 g7
  cases e7
  have g8 := hf 8 _ rfl
  have g8 : DataW.trod enc Try.prog W 0 (fun _ => true) true k 9 [v8] = some y8 := g8
  obtain ⟨z8, e8, _⟩ := DataW.trod_string Try.underlying9 g8
  cases e8
  exact ⟨⟨z0, z1, z2, z3, z4, z5, z6, z7, z8⟩, rfl⟩
theorem open_30 {n : Nat} {cs : List Value} {x : DataW H × List MemPlace} (h : DataW.trod enc Try.prog W 0 (fun _ => true) true n 30 cs = some x) :
    ∃ (c : Ca) (o p : Option Addr) (k m : Nat), cs = (caC c (.slice o c.li.ds.length k) (.slice p c.on.length m)).toList ∧ At W o (mcl c.li.ds) ∧ At W p (scl c.on) ∧ c.li.ds.length ≤ k ∧ c.on.length ≤ m := by
  obtain ⟨xs, k, _, _, hlen, hxl, hf⟩ := DataW.trod_struct Try.underlying30 h
  rw [cells_30] at hlen
  obtain ⟨v0, cs0, rfl, hn0⟩ := cons_of hlen
  obtain ⟨v1, cs1, rfl, hn1⟩ := cons_of hn0
  obtain ⟨v2, cs2, rfl, hn2⟩ := cons_of hn1
  obtain ⟨v3, cs3, rfl, hn3⟩ := cons_of hn2
  obtain ⟨v4, cs4, rfl, hn4⟩ := cons_of hn3
  obtain ⟨v5, cs5, rfl, hn5⟩ := cons_of hn4
  obtain ⟨v6, cs6, rfl, hn6⟩ := cons_of hn5
  obtain ⟨v7, cs7, rfl, hn7⟩ := cons_of hn6
  obtain ⟨v8, cs8, rfl, hn8⟩ := cons_of hn7
  obtain ⟨v9, cs9, rfl, hn9⟩ := cons_of hn8
  obtain ⟨v10, cs10, rfl, hn10⟩ := cons_of hn9
  obtain ⟨v11, cs11, rfl, hn11⟩ := cons_of hn10
  obtain ⟨v12, cs12, rfl, hn12⟩ := cons_of hn11
  obtain ⟨v13, cs13, rfl, hn13⟩ := cons_of hn12
  obtain ⟨v14, cs14, rfl, hn14⟩ := cons_of hn13
  obtain ⟨v15, cs15, rfl, hn15⟩ := cons_of hn14
  obtain ⟨v16, cs16, rfl, hn16⟩ := cons_of hn15
  obtain ⟨v17, cs17, rfl, hn17⟩ := cons_of hn16
  obtain ⟨v18, cs18, rfl, hn18⟩ := cons_of hn17
  obtain ⟨v19, cs19, rfl, hn19⟩ := cons_of hn18
  obtain ⟨v20, cs20, rfl, hn20⟩ := cons_of hn19
  obtain ⟨v21, cs21, rfl, hn21⟩ := cons_of hn20
  obtain ⟨v22, cs22, rfl, hn22⟩ := cons_of hn21
  obtain ⟨v23, cs23, rfl, hn23⟩ := cons_of hn22
  obtain rfl := List.length_eq_zero_iff.1 hn23
  have hxl : xs.length = 12 := hxl
  obtain ⟨y0, xs0, rfl, hx0⟩ := cons_of hxl
  obtain ⟨y1, xs1, rfl, hx1⟩ := cons_of hx0
  obtain ⟨y2, xs2, rfl, hx2⟩ := cons_of hx1
  obtain ⟨y3, xs3, rfl, hx3⟩ := cons_of hx2
  obtain ⟨y4, xs4, rfl, hx4⟩ := cons_of hx3
  obtain ⟨y5, xs5, rfl, hx5⟩ := cons_of hx4
  obtain ⟨y6, xs6, rfl, hx6⟩ := cons_of hx5
  obtain ⟨y7, xs7, rfl, hx7⟩ := cons_of hx6
  obtain ⟨y8, xs8, rfl, hx8⟩ := cons_of hx7
  obtain ⟨y9, xs9, rfl, hx9⟩ := cons_of hx8
  obtain ⟨y10, xs10, rfl, hx10⟩ := cons_of hx9
  obtain ⟨y11, xs11, rfl, hx11⟩ := cons_of hx10
  have g0 := hf 0 _ rfl
  have g0 : DataW.trod enc Try.prog W 0 (fun _ => true) true k 3 [v0] = some y0 := g0
  obtain ⟨z0, e0, _⟩ := DataW.trod_int Try.underlying3 g0
  cases e0
  have g1 := hf 1 _ rfl
  have g1 : DataW.trod enc Try.prog W 0 (fun _ => true) true k 3 [v1] = some y1 := g1
  obtain ⟨z1, e1, _⟩ := DataW.trod_int Try.underlying3 g1
  cases e1
  have g2 := hf 2 _ rfl
  have g2 : DataW.trod enc Try.prog W 0 (fun _ => true) true k 3 [v2] = some y2 := g2
  obtain ⟨z2, e2, _⟩ := DataW.trod_int Try.underlying3 g2
  cases e2
  have g3 := hf 3 _ rfl
  have g3 : DataW.trod enc Try.prog W 0 (fun _ => true) true k 25 [v3, v4, v5, v6, v7] = some y3 := g3
  obtain ⟨l3, o3, c3, e3, ha3, hc3⟩ := open_25 g3
  cases e3
  have g4 := hf 4 _ rfl
  have g4 : DataW.trod enc Try.prog W 0 (fun _ => true) true k 27 [v8, v9, v10, v11, v12, v13, v14, v15, v16] = some y4 := g4
  obtain ⟨b4, e4⟩ := open_27 g4
  cases e4
  have g5 := hf 5 _ rfl
  have g5 : DataW.trod enc Try.prog W 0 (fun _ => true) true k 28 [v17] = some y5 := g5
  obtain ⟨o5, ds5, c5, e5, ha5, hc5⟩ := open_28 g5
  cases e5
  have g6 := hf 6 _ rfl
  have g6 : DataW.trod enc Try.prog W 0 (fun _ => true) true k 3 [v18] = some y6 := g6
  obtain ⟨z6, e6, _⟩ := DataW.trod_int Try.underlying3 g6
  cases e6
  have g7 := hf 7 _ rfl
  have g7 : DataW.trod enc Try.prog W 0 (fun _ => true) true k 22 [v19] = some y7 := g7
  obtain ⟨u7, e7, _, b7⟩ := DataW.trod_int Try.underlying22 g7
  cases e7
  obtain ⟨z7, rfl⟩ := Int.eq_ofNat_of_zero_le (u64_lo b7)
  have g8 := hf 8 _ rfl
  have g8 : DataW.trod enc Try.prog W 0 (fun _ => true) true k 22 [v20] = some y8 := g8
  obtain ⟨u8, e8, _, b8⟩ := DataW.trod_int Try.underlying22 g8
  cases e8
  obtain ⟨z8, rfl⟩ := Int.eq_ofNat_of_zero_le (u64_lo b8)
  have g9 := hf 9 _ rfl
  have g9 : DataW.trod enc Try.prog W 0 (fun _ => true) true k 9 [v21] = some y9 := g9
  obtain ⟨z9, e9, _⟩ := DataW.trod_string Try.underlying9 g9
  cases e9
  have g10 := hf 10 _ rfl
  have g10 : DataW.trod enc Try.prog W 0 (fun _ => true) true k 3 [v22] = some y10 := g10
  obtain ⟨z10, e10, _⟩ := DataW.trod_int Try.underlying3 g10
  cases e10
  have g11 := hf 11 _ rfl
  have g11 : DataW.trod enc Try.prog W 0 (fun _ => true) true k 9 [v23] = some y11 := g11
  obtain ⟨z11, e11, _⟩ := DataW.trod_string Try.underlying9 g11
  cases e11
  exact ⟨⟨z0, z1, z2, l3, b4, ds5, z6, z7, z8, z9, z10, z11⟩, o3, o5, c3, c5, rfl, ha3, ha5, hc3, hc5⟩
theorem open_31 {r : Reach} {base : Nat} {v : Value} {d : DataW H} {p : List MemPlace} (hv : Value.okWide Try.prog W r base 31 v) (h : DataW.Trod enc Try.prog W 0 (fun _ => true) true 31 v d p) :
    ∃ (x y : Ca) (o1 p1 o2 p2 : Option Addr) (k1 m1 k2 m2 : Nat), v = .agg (caC x (.slice o1 x.li.ds.length k1) (.slice p1 x.on.length m1) ++ caC y (.slice o2 y.li.ds.length k2) (.slice p2 y.on.length m2)) ∧ (At W o1 (mcl x.li.ds) ∧ At W p1 (scl x.on) ∧ x.li.ds.length ≤ k1 ∧ x.on.length ≤ m1) ∧ At W o2 (mcl y.li.ds) ∧ At W p2 (scl y.on) ∧ y.li.ds.length ≤ k2 ∧ y.on.length ≤ m2 := by
  obtain ⟨cs, rfl, hsz⟩ : ∃ cs, v = .agg cs ∧ cs.size = 48 := by
    simp only [Value.okWide, Try.underlying31] at hv
    obtain ⟨cs, h1, h2, _⟩ := hv
    exact ⟨cs, h1, by rw [h2, cells_31]⟩
  obtain ⟨fuel, hf⟩ := h
  obtain ⟨cl⟩ := cs
  have hsz : cl.length = 48 := by simpa using hsz
  have hf : DataW.trod enc Try.prog W 0 (fun _ => true) true fuel 31 cl = some (d, p) := by simpa [Value.cells] using hf
  obtain ⟨xs, k, _, _, hl, hxl, hg⟩ := DataW.trod_array Try.underlying31 hf
  have hxl : xs.length = 2 := hxl
  obtain ⟨y0, xs, rfl, hx0⟩ := cons_of hxl
  obtain ⟨y1, xs, rfl, hx1⟩ := cons_of hx0
  have g0 := hg 0 (by decide)
  have g1 := hg 1 (by decide)
  rw [cells_30] at g0 g1
  obtain ⟨x, o1, p1, k1, m1, e0, A0⟩ := open_30 g0
  obtain ⟨y, o2, p2, k2, m2, e1, A1⟩ := open_30 g1
  refine ⟨x, y, o1, p1, o2, p2, k1, m1, k2, m2, ?_, A0, A1⟩
  have e : cl = (cl.drop (0 * 24)).take 24 ++ (cl.drop (1 * 24)).take 24 := by
    rw [Nat.zero_mul, Nat.one_mul, List.drop_zero]
    rw [List.take_of_length_le (l := cl.drop 24) (by rw [List.length_drop]; omega), List.take_append_drop]
  rw [e0, e1] at e
  subst e
  refine congrArg Value.agg (Array.ext' ?_)
  rw [Array.toList_append]
end
end Go.Proofs.Ytiogegoepgkjlaa
