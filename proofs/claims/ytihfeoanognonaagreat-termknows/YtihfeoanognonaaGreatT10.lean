/-
 works.
-/
import Derived.Test.YtihfeoanognonaaGreatT9
namespace Go.Proofs.YtihfeoanognonaaGreat
set_option linter.unusedVariables false
set_option maxRecDepth 100000
set_option maxHeartbeats 2000000
open Go.RowKit
section
variable {P : Program} {ρ : Operand → Value} {x y : Operand} {w : World} {dst : Option Tmp} {T T2 ty : TypeId} {pos : String} {aft : Array Edge} {gd : Option (Nat × Bool)}
theorem run_nes {s t : ByteArray}   (r : Bool) (hr : decide (s = t) = !r) (hx : ρ x = .string s := by kernel_rfl) (hy : ρ y = .string t := by kernel_rfl) : (execOp ρ ⟨dst, .binOp .neq T x y T2, ty, pos, aft, gd⟩).run P w = .ok (.value (.bool r)) w := by
 have hr' : (!decide (s = t)) = r := by rw [hr]; simp
 subst hr'
 simp only [execOp, hx, hy]
 by_cases h : s = t
 ·subst h; simp [binOp, go_sem, Op.stringOp]
 ·have h2 : ¬s.toList = t.toList := fun e => by
   rw [ByteArray.toList_eq, ByteArray.toList_eq] at e
   refine h ?_
   obtain ⟨⟨l⟩⟩ := s
   obtain ⟨⟨m⟩⟩ := t
   exact congrArg (fun l : List UInt8 => (⟨⟨l⟩⟩ : ByteArray)) e
  simp [binOp, go_sem, Op.stringOp, h, h2]
end
section
variable {ops : Array Oper} {Q : Exit → Act → World → Prop} {a : Act} {rest : List Oper} {w0 w : World} {M : ML} {t : Tb} {es : List Ent} {L : BL}
theorem TH.make (H : TH w0 M t es L w) (ty : TypeId) (c : Array Value) : TH w0 M t es ((w.heap.size, ty, c) :: L) (w.alloc (.cells c ty)) := by
 obtain ⟨v, Lr, hR, H⟩ := H
 exact TH.dn hR (H.make ty c)
theorem wl_mksT {o : Oper} {n m : Nat} {c : Array Value} (H : TH w0 M t es L w) (ty : TypeId) (hw : Region.wanted o (yielded ops a.tmps) = true) (hr : (execOp a.eval o).run Tryz.prog w = .ok (.value (.slice (some ⟨w.heap.size, 0, none⟩) n m)) (w.alloc (.cells c ty)))
  (h : ∀ q w', TH w0 M t es ((q, ty, c) :: L) w' → WL Tryz.prog ops Q rest (a.put o.dst (.slice (some ⟨q, 0, none⟩) n m)) w') : WL Tryz.prog ops Q (o :: rest) a w :=
 wl_any hw hr (h _ _ (H.make ty c))
theorem TH.len {n : Nat} (H : TH w0 M t es L w) (hn : es.length = n) : ∃ v, Blk w t.q 61 (tcell t (nms es) v) ∧ ∃ p c, v = .slice p n c := by
 obtain ⟨v, Lr, hR, H⟩ := H
 subst hn
 exact ⟨v, H.get 0 rfl, hR.form⟩
theorem TH.below (H : TH w0 M t es L w) : Below w0.heap.size w0 w := by
 obtain ⟨v, Lr, hR, H⟩ := H
 exact H.old.old
end
theorem Wf.nil : Wf [] := ⟨by simp, fun i _ _ _ _ _ h => by simp at h, fun i _ _ _ _ h => by simp at h, fun i _ _ _ _ _ h => by simp at h⟩
theorem Wf.nm {es : List Ent} (h : Wf es) (n : Nat) (hl : es.length < 60000) : Wf (es ++ [.nm n]) := h.app _ hl (fun _ _ _ _ _ h => by cases h)
theorem joinP_ok {es : List Ent} (h : Wf es) (k : Nat) (ns : List Nat) (hns : ∀ x ∈ ns, x < es.length) (hl : ns.length ≤ 100) (h3 : k = 3 → ns.length = 1) : (∀ j, (joinP es k ns).getD j 0 < 60000) ∧ (joinP es k ns).length ≤ 100 ∧ (k = 3 → (joinP es k ns).length = 1) := by
 have hf := h.few
 unfold joinP
 split
 ·rename_i hk
  refine ⟨fun j => ?_, by rw [dhP_len]; decide, fun e => absurd e (by omega)⟩
  have hg : ∀ i, ns.getD i 0 < 60000 := fun i => getD_lt (fun x hx => by have := hns x hx; omega) (by decide) i
  refine getD_lt (fun x hx => ?_) (by decide) j
  unfold dhP at hx
  have h0 := hg 0
  have h1 := hg 1
  split at hx
  ·rename_i b hb
   have hb2 : b < 60000 := by
    unfold secT at hb
    split at hb
    ·rename_i k n s ps c he
     split at hb
     ·obtain rfl := Option.some.inj hb
      exact h.lt _ k n s ps c he 0
     ·cases hb
    ·cases hb
   simp only [List.mem_cons, List.not_mem_nil, or_false] at hx
   omega
  ·simp only [List.mem_cons, List.not_mem_nil, or_false] at hx
   omega
 ·exact ⟨fun j => getD_lt (fun x hx => by have := hns x hx; omega) (by decide) j, hl, h3⟩
theorem JO.wf {es es' : List Ent} {k x : Nat} {label : ByteArray} {ss : List ByteArray} (hw : Wf es) (h : JO es k label ss x es') (hl : es.length + ss.length < 60000) (hs : ss.length ≤ 100) (h3 : k = 3 → ss.length = 1) : Wf es' := by
 have h1 := hw.parts ss ss.length (by omega)
 rcases h with ⟨_, rfl⟩ | ⟨_, _, b, rfl⟩
 ·exact h1
 ·refine h1.app _ (by have := pfE_len es ss ss.length; omega) (fun k' n' s' ps' b' e => ?_)
  cases e
  exact joinP_ok h1 k _ (pfN_lt es ss ss.length) (by rw [pfN_len]; exact hs) (by rw [pfN_len]; exact h3)
theorem JO.newL {es es' : List Ent} {k x : Nat} {label : ByteArray} {ss : List ByteArray} (E : List Ent) (m n0 : Nat) (s0 : ByteArray) (ps0 : List Nat) (h : JO es k label ss x es') (h1 : lkJ es k label ss = none) (h2 : pfE es ss ss.length = E) (h3 : joinN E k (pfN es ss ss.length) = n0) (h4 : joinS k label = s0) (h5 : joinP E k (pfN es ss ss.length) = ps0) (hm : E.length = m) : x = m ∧ ∃ b, es' = E ++ [.mk k n0 s0 ps0 b] := by
 subst h2
 rcases h with ⟨h, _⟩ | ⟨_, h, b, h'⟩
 ·rw [h1] at h; cases h
 ·exact ⟨by rw [h, hm], b, by rw [h', h3, h4, h5]⟩
theorem JO.oldL {es es' : List Ent} {k x : Nat} {label : ByteArray} {ss : List ByteArray} (E : List Ent) (x0 : Nat) (h : JO es k label ss x es') (h1 : lkJ es k label ss = some x0) (h2 : pfE es ss ss.length = E) : x = x0 ∧ es' = E := by
 rcases h with ⟨h, h'⟩ | ⟨h, _⟩
 ·rw [h1] at h; exact ⟨(Option.some.inj h).symm, by rw [h', h2]⟩
 ·rw [h1] at h; cases h
theorem strs_le {ss : List ByteArray} {m : Nat} (h : ∀ s ∈ ss, s.size ≤ m) (i : Nat) : (ss.getD i ByteArray.empty).size ≤ m := by
 rw [List.getD_eq_getElem?_getD]
 cases hi : ss[i]? with
 | none => simp
 | some x => simpa using h x (List.mem_of_getElem? hi)
theorem txt_size (n : Nat) : (txt n).size = 8 := putS_size hdS n
theorem works_any (w : World) :
  Calls Tryz.prog 8 #[] w fun e w' => e = .returned (.bool true) ∧ Below w.heap.size w w' := by
 have H0 := HA.start w
 go_enter Tryz.func8, Tryz.ntmps8
 refine zsr ?_
 refine zwv (.bool false) ?_
 refine znt ?_
 refine zsr ?_
 refine wl_callx enter9 #[] (New_ok (w0 := w) (M := []) (L := ([])) H0) ?_
 rintro _ w1 ⟨tb, rfl, hN0⟩
 refine ⟨_, rfl, ?_⟩
 have hT2 : TH w [] tb [] ([]) w1 := hN0
 have hw0 := Wf.nil
 refine zwv (.pointer (some ⟨tb.q, 0, none⟩)) ?_
 refine znt ?_
 refine wp_seq ?_
 refine zsr ?_
 refine zwv (.pointer (some ⟨tb.q, 0, none⟩)) ?_
 refine zwv (.bool false) ?_
 refine zwv (.bool false) ?_
 refine zwv (.pointer (some ⟨tb.q, 0, none⟩)) ?_
 refine wl_callx enter10 #[.pointer (some ⟨tb.q, 0, none⟩)] (Fresh_any hT2 (by simp)) ?_
 rintro _ w4 ⟨rfl, hF3⟩
 refine ⟨_, rfl, ?_⟩
 have hT5 : TH w [] tb [.nm 0] ([]) w4 := hF3
 have hw6 : Wf [.nm 0] := Wf.nm hw0 0 (by decide)
 refine wl_callx enter26 #[iN .i64 0] (name_any 0 (by decide) w4) ?_
 rintro _ w8 ⟨rfl, hb7⟩
 refine ⟨_, rfl, ?_⟩
 have hT9 : TH w [] tb [.nm 0] ([]) w8 := TH.keep hT5 hb7
 refine zwu (run_nes (s := txt 0) (t := txt 0) false (decide_eq_true rfl)) ?_
 refine zwv (.bool false) ?_
 refine zwv (.bool false) ?_
 refine zwv (.pointer (some ⟨tb.q, 0, none⟩)) ?_
 refine wl_callx enter10 #[.pointer (some ⟨tb.q, 0, none⟩)] (Fresh_any hT9 (by simp)) ?_
 rintro _ w11 ⟨rfl, hF10⟩
 refine ⟨_, rfl, ?_⟩
 have hT12 : TH w [] tb [.nm 0, .nm 1] ([]) w11 := hF10
 have hw13 : Wf [.nm 0, .nm 1] := Wf.nm hw6 1 (by decide)
 refine wl_callx enter26 #[iN .i64 1] (name_any 1 (by decide) w11) ?_
 rintro _ w15 ⟨rfl, hb14⟩
 refine ⟨_, rfl, ?_⟩
 have hT16 : TH w [] tb [.nm 0, .nm 1] ([]) w15 := TH.keep hT12 hb14
 refine zwu (run_nes (s := txt 1) (t := txt 1) false (decide_eq_true rfl)) ?_
 refine zwv (.bool false) ?_
 refine znt ?_
 refine zcf ?_
 refine wp_skip ?_
 refine then_at rfl ?_
 refine zsr ?_
 refine zwv (.pointer (some ⟨tb.q, 0, none⟩)) ?_
 refine wl_callx enter26 #[iN .i64 0] (name_any 0 (by decide) w15) ?_
 rintro _ w18 ⟨rfl, hb17⟩
 refine ⟨_, rfl, ?_⟩
 have hT19 : TH w [] tb [.nm 0, .nm 1] ([]) w18 := TH.keep hT16 hb17
 refine wl_mksT (n := 1) (m := 1) (c := strc [txt 0]) hT19 9 (by kernel_rfl) (by kernel_rfl) ?_
 intro q20 w21 (hT22 : TH w [] tb [.nm 0, .nm 1] ((q20, 9, strc [txt 0]) :: []) w21)
 refine wl_callx enter14 #[.pointer (some ⟨tb.q, 0, none⟩), iN .i64 3, .string ({ data := #[] }), .slice (some ⟨q20, 0, none⟩) 1 1] (Make_ok hT22 hw13 3 ({ data := #[] }) [txt 0] _ _ (.inr ⟨q20, _, rfl, PreS.strc _, List.mem_cons_self ..⟩) (by simp) (by kernel_rfl) (by decide) (strs_le (by intro s hs; simp only [List.mem_cons, List.not_mem_nil, or_false] at hs; rcases hs with rfl <;> exact Nat.le_trans (Nat.le_of_eq (txt_size _)) (by decide))) (by simp) (by simp)) ?_
 rintro _ w28 ⟨x23, es24, hJ25, rfl, hT26⟩
 refine ⟨_, rfl, ?_⟩
 have hw29 := JO.wf hw13 hJ25 (by simp) (by simp) (by simp)
 obtain ⟨rfl, b27, rfl⟩ := JO.newL [.nm 0, .nm 1] 2 0 { data := #[] } [0] hJ25 (by kernel_rfl) (by kernel_rfl) (by kernel_rfl) (by kernel_rfl) (by kernel_rfl) (by kernel_rfl)
 clear hJ25
 have hT30 : TH w [] tb [.nm 0, .nm 1, .mk 3 0 { data := #[] } [0] b27] ([]) w28 := TH.sub hT26 (List.sublist_cons_self _ _)
 have hw29 : Wf [.nm 0, .nm 1, .mk 3 0 { data := #[] } [0] b27] := hw29
 refine zwv (.tuple #[.string (txt 2), iN .i64 0]) ?_
 refine zwv (.string (txt 2)) ?_
 refine zwv (iN .i64 0) ?_
 refine zwv (.string (txt 2)) ?_
 refine zwv (iN .i64 0) ?_
 refine znt ?_
 refine zsr ?_
 refine zwv (.pointer (some ⟨tb.q, 0, none⟩)) ?_
 refine wl_callx enter26 #[iN .i64 1] (name_any 1 (by decide) w28) ?_
 rintro _ w32 ⟨rfl, hb31⟩
 refine ⟨_, rfl, ?_⟩
 have hT33 : TH w [] tb [.nm 0, .nm 1, .mk 3 0 { data := #[] } [0] b27] ([]) w32 := TH.keep hT30 hb31
 refine wl_mksT (n := 1) (m := 1) (c := strc [txt 1]) hT33 9 (by kernel_rfl) (by kernel_rfl) ?_
 intro q34 w35 (hT36 : TH w [] tb [.nm 0, .nm 1, .mk 3 0 { data := #[] } [0] b27] ((q34, 9, strc [txt 1]) :: []) w35)
 refine wl_callx enter14 #[.pointer (some ⟨tb.q, 0, none⟩), iN .i64 3, .string ({ data := #[] }), .slice (some ⟨q34, 0, none⟩) 1 1] (Make_ok hT36 hw29 3 ({ data := #[] }) [txt 1] _ _ (.inr ⟨q34, _, rfl, PreS.strc _, List.mem_cons_self ..⟩) (by simp) (by kernel_rfl) (by decide) (strs_le (by intro s hs; simp only [List.mem_cons, List.not_mem_nil, or_false] at hs; rcases hs with rfl <;> exact Nat.le_trans (Nat.le_of_eq (txt_size _)) (by decide))) (by simp) (by simp)) ?_
 rintro _ w42 ⟨x37, es38, hJ39, rfl, hT40⟩
 refine ⟨_, rfl, ?_⟩
 have hw43 := JO.wf hw29 hJ39 (by simp) (by simp) (by simp)
 obtain ⟨rfl, b41, rfl⟩ := JO.newL [.nm 0, .nm 1, .mk 3 0 { data := #[] } [0] b27] 3 0 { data := #[] } [1] hJ39 (by kernel_rfl) (by kernel_rfl) (by kernel_rfl) (by kernel_rfl) (by kernel_rfl) (by kernel_rfl)
 clear hJ39
 have hT44 : TH w [] tb [.nm 0, .nm 1, .mk 3 0 { data := #[] } [0] b27, .mk 3 0 { data := #[] } [1] b41] ([]) w42 := TH.sub hT40 (List.sublist_cons_self _ _)
 have hw43 : Wf [.nm 0, .nm 1, .mk 3 0 { data := #[] } [0] b27, .mk 3 0 { data := #[] } [1] b41] := hw43
 refine zwv (.tuple #[.string (txt 3), iN .i64 0]) ?_
 refine zwv (.string (txt 3)) ?_
 refine zwv (iN .i64 0) ?_
 refine zwv (.string (txt 3)) ?_
 refine zwv (iN .i64 0) ?_
 refine znt ?_
 refine zsr ?_
 refine zwv (.pointer (some ⟨tb.q, 0, none⟩)) ?_
 refine wl_callx enter26 #[iN .i64 0] (name_any 0 (by decide) w42) ?_
 rintro _ w46 ⟨rfl, hb45⟩
 refine ⟨_, rfl, ?_⟩
 have hT47 : TH w [] tb [.nm 0, .nm 1, .mk 3 0 { data := #[] } [0] b27, .mk 3 0 { data := #[] } [1] b41] ([]) w46 := TH.keep hT44 hb45
 refine wl_callx enter26 #[iN .i64 3] (name_any 3 (by decide) w46) ?_
 rintro _ w49 ⟨rfl, hb48⟩
 refine ⟨_, rfl, ?_⟩
 have hT50 : TH w [] tb [.nm 0, .nm 1, .mk 3 0 { data := #[] } [0] b27, .mk 3 0 { data := #[] } [1] b41] ([]) w49 := TH.keep hT47 hb48
 refine wl_mksT (n := 2) (m := 2) (c := strc [txt 0, txt 3]) hT50 9 (by kernel_rfl) (by kernel_rfl) ?_
 intro q51 w52 (hT53 : TH w [] tb [.nm 0, .nm 1, .mk 3 0 { data := #[] } [0] b27, .mk 3 0 { data := #[] } [1] b41] ((q51, 9, strc [txt 0, txt 3]) :: []) w52)
 refine wl_callx enter14 #[.pointer (some ⟨tb.q, 0, none⟩), iN .i64 4, .string ({ data := #[] }), .slice (some ⟨q51, 0, none⟩) 2 2] (Make_ok hT53 hw43 4 ({ data := #[] }) [txt 0, txt 3] _ _ (.inr ⟨q51, _, rfl, PreS.strc _, List.mem_cons_self ..⟩) (by simp) (by kernel_rfl) (by decide) (strs_le (by intro s hs; simp only [List.mem_cons, List.not_mem_nil, or_false] at hs; rcases hs with rfl | rfl <;> exact Nat.le_trans (Nat.le_of_eq (txt_size _)) (by decide))) (by simp) (by simp)) ?_
 rintro _ w59 ⟨x54, es55, hJ56, rfl, hT57⟩
 refine ⟨_, rfl, ?_⟩
 have hw60 := JO.wf hw43 hJ56 (by simp) (by simp) (by simp)
 obtain ⟨rfl, b58, rfl⟩ := JO.newL [.nm 0, .nm 1, .mk 3 0 { data := #[] } [0] b27, .mk 3 0 { data := #[] } [1] b41] 4 0 { data := #[] } [0, 1] hJ56 (by kernel_rfl) (by kernel_rfl) (by kernel_rfl) (by kernel_rfl) (by kernel_rfl) (by kernel_rfl)
 clear hJ56
 have hT61 : TH w [] tb [.nm 0, .nm 1, .mk 3 0 { data := #[] } [0] b27, .mk 3 0 { data := #[] } [1] b41, .mk 4 0 { data := #[] } [0, 1] b58] ([]) w59 := TH.sub hT57 (List.sublist_cons_self _ _)
 have hw60 : Wf [.nm 0, .nm 1, .mk 3 0 { data := #[] } [0] b27, .mk 3 0 { data := #[] } [1] b41, .mk 4 0 { data := #[] } [0, 1] b58] := hw60
 refine zwv (.tuple #[.string (txt 4), iN .i64 0]) ?_
 refine zwv (.string (txt 4)) ?_
 refine zwv (iN .i64 0) ?_
 refine zwv (.string (txt 4)) ?_
 refine zwv (iN .i64 0) ?_
 refine znt ?_
 refine zsr ?_
 refine zwv (.pointer (some ⟨tb.q, 0, none⟩)) ?_
 refine wl_callx enter26 #[iN .i64 1] (name_any 1 (by decide) w59) ?_
 rintro _ w63 ⟨rfl, hb62⟩
 refine ⟨_, rfl, ?_⟩
 have hT64 : TH w [] tb [.nm 0, .nm 1, .mk 3 0 { data := #[] } [0] b27, .mk 3 0 { data := #[] } [1] b41, .mk 4 0 { data := #[] } [0, 1] b58] ([]) w63 := TH.keep hT61 hb62
 refine wl_callx enter26 #[iN .i64 2] (name_any 2 (by decide) w63) ?_
 rintro _ w66 ⟨rfl, hb65⟩
 refine ⟨_, rfl, ?_⟩
 have hT67 : TH w [] tb [.nm 0, .nm 1, .mk 3 0 { data := #[] } [0] b27, .mk 3 0 { data := #[] } [1] b41, .mk 4 0 { data := #[] } [0, 1] b58] ([]) w66 := TH.keep hT64 hb65
 refine wl_mksT (n := 2) (m := 2) (c := strc [txt 1, txt 2]) hT67 9 (by kernel_rfl) (by kernel_rfl) ?_
 intro q68 w69 (hT70 : TH w [] tb [.nm 0, .nm 1, .mk 3 0 { data := #[] } [0] b27, .mk 3 0 { data := #[] } [1] b41, .mk 4 0 { data := #[] } [0, 1] b58] ((q68, 9, strc [txt 1, txt 2]) :: []) w69)
 refine wl_callx enter14 #[.pointer (some ⟨tb.q, 0, none⟩), iN .i64 4, .string ({ data := #[] }), .slice (some ⟨q68, 0, none⟩) 2 2] (Make_ok hT70 hw60 4 ({ data := #[] }) [txt 1, txt 2] _ _ (.inr ⟨q68, _, rfl, PreS.strc _, List.mem_cons_self ..⟩) (by simp) (by kernel_rfl) (by decide) (strs_le (by intro s hs; simp only [List.mem_cons, List.not_mem_nil, or_false] at hs; rcases hs with rfl | rfl <;> exact Nat.le_trans (Nat.le_of_eq (txt_size _)) (by decide))) (by simp) (by simp)) ?_
 rintro _ w76 ⟨x71, es72, hJ73, rfl, hT74⟩
 refine ⟨_, rfl, ?_⟩
 have hw77 := JO.wf hw60 hJ73 (by simp) (by simp) (by simp)
 obtain ⟨rfl, rfl⟩ := JO.oldL [.nm 0, .nm 1, .mk 3 0 { data := #[] } [0] b27, .mk 3 0 { data := #[] } [1] b41, .mk 4 0 { data := #[] } [0, 1] b58] 4 hJ73 (by kernel_rfl) (by kernel_rfl)
 clear hJ73
 have hT78 : TH w [] tb [.nm 0, .nm 1, .mk 3 0 { data := #[] } [0] b27, .mk 3 0 { data := #[] } [1] b41, .mk 4 0 { data := #[] } [0, 1] b58] ([]) w76 := TH.sub hT74 (List.sublist_cons_self _ _)
 have hw77 : Wf [.nm 0, .nm 1, .mk 3 0 { data := #[] } [0] b27, .mk 3 0 { data := #[] } [1] b41, .mk 4 0 { data := #[] } [0, 1] b58] := hw77
 refine zwv (.tuple #[.string (txt 4), iN .i64 0]) ?_
 refine zwv (.string (txt 4)) ?_
 refine zwv (iN .i64 0) ?_
 refine zwv (.string (txt 4)) ?_
 refine zwv (iN .i64 0) ?_
 refine znt ?_
 refine zsr ?_
 refine zwv (iN .i64 0) ?_
 refine zwu (run_eqi (k := .i64) (a := 0) (b := 0) true) ?_
 refine zwv (.bool true) ?_
 refine zwv (iN .i64 0) ?_
 refine zwu (run_eqi (k := .i64) (a := 0) (b := 0) true) ?_
 refine zwv (.bool true) ?_
 refine zwv (.bool true) ?_
 refine zwv (iN .i64 0) ?_
 refine zwu (run_eqi (k := .i64) (a := 0) (b := 0) true) ?_
 refine zwv (.bool true) ?_
 refine zwv (.bool true) ?_
 refine zwv (iN .i64 0) ?_
 refine zwu (run_eqi (k := .i64) (a := 0) (b := 0) true) ?_
 refine zwv (.bool true) ?_
 refine zwv (.bool true) ?_
 refine zwv (.string (txt 2)) ?_
 refine wl_callx enter26 #[iN .i64 2] (name_any 2 (by decide) w76) ?_
 rintro _ w80 ⟨rfl, hb79⟩
 refine ⟨_, rfl, ?_⟩
 have hT81 : TH w [] tb [.nm 0, .nm 1, .mk 3 0 { data := #[] } [0] b27, .mk 3 0 { data := #[] } [1] b41, .mk 4 0 { data := #[] } [0, 1] b58] ([]) w80 := TH.keep hT78 hb79
 refine zwu (run_eqs (s := txt 2) (t := txt 2) true (decide_eq_true rfl)) ?_
 refine zwv (.bool true) ?_
 refine zwv (.bool true) ?_
 refine zwv (.string (txt 3)) ?_
 refine wl_callx enter26 #[iN .i64 3] (name_any 3 (by decide) w80) ?_
 rintro _ w83 ⟨rfl, hb82⟩
 refine ⟨_, rfl, ?_⟩
 have hT84 : TH w [] tb [.nm 0, .nm 1, .mk 3 0 { data := #[] } [0] b27, .mk 3 0 { data := #[] } [1] b41, .mk 4 0 { data := #[] } [0, 1] b58] ([]) w83 := TH.keep hT81 hb82
 refine zwu (run_eqs (s := txt 3) (t := txt 3) true (decide_eq_true rfl)) ?_
 refine zwv (.bool true) ?_
 refine zwv (.bool true) ?_
 refine zwv (.string (txt 4)) ?_
 refine wl_callx enter26 #[iN .i64 4] (name_any 4 (by decide) w83) ?_
 rintro _ w86 ⟨rfl, hb85⟩
 refine ⟨_, rfl, ?_⟩
 have hT87 : TH w [] tb [.nm 0, .nm 1, .mk 3 0 { data := #[] } [0] b27, .mk 3 0 { data := #[] } [1] b41, .mk 4 0 { data := #[] } [0, 1] b58] ([]) w86 := TH.keep hT84 hb85
 refine zwu (run_eqs (s := txt 4) (t := txt 4) true (decide_eq_true rfl)) ?_
 refine zwv (.bool true) ?_
 refine zwv (.bool true) ?_
 refine zwv (.string (txt 4)) ?_
 refine zwv (.string (txt 4)) ?_
 refine zwu (run_eqs (s := txt 4) (t := txt 4) true (decide_eq_true rfl)) ?_
 refine zwv (.bool true) ?_
 refine zwv (.bool true) ?_
 refine zwv (.pointer (some ⟨tb.q, 0, none⟩)) ?_
 obtain ⟨_, hL88, _, _, rfl⟩ := TH.len (n := 5) hT87 rfl
 refine wl_callx enter16 #[.pointer (some ⟨tb.q, 0, none⟩)] (Len_any hL88) ?_
 rintro _ w90 ⟨rfl, hb89⟩
 refine ⟨_, rfl, ?_⟩
 have hT91 : TH w [] tb [.nm 0, .nm 1, .mk 3 0 { data := #[] } [0] b27, .mk 3 0 { data := #[] } [1] b41, .mk 4 0 { data := #[] } [0, 1] b58] ([]) w90 := TH.keep hT87 hb89
 refine zwu (run_eqi (k := .i64) (a := 5) (b := 5) true) ?_
 refine zwv (.bool true) ?_
 refine zwv (.bool true) ?_
 refine znt ?_
 refine wp_ret ?_
 repeat first | refine then_ret ?_ | refine block_ret ?_
 exact bodyPost_ret (by kernel_rfl) rfl ⟨rfl, TH.below hT91⟩
end Go.Proofs.YtihfeoanognonaaGreat
