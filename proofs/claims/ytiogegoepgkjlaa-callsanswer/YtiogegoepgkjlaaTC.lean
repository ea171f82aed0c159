/-
  Rows that grow; cells that are put.
-/
import Derived.Test.YtiogegoepgkjlaaTA
namespace Go.Proofs.Ytiogegoepgkjlaa
open Go.RowKit

section
variable {P : Program} {ρ : Operand → Value} {x y : Operand} {w : World} {dst : Option Tmp} {T ty : TypeId} {pos : String} {aft : Array Edge} {gd : Option (Nat × Bool)}
def cellV : Value → Bool
  | .bool _ | .int _ _ | .string _ | .pointer _ | .slice _ _ _ | .map _ | .iface _ _ | .nilIface => true
  | _ => false
theorem run_storev {q i : Nat} {v : Value} (hs : ∀ w, (sizeOf T).run P w = .ok 1 w) (hx : ρ x = .pointer (some ⟨q, i, none⟩)) (hy : ρ y = v) (h1 : cellV v = true) (h : (w.cell? ⟨q, i, none⟩).isSome = true) (hf : w.frozen? ⟨q, i, none⟩ = false) :
    (execOp ρ ⟨dst, .store T x y, ty, pos, aft, gd⟩).run P w = .ok .skip (w.setCell ⟨q, i, none⟩ v) := by
  obtain ⟨u, hu⟩ := Option.isSome_iff_exists.1 h
  simp only [execOp, hx, hy]
  cases v <;> first | (simp [go_sem, hu, hs, hf]; done) | simp [cellV] at h1
end
section
variable {P : Program} {ops : Array Oper} {Q : Exit → Act → World → Prop} {a : Act} {rest : List Oper} {dst : Option Tmp} {T ty : TypeId} {pos : String} {aft : Array Edge} {gd : Option (Nat × Bool)} {w w' : World} {z : Base} {L Lr : List (Nat × TypeId × Array Value)}
/-- any operation without an answer -/
theorem wl_anyS {o : Oper} (hw : Region.wanted o (yielded ops a.tmps) = true) (hr : (execOp a.eval o).run P w = .ok .skip w') (h : WL P ops Q rest (a.put o.dst undef) w') : WL P ops Q (o :: rest) a w := by
  refine ⟨?_⟩
  unfold wpList
  rw [if_pos hw]
  refine .inl ?_
  unfold Oper.wp
  rw [hr]
  exact h.out
theorem wl_putv {x y : Operand} {q : Nat} {t : TypeId} {c : Array Value} {v : Value} (H : HA z L w) (i : Nat) (hi : L[i]? = some (q, t, c)) (j : Nat) (hj : j < c.size)
    (hw : Region.wanted ⟨dst, .store T x y, ty, pos, aft, gd⟩ (yielded ops a.tmps) = true) (hs : ∀ w, (sizeOf T).run P w = .ok 1 w) (hx : a.eval x = .pointer (some ⟨q, j, none⟩)) (hy : a.eval y = v) (h1 : cellV v = true)
    (h : ∀ w', HA z (L.set i (q, t, c.setIfInBounds j v)) w' → WL P ops Q rest (a.put dst undef) w') : WL P ops Q (⟨dst, .store T x y, ty, pos, aft, gd⟩ :: rest) a w :=
  wl_anyS hw (run_storev hs hx hy h1 (by rw [(H.get i hi).cell j]; simp [hj]) ((H.get i hi).free j hj)) (h _ (H.put i hi j _))
theorem HA.grownL {row : Option Nat} (H : HA z L w) (hg : w.grownBy w' row) (hr : ∀ k, row = some k → z.size ≤ k ∧ (∀ x ∈ L, x.1 ≠ k) ∧ ∀ m ∈ z.M, m.1 ≠ k) : HA z L w' := by
  have hne : ∀ b, b < w.heap.size → (∀ k, row = some k → b ≠ k) → w'.heap[b]? = w.heap[b]? := fun b hb h => hg.block b hb (fun e => by
    cases row with
    | none => simp at e
    | some k => exact h k rfl (by simpa using e))
  refine ⟨⟨⟨hg.os.trans H.old.old.os, hg.tape.trans H.old.old.tape, hg.output.trans H.old.old.output, Nat.le_trans H.old.old.size hg.size, fun b hb => ?_⟩, fun m hm => ?_, H.old.mown, H.old.mnd⟩, fun x hx => ?_, H.own, H.nd⟩
  · rw [hne b (Nat.lt_of_lt_of_le hb H.old.old.size) (fun k hk => by have := (hr k hk).1; simp only [Base.size] at this; omega)]
    exact H.old.old.block b hb
  · rw [hne m.1 (lt_of_block (H.old.maps m hm)) (fun k hk => (hr k hk).2.2 m hm)]
    exact H.old.maps m hm
  · exact (H.blk x hx).at' (hne _ (H.blk x hx).lt (fun k hk => (hr k hk).2.1 x hx))
theorem HA.consNew {g : Nat} {e : TypeId} {cur : Array Value} (H : HA z L w) (hb : Blk w g e cur) (ho : z.size ≤ g) (hn : ∀ x ∈ L, x.1 ≠ g) : HA z ((g, e, cur) :: L) w :=
  ⟨H.old, fun x hx => by
    rcases List.mem_cons.1 hx with rfl | hx
    · exact hb
    · exact H.blk x hx, fun x hx => by
    rcases List.mem_cons.1 hx with rfl | hx
    · exact ho
    · exact H.own x hx, by
    rw [List.map_cons, List.nodup_cons]
    refine ⟨fun hm => ?_, H.nd⟩
    obtain ⟨x, hx, e⟩ := List.mem_map.1 hm
    exact hn x hx e⟩
/-- a row that may grow: nil, or a block of one's own -/
def Row (e : TypeId) (sz : Nat) (v : Value) (n : Nat) (xs : List Value) (Lr : List (Nat × TypeId × Array Value)) : Prop :=
  xs.length = n * sz ∧ ((v = .slice none 0 0 ∧ n = 0 ∧ Lr = []) ∨ ∃ g cap cur, v = .slice (some ⟨g, 0, none⟩) n cap ∧ Lr = [(g, e, cur)] ∧ n ≤ cap ∧ cap ≤ maxLen ∧ cur.size = cap * sz ∧ cur.toList.take (n * sz) = xs)
theorem Row.nil (e : TypeId) (sz : Nat) : Row e sz (.slice none 0 0) 0 [] [] := ⟨by simp, .inl ⟨rfl, rfl, rfl⟩⟩
theorem Row.append {e : TypeId} {sz n : Nat} {v : Value} {xs : List Value} (hR : Row e sz v n xs Lr) (H : HA z (Lr ++ L) w) (he : e ≠ 5) (t ty : TypeId) (i : TypeInfo) (zv : Value) (bytes : Nat)
    (ht : P.underlying t = some (.slice e)) (hi : P.info? e = some i) (hz : i.zero = some zv) (hsize : i.size = sz) (hby : i.bytes = bytes) (hzs : zv.cells.size = sz) (hsz : 0 < sz)
    (ad : Addr) (m c : Nat) (news : List Value) (hl : news.length = m * sz) (hnews : ∀ j u, news[j]? = some u → w.cell? (ad.add j) = some u) (h1 : ∀ u ∈ news, u.oneCell' = true)
    (h63 : n + m ≤ maxLen) (hbytes : (n + m) * bytes ≤ 140737488355328) (hm : 0 < m) :
    ∃ v' w' Lr', (Builtin.append_ #[t, t] ty #[v, .slice (some ad) m c]).run P w = .ok v' w' ∧ Row e sz v' (n + m) (xs ++ news) Lr' ∧ HA z (Lr' ++ L) w' := by
  have hown : w.ownsRow z.size e sz v n xs := by
    refine ⟨hR.1, ?_⟩
    rcases hR.2 with ⟨h1, h2, _⟩ | ⟨g, cap, cur, h1, h2, h3, h4, h5, h6⟩
    · exact .inl ⟨h1, h2⟩
    · subst h2
      obtain ⟨f, hf, hff⟩ := H.blk (g, e, cur) (by simp)
      rcases hff with rfl | ⟨h5', _⟩
      · exact .inr ⟨g, cap, cur, h1, H.own (g, e, cur) (by simp), hf, h3, h4, h5, h6⟩
      · exact absurd h5' he
  obtain ⟨v', w', hrun, hown', hgr, hnil, hloc⟩ := run_append_own_at (P := P) w z.size t ty e i zv sz bytes ht hi hz hsize hby hzs hsz v n xs hown ad m c news hl hnews h1 h63 hbytes H.old.size
  refine ⟨v', w', ?_⟩
  rcases hown'.2 with ⟨_, h2⟩ | ⟨g', cap', cur', hv', hb', hh', hc1, hc2, hc3, hc4⟩
  · omega
  refine ⟨[(g', e, cur')], hrun, ⟨hown'.1, .inr ⟨g', cap', cur', hv', rfl, hc1, hc2, hc3, hc4⟩⟩, ?_⟩
  have hB : Blk w' g' e cur' := ⟨(0, 0), hh', .inl rfl⟩
  have hloc' : some g' = v.ownBlock ∨ g' = w.heap.size := by
    rcases hloc with h | h
    · exact .inl (by rw [← h, hv']; rfl)
    · exact .inr (by rw [hv'] at h; exact Option.some.inj h)
  rcases hR.2 with ⟨k1, k2, k3⟩ | ⟨g, cap, cur, k1, k2, k3, k4, k5, k6⟩
  · subst k3
    rw [k1] at hloc' hgr
    have HL : HA z L w' := HA.grownL (row := none) H hgr (fun k hk => by cases hk)
    refine HL.consNew hB hb' (fun x hx => ?_)
    rcases hloc' with h | h
    · cases h
    · have := (H.blk x hx).lt
      omega
  · subst k2
    rw [k1] at hloc' hgr
    have Ht : HA z L w := H.tl
    have hg : Blk w g e cur := H.blk (g, e, cur) (by simp)
    have hnd := H.nd
    simp only [List.cons_append, List.nil_append, List.map_cons, List.nodup_cons] at hnd
    have hne : ∀ x ∈ L, x.1 ≠ g := fun x hx e => hnd.1 (List.mem_map.2 ⟨x, hx, e⟩)
    have HL : HA z L w' := HA.grownL (row := some g) Ht hgr (fun k hk => by
      obtain rfl := Option.some.inj hk
      exact ⟨H.own (g, e, cur) (by simp), hne, Ht.old.far hg⟩)
    refine HL.consNew hB hb' (fun x hx => ?_)
    rcases hloc' with h | h
    · have : g' = g := Option.some.inj h
      rw [this]; exact hne x hx
    · have := (Ht.blk x hx).lt
      omega
/-! operations on maps -/
end
end Go.Proofs.Ytiogegoepgkjlaa
