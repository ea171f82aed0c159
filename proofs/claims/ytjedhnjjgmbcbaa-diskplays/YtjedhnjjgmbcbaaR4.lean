/-
  Rows of files and of numbers: parts of them, and one behind the other.
-/
import Derived.Test.YtjedhnjjgmbcbaaR3
namespace Go.Proofs.Ytjedhnjjgmbcbaa
open Go.RowKit

structure Newer (B : Nat) (w : World) (N : BL) : Prop where
  all : ∀ y ∈ N, B ≤ y.1 ∧ Blk w y.1 y.2.1 y.2.2
  nd : (N.map (·.1)).Nodup
theorem Newer.nil (B : Nat) (w : World) : Newer B w [] := ⟨fun y hy => (by cases hy), List.nodup_nil⟩
theorem HA.newerN {L N : BL} {w w' : World} (H : HA (bs w) (N ++ L) w') : Newer w.heap.size w' N :=
  ⟨fun y hy => ⟨H.own y (by simp [hy]), H.blk y (by simp [hy])⟩, by have := H.nd; rw [List.map_append, List.nodup_append] at this; exact this.1⟩
theorem info75 : (Try.prog.info? 75).map (fun i => (i.zero, i.size, i.bytes)) = some (some (.agg #[.string { data := #[] }, .string { data := #[] }, .int .i64 0]), 3, 40) := by kernel_rfl
/-- m things that lie somewhere in N -/
def Src (o : Option Addr) (m : Nat) (news : List Value) (N : BL) : Prop := m = 0 ∨ ∃ a, o = some a ∧ ∀ w, Stand w N → ∀ j u, news[j]? = some u → w.cell? (a.add j) = some u
theorem RFL.le {p : Option Addr} {n c : Nat} {fs : List RF} {N : BL} (h : RFL (.slice p n c) fs N) : n = fs.length ∧ n ≤ c ∧ c ≤ maxLen ∧ (p = none → c = 0) := by
  rcases h with ⟨h1, rfl⟩ | ⟨g, cap, cur, h1, _, h3, h4, _⟩
  · cases h1; exact ⟨rfl, Nat.le_refl _, Nat.zero_le _, fun _ => rfl⟩
  · cases h1; exact ⟨rfl, h3, h4, fun e => by cases e⟩
theorem RFL.src {p : Option Addr} {n c : Nat} {fs : List RF} {N : BL} (h : RFL (.slice p n c) fs N) (hn : n ≠ 0) : ∃ g cur, p = some ⟨g, 0, none⟩ ∧ (g, 75, cur) ∈ N ∧ cur.toList.take (fs.length * 3) = fcl fs := by
  rcases h with ⟨h1, rfl⟩ | ⟨g, cap, cur, h1, h2, _, _, h5⟩
  · cases h1; exact absurd rfl hn
  · cases h1; exact ⟨g, cur, rfl, h2, h5⟩
theorem fcl_split (fs : List RF) (k : Nat) : fcl fs = fcl (fs.take k) ++ fcl (fs.drop k) := by
  unfold fcl
  rw [← List.flatMap_append, List.take_append_drop]
theorem fcl_take (fs : List RF) (k : Nat) (hk : k ≤ fs.length) : fcl (fs.take k) = (fcl fs).take (k * 3) := by
  have l : (fcl (fs.take k)).length = k * 3 := by rw [fcl_len, List.length_take]; omega
  rw [fcl_split fs k, ← l, List.take_left]
theorem fcl_drop (fs : List RF) (k : Nat) (hk : k ≤ fs.length) : fcl (fs.drop k) = (fcl fs).drop (k * 3) := by
  have l : (fcl (fs.take k)).length = k * 3 := by rw [fcl_len, List.length_take]; omega
  rw [fcl_split fs k, ← l, List.drop_left]
theorem addOff (g k j : Nat) : (⟨g, k, none⟩ : Addr).add j = ⟨g, k + j, none⟩ := by unfold Addr.add; split <;> simp_all
theorem cutHi {p : Option Addr} {n c k : Nat} {fs : List RF} {N : BL} (h : RFL (.slice p n c) fs N) (hk : k ≤ fs.length) :
    ∃ o c', (∀ (ρ : Operand → Value) (x y : Operand) (dst : Option Tmp) (ty : TypeId) (pos : String) (aft : Array Edge) (gd : Option (Nat × Bool)) (w : World), ρ x = .slice p n c → ρ y = iN .i64 k → (execOp ρ ⟨dst, .slice 25 x none (some y) none, ty, pos, aft, gd⟩).run Try.prog w = .ok (.value (.slice o k c')) w) ∧ Src o k (fcl (fs.take k)) N := by
  obtain ⟨rfl, h1, h2, h3⟩ := h.le
  refine ⟨p, c, fun ρ x y dst ty pos aft gd w hx hy => ?_, ?_⟩
  · have hkc : k ≤ c := by omega
    cases p with
    | none =>
      have hc := h3 rfl
      subst hc
      obtain rfl : k = 0 := by omega
      simp only [execOp, hx]
      simp [go_sem, Try.underlying25, hy, iN]
    | some a =>
      simp only [execOp, hx]
      simp [go_sem, Try.underlying25, Try.sizeOf75, hy, iN, hkc]
  · by_cases h0 : fs.length = 0
    · exact .inl (by omega)
    · obtain ⟨g, cur, rfl, hg, ht⟩ := h.src h0
      refine .inr ⟨_, rfl, fun w hS j u hu => ?_⟩
      rw [addOff, Nat.zero_add, (hS _ hg).cell j]
      rw [fcl_take fs k hk, ← ht, List.take_take, List.getElem?_take] at hu
      split at hu
      · simpa using hu
      · cases hu
theorem cutLo {p : Option Addr} {n c k : Nat} {fs : List RF} {N : BL} (h : RFL (.slice p n c) fs N) (hk : k ≤ fs.length) :
    ∃ o c', (∀ (ρ : Operand → Value) (x y : Operand) (dst : Option Tmp) (ty : TypeId) (pos : String) (aft : Array Edge) (gd : Option (Nat × Bool)) (w : World), ρ x = .slice p n c → ρ y = iN .i64 k → (execOp ρ ⟨dst, .slice 25 x (some y) none none, ty, pos, aft, gd⟩).run Try.prog w = .ok (.value (.slice o (fs.length - k) c')) w) ∧ Src o (fs.length - k) (fcl (fs.drop k)) N := by
  obtain ⟨rfl, h1, h2, h3⟩ := h.le
  refine ⟨if c = k then p else p.map (·.add (k * 3)), c - k, fun ρ x y dst ty pos aft gd w hx hy => ?_, ?_⟩
  · have hkc : k ≤ c := by omega
    simp only [execOp, hx]
    simp [go_sem, Try.underlying25, Try.sizeOf75, hy, iN, hk]
  · by_cases h0 : fs.length - k = 0
    · exact .inl h0
    · obtain ⟨g, cur, rfl, hg, ht⟩ := h.src (by omega)
      refine .inr ⟨⟨g, k * 3, none⟩, ?_, fun w hS j u hu => ?_⟩
      · rw [if_neg (by omega), Option.map_some, addOff, Nat.zero_add]
      · rw [addOff, (hS _ hg).cell (k * 3 + j)]
        rw [fcl_drop fs k hk, ← ht, List.getElem?_drop, List.getElem?_take] at hu
        split at hu
        · simpa using hu
        · cases hu
theorem fcl_one (fs : List RF) : ∀ u ∈ fcl fs, u.oneCell' = true := fun u hu => by
  obtain ⟨f, _, hf⟩ := List.mem_flatMap.1 hu
  simp only [rf1, List.mem_cons, List.not_mem_nil, or_false] at hf
  rcases hf with rfl | rfl | rfl <;> rfl
theorem run_app0F {ρ : Operand → Value} {x y : Operand} {w : World} {dst : Option Tmp} {ty : TypeId} {pos : String} {aft : Array Edge} {gd : Option (Nat × Bool)} {p o : Option Addr} {n c c' : Nat} (hx : ρ x = .slice p n c) (hy : ρ y = .slice o 0 c') (hn : n ≤ c) :
    (execOp ρ ⟨dst, .call { callee := .builtin .append, args := #[x, y], argTypes := #[25, 25] }, ty, pos, aft, gd⟩).run Try.prog w = .ok (.value (.slice p n c)) w := by
  unfold execOp
  simp only [resolve, invoke, builtin, Sem.run_bind, Sem.run_pure, Result.andThen_ok, List.map_toArray, List.map_cons, List.map_nil, hx, hy]
  cases p <;> cases o <;> simp [Builtin.append_, go_sem, Try.sizeOf75, hn]
theorem run_app0Z {ρ : Operand → Value} {x y : Operand} {w : World} {dst : Option Tmp} {ty : TypeId} {pos : String} {aft : Array Edge} {gd : Option (Nat × Bool)} {p o : Option Addr} {n c c' : Nat} (hx : ρ x = .slice p n c) (hy : ρ y = .slice o 0 c') (hn : n ≤ c) :
    (execOp ρ ⟨dst, .call { callee := .builtin .append, args := #[x, y], argTypes := #[26, 26] }, ty, pos, aft, gd⟩).run Try.prog w = .ok (.value (.slice p n c)) w := by
  unfold execOp
  simp only [resolve, invoke, builtin, Sem.run_bind, Sem.run_pure, Result.andThen_ok, List.map_toArray, List.map_cons, List.map_nil, hx, hy]
  cases p <;> cases o <;> simp [Builtin.append_, go_sem, Try.sizeOf3, hn]
theorem Row.cap {e : TypeId} {sz n : Nat} {v : Value} {xs : List Value} {Lr : BL} (h : Row e sz v n xs Lr) : ∃ p c, v = .slice p n c ∧ n ≤ c := by
  rcases h.2 with ⟨h1, h2, _⟩ | ⟨g, cap, cur, h1, _, h3, _⟩
  · exact ⟨none, 0, by rw [h1, h2], by omega⟩
  · exact ⟨_, _, h1, h3⟩
section
variable {ops : Array Oper} {Q : Exit → Act → World → Prop} {a : Act} {rest : List Oper} {w : World} {z : Base} {Lr L N : BL} {dst : Option Tmp} {ty : TypeId} {pos : String} {aft : Array Edge} {gd : Option (Nat × Bool)}
/-- files of one row behind those of another -/
theorem wl_appF {n m c : Nat} {v : Value} {xs news : List Value} {o : Option Addr} {x y : Operand} (hR : Row 75 3 v n xs Lr) (H : HA z (Lr ++ L) w) (hs : Src o m news N) (hS : Stand w N) (hl : news.length = m * 3) (h1 : ∀ u ∈ news, u.oneCell' = true)
    (hw : Region.wanted ⟨dst, .call { callee := .builtin .append, args := #[x, y], argTypes := #[25, 25] }, ty, pos, aft, gd⟩ (yielded ops a.tmps) = true)
    (hx : a.eval x = v) (hy : a.eval y = .slice o m c) (h63 : n + m ≤ 1000000)
    (h : ∀ v' w' Lr', Row 75 3 v' (n + m) (xs ++ news) Lr' → HA z (Lr' ++ L) w' → WL Try.prog ops Q rest (a.put dst v') w') :
    WL Try.prog ops Q (⟨dst, .call { callee := .builtin .append, args := #[x, y], argTypes := #[25, 25] }, ty, pos, aft, gd⟩ :: rest) a w := by
  by_cases hm : m = 0
  · subst hm
    have hn : news = [] := List.eq_nil_of_length_eq_zero (by omega)
    subst hn
    obtain ⟨p, c1, hv, hc⟩ := hR.cap
    rw [hv] at hx
    have := h v w Lr (by simpa using hR) H
    rw [hv] at this
    exact wl_val _ hw (run_app0F hx hy hc) this
  · obtain ⟨ad, rfl, hcell⟩ := hs.resolve_left hm
    obtain ⟨i, hi, hh⟩ := Option.map_eq_some_iff.1 info75
    simp only [Prod.mk.injEq] at hh
    obtain ⟨v', w', Lr', hrun, hR', H'⟩ := hR.append H (by decide) 25 ty i _ 40 Try.underlying25 hi hh.1 hh.2.1 hh.2.2 rfl (by decide) ad m c news hl (hcell w hS) h1 (by unfold maxLen; omega) (by omega) (by omega)
    refine wl_any hw ?_ (h v' w' Lr' hR' H')
    unfold execOp
    simp only [resolve, invoke, builtin, Sem.run_bind, Sem.run_pure, Result.andThen_ok, List.map_toArray, List.map_cons, List.map_nil, hx, hy, hrun]
theorem wl_appZ {n m c : Nat} {v : Value} {xs news : List Value} {o : Option Addr} {x y : Operand} (hR : Row 3 1 v n xs Lr) (H : HA z (Lr ++ L) w) (hs : Src o m news N) (hS : Stand w N) (hl : news.length = m * 1) (h1 : ∀ u ∈ news, u.oneCell' = true)
    (hw : Region.wanted ⟨dst, .call { callee := .builtin .append, args := #[x, y], argTypes := #[26, 26] }, ty, pos, aft, gd⟩ (yielded ops a.tmps) = true)
    (hx : a.eval x = v) (hy : a.eval y = .slice o m c) (h63 : n + m ≤ 1000000)
    (h : ∀ v' w' Lr', Row 3 1 v' (n + m) (xs ++ news) Lr' → HA z (Lr' ++ L) w' → WL Try.prog ops Q rest (a.put dst v') w') :
    WL Try.prog ops Q (⟨dst, .call { callee := .builtin .append, args := #[x, y], argTypes := #[26, 26] }, ty, pos, aft, gd⟩ :: rest) a w := by
  by_cases hm : m = 0
  · subst hm
    have hn : news = [] := List.eq_nil_of_length_eq_zero (by omega)
    subst hn
    obtain ⟨p, c1, hv, hc⟩ := hR.cap
    rw [hv] at hx
    have := h v w Lr (by simpa using hR) H
    rw [hv] at this
    exact wl_val _ hw (run_app0Z hx hy hc) this
  · obtain ⟨ad, rfl, hcell⟩ := hs.resolve_left hm
    obtain ⟨i, hi, hh⟩ := Option.map_eq_some_iff.1 info3
    simp only [Prod.mk.injEq] at hh
    obtain ⟨v', w', Lr', hrun, hR', H'⟩ := hR.append H (by decide) 26 ty i _ 8 Try.underlying26 hi hh.1 hh.2.1 hh.2.2 rfl (by decide) ad m c news hl (hcell w hS) h1 (by unfold maxLen; omega) (by omega) (by omega)
    refine wl_any hw ?_ (h v' w' Lr' hR' H')
    unfold execOp
    simp only [resolve, invoke, builtin, Sem.run_bind, Sem.run_pure, Result.andThen_ok, List.map_toArray, List.map_cons, List.map_nil, hx, hy, hrun]
end
theorem RZL.src {p : Option Addr} {n c : Nat} {zs : List Nat} {N : BL} (h : RZL (.slice p n c) zs N) : n = zs.length ∧ Src p n (zs.map (iN .i64 ·)) N := by
  rcases h with ⟨h1, rfl⟩ | ⟨g, cap, cur, h1, hg, _, _, ht⟩
  · cases h1; exact ⟨rfl, .inl rfl⟩
  · cases h1
    refine ⟨rfl, .inr ⟨_, rfl, fun w hS j u hu => ?_⟩⟩
    rw [addOff, Nat.zero_add, (hS _ hg).cell j]
    rw [← ht, List.getElem?_take] at hu
    split at hu
    · simpa using hu
    · cases hu
theorem Row.rffl {v : Value} {fs : List RF} {Lr : BL} {n : Nat} (hn : n = fs.length) (h : Row 75 3 v n (fcl fs) Lr) : RFL v fs Lr := by
  subst hn
  rcases h.2 with ⟨h1, h2, _⟩ | ⟨g, cap, cur, h1, h2, h3, h4, h5, h6⟩
  · exact .inl ⟨h1, List.length_eq_zero_iff.1 h2⟩
  · exact .inr ⟨g, cap, cur, h1, by rw [h2]; exact List.mem_singleton.2 rfl, h3, h4, h6⟩
theorem Row.rzl {v : Value} {zs : List Nat} {Lr : BL} {n : Nat} (hn : n = zs.length) (h : Row 3 1 v n (zs.map (iN .i64 ·)) Lr) : RZL v zs Lr := by
  subst hn
  rcases h.2 with ⟨h1, h2, _⟩ | ⟨g, cap, cur, h1, h2, h3, h4, h5, h6⟩
  · exact .inl ⟨h1, List.length_eq_zero_iff.1 h2⟩
  · rw [Nat.mul_one] at h6
    exact .inr ⟨g, cap, cur, h1, by rw [h2]; exact List.mem_singleton.2 rfl, h3, h4, h6⟩
end Go.Proofs.Ytjedhnjjgmbcbaa
