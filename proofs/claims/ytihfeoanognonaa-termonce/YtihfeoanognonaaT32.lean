/-
 The reference's table: put.
-/
import Derived.Test.YtihfeoanognonaaT31
namespace Go.Proofs.Ytihfeoanognonaa
open Go.RowKit
theorem info31 : (Try.prog.info? 31).map (fun i => (i.zero, i.size, i.bytes)) = some (some (.agg #[.int .i64 0, .int .i64 0, .string { data := #[] }, .slice none 0 0]), 4, 56) := by kernel_rfl
section
variable {ops : Array Oper} {Q : Exit → Act → World → Prop} {a : Act} {rest : List Oper} {w : World} {z : Base} {Lr L : BL} {dst : Option Tmp} {ty : TypeId} {pos : String} {aft : Array Edge} {gd : Option (Nat × Bool)}
theorem wl_appendR {e t : TypeId} {sz n m c p : Nat} {v : Value} {xs news : List Value} {x y : Operand} (hR : Row e sz v n xs Lr) (H : HA z (Lr ++ L) w)  (zv : Value) (bytes : Nat)
  (ht : Try.prog.underlying t = some (.slice e)) (hi : (Try.prog.info? e).map (fun i => (i.zero, i.size, i.bytes)) = some (some zv, sz, bytes)) (hzs : zv.cells.size = sz) 
  
   (hl : news.length = m * sz) (hn : ∀ j u, news[j]? = some u → w.cell? ⟨p, j, none⟩ = some u) (h1 : ∀ u ∈ news, u.oneCell' = true) (h63 : n + m ≤ maxLen) (hbytes : (n + m) * bytes ≤ 140737488355328) (hm : 0 < m)
  (h : ∀ v' w' Lr', Row e sz v' (n + m) (xs ++ news) Lr' → HA z (Lr' ++ L) w' → WL Try.prog ops Q rest (a.put dst v') w') (he : e ≠ 5 := by decide) (hsz : 0 < sz := by decide) (hw : Region.wanted ⟨dst, .call { callee := .builtin .append, args := #[x, y], argTypes := #[t, t] }, ty, pos, aft, gd⟩ (yielded ops a.tmps) = true := by kernel_rfl) (hx : a.eval x = v := by kernel_rfl) (hy : a.eval y = .slice (some ⟨p, 0, none⟩) m c := by kernel_rfl) :
  WL Try.prog ops Q (⟨dst, .call { callee := .builtin .append, args := #[x, y], argTypes := #[t, t] }, ty, pos, aft, gd⟩ :: rest) a w := by
 obtain ⟨i, hi, hh⟩ := Option.map_eq_some_iff.1 hi
 simp only [Prod.mk.injEq] at hh
 obtain ⟨v', w', Lr', hrun, hR', H'⟩ := hR.append H he t ty i zv bytes ht hi hh.1 hh.2.1 hh.2.2 hzs hsz ⟨p, 0, none⟩ m c news hl (fun j u hu => by
  have hadd : (⟨p, 0, none⟩ : Addr).add j = ⟨p, j, none⟩ := by unfold Addr.add; split <;> simp_all
  rw [hadd]
  exact hn j u hu) h1 h63 hbytes hm
 refine wl_any hw ?_ (h v' w' Lr' hR' H')
 unfold execOp
 simp only [resolve, invoke, builtin, Sem.run_bind, Sem.run_pure, Result.andThen_ok, List.map_toArray, List.map_cons, List.map_nil, hx, hy, hrun]
end
theorem tcl_one : ∀ (l : List Q4) (pl : List (Option Addr × Nat)), ∀ u ∈ tcl l pl, u.oneCell' = true
 | [], _, u, h => by simp [tcl] at h
 | _ :: _, [], u, h => by simp [tcl] at h
 | q :: l, p :: pl, u, h => by
  simp only [tcl, List.mem_cons] at h
  rcases h with rfl | rfl | rfl | rfl | h
  ·rfl
  ·rfl
  ·rfl
  ·rfl
  ·exact tcl_one l pl u h
theorem tcl_snoc : ∀ (l : List Q4) (pl : List (Option Addr × Nat)) (q : Q4) (p : Option Addr × Nat), pl.length = l.length → tcl (l ++ [q]) (pl ++ [p]) = tcl l pl ++ (tmc q.k q.n q.s p.1 q.ps.length p.2).toList
 | [], [], _, _, _ => rfl
 | a :: l, b :: pl, q, p, h => by
  have := tcl_snoc l pl q p (by simpa using h)
  simp only [List.cons_append, tcl, this]
def putL (l : List Q4) (x : Q4) : List Q4 := match l.idxOf? x with | some _ => l | none => l ++ [x]
def putN (l : List Q4) (x : Q4) : Nat := match l.idxOf? x with | some i => i | none => l.length
theorem tcl_cell {w w' : World} {g : Nat} {cur : Array Value} {l : List Q4} {pl : List (Option Addr × Nat)} (hb : Below w.heap.size w w') (hg : Blk w g 31 cur) (hcur : cur.toList.take (l.length * 4) = tcl l pl) (hp : pl.length = l.length) (j : Nat) (u : Value) (hu : (tcl l pl)[j]? = some u) : w'.cell? ⟨g, j, none⟩ = some u := by
 rw [(hg.keep hb).cell j]
 have hj : j < l.length * 4 := by rw [← tcl_len l pl hp]; exact (List.getElem?_eq_some_iff.1 hu).1
 rw [← hcur, List.getElem?_take, if_pos hj] at hu
 simpa using hu
end Go.Proofs.Ytihfeoanognonaa
