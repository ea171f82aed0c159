/-
  Copies of maps; a row appended that stands elsewhere.
-/
import Derived.Test.YtoogiblkommdfaaGreatGE
import Derived.Laws.Externs
import Derived.MapKept
namespace Go.Proofs.YtoogiblkommdfaaGreat
open Go.RowKit

section
variable {ops : Array Oper} {Q : Exit → Act → World → Prop} {a : Act} {rest : List Oper} {w : World} {z : Base} {Lr L : BL} {dst : Option Tmp} {ty : TypeId} {pos : String} {aft : Array Edge} {gd : Option (Nat × Bool)}
/-- append of a row that stands elsewhere -/
theorem wl_appendR {e t : TypeId} {sz n m c p : Nat} {v : Value} {xs news : List Value} {x y : Operand} (hR : Row e sz v n xs Lr) (H : HA z (Lr ++ L) w) (he : e ≠ 5) (zv : Value) (bytes : Nat)
    (ht : Tryz.prog.underlying t = some (.slice e)) (hi : (Tryz.prog.info? e).map (fun i => (i.zero, i.size, i.bytes)) = some (some zv, sz, bytes)) (hzs : zv.cells.size = sz) (hsz : 0 < sz)
    (hw : Region.wanted ⟨dst, .call { callee := .builtin .append, args := #[x, y], argTypes := #[t, t] }, ty, pos, aft, gd⟩ (yielded ops a.tmps) = true)
    (hx : a.eval x = v) (hy : a.eval y = .slice (some ⟨p, 0, none⟩) m c) (hl : news.length = m * sz) (hn : ∀ j u, news[j]? = some u → w.cell? ⟨p, j, none⟩ = some u) (h1 : ∀ u ∈ news, u.oneCell' = true) (h63 : n + m ≤ maxLen) (hbytes : (n + m) * bytes ≤ 140737488355328) (hm : 0 < m)
    (h : ∀ v' w' Lr', Row e sz v' (n + m) (xs ++ news) Lr' → HA z (Lr' ++ L) w' → WL Tryz.prog ops Q rest (a.put dst v') w') :
    WL Tryz.prog ops Q (⟨dst, .call { callee := .builtin .append, args := #[x, y], argTypes := #[t, t] }, ty, pos, aft, gd⟩ :: rest) a w := by
  obtain ⟨i, hi, hh⟩ := Option.map_eq_some_iff.1 hi
  simp only [Prod.mk.injEq] at hh
  obtain ⟨v', w', Lr', hrun, hR', H'⟩ := hR.append H he t ty i zv bytes ht hi hh.1 hh.2.1 hh.2.2 hzs hsz ⟨p, 0, none⟩ m c news hl (fun j u hu => by
    have hadd : (⟨p, 0, none⟩ : Addr).add j = ⟨p, j, none⟩ := by unfold Addr.add; split <;> simp_all
    rw [hadd]
    exact hn j u hu) h1 h63 hbytes hm
  refine wl_any hw ?_ (h v' w' Lr' hR' H')
  unfold execOp
  simp only [resolve, invoke, builtin, Sem.run_bind, Sem.run_pure, Result.andThen_ok, List.map_toArray, List.map_cons, List.map_nil, hx, hy, hrun]
end
theorem run_clone68 {a : Act} {x : Operand} {w : World} {dst : Option Tmp} {ty T : TypeId} {ats : Array TypeId} {pos : String} {aft : Array Edge} {gd : Option (Nat × Bool)} {b : Nat} {es : Array MapEntry} {clock : Nat} (hx : a.eval x = .iface T (.map (some b))) (hb : w.heap[b]? = some (.map es clock)) :
    (execOp a.eval ⟨dst, .call { callee := .value (.func 381), args := #[x], argTypes := ats }, ty, pos, aft, gd⟩).run Tryz.prog w = .ok (.value (.iface T (.map (some w.heap.size)))) (w.alloc (.map es clock)) := by
  have e : Extern.MapsClone.clone #[.iface T (.map (some b))] = (getObj b >>= fun o => match o with
      | .map entries clock => (newObj (.map entries clock) >>= fun n => pure (.iface T (.map (some n))))
      | _ => stuck "maps.clone: a map expected") := rfl
  have hrun : (Extern.MapsClone.clone #[.iface T (.map (some b))]).run Tryz.prog w = .ok (.iface T (.map (some w.heap.size))) (w.alloc (.map es clock)) := by
    rw [e]
    simp [MapKept.run_getObj_map hb, Result.andThen, go_sem]
  rw [execOp_call_go, show (#[] ++ (#[x] : Array Operand).map a.eval ++ #[] : Array Value) = #[a.eval x] by simp, hx, run_callFunc_extern Tryz.func381 ky ky ky (e := Extern.MapsClone.clone) ky, hrun]
  rfl
theorem run_asMap71 {ρ : Operand → Value} {x : Operand} {w : World} {dst : Option Tmp} {ty : TypeId} {pos : String} {aft : Array Edge} {gd : Option (Nat × Bool)} {v : Value} (hx : ρ x = .iface 142 v) : (execOp ρ ⟨dst, .typeAssert x 20 142 false, ty, pos, aft, gd⟩).run Tryz.prog w = .ok (.value v) w := by
  simp only [execOp, hx]
  simp [Instr.typeAssert, Tryz.underlying142, run_underlying, go_sem, Result.andThen]
theorem run_asMap72 {ρ : Operand → Value} {x : Operand} {w : World} {dst : Option Tmp} {ty : TypeId} {pos : String} {aft : Array Edge} {gd : Option (Nat × Bool)} {v : Value} (hx : ρ x = .iface 143 v) : (execOp ρ ⟨dst, .typeAssert x 20 143 false, ty, pos, aft, gd⟩).run Tryz.prog w = .ok (.value v) w := by
  simp only [execOp, hx]
  simp [Instr.typeAssert, Tryz.underlying143, run_underlying, go_sem, Result.andThen]
theorem ev_one (e : Ent) : (ev e).oneCell' = true := by cases e <;> rfl
end Go.Proofs.YtoogiblkommdfaaGreat
