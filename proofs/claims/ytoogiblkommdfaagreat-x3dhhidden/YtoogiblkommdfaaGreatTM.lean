/-
  The model of a table: what lies in memory.
-/
import Derived.Test.YtoogiblkommdfaaGreatTC
import Derived.WalkKit
import Derived.WalkSpells
namespace Go.Proofs.YtoogiblkommdfaaGreat
open Go.RowKit

inductive Ent where
  | nm (n : Nat)
  | dt (s : ByteArray)
  | mk (k n : Nat) (s : ByteArray) (ps : List Nat) (b : Nat)
def intc (ps : List Nat) : Array Value := (ps.map (iN .i64 ·)).toArray
theorem intc_size (ps : List Nat) : (intc ps).size = ps.length := by simp [intc]
theorem intc_get (ps : List Nat) (i : Nat) (h : i < ps.length) : (intc ps)[i]? = some (iN .i64 (ps.getD i 0)) := by
  simp [intc, h]
theorem one_intc (ps : List Nat) : (intc ps).all (·.oneCell') = true := all_oneCell_toArray fun v hv => by
  obtain ⟨u, _, rfl⟩ := List.mem_map.1 hv
  rfl
def slv (b n : Nat) : Value := .slice (some ⟨b, 0, none⟩) n n
def mkv (k n : Nat) (s : ByteArray) (b m : Nat) : Value := .agg #[iN .i64 k, iN .i64 n, .string s, slv b m]
def ev : Ent → Value
  | .nm n => .iface 185 (.agg #[iN .i64 n])
  | .dt s => .iface 187 (.agg #[.string s])
  | .mk k n s ps b => .iface 190 (mkv k n s b ps.length)
def pb : Ent → List (Nat × TypeId × Array Value)
  | .mk _ _ _ ps b => [(b, 3, intc ps)]
  | _ => []
def PB (es : List Ent) : List (Nat × TypeId × Array Value) := es.flatMap pb
theorem PB_snoc (es : List Ent) (e : Ent) : PB (es ++ [e]) = PB es ++ pb e := by simp [PB]
def nms : List Ent → Nat
  | [] => 0
  | .nm _ :: l => nms l + 1
  | _ :: l => nms l
def dts : List Ent → Nat → List (ByteArray × Nat)
  | [], _ => []
  | .dt s :: l, i => (s, i) :: dts l (i + 1)
  | _ :: l, i => dts l (i + 1)
/-- numbers, each in four bytes -/
def laidL (ps : List Nat) : List UInt8 := ps.flatMap fun p => p4 ByteArray.empty p
def laid (ps : List Nat) : ByteArray := ⟨(laidL ps).toArray⟩
def recOf (k n : Nat) (s : ByteArray) (ps : List Nat) : Rec := ⟨k, n, s, laid ps⟩
def mks : List Ent → Nat → List (Rec × Nat)
  | [], _ => []
  | .mk k n s ps _ :: l, i => (recOf k n s ps, i) :: mks l (i + 1)
  | _ :: l, i => mks l (i + 1)
theorem nms_snoc : ∀ (l : List Ent) (e : Ent), nms (l ++ [e]) = nms l + nms [e]
  | [], e => by simp [nms]
  | x :: l, e => by
    have := nms_snoc l e
    cases x <;> simp only [List.cons_append, nms] at this ⊢ <;> omega
theorem dts_snoc : ∀ (l : List Ent) (e : Ent) (i : Nat), dts (l ++ [e]) i = dts l i ++ dts [e] (i + l.length)
  | [], e, i => by simp [dts]
  | x :: l, e, i => by
    have := dts_snoc l e (i + 1)
    have h2 : i + 1 + l.length = i + (l.length + 1) := by omega
    rw [h2] at this
    cases x <;> simp only [List.cons_append, dts, List.length_cons] <;> rw [this]
theorem mks_snoc : ∀ (l : List Ent) (e : Ent) (i : Nat), mks (l ++ [e]) i = mks l i ++ mks [e] (i + l.length)
  | [], e, i => by simp [mks]
  | x :: l, e, i => by
    have := mks_snoc l e (i + 1)
    have h2 : i + 1 + l.length = i + (l.length + 1) := by omega
    rw [h2] at this
    cases x <;> simp only [List.cons_append, mks, List.length_cons] <;> rw [this]
/-- where a table lies -/
structure Tb where
  q : Nat
  mb : Nat
  mm : Nat
def eB (es : List Ent) : Array MapEntry := entA (txtK (dts es 0))
def eM (es : List Ent) : Array MapEntry := entA (recK (mks es 0))
def zb (w0 : World) (M : List (Nat × Array MapEntry × Nat)) (t : Tb) (es : List Ent) : Base :=
  ⟨w0, (t.mb, eB es, (dts es 0).length) :: (t.mm, eM es, (mks es 0).length) :: M⟩
def tcell (t : Tb) (n : Nat) (v : Value) : Array Value := #[v, iN .i64 n, .map (some t.mb), .map (some t.mm)]
/-- a table, and what is one's own beside it -/
def TH (w0 : World) (M : List (Nat × Array MapEntry × Nat)) (t : Tb) (es : List Ent) (L : List (Nat × TypeId × Array Value)) (w : World) : Prop :=
  ∃ v Lr, Row 150 1 v es.length (es.map ev) Lr ∧ HA (zb w0 M t es) ((t.q, 145, tcell t (nms es) v) :: (Lr ++ (PB es ++ L))) w
/-- a table that is only read -/
structure TV (w : World) (t : Tb) (es : List Ent) : Prop where
  row : ∃ v, Blk w t.q 145 (tcell t (nms es) v) ∧ ((es = [] ∧ v = .slice none 0 0) ∨ ∃ g cap cur, v = .slice (some ⟨g, 0, none⟩) es.length cap ∧ Blk w g 150 cur ∧ cur.toList.take es.length = es.map ev)
  pbs : ∀ x ∈ PB es, Blk w x.1 x.2.1 x.2.2
  mb : w.heap[t.mb]? = some (.map (eB es) (dts es 0).length)
  mm : w.heap[t.mm]? = some (.map (eM es) (mks es 0).length)
theorem TV.keep {w w' : World} {t : Tb} {es : List Ent} (h : TV w t es) (hb : Below w.heap.size w w') : TV w' t es := by
  obtain ⟨v, h1, h2⟩ := h.row
  refine ⟨⟨v, h1.keep hb, ?_⟩, fun x hx => (h.pbs x hx).keep hb, (hb.block _ (lt_of_block h.mb)).trans h.mb, (hb.block _ (lt_of_block h.mm)).trans h.mm⟩
  rcases h2 with h2 | ⟨g, cap, cur, a, b, c⟩
  · exact .inl h2
  · exact .inr ⟨g, cap, cur, a, b.keep hb, c⟩
theorem TH.view {w0 : World} {M : List (Nat × Array MapEntry × Nat)} {t : Tb} {es : List Ent} {L : List (Nat × TypeId × Array Value)} {w : World} (h : TH w0 M t es L w) : TV w t es := by
  obtain ⟨v, Lr, hR, H⟩ := h
  refine ⟨⟨v, H.get 0 rfl, ?_⟩, fun x hx => H.blk x (by simp [hx]), H.old.maps _ (List.mem_cons_self ..), H.old.maps _ (List.mem_cons_of_mem _ (List.mem_cons_self ..))⟩
  rcases hR.2 with ⟨h1, h2, h3⟩ | ⟨g, cap, cur, h1, h2, h3, h4, h5, h6⟩
  · exact .inl ⟨List.length_eq_zero_iff.1 h2, h1⟩
  · refine .inr ⟨g, cap, cur, h1, H.blk (g, 150, cur) (by simp [h2]), by simpa using h6⟩
end Go.Proofs.YtoogiblkommdfaaGreat
