/-
 The rows in order, by pieces: what Pack lays.
-/
import Derived.Test.YtckmlaempffpjaaGreatS15
namespace Go.Proofs.YtckmlaempffpjaaGreat
open Go.RowKit Go.Shelf Go.Proofs.Tryz
def kys (l : List Rw) : List ByteArray := (keyL l).map fun b => ⟨b.toArray⟩
def rowOf (l : List Rw) (k : ByteArray) : Rw := (l.find? fun x => decide (x.k = k)).getD ⟨k, { data := #[] }⟩
def ordR (l : List Rw) : List Rw := (kys l).map (rowOf l)
def pieceR (l : List Rw) (j : Nat) : List Rw := (l.drop (64 * j)).take 64
def packK (l : List Rw) (js : List Nat) : List UInt8 := js.flatMap fun j => frameB (pieceR (ordR l) j) []
def packL (l : List Rw) : List UInt8 := packK l (List.range ((l.length + 63) / 64))
def packB (l : List Rw) : ByteArray := ⟨(packL l).toArray⟩
theorem keyL_len (l : List Rw) : (keyL l).length = l.length := by rw [keyL, List.length_mergeSort, List.length_map]
theorem kys_len (l : List Rw) : (kys l).length = l.length := by rw [kys, List.length_map, keyL_len]
theorem ordR_len (l : List Rw) : (ordR l).length = l.length := by rw [ordR, List.length_map, kys_len]
theorem kys_enc (l : List Rw) : (keyL l).map encStr = scl (kys l) := by
 rw [scl, kys, List.map_map];exact List.map_congr_left fun b _ => rfl
theorem kys_mem {l : List Rw} {k : ByteArray} (h : k ∈ kys l) : ∃ x ∈ l, x.k = k := by
 obtain ⟨b, hb, rfl⟩ := List.mem_map.1 h;obtain ⟨x, hx, rfl⟩ := List.mem_map.1 ((List.mergeSort_perm _ _).mem_iff.1 hb);exact ⟨x, hx, by simp [bl]⟩
theorem key_row {rs : List Re} {nx i : Nat} {k : ByteArray} (hK : RK rs nx) (h : (kys (rws rs))[i]? = some k) : ∃ A f B, rs = A ++ f :: B ∧ f.r.k = k ∧ (∀ g ∈ A, g.r.k ≠ k) ∧ (ordR (rws rs))[i]? = some f.r := by
 obtain ⟨x, hx, hk⟩ := kys_mem (List.mem_of_getElem? h);obtain ⟨f, hf, rfl⟩ := rws_mem.1 hx;obtain ⟨A, f, B, e, hf2, hA, hB⟩ := re_split hK.nms ⟨f, hf, hk⟩;refine ⟨A, f, B, e, hf2, hA, ?_⟩;rw [ordR, List.getElem?_map, h, Option.map_some, rowOf, e, rws_app, rws_cons, List.find?_append, List.find?_eq_none.2 (fun y hy => by
  obtain ⟨g, hg, rfl⟩ := rws_mem.1 hy
  simpa using hA g hg)]
 simp [hf2]
theorem piece_get (l : List Rw) (j k : Nat) (hk : k < 64) : (pieceR l j)[k]? = l[64 * j + k]? := by
 rw [pieceR, List.getElem?_take, if_pos hk, List.getElem?_drop]
theorem piece_len (l : List Rw) (j : Nat) : (pieceR l j).length = min 64 (l.length - 64 * j) := by simp [pieceR]
theorem packK_snoc (l : List Rw) (x : Nat) : packK l (List.range (x + 1)) = packK l (List.range x) ++ frameB (pieceR (ordR l) x) [] := by
 rw [List.range_succ, packK, packK, List.flatMap_append]
 simp
theorem packK_le (l : List Rw) (x : Nat) (hx : x ≤ (l.length + 63) / 64) : (packK l (List.range x)).length ≤ (packL l).length := by
 have h := flat_le (List.range ((l.length + 63) / 64)) x (fun j => frameB (pieceR (ordR l) j) []);rw [List.take_range, Nat.min_eq_left hx] at h;exact h
theorem frameB_len (ps : List Rw) (ds : List ByteArray) : (frameB ps ds).length = 4 + (bodyB ps ds).length := by rw [frameB, List.length_append, Wi.be_length]
section
variable {w : World} {r nx : Nat} {A B : List Re} {f : Re} {s : ByteArray} {ρ : Operand → Value} {x y : Operand} {dst : Option Tmp} {ty : TypeId} {pos : String} {aft : Array Edge} {gd : Option (Nat × Bool)}
theorem run_lookR1 (hb : w.heap[r]? = some (.map (eR (A ++ f :: B)) nx)) (hf : f.r.k = s) (hn : ∀ g ∈ A, g.r.k ≠ s) (hx : ρ x = .map (some r)) (hy : ρ y = .string s) :
  (execOp ρ ⟨dst, .lookup 71 x y false, ty, pos, aft, gd⟩).run prog w = .ok (.value (rwv f.r)) w := by
 have hg : (getObj r).run prog w = .ok (.map (eR (A ++ f :: B)) nx) w := by simp [getObj, Sem.run, hb]
 have hf : (Instr.findKey 9 (.string s) (eR (A ++ f :: B)).toList).run prog w = .ok (some (0 + A.length, rwv f.r)) w := MapKept.run_findKey underlying9 (findNow_R' s f B hf A 0 hn)
 simp [execOp, hx, hy, Instr.lookup, run_underlying underlying71, hg, check_txt, hf]
end
def PkI (w0 : World) (bb : Nat) (LF : BL) (acc : List UInt8) (W : World) : Prop :=
 ∃ p v Lr, BuP bb p ∧ RowB v acc Lr ∧ (acc = [] → v = .slice none 0 0) ∧ HA (bs w0) ((bb, 147, #[p, v]) :: (Lr ++ LF)) W
theorem PkI.own {α : Type} {w0 : World} {bb B : Nat} {LF : BL} (hB : w0.heap.size ≤ B) (acc : List α → List UInt8) : OwnFrom B (fun pre W => PkI w0 bb LF (acc pre) W) := fun _ _ _ _ hs hg hr => by
 obtain ⟨p, v, Lr, h1, h2, h3, H⟩ := hs;exact ⟨p, v, Lr, h1, h2, h3, H.grownO hg (fun r e => ⟨Nat.le_trans hB (hr r e).1, (hr r e).2⟩)⟩
theorem own_false {α : Type} {B : Nat} : OwnFrom B (fun (_ : List α) (_ : World) => False) := fun _ _ _ _ h => h.elim
theorem perm_w (c b : Nat × TypeId × Array Value) (Lp Lr LF : BL) : (c :: b :: (Lp ++ (Lr ++ LF))).Perm (b :: (Lr ++ (c :: (Lp ++ LF)))) := by
 refine (List.Perm.swap b c _).trans (List.Perm.cons _ ?_);exact (List.Perm.cons c (perm_mv Lp Lr LF)).trans (perm_mv [c] Lr (Lp ++ LF))
end Go.Proofs.YtckmlaempffpjaaGreat
