/-
  A text's bytes as a slice of one's own.
-/
import Derived.Test.YtpaendmdcdeemaaDoorCuX0
import Derived.Lib.ConvBytes
namespace Go.Proofs.YtpaendmdcdeemaaDoor
open Go.RowKit Num

def bl (s : ByteArray) : List UInt8 := s.data.toList
theorem bl_len (s : ByteArray) : (bl s).length = s.size := by unfold bl; rw [Array.length_toList]; rfl
/-- bytes, and noughts behind them -/
def byC (l : List UInt8) (m : Nat) : Array Value := (cs l ++ List.replicate m (Value.int .u8 0)).toArray
theorem byC_size (l : List UInt8) (m : Nat) : (byC l m).size = l.length + m := by simp [byC, cs]
theorem byC_get (l : List UInt8) (m i : Nat) (hi : i < l.length) : (byC l m)[i]? = some (iN .u8 (l.getD i 0).toNat) := by
  unfold byC
  rw [List.getElem?_toArray, List.getElem?_append_left (by rw [cs_length]; exact hi)]
  simp [cs, iN, List.getElem?_eq_getElem hi]
theorem byC_put (l : List UInt8) (m i x : Nat) (hi : i < l.length) (hx : x < 256) : (byC l m).setIfInBounds i (.int .u8 (x : Int)) = byC (l.set i (UInt8.ofNat x)) m := by
  unfold byC
  rw [List.setIfInBounds_toArray, List.set_append_left _ _ (by rw [cs_length]; exact hi)]
  congr 2
  unfold cs
  rw [List.map_set, UInt8.toNat_ofNat', Nat.mod_eq_of_lt hx]
theorem HA.bytes {w0 w : World} {L : List (Nat × TypeId × Array Value)} (h : HA w0 L w) (s : ByteArray) : ∃ m, HA w0 ((w.heap.size, 5, byC (bl s) m) :: L) (Lib.bytesWorld w 5 s) := by
  have hb : Below w.heap.size w (Lib.bytesWorld w 5 s) := ⟨rfl, rfl, rfl, by rw [Lib.bytesWorld_size]; omega, fun k hk => Lib.bytesWorld_at_old w 5 s k hk⟩
  have h1 := h.keep _ _ hb
  refine ⟨grownCap w s.size 0 5 - s.size, h1.old, fun x hx => ?_, fun x hx => ?_, ?_⟩
  · rcases List.mem_cons.1 hx with rfl | hx
    · have e : Lib.bytesCells w 5 s = byC (bl s) (grownCap w s.size 0 5 - s.size) := by
        unfold Lib.bytesCells byC cs bl
        apply Array.toList_inj.1
        simp
      have hn := Lib.bytesWorld_at_new w 5 s
      rw [e] at hn
      exact ⟨_, hn, .inr (Nat.le_refl _)⟩
    · exact h1.blk x hx
  · rcases List.mem_cons.1 hx with rfl | hx
    · exact h.size
    · exact h1.own x hx
  · rw [List.map_cons, List.nodup_cons]
    refine ⟨fun hm => ?_, h1.nd⟩
    obtain ⟨x, hx, e⟩ := List.mem_map.1 hm
    have := (h.blk x hx).lt
    simp at e
    omega
section
variable {ops : Array Oper} {Q : Exit → Act → World → Prop} {a : Act} {w w0 : World} {L : List (Nat × TypeId × Array Value)} {rest : List Oper} {dst : Option Tmp} {ty : TypeId} {pos : String} {aft : Array Edge} {gd : Option (Nat × Bool)} {x : Operand} {s : ByteArray}
theorem wl_bytes (H : HA w0 L w) (hw : Region.wanted ⟨dst, .convert 9 60 x, ty, pos, aft, gd⟩ (yielded ops a.tmps) = true) (hx : a.eval x = .string s)
    (h : ∀ q cp m w', HA w0 ((q, 5, byC (bl s) m) :: L) w' → WL Tryd.prog ops Q rest (a.put dst (.slice (some ⟨q, 0, none⟩) s.size cp)) w') : WL Tryd.prog ops Q (⟨dst, .convert 9 60 x, ty, pos, aft, gd⟩ :: rest) a w := by
  obtain ⟨m, hm⟩ := H.bytes s
  refine ⟨?_⟩
  unfold wpList
  rw [if_pos hw]
  refine .inl ?_
  unfold Oper.wp
  have e : (execOp a.eval ⟨dst, .convert 9 60 x, ty, pos, aft, gd⟩).run Tryd.prog w = .ok (.value (.slice (some ⟨w.heap.size, 0, none⟩) s.size (grownCap w s.size 0 5))) (Lib.bytesWorld w 5 s) := by
    simp only [execOp, hx, Sem.run_bind, Lib.run_convert_string_bytes w 9 60 5 s Tryd.underlying9 Tryd.underlying60 Tryd.underlying5, Result.andThen_ok, Sem.run_pure]
  rw [e]
  exact (h _ _ _ _ hm).out
end
section
variable {ρ : Operand → Value} {x y : Operand} {w : World} {dst : Option Tmp} {T T2 ty : TypeId} {pos : String} {aft : Array Edge} {gd : Option (Nat × Bool)}
theorem run_byText {q n c m : Nat} {l : List UInt8} (hn : n = l.length) (hx : ρ x = .slice (some ⟨q, 0, none⟩) n c) (h : Blk w q 5 (byC l m)) :
    (execOp ρ ⟨dst, .convert 60 9 x, ty, pos, aft, gd⟩).run Tryd.prog w = .ok (.value (.string ⟨l.toArray⟩)) w := by
  subst hn
  have e := run_convert_bytes_back (P := Tryd.prog) w 60 9 5 ⟨q, 0, none⟩ c l Tryd.underlying60 Tryd.underlying5 Tryd.underlying9 (fun j hj => by
    have hadd : (⟨q, 0, none⟩ : Addr).add j = ⟨q, j, none⟩ := by unfold Addr.add; split <;> simp_all
    rw [hadd, h.cell j, byC_get l m j hj, List.getD_eq_getElem?_getD, List.getElem?_eq_getElem hj]
    rfl)
  simp only [execOp, hx, Sem.run_bind, e, Result.andThen_ok, Sem.run_pure]
theorem run_andnot8 {P : Program} {a b : Nat} (h : ∀ a : Fin 256, bits .andNot .u8 ((a.1 : Nat) : Int) (b : Int) = ((a.1 &&& (255 - b) : Nat) : Int)) (hx : ρ x = iN .u8 a) (hy : ρ y = iN .u8 b) (ha : a < 256) : (execOp ρ ⟨dst, .binOp .andNot T x y T2, ty, pos, aft, gd⟩).run P w = .ok (.value (iN .u8 (a &&& (255 - b)))) w := by
  have h2 := h ⟨a, ha⟩
  simp only [execOp, hx, hy, iN]
  simpa [binOp, go_sem] using h2
theorem an7 : ∀ a : Fin 256, bits .andNot .u8 ((a.1 : Nat) : Int) ((7 : Nat) : Int) = ((a.1 &&& (255 - 7) : Nat) : Int) := by decide +kernel
theorem an128 : ∀ a : Fin 256, bits .andNot .u8 ((a.1 : Nat) : Int) ((128 : Nat) : Int) = ((a.1 &&& (255 - 128) : Nat) : Int) := by decide +kernel
end
theorem u8_lt (u : UInt8) : u.toNat < 256 := UInt8.toNat_lt u
end Go.Proofs.YtpaendmdcdeemaaDoor
