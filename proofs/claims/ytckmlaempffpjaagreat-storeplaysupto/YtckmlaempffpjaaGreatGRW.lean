/-
 Both disks are one: each call of the reference's, told by the program's disk.
-/
import Derived.Test.YtckmlaempffpjaaGreatGRQ
import Derived.Test.YtckmlaempffpjaaGreatGR8
import Derived.Test.YtckmlaempffpjaaGreatGR11
import Derived.Test.YtckmlaempffpjaaGreatGSI
import Derived.Test.YtckmlaempffpjaaGreatWR
import Derived.Laws.Cover1
import Derived.Sort.Walk0
namespace Go.Proofs.YtckmlaempffpjaaGreat
set_option linter.unusedVariables false
open Go.RowKit Go.Proofs.Tryz
def RD (v : Value) (D : DS) (rm : Nat) (N : BL) : Prop :=
 ∃ fs dn lf zs pf cf pz cz, v = .agg (d5 rm pf fs.length cf dn lf pz zs.length cz) ∧ Tw D rm fs dn lf zs ∧ RFL (.slice pf fs.length cf) fs N ∧ RZL (.slice pz zs.length cz) zs N
theorem RD.mono {v : Value} {D : DS} {rm : Nat} {N N' : BL} (h : RD v D rm N) (hs : N ⊆ N') : RD v D rm N' := by
 obtain ⟨fs, dn, lf, zs, pf, cf, pz, cz, h1, h2, h3, h4⟩ := h;exact ⟨fs, dn, lf, zs, pf, cf, pz, cz, h1, h2, h3.mono hs, h4.mono hs⟩
def ROD (w w' : World) (N : BL) (e : Ending) (D : DS) (rm code : Nat) : Prop :=
 ∃ v N', e = .returned (.tuple #[v, i6 code]) ∧ RD v D rm (N' ++ N) ∧ Newer w.heap.size w' N' ∧ Below w.heap.size w w'
theorem RO.rd {w w' : World} {N : BL} {e : Ending} {rm lf code : Nat} {fs : List RF} {dn : Bool} {zs : List Nat} {D : DS} (h : RO w w' N e rm fs dn lf zs code) (hT : Tw D rm fs dn lf zs) : ROD w w' N e D rm code := by
 obtain ⟨pf, cf, pz, cz, N', h1, h2, h3, h4, h5⟩ := h;exact ⟨_, N', h1, ⟨fs, dn, lf, zs, pf, cf, pz, cz, rfl, hT, h2, h3⟩, h4, h5⟩
theorem gate_cases (dn : Bool) (lf : Nat) : (∃ l' d', gateL dn lf = (l', d', false)) ∨ ∃ l', gateL dn lf = (l', false, true) := by
 rcases hg : gateL dn lf with ⟨l', d', g⟩
 cases g with
 | false => exact .inl ⟨l', d', rfl⟩
 | true => exact .inr ⟨l', by rw [gateL_goes hg]⟩
theorem find_cases (fs : List RF) (s : ByteArray) : (∃ i, findR fs s = (i, false)) ∨ ∃ i f, findR fs s = (i, true) ∧ fs[i]? = some f ∧ f.nm = s := by
 rcases hf : findR fs s with ⟨i, b⟩
 cases b with
 | false => exact .inl ⟨i, rfl⟩
 | true =>
  obtain ⟨f, h1, h2⟩ := findR_yes hf;exact .inr ⟨i, f, rfl, h1, h2⟩
section
variable {w : World} {v : Value} {D : DS} {rm U n : Nat} {N : BL}
theorem rAppend (hR : RD v D rm N) (hS : Stand w N) (hb : DB D U n) (hn : n ≤ 1000) (hU : U ≤ 100000000) (s da : ByteArray) (hda : da.size ≤ 1000000000) : Calls prog 33 #[v, .string s, .string da] w fun e w' => ROD w w' N e (AppendD D s da).1 rm (AppendD D s da).2 := by
 obtain ⟨fs, dn, lf, zs, pf, cf, pz, cz, rfl, hT, hF, hZ⟩ := hR;have hfl : fs.length ≤ 1000 := by have := hT.prm.length_eq; have := hb.ct; rw [List.length_map] at *; omega
 have hzl : zs.length ≤ 1000 := by have := hb.sz; rw [hT.sz] at this; omega
 have hlb : lf ≤ 9223372036854775807 := by have := hb.lf; rw [hT.elf] at this; exact this
 have hrm : rm ≤ 9223372036854775807 := by have := hb.rm; rw [hT.free] at this; exact this
 have hsm := hT.room.1
 rcases gate_cases dn lf with ⟨l', d', hg⟩ | ⟨l', hg⟩
 ·have h2 := hT.stops hg (appD (spendD D) s da).1 (appD (spendD D) s da).2.1 (appD (spendD D) s da).2.2;have e : AppendD D s da = (spendD D, 16) := h2.1;rw [e];exact (rapp_g hF hZ hS hfl hzl hlb s da hg).mono fun _ _ h => h.rd h2.2
 ·cases hm : isNm s with
  | false =>
   have h2 := hT.appA (da := da) hg hm;rw [h2.1];exact (rapp_a hF hZ hS hfl hzl hlb s da hg (by rw [isNm_eq] at hm; exact of_decide_eq_false hm)).mono fun _ _ h => h.rd h2.2
  | true =>
   have hm2 : 1 ≤ s.size ∧ s.size ≤ 64 := by rw [isNm_eq] at hm; exact of_decide_eq_true hm
   by_cases hfu : rm - sumB fs fs.length < da.size
   ·have h2 := hT.appF hg hm hfu;rw [h2.1];exact (rapp_f hF hZ hS hfl hzl hlb s da hg hm2 hsm hrm hfu).mono fun _ _ h => h.rd h2.2
   ·rcases find_cases fs s with ⟨i, hf⟩ | ⟨i, f, hf, hi, hfn⟩
    ·obtain ⟨bb, hbb⟩ : ∃ bb, bb = ({ data := #[] } : ByteArray) ++ da := ⟨_, rfl⟩;have h2 := hT.appN hg hm hfu hf hbb;rw [h2.1];exact (rapp_n hF hZ hS hfl hzl hlb s da hg hm2 hsm hrm hfu hf hda hbb).mono fun _ _ h => h.rd h2.2
    ·obtain ⟨bb, hbb⟩ : ∃ bb, bb = f.b ++ da := ⟨_, rfl⟩;have h2 := hT.appY hg hm hfu hf hi hbb;have hfb : f.b.size ≤ 100000000 := by
      have h3 : fa f ∈ D.fs := hT.prm.mem_iff.1 (List.mem_map.2 ⟨f, List.mem_of_getElem? hi, rfl⟩);have h4 := used_mem h3;have h5 := hb.us;have h6 : (fa f).da.length = f.b.size := bl_len _
      omega
     rw [h2.1];exact (rapp_y hF hZ hS hfl hzl hlb s da hg hm2 hsm hrm hfu hf hi hda hfb hbb).mono fun _ _ h => h.rd h2.2
theorem rSync (hR : RD v D rm N) (hS : Stand w N) (hb : DB D U n) (hn : n ≤ 1000) (hU : U ≤ 100000000) (s : ByteArray) : Calls prog 34 #[v, .string s] w fun e w' => ROD w w' N e (SyncD D s).1 rm (SyncD D s).2 := by
 obtain ⟨fs, dn, lf, zs, pf, cf, pz, cz, rfl, hT, hF, hZ⟩ := hR;have hfl : fs.length ≤ 1000 := by have := hT.prm.length_eq; have := hb.ct; rw [List.length_map] at *; omega
 have hzl : zs.length ≤ 1000 := by have := hb.sz; rw [hT.sz] at this; omega
 have hlb : lf ≤ 9223372036854775807 := by have := hb.lf; rw [hT.elf] at this; exact this
 rcases gate_cases dn lf with ⟨l', d', hg⟩ | ⟨l', hg⟩
 ·have h2 := hT.onG (s := s) hg (syncF (spendD D) s) 0;have e : SyncD D s = (spendD D, 16) := h2.1;rw [e];exact (rsync_g hF hZ hS hfl hzl hlb s hg).mono fun _ _ h => h.rd h2.2
 ·rcases find_cases fs s with ⟨i, hf⟩ | ⟨i, f, hf, hi, hfn⟩
  ·have h2 := hT.onN hg hf (syncF (spendD D) s) 0;have e : SyncD D s = (spendD D, 5) := h2.1;rw [e];exact (rsync_n hF hZ hS hfl hzl hlb s hg hf).mono fun _ _ h => h.rd h2.2
  ·have h2 := hT.syncY hg hf hi;rw [h2.1];exact (rsync_y hF hZ hS hfl hzl hlb s hg hf hi).mono fun _ _ h => h.rd h2.2
theorem rRemove (hR : RD v D rm N) (hS : Stand w N) (hb : DB D U n) (hn : n ≤ 1000) (hU : U ≤ 100000000) (s : ByteArray) : Calls prog 88 #[v, .string s] w fun e w' => ROD w w' N e (RemoveD D s).1 rm (RemoveD D s).2 := by
 obtain ⟨fs, dn, lf, zs, pf, cf, pz, cz, rfl, hT, hF, hZ⟩ := hR;have hfl : fs.length ≤ 1000 := by have := hT.prm.length_eq; have := hb.ct; rw [List.length_map] at *; omega
 have hzl : zs.length ≤ 1000 := by have := hb.sz; rw [hT.sz] at this; omega
 have hlb : lf ≤ 9223372036854775807 := by have := hb.lf; rw [hT.elf] at this; exact this
 rcases gate_cases dn lf with ⟨l', d', hg⟩ | ⟨l', hg⟩
 ·have h2 := hT.onG (s := s) hg (remF (spendD D) s) 0;have e : RemoveD D s = (spendD D, 16) := h2.1;rw [e];exact (rrem_g hF hZ hS hfl hzl hlb s hg).mono fun _ _ h => h.rd h2.2
 ·rcases find_cases fs s with ⟨i, hf⟩ | ⟨i, f, hf, hi, hfn⟩
  ·have h2 := hT.onN hg hf (remF (spendD D) s) 0;have e : RemoveD D s = (spendD D, 5) := h2.1;rw [e];exact (rrem_n hF hZ hS hfl hzl hlb s hg hf).mono fun _ _ h => h.rd h2.2
  ·have h2 := hT.remY hg hf;rw [h2.1];exact (rrem_y hF hZ hS hfl hzl hlb s hg hf).mono fun _ _ h => h.rd h2.2
theorem rRename (hR : RD v D rm N) (hS : Stand w N) (hb : DB D U n) (hn : n ≤ 1000) (hU : U ≤ 100000000) (s to : ByteArray) : Calls prog 118 #[v, .string s, .string to] w fun e w' => ROD w w' N e (RenameD D s to).1 rm (RenameD D s to).2 := by
 obtain ⟨fs, dn, lf, zs, pf, cf, pz, cz, rfl, hT, hF, hZ⟩ := hR;have hfl : fs.length ≤ 1000 := by have := hT.prm.length_eq; have := hb.ct; rw [List.length_map] at *; omega
 have hzl : zs.length ≤ 1000 := by have := hb.sz; rw [hT.sz] at this; omega
 have hlb : lf ≤ 9223372036854775807 := by have := hb.lf; rw [hT.elf] at this; exact this
 rcases gate_cases dn lf with ⟨l', d', hg⟩ | ⟨l', hg⟩
 ·have h2 := hT.onG (s := s) hg (renT (spendD D) s to).1 (renT (spendD D) s to).2;have e : RenameD D s to = (spendD D, 16) := h2.1;rw [e];exact (rren_g hF hZ hS hfl hzl hlb s to hg).mono fun _ _ h => h.rd h2.2
 ·rcases find_cases fs s with ⟨i, hf⟩ | ⟨i, f, hf, hi, hfn⟩
  ·have h2 := hT.onN hg hf (renT (spendD D) s to).1 (renT (spendD D) s to).2;have e : RenameD D s to = (spendD D, 5) := h2.1;rw [e];exact (rren_n hF hZ hS hfl hzl hlb s to hg hf).mono fun _ _ h => h.rd h2.2
  ·cases hm : isNm to with
   | false =>
    have h2 := hT.renA hg hf hm;rw [h2.1];exact (rren_a hF hZ hS hfl hzl hlb s to hg hf (by rw [isNm_eq] at hm; exact of_decide_eq_false hm)).mono fun _ _ h => h.rd h2.2
   | true =>
    have h2 := hT.renY hg hf hi hm;rw [h2.1];exact (rren_y hF hZ hS hfl hzl hlb s to hg hf hi (by rw [isNm_eq] at hm; exact of_decide_eq_true hm)).mono fun _ _ h => h.rd h2.2
theorem rArm (hR : RD v D rm N) (hS : Stand w N) (hb : DB D U n) (hn : n ≤ 1000) (hU : U ≤ 100000000) (z : Int) : Calls prog 29 #[v, .int .i64 z] w fun e w' => ROD w w' N e (armD D z).1 rm (armD D z).2 := by
 obtain ⟨fs, dn, lf, zs, pf, cf, pz, cz, rfl, hT, hF, hZ⟩ := hR;have hfl : fs.length ≤ 1000 := by have := hT.prm.length_eq; have := hb.ct; rw [List.length_map] at *; omega
 have hzl : zs.length ≤ 1000 := by have := hb.sz; rw [hT.sz] at this; omega
 have hlb : lf ≤ 9223372036854775807 := by have := hb.lf; rw [hT.elf] at this; exact this
 cases dn with
 | true =>
  have e := hT.armD_d rfl z;rw [e];exact (rarm_d hF hZ hS hfl hzl hlb z).mono fun _ _ h => h.rd hT
 | false =>
  by_cases hz : z < 0
  ·have e := hT.armD_n rfl hz;rw [e];exact (rarm_n hF hZ hS hfl hzl hlb z hz).mono fun _ _ h => h.rd hT
  ·obtain ⟨m, rfl⟩ := Int.eq_ofNat_of_zero_le (Int.not_lt.1 hz);have h2 := hT.armD_y rfl m;rw [h2.1];exact (rarm_y hF hZ hS hfl hzl hlb m (by omega)).mono fun _ _ h => h.rd h2.2
theorem rWake (hR : RD v D rm N) (hS : Stand w N) (hb : DB D U n) (hn : n ≤ 1000) (hU : U ≤ 100000000) {ko : Option Addr} {kc : Nat} (ks : List Int) (hks : ks = [] ∨ ∃ b, ko = some b ∧ ∀ j, j < ks.length → w.cell? (b.add j) = some (.int .i64 (ks.getD j 0))) (hkl : ks.length ≤ 1000000000) (hsy : ∀ x ∈ D.fs, x.sy ≤ x.da.length) :
  Calls prog 30 #[v, .slice ko ks.length kc] w fun e w' => ∃ v' N', e = .returned v' ∧ RD v' (wakeD D ks) rm (N' ++ N) ∧ Newer w.heap.size w' N' ∧ Below w.heap.size w w' := by
 obtain ⟨fs, dn, lf, zs, pf, cf, pz, cz, rfl, hT, hF, hZ⟩ := hR;have hfl : fs.length ≤ 100000 := by have := hT.prm.length_eq; have := hb.ct; rw [List.length_map] at *; omega
 have hin : ∀ f ∈ fs, fa f ∈ D.fs := fun f hf => hT.prm.mem_iff.1 (List.mem_map.2 ⟨f, hf, rfl⟩)
 have hsyn : ∀ f ∈ fs, f.sy ≤ f.b.size := fun f hf => by
  have h1 := hsy _ (hin f hf);have h6 : (fa f).da.length = f.b.size := bl_len _;rw [h6] at h1;exact h1
 have hbig : ∀ f ∈ fs, f.b.size ≤ 1000000000 := fun f hf => by
  have h4 := used_mem (hin f hf);have h5 := hb.us;have h6 : (fa f).da.length = f.b.size := bl_len _
  omega
 refine (rwake_any hF hS hfl ks hks hsyn hbig hkl).mono ?_;rintro e w' ⟨p, c, N', rfl, h2, h3, h4⟩;exact ⟨_, N', rfl, ⟨_, _, _, zs, p, c, pz, cz, rfl, hT.wake ks hsyn, h2.mono (List.subset_append_left ..), hZ.mono (List.subset_append_right ..)⟩, h3, h4⟩
theorem rRead (hR : RD v D rm N) (hS : Stand w N) (hb : DB D U n) (hn : n ≤ 1000) (hU : U ≤ 100000000) (s : ByteArray) : Calls prog 41 #[v, .string s] w fun e w' => e = .returned (.tuple #[.string (readD D s).1, i6 (readD D s).2]) ∧ Below w.heap.size w w' := by
 obtain ⟨fs, dn, lf, zs, pf, cf, pz, cz, rfl, hT, hF, hZ⟩ := hR;have hfl : fs.length ≤ 100000 := by have := hT.prm.length_eq; have := hb.ct; rw [List.length_map] at *; omega
 cases dn with
 | true => rw [hT.readD_d rfl s]; exact rread_d hF hS hfl s
 | false =>
  rcases find_cases fs s with ⟨i, hf⟩ | ⟨i, f, hf, hi, hfn⟩
  ·rw [hT.readD_n rfl hf]; exact rread_n hF hS hfl s hf
  ·rw [hT.readD_y rfl hf hi]; exact rread_y hF hS hfl s hf hi
theorem rSynced (hR : RD v D rm N) (hS : Stand w N) (hb : DB D U n) (hn : n ≤ 1000) (hU : U ≤ 100000000) (s : ByteArray) : Calls prog 43 #[v, .string s] w fun e w' => e = .returned (i6 (synD D s)) ∧ Below w.heap.size w w' := by
 obtain ⟨fs, dn, lf, zs, pf, cf, pz, cz, rfl, hT, hF, hZ⟩ := hR;have hfl : fs.length ≤ 100000 := by have := hT.prm.length_eq; have := hb.ct; rw [List.length_map] at *; omega
 rcases find_cases fs s with ⟨i, hf⟩ | ⟨i, f, hf, hi, hfn⟩
 ·cases dn with
  | true => rw [hT.synD_d rfl s]; exact rsyn_nd hF hS hfl s hf
  | false => rw [hT.synD_n rfl hf]; exact rsyn_n hF hS hfl s hf
 ·cases dn with
  | true => rw [hT.synD_d rfl s]; exact rsyn_d hF hS hfl s hf
  | false => rw [hT.synD_y rfl hf hi]; exact rsyn_y hF hS hfl s hf hi
theorem rList (hR : RD v D rm N) (hS : Stand w N) (hb : DB D U n) (hn : n ≤ 1000) (hU : U ≤ 100000000) (p : ByteArray) : Calls prog 40 #[v, .string p] w fun e w' => ∃ v' N', e = .returned v' ∧ Row 9 1 v' (listD D p).length ((listD D p).map encStr) N' ∧ Newer w.heap.size w' N' ∧ Below w.heap.size w w' := by
 obtain ⟨fs, dn, lf, zs, pf, cf, pz, cz, rfl, hT, hF, hZ⟩ := hR;have hfl : fs.length ≤ 100000 := by have := hT.prm.length_eq; have := hb.ct; rw [List.length_map] at *; omega
 cases dn with
 | true =>
  have e : listD D p = [] := by unfold listD; rw [if_pos hT.edn]
  rw [e];have h0 : Calls prog 40 #[.agg (d5 rm pf fs.length cf true lf pz zs.length cz), .string p] w fun e w' => e = .returned (.slice none 0 0) ∧ Below w.heap.size w w' := by
   rcases Nat.eq_zero_or_pos fs.length with h | h
   ·exact rlist_d0 hF hS hfl p h
   ·exact rlist_d1 hF hS hfl p h
  refine h0.mono ?_;rintro e w' ⟨rfl, hw⟩;exact ⟨_, [], rfl, by simpa using Row.nil 9 1, Newer.nil _ _, hw⟩
 | false =>
  have e : listD D p = (rl fs p fs.length).map bl := by unfold listD; rw [if_neg (by rw [hT.edn]; decide), hT.list p]
  rw [e, List.length_map, List.map_map];have e2 : (encStr ∘ bl : ByteArray → Value) = Value.string := by
   funext x
   exact enc_nm x
  rw [e2];exact rlist_u hF hS hfl p
end
end Go.Proofs.YtckmlaempffpjaaGreat
namespace Go.Proofs.YtckmlaempffpjaaGreat
open Go.RowKit Go.Proofs.Tryz
theorem aadd (a : Addr) (m n : Nat) : (a.add m).add n = a.add (m + n) := Addr.add_add a m n
theorem row_cells {w : World} {a : Addr} {x : Rw} (h0 : w.cell? a = some (.string x.k)) (h1 : w.cell? (a.add 1) = some (.string x.v)) : ∀ j v, (#[.string x.k, .string x.v] : Array Value)[j]? = some v → w.cell? (a.add j) = some v := fun j v hv => by
 match j, hv with
 | 0, hv => cases hv; exact h0
 | 1, hv => cases hv; exact h1
 | n + 2, hv => simp at hv
theorem run_gts {ρ : Operand → Value} {x y : Operand} {w : World} {dst : Option Tmp} {ty : TypeId} {pos : String} {aft : Array Edge} {gd : Option (Nat × Bool)} {s t : ByteArray} (hx : ρ x = .string s) (hy : ρ y = .string t) (b : Bool) (hb : decide (bl t < bl s) = b) : (execOp ρ ⟨dst, .binOp .gtr 9 x y 9, ty, pos, aft, gd⟩).run prog w = .ok (.value (.bool b)) w := by
 subst hb
 simp only [execOp, hx, hy]
 have e1 : s.toList = bl s := ByteArray.toList_eq s;have e2 : t.toList = bl t := ByteArray.toList_eq t;have h : (!(Op.bytesLess s.toList t.toList || s.toList == t.toList)) = decide (bl t < bl s) := by
  rw [bytesLess_eq, e1, e2]
  by_cases h1 : bl t < bl s
  ·have h2 : ¬ bl s < bl t := fun h => List.lt_asymm h h1
   have h3 : ¬ bl s = bl t := fun h => by rw [h] at h1; exact List.lt_irrefl _ h1
   simp [h1, h2, h3]
  ·have h2 : bl s ≤ bl t := List.not_lt.1 h1
   by_cases h3 : bl s = bl t
   ·simp [h3]
   ·have h4 : bl s < bl t := Decidable.byContradiction fun hc => h3 (List.le_antisymm h2 (List.not_lt.1 hc))
    simp [h1, h4]
 simp [go_sem, h]
theorem get_hit {ls : List Rw} {key : ByteArray} {i : Nat} {x : Rw} (h : ∀ j, j < i → ∀ y, ls[j]? = some y → y.k ≠ key) (hx : ls[i]? = some x) (hk : x.k = key) : getR ls key = (x.v, true) := by
 have e : ls = ls.take i ++ x :: ls.drop (i + 1) := by
  obtain ⟨hi, e1⟩ := List.getElem?_eq_some_iff.1 hx;rw [← e1, ← List.drop_eq_getElem_cons hi, List.take_append_drop]
 unfold getR
 rw [e, List.find?_append];have h1 : (ls.take i).find? (fun y => decide (y.k = key)) = none := List.find?_eq_none.2 fun y hy => by
  obtain ⟨j, hj, e2⟩ := List.mem_iff_getElem.1 hy;rw [List.length_take] at hj;have := h j (by omega) y (by rw [← e2, List.getElem_take]; exact List.getElem?_eq_getElem _)
  simpa using this
 rw [h1]
 simp [hk]
theorem get_miss {ls : List Rw} {key : ByteArray} (h : ∀ j, j < ls.length → ∀ y, ls[j]? = some y → y.k ≠ key) : getR ls key = ({ data := #[] }, false) := by
 unfold getR
 rw [List.find?_eq_none.2 fun y hy => by
  obtain ⟨j, hj, e2⟩ := List.mem_iff_getElem.1 hy;have := h j hj y (by rw [← e2]; exact List.getElem?_eq_getElem _)
  simpa using this]
theorem take_one {α : Type} {ls : List α} {k : Nat} {x : α} (hx : ls[k]? = some x) : ls.take (k + 1) = ls.take k ++ [x] := by
 rw [List.take_add_one, hx]; rfl
theorem drop_take {ls : List Rw} {key : ByteArray} {k : Nat} {x : Rw} (hx : ls[k]? = some x) : dropR (ls.take (k + 1)) key = dropR (ls.take k) key ++ (if x.k ≠ key then [x] else []) := by
 rw [take_one hx]
 unfold dropR
 rw [List.filter_append]
 congr 1
 by_cases h : x.k = key <;> simp [h]
def stpO (x : Rw) (r : List Rw × Bool) (y : Rw) : List Rw × Bool := if r.2 = false ∧ bl x.k < bl y.k then (r.1 ++ [x] ++ [y], true) else (r.1 ++ [y], r.2)
def rowO (x : Rw) (l : List Rw) : List Rw × Bool := l.foldl (stpO x) ([], false)
def insO (l : List Rw) (x : Rw) : List Rw := if (rowO x l).2 = true then (rowO x l).1 else (rowO x l).1 ++ [x]
def withO (l : List Rw) (x : Rw) : List Rw := insO (dropR l x.k) x
def chgO (l : List Rw) (ps : List Rw) (ds : List ByteArray) : List Rw := ds.foldl dropR (ps.foldl withO l)
theorem rowO_take {l : List Rw} {x y : Rw} {k : Nat} (hy : l[k]? = some y) : rowO x (l.take (k + 1)) = stpO x (rowO x (l.take k)) y := by
 rw [take_one hy, rowO, List.foldl_append]; rfl
theorem rowO_len (x : Rw) (l : List Rw) : (rowO x l).1.length ≤ l.length + 1 ∧ ((rowO x l).2 = false → (rowO x l).1.length = l.length) := by
 have key : ∀ (l : List Rw) (r : List Rw × Bool) (n : Nat), r.1.length ≤ n + 1 → (r.2 = false → r.1.length = n) → (l.foldl (stpO x) r).1.length ≤ n + l.length + 1 ∧ ((l.foldl (stpO x) r).2 = false → (l.foldl (stpO x) r).1.length = n + l.length) := by
  intro l
  induction l with
  | nil => intro r n h1 h2; exact ⟨h1, h2⟩
  | cons y l ih =>
   intro r n h1 h2;rw [List.foldl_cons];have a1 : (stpO x r y).1.length ≤ n + 1 + 1 := by
    unfold stpO
    split
    ·rename_i hc
     have := h2 hc.1
     simp only [List.length_append, List.length_singleton]
     omega
    ·simp only [List.length_append, List.length_singleton]
     omega
   have a2 : (stpO x r y).2 = false → (stpO x r y).1.length = n + 1 := by
    unfold stpO
    split
    ·intro h; cases h
    ·intro h;have := h2 h
     simp only [List.length_append, List.length_singleton]
     omega
   have := ih (stpO x r y) (n + 1) a1 a2;rw [List.length_cons];refine ⟨by have := this.1; omega, fun h => by have := this.2 h; omega⟩
 have := key l ([], false) 0 (by simp) (by simp)
 simpa [rowO] using this
end Go.Proofs.YtckmlaempffpjaaGreat
