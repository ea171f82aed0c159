/-
  Both disks are one: what the program's operations answer.
-/
import Derived.Test.YtjedhnjjgmbcbaaRT
namespace Go.Proofs.Ytjedhnjjgmbcbaa
open Go.RowKit

section
variable {D : DS} {rm lf l' : Nat} {fs : List RF} {dn d' : Bool} {zs : List Nat} (h : Tw D rm fs dn lf zs)
include h
theorem Tw.stops (hg : gateL dn lf = (l', d', false)) (D2 : DS) (put er : Nat) : opD D D2 put er = (spendD D, 16) ∧ Tw (spendD D) rm fs d' l' zs := by
  obtain ⟨h1, h2⟩ := h.gate hg
  have hd : d' = true := by
    cases d' with
    | true => rfl
    | false => exact absurd h2 (by decide)
  exact ⟨by unfold opD; rw [if_pos (h1.edn.trans hd)], h1⟩
theorem Tw.goes (hg : gateL dn lf = (l', false, true)) (D2 : DS) (put er : Nat) : opD D D2 put er = (if er = 0 then ({ D2 with sizes := D2.sizes ++ [put] }, 0) else (D2, er)) ∧ Tw (spendD D) rm fs false l' zs := by
  obtain ⟨h1, _⟩ := h.gate hg
  exact ⟨by unfold opD; rw [if_neg (by rw [h1.edn]; decide)], h1⟩
theorem Tw.remY {s : ByteArray} {i : Nat} (hg : gateL dn lf = (l', false, true)) (hf : findR fs s = (i, true)) : (RemoveD D s).2 = 0 ∧ Tw (RemoveD D s).1 rm (woR fs s fs.length) false l' (zs ++ [0]) := by
  have h1 := (h.goes hg (onD (spendD D) (remF (spendD D) s) s 0).1 (onD (spendD D) (remF (spendD D) s) s 0).2.1 (onD (spendD D) (remF (spendD D) s) s 0).2.2)
  have e : onD (spendD D) (remF (spendD D) s) s 0 = (remF (spendD D) s, 0, 0) := by unfold onD; rw [if_pos (h1.2.isIn hf)]
  unfold RemoveD OnD
  rw [h1.1, e]
  exact ⟨rfl, (h1.2.rem s).told⟩
theorem Tw.syncY {s : ByteArray} {i : Nat} {f : RF} (hg : gateL dn lf = (l', false, true)) (hf : findR fs s = (i, true)) (hi : fs[i]? = some f) : (SyncD D s).2 = 0 ∧ Tw (SyncD D s).1 rm (withR fs ⟨f.nm, f.b, f.b.size⟩) false l' (zs ++ [0]) := by
  have h1 := (h.goes hg (onD (spendD D) (syncF (spendD D) s) s 0).1 (onD (spendD D) (syncF (spendD D) s) s 0).2.1 (onD (spendD D) (syncF (spendD D) s) s 0).2.2)
  have e : onD (spendD D) (syncF (spendD D) s) s 0 = (syncF (spendD D) s, 0, 0) := by unfold onD; rw [if_pos (h1.2.isIn hf)]
  unfold SyncD OnD
  rw [h1.1, e]
  exact ⟨rfl, (h1.2.sync hf hi).told⟩
/-- a name that is not there -/
theorem Tw.onN {s : ByteArray} {i : Nat} (hg : gateL dn lf = (l', false, true)) (hf : findR fs s = (i, false)) (D2 : DS) (er : Nat) : OnD D D2 s er = (spendD D, 5) ∧ Tw (spendD D) rm fs false l' zs := by
  have h1 := (h.goes hg (onD (spendD D) D2 s er).1 (onD (spendD D) D2 s er).2.1 (onD (spendD D) D2 s er).2.2)
  have e : onD (spendD D) D2 s er = (spendD D, 0, 5) := by unfold onD; rw [if_neg (h1.2.notIn hf)]
  unfold OnD
  rw [h1.1, e]
  exact ⟨rfl, h1.2⟩
theorem Tw.onG {s : ByteArray} (hg : gateL dn lf = (l', d', false)) (D2 : DS) (er : Nat) : OnD D D2 s er = (spendD D, 16) ∧ Tw (spendD D) rm fs d' l' zs := h.stops hg _ _ _
theorem Tw.renA {a b : ByteArray} {i : Nat} (hg : gateL dn lf = (l', false, true)) (hf : findR fs a = (i, true)) (hn : isNm b = false) : RenameD D a b = (spendD D, 2) ∧ Tw (spendD D) rm fs false l' zs := by
  have h1 := (h.goes hg (onD (spendD D) (renT (spendD D) a b).1 a (renT (spendD D) a b).2).1 (onD (spendD D) (renT (spendD D) a b).1 a (renT (spendD D) a b).2).2.1 (onD (spendD D) (renT (spendD D) a b).1 a (renT (spendD D) a b).2).2.2)
  have e : onD (spendD D) (renT (spendD D) a b).1 a (renT (spendD D) a b).2 = (spendD D, 0, 2) := by unfold onD renT; rw [if_pos (h1.2.isIn hf), if_pos hn]
  unfold RenameD OnD
  rw [h1.1, e]
  exact ⟨rfl, h1.2⟩
theorem Tw.renY {a b : ByteArray} {i : Nat} {f : RF} (hg : gateL dn lf = (l', false, true)) (hf : findR fs a = (i, true)) (hi : fs[i]? = some f) (hn : isNm b = true) : (RenameD D a b).2 = 0 ∧ Tw (RenameD D a b).1 rm (withR (woR fs a fs.length) ⟨b, f.b, f.sy⟩) false l' (zs ++ [0]) := by
  have h1 := (h.goes hg (onD (spendD D) (renT (spendD D) a b).1 a (renT (spendD D) a b).2).1 (onD (spendD D) (renT (spendD D) a b).1 a (renT (spendD D) a b).2).2.1 (onD (spendD D) (renT (spendD D) a b).1 a (renT (spendD D) a b).2).2.2)
  have e : onD (spendD D) (renT (spendD D) a b).1 a (renT (spendD D) a b).2 = ((renT (spendD D) a b).1, 0, (renT (spendD D) a b).2) := by unfold onD; rw [if_pos (h1.2.isIn hf)]
  unfold RenameD OnD
  rw [h1.1, e]
  by_cases hab : a = b
  · have er : renT (spendD D) a b = (spendD D, 0) := by unfold renT; rw [if_neg (by rw [hn]; decide), if_pos hab]
    rw [er]
    subst hab
    exact ⟨rfl, (h1.2.renSame hf hi).told⟩
  · have er : renT (spendD D) a b = (renF (spendD D) a b, 0) := by unfold renT; rw [if_neg (by rw [hn]; decide), if_neg hab]
    rw [er]
    exact ⟨rfl, (h1.2.ren hf hi hab).told⟩
theorem Tw.appA {s da : ByteArray} (hg : gateL dn lf = (l', false, true)) (hn : isNm s = false) : AppendD D s da = (spendD D, 2) ∧ Tw (spendD D) rm fs false l' zs := by
  have h1 := h.goes hg (appD (spendD D) s da).1 (appD (spendD D) s da).2.1 (appD (spendD D) s da).2.2
  have e : appD (spendD D) s da = (spendD D, 0, 2) := by unfold appD; rw [if_pos hn]
  unfold AppendD
  rw [h1.1, e]
  exact ⟨rfl, h1.2⟩
theorem Tw.appF {s da : ByteArray} (hg : gateL dn lf = (l', false, true)) (hn : isNm s = true) (hf : rm - sumB fs fs.length < da.size) : AppendD D s da = (spendD D, 7) ∧ Tw (spendD D) rm fs false l' zs := by
  have h1 := h.goes hg (appD (spendD D) s da).1 (appD (spendD D) s da).2.1 (appD (spendD D) s da).2.2
  have hr := h1.2.room.2
  have e : appD (spendD D) s da = (spendD D, 0, 7) := by unfold appD; rw [if_neg (by rw [hn]; decide), if_pos (by omega)]
  unfold AppendD
  rw [h1.1, e]
  exact ⟨rfl, h1.2⟩
theorem Tw.appN {s da bb : ByteArray} {i : Nat} (hg : gateL dn lf = (l', false, true)) (hn : isNm s = true) (hf : ¬ rm - sumB fs fs.length < da.size) (hr : findR fs s = (i, false)) (hbb : bb = { data := #[] } ++ da) : (AppendD D s da).2 = 0 ∧ Tw (AppendD D s da).1 rm (withR fs ⟨s, bb, 0⟩) false l' (zs ++ [da.size]) := by
  have h1 := h.goes hg (appD (spendD D) s da).1 (appD (spendD D) s da).2.1 (appD (spendD D) s da).2.2
  have hro := h1.2.room.2
  have e : appD (spendD D) s da = ({ spendD D with fs := updF (mkF (spendD D).fs s) s (fun x => { x with da := x.da ++ bl da }), free := (spendD D).free - da.size }, da.size, 0) := by unfold appD; rw [if_neg (by rw [hn]; decide), if_neg (by omega)]
  unfold AppendD
  rw [h1.1, e]
  exact ⟨rfl, (h1.2.appNew hr (by omega) hbb).told⟩
theorem Tw.appY {s da bb : ByteArray} {i : Nat} {f : RF} (hg : gateL dn lf = (l', false, true)) (hn : isNm s = true) (hf : ¬ rm - sumB fs fs.length < da.size) (hr : findR fs s = (i, true)) (hi : fs[i]? = some f) (hbb : bb = f.b ++ da) : (AppendD D s da).2 = 0 ∧ Tw (AppendD D s da).1 rm (withR fs ⟨f.nm, bb, f.sy⟩) false l' (zs ++ [da.size]) := by
  have h1 := h.goes hg (appD (spendD D) s da).1 (appD (spendD D) s da).2.1 (appD (spendD D) s da).2.2
  have hro := h1.2.room.2
  have e : appD (spendD D) s da = ({ spendD D with fs := updF (mkF (spendD D).fs s) s (fun x => { x with da := x.da ++ bl da }), free := (spendD D).free - da.size }, da.size, 0) := by unfold appD; rw [if_neg (by rw [hn]; decide), if_neg (by omega)]
  unfold AppendD
  rw [h1.1, e]
  exact ⟨rfl, (h1.2.appOld hr hi (by omega) hbb).told⟩
end
end Go.Proofs.Ytjedhnjjgmbcbaa
