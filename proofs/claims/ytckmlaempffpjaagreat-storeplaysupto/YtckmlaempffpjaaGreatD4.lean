/-
 made, drop, lose.
-/
import Derived.Test.YtckmlaempffpjaaGreatGD2
namespace Go.Proofs.YtckmlaempffpjaaGreat
set_option linter.unusedVariables false
set_option maxRecDepth 100000
set_option maxHeartbeats 2000000
open Go.RowKit Go.Proofs.Tryz
theorem HA.newfile {z : Base} {q : Nat × TypeId × Array Value} {Lr L : BL} {fl : List Fl} {g : Fl} {w : World} (h : HA z ((g.p, 109, fcell g.v g.sy) :: q :: (Lr ++ (FB fl ++ L))) w) (hg : g.Lr = []) : HA z (q :: (Lr ++ (FB (fl ++ [g]) ++ L))) w := by
 refine h.perm ?_;rw [FB_app];have e : FB [g] = [(g.p, 109, fcell g.v g.sy)] := by simp [FB, fb, hg]
 rw [e];have h1 := perm_mv [(g.p, 109, fcell g.v g.sy)] (q :: (Lr ++ FB fl)) L
 simpa [List.append_assoc] using h1
def mkF (fs : List FA) (nm : ByteArray) : List FA := if ∃ x ∈ fs, x.nm = nm then fs else fs ++ [⟨nm, [], 0⟩]
def updF (fs : List FA) (nm : ByteArray) (g : FA → FA) : List FA := fs.map fun x => if x.nm = nm then g x else x
def delF (fs : List FA) (nm : ByteArray) : List FA := fs.filter fun x => decide (x.nm ≠ nm)
section
variable {A B : List Fl} {f : Fl} {nx : Nat}
theorem FK.apartA (h : FK (A ++ f :: B) nx) : ∀ g ∈ A, g.nm ≠ f.nm := fun g hg e => by
 have := h.nms;rw [List.map_append, List.nodup_append] at this;exact this.2.2 g.nm (List.mem_map.2 ⟨g, hg, rfl⟩) f.nm (by simp) e
theorem FK.apartB (h : FK (A ++ f :: B) nx) : ∀ g ∈ B, g.nm ≠ f.nm := fun g hg e => by
 have := h.nms;rw [List.map_append, List.nodup_append] at this;have h2 := this.2.1;rw [List.map_cons, List.nodup_cons] at h2;exact h2.1 (List.mem_map.2 ⟨g, hg, e⟩)
theorem upd_at (h : FK (A ++ f :: B) nx) (g : Fl) (u : FA → FA) (hg : ab g = u (ab f)) : (A ++ g :: B).map ab = updF ((A ++ f :: B).map ab) f.nm u := by
 have hA := h.apartA;have hB := h.apartB;have e : ∀ l : List Fl, (∀ x ∈ l, x.nm ≠ f.nm) → updF (l.map ab) f.nm u = l.map ab := fun l hl => by
  unfold updF
  rw [List.map_map];exact List.map_congr_left fun x hx => if_neg (hl x hx)
 have e2 : updF ((A ++ f :: B).map ab) f.nm u = updF (A.map ab) f.nm u ++ (u (ab f) :: updF (B.map ab) f.nm u) := by
  simp [updF, ab]
 rw [e2, e A hA, e B hB]
 simp [hg]
theorem del_at (h : FK (A ++ f :: B) nx) : (A ++ B).map ab = delF ((A ++ f :: B).map ab) f.nm := by
 have hA := h.apartA;have hB := h.apartB;have e : ∀ l : List Fl, (∀ x ∈ l, x.nm ≠ f.nm) → delF (l.map ab) f.nm = l.map ab := fun l hl => by
  unfold delF
  refine List.filter_eq_self.2 fun x hx => ?_
  obtain ⟨y, hy, rfl⟩ := List.mem_map.1 hx;exact decide_eq_true (hl y hy)
 have e2 : delF ((A ++ f :: B).map ab) f.nm = delF (A.map ab) f.nm ++ delF (B.map ab) f.nm := by
  simp [delF, ab]
 rw [e2, e A hA, e B hB, List.map_append]
end
theorem made_yes {w0 : World} {M : ML} {q r fr lf nx : Nat} {dn : Bool} {v : Value} {Lr L : BL} {w : World} {A B : List Fl} {f : Fl} {s : ByteArray} (hK : FK (A ++ f :: B) nx) (hf : f.nm = s) (H0 : HA ⟨w0, (r, .mp (eF (A ++ f :: B)) nx) :: M⟩ ((q, 78, dcell r fr lf dn v) :: (Lr ++ (FB (A ++ f :: B) ++ L))) w) :
  Calls prog 65 #[pt q, .string s] w fun e w' => ∃ A' f' B' nx', e = .returned (pt f'.p) ∧ f'.nm = s ∧ FK (A' ++ f' :: B') nx' ∧ (A' ++ f' :: B').map ab = mkF ((A ++ f :: B).map ab) s ∧ HA ⟨w0, (r, .mp (eF (A' ++ f' :: B')) nx') :: M⟩ ((q, 78, dcell r fr lf dn v) :: (Lr ++ (FB (A' ++ f' :: B') ++ L))) w' := by
 go_enter Tryz.func65, Tryz.ntmps65
 refine zsr (zv (znt (zsr (zv (zv (zv ?_))))));refine zwu (v := .map (some r)) (run_load1 isAgg76 (((H0.get 0 rfl).cell 0).trans rfl)) ?_;refine zv ?_;refine zwu (run_look_yes (H0.old.maps _ (List.mem_cons_self ..)) hf (hf ▸ hK.apartA)) ?_;refine zv (znt (wp_seq (zsr (zv (zv (znt (zcf (wp_skip (zt (zsr ?_))))))))));refine zv (zv (znt ?_));refine wp_ret ?_
 repeat first|refine zrt ?_|refine block_ret ?_
 exact zb (v := pt f.p) ⟨A, f, B, nx, rfl, hf, hK, by rw [mkF, if_pos ⟨ab f, by simp, hf⟩], H0⟩
theorem made_no {w0 : World} {M : ML} {q r fr lf nx : Nat} {dn : Bool} {v : Value} {Lr L : BL} {w : World} {fl : List Fl} {s : ByteArray} (hK : FK fl nx) (hn : ∀ f ∈ fl, f.nm ≠ s) (H0 : HA ⟨w0, (r, .mp (eF fl) nx) :: M⟩ ((q, 78, dcell r fr lf dn v) :: (Lr ++ (FB fl ++ L))) w) (hs : s.size ≤ 1000000000) :
  Calls prog 65 #[pt q, .string s] w fun e w' => ∃ A' f' B' nx', e = .returned (pt f'.p) ∧ f'.nm = s ∧ FK (A' ++ f' :: B') nx' ∧ (A' ++ f' :: B').map ab = mkF (fl.map ab) s ∧ HA ⟨w0, (r, .mp (eF (A' ++ f' :: B')) nx') :: M⟩ ((q, 78, dcell r fr lf dn v) :: (Lr ++ (FB (A' ++ f' :: B') ++ L))) w' := by
 go_enter Tryz.func65, Tryz.ntmps65
 refine zsr (zv (znt (zsr (zv (zv (zv ?_))))));refine zwu (v := .map (some r)) (run_load1 isAgg76 (((H0.get 0 rfl).cell 0).trans rfl)) ?_;refine zv ?_;refine zwu (run_look_no (H0.old.maps _ (List.mem_cons_self ..)) hn) ?_;refine zv (znt (wp_seq (zsr (zv (zv (znt (zct (zsr (zv ?_)))))))));refine wl_make (c := #[.slice none 0 0, i6 0]) H0 109 ?_;intro q1 w2 h3;refine zv (znt ?_);refine zxr (HA ⟨w0, (r, .mp (eF fl) nx) :: M⟩ ((q1, 109, #[.slice none 0 0, i6 0]) :: (q, 78, dcell r fr lf dn v) :: (Lr ++ (FB fl ++ L)))) (fun Z0 AQ w' => AQ = pts Z0 [(16, pt q), (17, pt q), (18, pt q), (19, .map (some r)), (20, .string s), (21, .string s), (22, pt q1)] ∧ HA ⟨w0, (r, .mp (eF (fl ++ [⟨s, q1, [], 0, .slice none 0 0, [], nx⟩])) (nx + 1)) :: M⟩ ((q1, 109, #[.slice none 0 0, i6 0]) :: (q, 78, dcell r fr lf dn v) :: (Lr ++ (FB fl ++ L))) w') 8 (h3.drew) ?_ ?_
 ·have h4 := h3.drew;refine zxp 0 rfl ?_;refine zxp 1 rfl ?_;refine zxp 2 rfl ?_;refine wx_val (i := 3) (.map (some r)) rfl rfl (fun w' h' => run_load1 isAgg76 (((h'.get 1 rfl).cell 0).trans rfl)) ?_;refine zxp 4 rfl ?_;refine wx_call (i := 5) (.string s) (fun _ _ h hb => HA.keep _ _ h hb) rfl rfl enter61 #[.string s] (fun w' h' => sclone_any s w' hs) ?_;refine zxp 6 rfl ?_;refine wx_one 7 ?_;refine ex_skip rfl h4 fun w5 h6 => ⟨_, run_upd (h6.old.maps _ (List.mem_cons_self ..)) hn (by kernel_rfl) (by kernel_rfl) ⟨s, q1, [], 0, .slice none 0 0, [], nx⟩ rfl rfl (by kernel_rfl), _, h6.setMap 0 rfl, ?_⟩
  have h7 : HA ⟨w0, (r, .mp (eF (fl ++ [⟨s, q1, [], 0, .slice none 0 0, [], nx⟩])) (nx + 1)) :: M⟩ ((q1, 109, #[.slice none 0 0, i6 0]) :: (q, 78, dcell r fr lf dn v) :: (Lr ++ (FB fl ++ L))) _ := h6.setMap 0 rfl;refine wx_end fun w8 hbx _ => ?_
  have h9 := HA.keep _ _ h7 hbx;exact ⟨by kernel_rfl, h9⟩
 ·rintro _ w10 ⟨rfl, h11⟩;refine zt (zsr (zv (zv (znt ?_))));refine wp_ret ?_
  repeat first|refine zrt ?_|refine block_ret ?_
  exact zb (v := pt q1) ⟨fl, ⟨s, q1, [], 0, .slice none 0 0, [], nx⟩, [], nx + 1, rfl, rfl, hK.more hn rfl RowB.nil (Nat.zero_le _), by rw [mkF, if_neg (by rintro ⟨x, hx, e⟩; obtain ⟨y, hy, rfl⟩ := List.mem_map.1 hx; exact hn y hy e)]; simp [ab], HA.newfile (g := ⟨s, q1, [], 0, .slice none 0 0, [], nx⟩) h11 rfl⟩
theorem drop_yes {w0 : World} {M : ML} {q r fr lf nx : Nat} {dn : Bool} {v : Value} {Lr L : BL} {w : World} {A B : List Fl} {f : Fl} {s : ByteArray} (hK : FK (A ++ f :: B) nx) (hf : f.nm = s) (H0 : HA ⟨w0, (r, .mp (eF (A ++ f :: B)) nx) :: M⟩ ((q, 78, dcell r fr lf dn v) :: (Lr ++ (FB (A ++ f :: B) ++ L))) w) (hfr : fr + f.da.length ≤ 9223372036854775807) :
  Calls prog 101 #[pt q, .string s] w fun e w' => e = .returned (.tuple #[]) ∧ HA ⟨w0, (r, .mp (eF (A ++ B)) nx) :: M⟩ ((q, 78, dcell r (fr + f.da.length) lf dn v) :: (Lr ++ (FB (A ++ B) ++ L))) w' := by
 obtain ⟨pf, cf, hv⟩ := (hK.row f (by simp)).form;have H0 := H0.file;rw [hv] at H0
 go_enter Tryz.func101, Tryz.ntmps101
 refine zsr (zv (zv (zv ?_)));refine zwu (v := .map (some r)) (run_load1 isAgg76 (((H0.get 0 rfl).cell 0).trans rfl)) ?_;refine zv ?_;refine zwu (run_look_yes (H0.old.maps _ (List.mem_cons_self ..)) hf (hf ▸ hK.apartA)) ?_;refine zv (znt (zsr (zv (zv (znt (zct (wp_seq ?_)))))));refine zxr (HA ⟨w0, (r, .mp (eF (A ++ f :: B)) nx) :: M⟩ ((q, 78, dcell r fr lf dn v) :: (f.p, 109, fcell (.slice pf f.da.length cf) f.sy) :: (f.Lr ++ (Lr ++ (FB (A ++ B) ++ L))))) (fun Z0 AQ w' => AQ = pts Z0 [(13, pt q), (14, pt q), (15, .pointer (some ⟨q, 1, none⟩)), (16, i6 fr), (17, pt f.p), (18, pt f.p), (19, pt f.p), (20, .slice pf f.da.length cf), (21, i6 f.da.length), (22, i6 (fr + f.da.length)), (23, pt q), (24, .pointer (some ⟨q, 1, none⟩))] ∧ HA ⟨w0, (r, .mp (eF (A ++ f :: B)) nx) :: M⟩ ((q, 78, dcell r (fr + f.da.length) lf dn v) :: (f.p, 109, fcell (.slice pf f.da.length cf) f.sy) :: (f.Lr ++ (Lr ++ (FB (A ++ B) ++ L)))) w') 13 (H0.drew) ?_ ?_
 ·have h1 := H0.drew;refine zxp 0 rfl ?_;refine zxp 1 rfl ?_;refine zxp 2 rfl ?_;refine wx_val (i := 3) (i6 fr) rfl rfl (fun w' h' => run_load1 isAgg3 (((h'.get 0 rfl).cell 1).trans rfl)) ?_;refine zxp 4 rfl ?_;refine zxp 5 rfl ?_;refine zxp 6 rfl ?_;refine wx_val (i := 7) (.slice pf f.da.length cf) rfl rfl (fun w' h' => run_load1 isAgg62 (((h'.get 1 rfl).cell 0).trans rfl)) ?_;refine zxp 8 rfl ?_;refine wx_pure (i := 9) (i6 (fr + f.da.length)) rfl rfl (hr := (fun _ => (run_add (k := .i64) (a := fr) (b := f.da.length) (by simp only [top]; omega)))) ?_;refine zxp 10 rfl ?_;refine zxp 11 rfl ?_;refine wx_one 12 ?_;refine ex_skip rfl h1 fun w2 h3 => ⟨_, run_storev (v := i6 (fr + f.da.length)) sizeOf3 (by rw [(h3.get 0 rfl).cell]; rfl) ((h3.get 0 rfl).free _ (by show 1 < 5; decide)), _, h3.put 0 rfl 1 _, ?_⟩
  have h4 : HA ⟨w0, (r, .mp (eF (A ++ f :: B)) nx) :: M⟩ ((q, 78, dcell r (fr + f.da.length) lf dn v) :: (f.p, 109, fcell (.slice pf f.da.length cf) f.sy) :: (f.Lr ++ (Lr ++ (FB (A ++ B) ++ L)))) _ := h3.put 0 rfl 1 (i6 (fr + f.da.length));refine wx_end fun w5 hbx _ => ?_
  have h6 := HA.keep _ _ h4 hbx;exact ⟨by kernel_rfl, h6⟩
 ·rintro _ w7 ⟨rfl, h8⟩;refine zt (wl_region (zv (zv (zv ?_))));refine zwu (v := .map (some r)) (run_load1 isAgg76 (((h8.get 0 rfl).cell 0).trans rfl)) ?_;refine zv ?_;refine wl_any (by kernel_rfl) (run_del (h8.old.maps _ (List.mem_cons_self ..)) hf (hf ▸ hK.apartA) (by kernel_rfl) (by kernel_rfl)) ?_;have h9 : HA ⟨w0, (r, .mp (eF (A ++ B)) nx) :: M⟩ ((q, 78, dcell r (fr + f.da.length) lf dn v) :: (f.p, 109, fcell (.slice pf f.da.length cf) f.sy) :: (f.Lr ++ (Lr ++ (FB (A ++ B) ++ L)))) _ := h8.setMap 0 rfl;generalize World.setMap _ _ _ _ = w10 at h9 ⊢;refine wl_nil ?_;exact bodyPost_end (v := .tuple #[]) (by kernel_rfl) rfl ⟨rfl, h9.sub (sc (sk (List.sublist_append_right _ _)))⟩
theorem drop_no {w0 : World} {M : ML} {q r fr lf nx : Nat} {dn : Bool} {v : Value} {Lr L : BL} {w : World} {fl : List Fl} {s : ByteArray} (hK : FK fl nx) (hn : ∀ f ∈ fl, f.nm ≠ s) (H0 : HA ⟨w0, (r, .mp (eF fl) nx) :: M⟩ ((q, 78, dcell r fr lf dn v) :: (Lr ++ (FB fl ++ L))) w) :
  Calls prog 101 #[pt q, .string s] w fun e w' => e = .returned (.tuple #[]) ∧ HA ⟨w0, (r, .mp (eF fl) nx) :: M⟩ ((q, 78, dcell r fr lf dn v) :: (Lr ++ (FB fl ++ L))) w' := by
 go_enter Tryz.func101, Tryz.ntmps101
 refine zsr (zv (zv (zv ?_)));refine zwu (v := .map (some r)) (run_load1 isAgg76 (((H0.get 0 rfl).cell 0).trans rfl)) ?_;refine zv ?_;refine zwu (run_look_no (H0.old.maps _ (List.mem_cons_self ..)) hn) ?_;refine zv (znt (zsr (zv (zv (znt (zcf (wp_skip ?_)))))));exact bodyPost_end (v := .tuple #[]) (by kernel_rfl) rfl ⟨rfl, H0⟩
def stayN (z : Int) (u : Nat) : Nat := (z % ((u : Int) + 1)).toNat
theorem stayN_le (z : Int) (u : Nat) : stayN z u ≤ u := by
 have h1 := Int.emod_nonneg z (show ((u : Int) + 1) ≠ 0 by omega);have h2 := Int.emod_lt_of_pos z (show (0 : Int) < (u : Int) + 1 by omega)
 unfold stayN
 omega
section
variable {ρ : Operand → Value} {x y : Operand} {w : World} {dst : Option Tmp} {T T2 ty : TypeId} {pos : String} {aft : Array Edge} {gd : Option (Nat × Bool)} {P : Program}
theorem wrap_id {z : Int} (h1 : -9223372036854775808 ≤ z) (h2 : z ≤ 9223372036854775807) : IntKind.i64.wrap z = z := by
 simp [IntKind.wrap, IntKind.bits, IntKind.signed]
 omega
theorem run_remz {z : Int} {u : Nat} (hu : u + 1 ≤ 9223372036854775807)   (hx : ρ x = .int .i64 z := by kernel_rfl) (hy : ρ y = i6 (u + 1) := by kernel_rfl) : (execOp ρ ⟨dst, .binOp .rem T x y T2, ty, pos, aft, gd⟩).run P w = .ok (.value (.int .i64 (z.tmod ((u : Int) + 1)))) w := by
 simp only [execOp, hx, hy, iN]
 have h3 := Int.tmod_lt_of_pos z (show (0 : Int) < (u : Int) + 1 by omega);have h4 : -((u : Int) + 1) < z.tmod ((u : Int) + 1) := by
  have := Int.tmod_lt_of_pos (-z) (show (0 : Int) < (u : Int) + 1 by omega);rw [Int.neg_tmod] at this
  omega
 simp [binOp, go_sem]
 omega
theorem run_addz {z : Int} {u : Nat} (hu : u ≤ 1099511627776)   (hx : ρ x = .int .i64 (z.tmod ((u : Int) + 1)) := by kernel_rfl) (hy : ρ y = i6 (u + 1) := by kernel_rfl) : (execOp ρ ⟨dst, .binOp .add T x y T2, ty, pos, aft, gd⟩).run P w = .ok (.value (i6 (z.tmod ((u : Int) + 1) + ((u : Int) + 1)).toNat)) w := by
 simp only [execOp, hx, hy, iN]
 have h3 := Int.tmod_lt_of_pos z (show (0 : Int) < (u : Int) + 1 by omega);have h4 : -((u : Int) + 1) < z.tmod ((u : Int) + 1) := by
  have := Int.tmod_lt_of_pos (-z) (show (0 : Int) < (u : Int) + 1 by omega);rw [Int.neg_tmod] at this
  omega
 have e : (((z.tmod ((u : Int) + 1) + ((u : Int) + 1)).toNat : Nat) : Int) = z.tmod ((u : Int) + 1) + ((u : Int) + 1) := by omega
 simp [binOp, go_sem]
 rw [wrap_id (by omega) (by omega)]
 omega
theorem stay_eq (z : Int) (u : Nat) : (z.tmod ((u : Int) + 1) + ((u : Int) + 1)).toNat % (u + 1) = stayN z u := by
 have hp : (0 : Int) < (u : Int) + 1 := by omega
 have h3 := Int.tmod_lt_of_pos z hp;have h4 : -((u : Int) + 1) < z.tmod ((u : Int) + 1) := by
  have := Int.tmod_lt_of_pos (-z) hp;rw [Int.neg_tmod] at this
  omega
 have e : (((z.tmod ((u : Int) + 1) + ((u : Int) + 1)).toNat : Nat) : Int) = z.tmod ((u : Int) + 1) + ((u : Int) + 1) := by omega
 unfold stayN
 have h5 : (z.tmod ((u : Int) + 1) + ((u : Int) + 1)) % ((u : Int) + 1) = z % ((u : Int) + 1) := by
  rw [Int.add_emod_right];have : z = (u + 1 : Int) * z.tdiv (u + 1) + z.tmod (u + 1) := (Int.mul_tdiv_add_tmod z (u + 1)).symm
  conv => rhs; rw [this]
  rw [Int.mul_add_emod_self_left]
 have h6 : (((z.tmod ((u : Int) + 1) + ((u : Int) + 1)).toNat % (u + 1) : Nat) : Int) = z % ((u : Int) + 1) := by
  rw [← h5, ← e]
  push_cast
  rfl
 omega
theorem run_slc {a : Option Addr} {n cap m : Nat} (hx : ρ x = .slice a n cap) (hy : ρ y = i6 m) (hm : m ≤ cap) : (execOp ρ ⟨dst, .slice 62 x none (some y) none, ty, pos, aft, gd⟩).run prog w = .ok (.value (.slice a m cap)) w := by
 have ha : a.map (·.add 0) = a := by
  cases a with
  | none => rfl
  | some b => cases b; simp [Addr.add]
 simp only [execOp, hx, iN] at hy ⊢
 simp [Instr.sliceAt, Instr.slice, Instr.sliceBounds, Instr.sliceBound, run_underlying underlying62, sizeOf5, hy, asIntOf, hm, ha]
end
theorem lose_any {z : Base} {p n sy cf st : Nat} {pf : Option Addr} {k : Int} {T : BL} {w : World} (H0 : HA z ((p, 109, fcell (.slice pf n cf) sy) :: T) w) (hsy : sy ≤ n) (hn : n ≤ 1000000000) (hc : n ≤ cf) (hst : stayN k (n - sy) = st) :
  Calls prog 60 #[pt p, .int .i64 k] w fun e w' => e = .returned (i6 (n - sy - st)) ∧ HA z ((p, 109, fcell (.slice pf (sy + st) cf) (sy + st)) :: T) w' := by
 have hle := stayN_le k (n - sy);rw [hst] at hle
 go_enter Tryz.func60, Tryz.ntmps60
 refine zsr (zv (znt (wp_seq ?_)));refine zrs ⟨(pt p :: .int .i64 k :: un :: un :: i6 0 :: i6 ((n - sy) + 1) :: un :: un :: pt p :: pt p :: pt p :: .slice pf n cf :: i6 n :: pt p :: pt p :: .pointer (some ⟨p, 1, none⟩) :: i6 sy :: i6 (n - sy) :: i6 ((n - sy) + 1) :: List.replicate 35 un).toArray, []⟩ (HA z ((p, 109, fcell (.slice pf n cf) sy) :: T)) H0.drew ?_ ?_
 ·refine zsp (pq p) ?_;refine zsp (pq p) ?_;refine zsp (pq p) ?_;refine zst (v := .slice pf n cf) (fun w' h' => run_load1 isAgg62 (((h'.get 0 rfl).cell 0).trans rfl)) ?_;refine zsp (i6 n) ?_;refine zsp (pq p) ?_;refine zsp (pq p) ?_;refine zsp (.pointer (some ⟨p, 1, none⟩)) ?_;refine zst (v := i6 sy) (fun w' h' => run_load1 isAgg3 (((h'.get 0 rfl).cell 1).trans rfl)) ?_;refine zst (v := i6 (n - sy)) (fun _ _ => (run_sub (k := .i64) (a := n) (b := sy) (by first | omega | (simp only [top]; omega)) (by first | omega | (simp only [top]; omega)))) ?_;refine zst (fun _ _ => (run_add (k := .i64) (a := n - sy) (b := 1) (by first | omega | (simp only [top]; omega)))) ?_;refine zsp (i6 ((n - sy) + 1)) ?_;exact AllSure.nil
 intro w1 h2;refine zt (zsr (zv (zv ?_)));refine zwu (run_remz (z := k) (u := n - sy) (by omega)) ?_;refine zv ?_;refine zwu (run_addz (z := k) (u := n - sy) (by omega)) ?_;refine zv ?_;refine zwu ((run_rem (k := .i64) (a := (k.tmod (((n - sy : Nat) : Int) + 1) + (((n - sy : Nat) : Int) + 1)).toNat) (b := n - sy + 1) (by omega)).trans (by rw [stay_eq, hst])) ?_;refine zv (znt (zsr (zv ?_)));refine zwu (v := i6 (((n - sy) + 1) - 1)) (run_sub (k := .i64) (a := (n - sy) + 1) (b := 1) (by first | omega | (simp only [top]; omega)) (by first | omega | (simp only [top]; omega))) ?_;refine zv ?_;refine zwu (v := i6 ((((n - sy) + 1) - 1) - st)) (run_sub (k := .i64) (a := ((n - sy) + 1) - 1) (b := st) (by first | omega | (simp only [top]; omega)) (by first | omega | (simp only [top]; omega))) ?_;refine zv (znt (wp_seq ?_));refine zxr (HA z ((p, 109, fcell (.slice pf n cf) sy) :: T)) (fun Z0 AQ w' => AQ = pts Z0 [(30, pt p), (31, pt p), (32, pt p), (33, pt p), (34, .slice pf n cf), (35, pt p), (36, pt p), (37, pt p), (38, .slice pf n cf), (39, i6 n), (40, i6 ((((n - sy) + 1) - 1) - st)), (41, i6 (n - ((((n - sy) + 1) - 1) - st))), (42, .slice pf (n - ((((n - sy) + 1) - 1) - st)) cf), (43, pt p), (44, pt p)] ∧ HA z ((p, 109, fcell (.slice pf (n - ((((n - sy) + 1) - 1) - st)) cf) sy) :: T) w') 16 (h2.drew) ?_ ?_
 ·have h3 := h2.drew;refine zxp 0 rfl ?_;refine zxp 1 rfl ?_;refine zxp 2 rfl ?_;refine zxp 3 rfl ?_;refine wx_val (i := 4) (.slice pf n cf) rfl rfl (fun w' h' => run_load1 isAgg62 (((h'.get 0 rfl).cell 0).trans rfl)) ?_;refine zxp 5 rfl ?_;refine zxp 6 rfl ?_;refine zxp 7 rfl ?_;refine wx_val (i := 8) (.slice pf n cf) rfl rfl (fun w' h' => run_load1 isAgg62 (((h'.get 0 rfl).cell 0).trans rfl)) ?_;refine zxp 9 rfl ?_;refine zxp 10 rfl ?_;refine wx_pure (i := 11) (i6 (n - ((((n - sy) + 1) - 1) - st))) rfl rfl (hr := (fun _ => (run_sub (k := .i64) (a := n) (b := (((n - sy) + 1) - 1) - st) (by first | omega | (simp only [top]; omega)) (by first | omega | (simp only [top]; omega))))) ?_;refine wx_pure (i := 12) (.slice pf (n - ((((n - sy) + 1) - 1) - st)) cf) rfl rfl (hr := (fun _ => (run_slc (a := pf) (n := n) (cap := cf) (m := n - ((((n - sy) + 1) - 1) - st)) (by kernel_rfl) (by kernel_rfl) (by omega)))) ?_;refine zxp 13 rfl ?_;refine zxp 14 rfl ?_;refine wx_one 15 ?_;refine ex_skip rfl h3 fun w4 h5 => ⟨_, run_storev (v := .slice pf (n - ((((n - sy) + 1) - 1) - st)) cf) sizeOf62 (by rw [(h5.get 0 rfl).cell]; rfl) ((h5.get 0 rfl).free _ (by show 0 < 2; decide)), _, h5.put 0 rfl 0 _, ?_⟩
  have h6 : HA z ((p, 109, fcell (.slice pf (n - ((((n - sy) + 1) - 1) - st)) cf) sy) :: T) _ := h5.put 0 rfl 0 (.slice pf (n - ((((n - sy) + 1) - 1) - st)) cf);refine wx_end fun w7 hbx _ => ?_
  have h8 := HA.keep _ _ h6 hbx;exact ⟨by kernel_rfl, h8⟩
 ·rintro _ w9 ⟨rfl, h10⟩;refine zt (zsr (zv (zv (zv (zv ?_)))));refine zwu (v := .slice pf (n - ((((n - sy) + 1) - 1) - st)) cf) (run_load1 isAgg62 (((h10.get 0 rfl).cell 0).trans rfl)) ?_;refine zv (zv (zv ?_));refine wl_putv (v := i6 (n - ((((n - sy) + 1) - 1) - st))) h10 0 rfl 1 (by show 1 < 2; decide) sizeOf3 ?_;intro w11 h12;refine znt (zsr (zv (zv (znt ?_))));refine wp_ret ?_
  repeat first|refine zrt ?_|refine block_ret ?_
  exact zb (v := i6 (n - sy + 1 - 1 - st)) ⟨by rw [show n - sy + 1 - 1 - st = n - sy - st by omega], by rw [show sy + st = n - (n - sy + 1 - 1 - st) by omega]; exact h12⟩
end Go.Proofs.YtckmlaempffpjaaGreat
