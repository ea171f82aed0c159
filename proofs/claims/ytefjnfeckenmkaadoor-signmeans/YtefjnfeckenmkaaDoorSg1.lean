/-
  sign: what is reckoned; points by themselves; what the walks need.
-/
import Derived.Test.YtefjnfeckenmkaaDoorS2
import Derived.Test.YtefjnfeckenmkaaDoorH3
namespace Go.Proofs.YtefjnfeckenmkaaDoor
open Go.RowKit Num
theorem ent7 (args : Array Value) (w : World) : (callFunc 7 args).run Tryd.prog w = .ok (.enter 7 args) w := by go_simp
theorem ent8 (args : Array Value) (w : World) : (callFunc 8 args).run Tryd.prog w = .ok (.enter 8 args) w := by go_simp
theorem ent9 (args : Array Value) (w : World) : (callFunc 9 args).run Tryd.prog w = .ok (.enter 9 args) w := by go_simp
theorem ent10 (args : Array Value) (w : World) : (callFunc 10 args).run Tryd.prog w = .ok (.enter 10 args) w := by go_simp
theorem ent11 (args : Array Value) (w : World) : (callFunc 11 args).run Tryd.prog w = .ok (.enter 11 args) w := by go_simp
theorem ent12 (args : Array Value) (w : World) : (callFunc 12 args).run Tryd.prog w = .ok (.enter 12 args) w := by go_simp
theorem ent13 (args : Array Value) (w : World) : (callFunc 13 args).run Tryd.prog w = .ok (.enter 13 args) w := by go_simp
theorem ent14 (args : Array Value) (w : World) : (callFunc 14 args).run Tryd.prog w = .ok (.enter 14 args) w := by go_simp
theorem ent15 (args : Array Value) (w : World) : (callFunc 15 args).run Tryd.prog w = .ok (.enter 15 args) w := by go_simp
theorem ent16 (args : Array Value) (w : World) : (callFunc 16 args).run Tryd.prog w = .ok (.enter 16 args) w := by go_simp
theorem ent17 (args : Array Value) (w : World) : (callFunc 17 args).run Tryd.prog w = .ok (.enter 17 args) w := by go_simp
theorem ent18 (args : Array Value) (w : World) : (callFunc 18 args).run Tryd.prog w = .ok (.enter 18 args) w := by go_simp
theorem ent19 (args : Array Value) (w : World) : (callFunc 19 args).run Tryd.prog w = .ok (.enter 19 args) w := by go_simp
theorem ent20 (args : Array Value) (w : World) : (callFunc 20 args).run Tryd.prog w = .ok (.enter 20 args) w := by go_simp
theorem ent21 (args : Array Value) (w : World) : (callFunc 21 args).run Tryd.prog w = .ok (.enter 21 args) w := by go_simp
theorem ent22 (args : Array Value) (w : World) : (callFunc 22 args).run Tryd.prog w = .ok (.enter 22 args) w := by go_simp
theorem ent23 (args : Array Value) (w : World) : (callFunc 23 args).run Tryd.prog w = .ok (.enter 23 args) w := by go_simp
theorem ent24 (args : Array Value) (w : World) : (callFunc 24 args).run Tryd.prog w = .ok (.enter 24 args) w := by go_simp
theorem ent25 (args : Array Value) (w : World) : (callFunc 25 args).run Tryd.prog w = .ok (.enter 25 args) w := by go_simp
theorem ent26 (args : Array Value) (w : World) : (callFunc 26 args).run Tryd.prog w = .ok (.enter 26 args) w := by go_simp
theorem ent46 (args : Array Value) (w : World) : (callFunc 46 args).run Tryd.prog w = .ok (.enter 46 args) w := by go_simp
theorem ent47 (args : Array Value) (w : World) : (callFunc 47 args).run Tryd.prog w = .ok (.enter 47 args) w := by go_simp

/-- the nine variables -/
structure VA (w : World) : Prop where
  v : Vars w
  s : Sc.Vars w
  h : Hh.Vars w
theorem VA.big {w : World} (h : VA w) : 9 ≤ w.heap.size := h.v.big
theorem VA.below {w w' : World} {B : Nat} (h : VA w) (hb : Below B w w') (hB : 9 ≤ B) : VA w' := ⟨h.v.below hb hB, h.s.below hb hB, h.h.below hb hB⟩
/-- a point, as it is kept -/
def ptc (p : Pt) : Array Value := pr p.x.val (subP p.y.val 1)
abbrev ptv (p : Pt) : Value := .agg (ptc p)
theorem ptc_sz (p : Pt) : (ptc p).size = (pr 0 0).size := pr_sz _ _ 0 0
theorem ptc_info (p : Pt) : (Tryd.prog.info? 39).map (·.size) = some (ptc p).size := info27p _ _
theorem ptc_one (p : Pt) : (ptc p).all (·.oneCell') = true := one_pr _ _
theorem Pn.ptc {a b : Nat} {p : Pt} (h : Pn a b p) : Value.agg (pr a b) = ptv p := by
  obtain ⟨h1, h2⟩ := h.one (Pn.self p)
  rw [h1, h2]
  rfl
theorem base_pv (w : World) (VV : VA w) : Calls Tryd.prog 13 #[] w fun e w' => e = .returned (ptv bP) ∧ Below w.heap.size w w' := by
  rw [← Pn.base.ptc]
  exact Base_any w VV.v
theorem mul_pv (p : Pt) (s : ByteArray) (hs : s.size = 32) (w : World) (VV : VA w) : Calls Tryd.prog 14 #[ptv p, .string s] w fun e w' => e = .returned (ptv (mP p (numS s))) ∧ Below w.heap.size w w' := by
  obtain ⟨x, y, h1, h2⟩ := mul_ex (Pn.self p) s hs
  rw [← h1.ptc]
  exact h2 w VV.v
theorem add_pv (p q : Pt) (w : World) (VV : VA w) : Calls Tryd.prog 20 #[ptv p, ptv q] w fun e w' => e = .returned (ptv (aP p q)) ∧ Below w.heap.size w w' := by
  obtain ⟨x, y, h1, h2⟩ := add_ex (Pn.self p) (Pn.self q)
  rw [← h1.ptc]
  exact h2 w VV.v
theorem bytes_pv (p : Pt) (w : World) (VV : VA w) : Calls Tryd.prog 15 #[ptv p] w fun e w' => e = .returned (.string (encP p)) ∧ Below w.heap.size w w' := bytes_ex (Pn.self p) w VV.v
theorem same_pv_yes (p q : Pt) (h : p = q) (w : World) : Calls Tryd.prog 19 #[ptv p, ptv q] w fun e w' => e = .returned (.bool true) ∧ Below w.heap.size w w' := same_yes (Pn.self p) (Pn.self q) h w
theorem same_pv_no (p q : Pt) (h : p ≠ q) (w : World) : Calls Tryd.prog 19 #[ptv p, ptv q] w fun e w' => e = .returned (.bool false) ∧ Below w.heap.size w w' := same_no (Pn.self p) (Pn.self q) h w
theorem of_pv (p : Pt) (w : World) (VV : VA w) : Calls Tryd.prog 26 #[.string (encP p)] w fun e w' => e = .returned (.tuple #[ptv p, .bool true]) ∧ Below w.heap.size w w' := of_enc p w VV.v
theorem of_pv_no (s : ByteArray) (h : ∀ p, encP p ≠ s) (w : World) (VV : VA w) : Calls Tryd.prog 26 #[.string s] w fun e w' => e = .returned (.tuple #[.agg (pr 0 0), .bool false]) ∧ Below w.heap.size w w' := by
  by_cases hs : s.size = 32
  · rcases of_ex2 s hs with ⟨a, b, p, _, e, _⟩ | h2
    · exact absurd e (h p)
    · exact h2 w VV.v
  · exact of_no s hs w VV.v
theorem encP_inj {p q : Pt} (h : encP p = encP q) : p = q := by
  apply code_inj
  unfold code
  have hn : numS (encP p) = numS (encP q) := by rw [h]
  have hp := y_255 p
  have hq := y_255 q
  by_cases a : p.x.val % 2 = 1 <;> by_cases b : q.x.val % 2 = 1
  · rw [encP_odd p a, encP_odd q b] at hn
    omega
  · rw [encP_odd p a, encP_even q b] at hn
    omega
  · rw [encP_even p a, encP_odd q b] at hn
    omega
  · rw [encP_even p a, encP_even q b] at hn
    omega
/-- SHA-512 -/
def sh (l : List UInt8) : ByteArray := ⟨(Hh.digP Hh.KL l).toArray⟩
theorem sh_size (l : List UInt8) : (sh l).size = 64 := Hh.dig_szL l
def kS (l : List UInt8) : ByteArray := Sc.rS (sh l)
theorem kS_size (l : List UInt8) : (kS l).size = 32 := bytesOf_size _
def skS (h : ByteArray) : ByteArray := Sc.clampS (h.extract 0 32)
def pfS (h : ByteArray) : ByteArray := h.extract 32 h.size
def pkS (h : ByteArray) : ByteArray := encP (mP bP (numS (skS h)))
def hS (seed : ByteArray) : ByteArray := sh (Hh.bl seed)
theorem ext_size (s : ByteArray) (a b : Nat) (hb : b ≤ s.size) : (s.extract a b).size = b - a := Sc.size_extract s a b hb
theorem clamp_size (s : ByteArray) (h : s.size = 32) : (Sc.clampS s).size = 32 := by
  show (Sc.clampL s).toArray.size = 32
  rw [List.size_toArray, Sc.clampL_len, h]
theorem skS_size (h : ByteArray) (hh : h.size = 64) : (skS h).size = 32 := clamp_size _ (ext_size h 0 32 (by rw [hh]; decide))
theorem pfS_size (h : ByteArray) (hh : h.size = 64) : (pfS h).size = 32 := by unfold pfS; rw [ext_size h 32 h.size (Nat.le_refl _), hh]
theorem hS_size (s : ByteArray) : (hS s).size = 64 := sh_size _
def rrS (seed text : ByteArray) : ByteArray := kS (Hh.bl (pfS (hS seed)) ++ Hh.bl text)
def RbS (seed text : ByteArray) : ByteArray := encP (mP bP (numS (rrS seed text)))
def kkS (seed text : ByteArray) : ByteArray := kS (Hh.bl (RbS seed text) ++ (Hh.bl (pkS (hS seed)) ++ Hh.bl text))
def SsS (seed text : ByteArray) : ByteArray := Sc.aS (rrS seed text) (Sc.mS (kkS seed text) (skS (hS seed)))
def sigS (seed text : ByteArray) : ByteArray := RbS seed text ++ SsS seed text
theorem RbS_size (s t : ByteArray) : (RbS s t).size = 32 := encP_size _
theorem SsS_size (s t : ByteArray) : (SsS s t).size = 32 := bytesOf_size _
theorem app_size (s t : ByteArray) : (s ++ t).size = s.size + t.size := ByteArray.size_append
theorem sigS_size (s t : ByteArray) : (sigS s t).size = 64 := by unfold sigS; rw [app_size, RbS_size, SsS_size]
/-- is a signature one -/
def kvS (p t r : ByteArray) : ByteArray := kS (Hh.bl r ++ (Hh.bl p ++ Hh.bl t))
def verP (p t g : ByteArray) : Prop := g.size = 64 ∧ Sc.isS (g.extract 32 g.size) ∧ ∃ R A : Pt, encP R = g.extract 0 32 ∧ encP A = p ∧ mP bP (numS (g.extract 32 g.size)) = aP R (mP A (numS (kvS p t (g.extract 0 32))))
section
variable {ops : Array Oper} {Q : Exit → Act → World → Prop} {a : Act} {w w0 : World} {L : List (Nat × TypeId × Array Value)} {rest : List Oper} {dst : Option Tmp} {ty : TypeId} {pos : String} {aft : Array Edge} {gd : Option (Nat × Bool)} {x y z : Operand} {ρ : Operand → Value} {P : Program}
theorem run_alloc9 : (execOp ρ ⟨dst, .alloc 9, ty, pos, aft, gd⟩).run Tryd.prog w = .ok (.value (.pointer (some ⟨w.heap.size, 0, none⟩))) (w.alloc (.cells #[.string ByteArray.empty] 9)) := by
  simp only [execOp]
  go_simp
  rfl
theorem run_bs1 {u : ByteArray} (hx : ρ x = .string u) : (execOp ρ ⟨dst, .buildSlice 70 1 #[(0, x)], ty, pos, aft, gd⟩).run Tryd.prog w = .ok (.value (.slice (some ⟨w.heap.size, 0, none⟩) 1 1)) (w.alloc (.cells (Hh.psc [u]) 9)) := Hh.run_bs1 hx
theorem run_bs2 {u v : ByteArray} (hx : ρ x = .string u) (hy : ρ y = .string v) : (execOp ρ ⟨dst, .buildSlice 70 2 #[(0, x), (1, y)], ty, pos, aft, gd⟩).run Tryd.prog w = .ok (.value (.slice (some ⟨w.heap.size, 0, none⟩) 2 2)) (w.alloc (.cells (Hh.psc [u, v]) 9)) := Hh.run_bs2 hx hy
theorem run_bs3 {u v v2 : ByteArray} (hx : ρ x = .string u) (hy : ρ y = .string v) (hz : ρ z = .string v2) : (execOp ρ ⟨dst, .buildSlice 70 3 #[(0, x), (1, y), (2, z)], ty, pos, aft, gd⟩).run Tryd.prog w = .ok (.value (.slice (some ⟨w.heap.size, 0, none⟩) 3 3)) (w.alloc (.cells (Hh.psc [u, v, v2]) 9)) := by
  simp only [execOp]
  go_simp
  rfl
theorem run_store_str {q : Nat} {s : ByteArray} (hx : ρ x = .pointer (some ⟨q, 0, none⟩)) (hy : ρ y = .string s) (h : (w.cell? ⟨q, 0, none⟩).isSome = true) (hf : w.frozen? ⟨q, 0, none⟩ = false) :
    (execOp ρ ⟨dst, .store 9 x y, ty, pos, aft, gd⟩).run Tryd.prog w = .ok .skip (w.setCell ⟨q, 0, none⟩ (.string s)) := by
  obtain ⟨v, hv⟩ := Option.isSome_iff_exists.1 h
  simp only [execOp, hx, hy]
  simp [go_sem, hv, hf]
theorem wl_putstr {q : Nat} {s : ByteArray} {v : Value} (H : HA w0 L w) (i : Nat) (hi : L[i]? = some (q, 9, #[v])) (hw : Region.wanted ⟨dst, .store 9 x y, ty, pos, aft, gd⟩ (yielded ops a.tmps) = true) (hx : a.eval x = .pointer (some ⟨q, 0, none⟩)) (hy : a.eval y = .string s)
    (h : ∀ w', HA w0 (L.set i (q, 9, #[.string s])) w' → WL Tryd.prog ops Q rest (a.put dst undef) w') : WL Tryd.prog ops Q (⟨dst, .store 9 x y, ty, pos, aft, gd⟩ :: rest) a w := by
  refine ⟨?_⟩
  unfold wpList
  rw [if_pos hw]
  refine .inl ?_
  unfold Oper.wp
  rw [run_store_str hx hy (by rw [(H.get i hi).cell 0]; rfl) ((H.get i hi).free 0 (Nat.zero_lt_one))]
  exact (h _ (H.put i hi 0 (.string s))).out
theorem HA.more {w' : World} {q : Nat} {t : TypeId} {c : Array Value} (h : HA w0 L w) (hb : Below w.heap.size w w') (hq : w.heap.size ≤ q) (hB : Blk w' q t c) : HA w0 ((q, t, c) :: L) w' := by
  have h2 := h.keep _ _ hb
  refine ⟨h2.old, ?_, ?_, ?_⟩
  · intro x hx
    rcases List.mem_cons.1 hx with rfl | hx
    · exact hB
    · exact h2.blk x hx
  · intro x hx
    rcases List.mem_cons.1 hx with rfl | hx
    · exact Nat.le_trans h.size hq
    · exact h2.own x hx
  · rw [List.map_cons, List.nodup_cons]
    refine ⟨fun hm => ?_, h2.nd⟩
    obtain ⟨x, hx, e⟩ := List.mem_map.1 hm
    have := (h.blk x hx).lt
    simp only at e
    omega
theorem wl_calln {f : FuncId} {xs : Array Operand} {ats : Array TypeId} {mk : Nat → Value} {t : TypeId} {c : Array Value} (H : HA w0 L w) (hw : Region.wanted ⟨dst, .call { callee := .value (.func f), args := xs, argTypes := ats }, ty, pos, aft, gd⟩ (yielded ops a.tmps) = true)
    (hr : ∀ args w, (callFunc f args).run Tryd.prog w = .ok (.enter f args) w) (args : Array Value) (ha : #[] ++ xs.map a.eval ++ #[] = args) (hc : Calls Tryd.prog f args w fun e w' => ∃ q, e = .returned (mk q) ∧ w.heap.size ≤ q ∧ Blk w' q t c ∧ Below w.heap.size w w')
    (h : ∀ q w', HA w0 ((q, t, c) :: L) w' → WL Tryd.prog ops Q rest (a.put dst (mk q)) w') : WL Tryd.prog ops Q (⟨dst, .call { callee := .value (.func f), args := xs, argTypes := ats }, ty, pos, aft, gd⟩ :: rest) a w := by
  refine ⟨?_⟩
  unfold wpList
  rw [if_pos hw]
  refine .inl ?_
  unfold Oper.wp
  rw [execOp_call_go, ha, hr]
  refine hc.mono ?_
  rintro e w' ⟨q, rfl, hq, hB, hb⟩
  exact (h q w' (H.more hb hq hB)).out
end
theorem szP_mono (ps : List ByteArray) : ∀ i n, i ≤ n → Hh.szP ps i ≤ Hh.szP ps n
  | i, 0, h => by rw [Nat.le_zero.1 h]; exact Nat.le_refl _
  | i, n + 1, h => by
    rcases Nat.lt_or_ge i (n + 1) with h1 | h1
    · exact Nat.le_trans (szP_mono ps i n (by omega)) (Nat.le_add_right _ _)
    · rw [Nat.le_antisymm h h1]; exact Nat.le_refl _
theorem sz_all (ps : List ByteArray) (n : Nat) (h : Hh.szP ps n ≤ 2251799813685248) : ∀ i, i ≤ n → Hh.szP ps i ≤ 2251799813685248 := fun i hi => Nat.le_trans (szP_mono ps i n hi) h

theorem sha_1 (a : ByteArray) (ha : a.size ≤ 562949953421312) (q : Nat) (w : World) (VV : VA w) (hB : Blk w q 9 (Hh.psc [a])) : Calls Tryd.prog 17 #[.slice (some ⟨q, 0, none⟩) 1 1] w fun e w' => e = .returned (.string (sh (Hh.bl a))) ∧ Below w.heap.size w w' :=
  Hh.shaL' [a] 1 rfl (some ⟨q, 0, none⟩) 1 w VV.h (Hh.parts_ofc hB) (Hh.sz_one a (by omega)) (by decide)

set_option linter.unusedVariables false in
set_option maxRecDepth 100000 in
set_option maxHeartbeats 2000000 in
theorem number_any (ps : List ByteArray) (n : Nat) (hn : ps.length = n) (hle : n ≤ 1000) (hsz : Hh.szP ps n ≤ 2251799813685248) (q : Nat) (w : World) (VV : VA w) (hB : Blk w q 9 (Hh.psc ps)) :
    Calls Tryd.prog 24 #[.slice (some ⟨q, 0, none⟩) n n] w fun e w' => e = .returned (.string (kS (Hh.catP ps n))) ∧ Below w.heap.size w w' := by
  have H0 := HA.start w
  go_enter Tryd.func24, Tryd.ntmps24
  refine wp_seq ?_
  refine wl_region ?_
  refine wl_val (.string { data := #[] }) (by kernel_rfl) (by kernel_rfl) ?_
  refine wl_nil ?_
  refine then_at (F := ⟨(.slice (some ⟨q, 0, none⟩) n n :: un :: .string { data := #[] } :: List.replicate 3 un).toArray, []⟩) (by kernel_rfl) ?_
  refine wp_seq ?_
  refine wl_region ?_
  refine wl_val (.slice (some ⟨q, 0, none⟩) n n) (by kernel_rfl) (by kernel_rfl) ?_
  refine wl_call (v := .string (sh (Hh.catP ps n))) H0 (by kernel_rfl) ent17 #[.slice (some ⟨q, 0, none⟩) n n] (by kernel_rfl) (Hh.shaL' ps n hn (some ⟨q, 0, none⟩) n w (VV.below H0.old VV.big).h (fun i hi => Hh.parts_ofc (hB.at' (H0.old.block q hB.lt)) i (by rw [hn]; exact hi)) (sz_all ps n hsz) (by omega)) ?_
  intro w1 h2
  refine wl_call (v := .string (kS (Hh.catP ps n))) h2 (by kernel_rfl) ent16 #[.string (sh (Hh.catP ps n))] (by kernel_rfl) (Sc.Reduce_any (sh (Hh.catP ps n)) w1 (VV.below h2.old VV.big).s) ?_
  intro w3 h4
  refine wl_val (.string (kS (Hh.catP ps n))) (by kernel_rfl) (by kernel_rfl) ?_
  refine wl_nil ?_
  refine then_at (F := ⟨(.slice (some ⟨q, 0, none⟩) n n :: un :: .string (kS (Hh.catP ps n)) :: .slice (some ⟨q, 0, none⟩) n n :: .string (sh (Hh.catP ps n)) :: .string (kS (Hh.catP ps n)) :: List.replicate 0 un).toArray, []⟩) (by kernel_rfl) ?_
  refine wp_ret ?_
  repeat first | refine then_ret ?_ | refine block_ret ?_
  exact bodyPost_ret (v := .string (kS (Hh.catP ps n))) (by kernel_rfl) rfl ⟨rfl, h4.old⟩

theorem number_2 (a b : ByteArray) (ha : a.size ≤ 1000) (hb : b.size ≤ 562949953421312) (q : Nat) (w : World) (VV : VA w) (hB : Blk w q 9 (Hh.psc [a, b])) : Calls Tryd.prog 24 #[.slice (some ⟨q, 0, none⟩) 2 2] w fun e w' => e = .returned (.string (kS (Hh.bl a ++ Hh.bl b))) ∧ Below w.heap.size w w' :=
  number_any [a, b] 2 rfl (by decide) (by show 0 + a.size + b.size ≤ _; omega) q w VV hB
theorem number_3 (a b c : ByteArray) (ha : a.size ≤ 1000) (hb : b.size ≤ 562949953421312) (hc : c.size ≤ 562949953421312) (q : Nat) (w : World) (VV : VA w) (hB : Blk w q 9 (Hh.psc [a, b, c])) : Calls Tryd.prog 24 #[.slice (some ⟨q, 0, none⟩) 3 3] w fun e w' => e = .returned (.string (kS (Hh.bl a ++ (Hh.bl b ++ Hh.bl c)))) ∧ Below w.heap.size w w' := by
  have h := number_any [a, b, c] 3 rfl (by decide) (by show 0 + a.size + b.size + c.size ≤ _; omega) q w VV hB
  rw [← List.append_assoc]
  exact h

set_option linter.unusedVariables false in
set_option maxRecDepth 100000 in
set_option maxHeartbeats 2000000 in
theorem parts_0 (h : ByteArray) (hh : h.size = 64) (q : Nat) (w : World) (VV : VA w) (hB : Blk w q 9 #[.string h]) :
    Calls Tryd.prog 46 #[iN .i64 0, .pointer (some ⟨q, 0, none⟩)] w fun e w' => e = .returned (.string (skS h)) ∧ Below w.heap.size w w' := by
  have H0 := HA.start w
  go_enter Tryd.func46, Tryd.ntmps46
  refine wp_seq ?_
  refine wl_region ?_
  refine wl_val (.string { data := #[] }) (by kernel_rfl) (by kernel_rfl) ?_
  refine wl_nil ?_
  refine then_at (F := ⟨(iN .i64 0 :: pt q :: un :: .string { data := #[] } :: List.replicate 16 un).toArray, []⟩) (by kernel_rfl) ?_
  refine wp_seq ?_
  refine wp_seq ?_
  refine wl_region ?_
  refine wl_val (iN .i64 0) (by kernel_rfl) (by kernel_rfl) ?_
  refine wl_nil ?_
  refine then_at (F := ⟨(iN .i64 0 :: pt q :: un :: .string { data := #[] } :: iN .i64 0 :: List.replicate 15 un).toArray, []⟩) (by kernel_rfl) ?_
  refine wp_block ?_
  refine wp_seq ?_
  refine wl_region ?_
  refine wl_val (.bool true) (by kernel_rfl) (run_eqi (k := .i64) (a := 0) (b := 0) (by kernel_rfl) (by kernel_rfl) true (by decide)) ?_
  refine wl_val (.bool true) (by kernel_rfl) (by kernel_rfl) ?_
  refine wl_nil ?_
  refine then_at (F := ⟨(iN .i64 0 :: pt q :: un :: .string { data := #[] } :: iN .i64 0 :: .bool true :: .bool true :: List.replicate 13 un).toArray, []⟩) (by kernel_rfl) ?_
  refine wp_cond_true (by kernel_rfl) ?_
  refine wp_seq ?_
  refine wl_region ?_
  refine wl_val (.string h) (by kernel_rfl) (run_load1 (fun w => Tryd.isAgg9 w) (by kernel_rfl) (((hB.at' (H0.old.block q hB.lt)).cell 0).trans rfl)) ?_
  refine wl_val (.string (h.extract 0 32)) (by kernel_rfl) (Sc.run_cut_hi (s := h) (b := 32) (by kernel_rfl) (by kernel_rfl) (by rw [hh]; decide)) ?_
  refine wl_call (v := .string (skS h)) H0 (by kernel_rfl) ent47 #[.string (h.extract 0 32)] (by kernel_rfl) (Sc.Clamp_yes (h.extract 0 32) (ext_size h 0 32 (by rw [hh]; decide)) w) ?_
  intro w1 h2
  refine wl_val (.string (skS h)) (by kernel_rfl) (by kernel_rfl) ?_
  refine wl_nil ?_
  refine then_at (F := ⟨(iN .i64 0 :: pt q :: un :: .string (skS h) :: iN .i64 0 :: .bool true :: .bool true :: .string h :: .string (h.extract 0 32) :: .string (skS h) :: List.replicate 10 un).toArray, []⟩) (by kernel_rfl) ?_
  refine wp_ret ?_
  repeat first | refine then_ret ?_ | refine block_ret ?_
  exact bodyPost_ret (v := .string (skS h)) (by kernel_rfl) rfl ⟨rfl, h2.old⟩

set_option linter.unusedVariables false in
set_option maxRecDepth 100000 in
set_option maxHeartbeats 2000000 in
theorem parts_1 (h : ByteArray) (hh : h.size = 64) (q : Nat) (w : World) (VV : VA w) (hB : Blk w q 9 #[.string h]) :
    Calls Tryd.prog 46 #[iN .i64 1, .pointer (some ⟨q, 0, none⟩)] w fun e w' => e = .returned (.string (pfS h)) ∧ Below w.heap.size w w' := by
  have H0 := HA.start w
  go_enter Tryd.func46, Tryd.ntmps46
  refine wp_seq ?_
  refine wl_region ?_
  refine wl_val (.string { data := #[] }) (by kernel_rfl) (by kernel_rfl) ?_
  refine wl_nil ?_
  refine then_at (F := ⟨(iN .i64 1 :: pt q :: un :: .string { data := #[] } :: List.replicate 16 un).toArray, []⟩) (by kernel_rfl) ?_
  refine wp_seq ?_
  refine wp_seq ?_
  refine wl_region ?_
  refine wl_val (iN .i64 1) (by kernel_rfl) (by kernel_rfl) ?_
  refine wl_nil ?_
  refine then_at (F := ⟨(iN .i64 1 :: pt q :: un :: .string { data := #[] } :: iN .i64 1 :: List.replicate 15 un).toArray, []⟩) (by kernel_rfl) ?_
  refine wp_block ?_
  refine wp_seq ?_
  refine wl_region ?_
  refine wl_val (.bool false) (by kernel_rfl) (run_eqi (k := .i64) (a := 1) (b := 0) (by kernel_rfl) (by kernel_rfl) false (by decide)) ?_
  refine wl_val (.bool false) (by kernel_rfl) (by kernel_rfl) ?_
  refine wl_nil ?_
  refine then_at (F := ⟨(iN .i64 1 :: pt q :: un :: .string { data := #[] } :: iN .i64 1 :: .bool false :: .bool false :: List.replicate 13 un).toArray, []⟩) (by kernel_rfl) ?_
  refine wp_cond_false (by kernel_rfl) ?_
  refine wp_seq ?_
  refine wl_region ?_
  refine wl_val (.bool true) (by kernel_rfl) (run_eqi (k := .i64) (a := 1) (b := 1) (by kernel_rfl) (by kernel_rfl) true (by decide)) ?_
  refine wl_val (.bool true) (by kernel_rfl) (by kernel_rfl) ?_
  refine wl_nil ?_
  refine then_at (F := ⟨(iN .i64 1 :: pt q :: un :: .string { data := #[] } :: iN .i64 1 :: .bool false :: .bool false :: un :: un :: un :: .bool true :: .bool true :: List.replicate 8 un).toArray, []⟩) (by kernel_rfl) ?_
  refine wp_cond_true (by kernel_rfl) ?_
  refine wp_seq ?_
  refine wl_region ?_
  refine wl_val (.string h) (by kernel_rfl) (run_load1 (fun w => Tryd.isAgg9 w) (by kernel_rfl) (((hB.at' (H0.old.block q hB.lt)).cell 0).trans rfl)) ?_
  refine wl_val (.string (h.extract 32 h.size)) (by kernel_rfl) (Sc.run_cut_lo (s := h) (a := 32) (by kernel_rfl) (by kernel_rfl) (by rw [hh]; decide)) ?_
  refine wl_val (.string (h.extract 32 h.size)) (by kernel_rfl) (by kernel_rfl) ?_
  refine wl_nil ?_
  refine then_at (F := ⟨(iN .i64 1 :: pt q :: un :: .string (h.extract 32 h.size) :: iN .i64 1 :: .bool false :: .bool false :: un :: un :: un :: .bool true :: .bool true :: .string h :: .string (h.extract 32 h.size) :: List.replicate 6 un).toArray, []⟩) (by kernel_rfl) ?_
  refine wp_ret ?_
  repeat first | refine then_ret ?_ | refine block_ret ?_
  exact bodyPost_ret (v := .string (pfS h)) (by kernel_rfl) rfl ⟨rfl, H0.old⟩

set_option linter.unusedVariables false in
set_option maxRecDepth 100000 in
set_option maxHeartbeats 2000000 in
theorem parts_2 (h : ByteArray) (hh : h.size = 64) (q : Nat) (w : World) (VV : VA w) (hB : Blk w q 9 #[.string h]) :
    Calls Tryd.prog 46 #[iN .i64 2, .pointer (some ⟨q, 0, none⟩)] w fun e w' => e = .returned (.string (pkS h)) ∧ Below w.heap.size w w' := by
  have H0 := HA.start w
  go_enter Tryd.func46, Tryd.ntmps46
  refine wp_seq ?_
  refine wl_region ?_
  refine wl_val (.string { data := #[] }) (by kernel_rfl) (by kernel_rfl) ?_
  refine wl_nil ?_
  refine then_at (F := ⟨(iN .i64 2 :: pt q :: un :: .string { data := #[] } :: List.replicate 16 un).toArray, []⟩) (by kernel_rfl) ?_
  refine wp_seq ?_
  refine wp_seq ?_
  refine wl_region ?_
  refine wl_val (iN .i64 2) (by kernel_rfl) (by kernel_rfl) ?_
  refine wl_nil ?_
  refine then_at (F := ⟨(iN .i64 2 :: pt q :: un :: .string { data := #[] } :: iN .i64 2 :: List.replicate 15 un).toArray, []⟩) (by kernel_rfl) ?_
  refine wp_block ?_
  refine wp_seq ?_
  refine wl_region ?_
  refine wl_val (.bool false) (by kernel_rfl) (run_eqi (k := .i64) (a := 2) (b := 0) (by kernel_rfl) (by kernel_rfl) false (by decide)) ?_
  refine wl_val (.bool false) (by kernel_rfl) (by kernel_rfl) ?_
  refine wl_nil ?_
  refine then_at (F := ⟨(iN .i64 2 :: pt q :: un :: .string { data := #[] } :: iN .i64 2 :: .bool false :: .bool false :: List.replicate 13 un).toArray, []⟩) (by kernel_rfl) ?_
  refine wp_cond_false (by kernel_rfl) ?_
  refine wp_seq ?_
  refine wl_region ?_
  refine wl_val (.bool false) (by kernel_rfl) (run_eqi (k := .i64) (a := 2) (b := 1) (by kernel_rfl) (by kernel_rfl) false (by decide)) ?_
  refine wl_val (.bool false) (by kernel_rfl) (by kernel_rfl) ?_
  refine wl_nil ?_
  refine then_at (F := ⟨(iN .i64 2 :: pt q :: un :: .string { data := #[] } :: iN .i64 2 :: .bool false :: .bool false :: un :: un :: un :: .bool false :: .bool false :: List.replicate 8 un).toArray, []⟩) (by kernel_rfl) ?_
  refine wp_cond_false (by kernel_rfl) ?_
  refine wp_skip ?_
  refine block_normal ?_
  refine then_at (F := ⟨(iN .i64 2 :: pt q :: un :: .string { data := #[] } :: iN .i64 2 :: .bool false :: .bool false :: un :: un :: un :: .bool false :: .bool false :: List.replicate 8 un).toArray, []⟩) (by kernel_rfl) ?_
  refine wp_seq ?_
  refine wp_region_sure ⟨(iN .i64 2 :: pt q :: un :: .string (pkS h) :: iN .i64 2 :: .bool false :: .bool false :: un :: un :: un :: .bool false :: .bool false :: un :: un :: ptv bP :: .string h :: .string (h.extract 0 32) :: .string (skS h) :: ptv (mP bP (numS (skS h))) :: .string (pkS h) :: List.replicate 0 un).toArray, []⟩ (HA w []) [ptv bP, .string h, .string (h.extract 0 32), .string (skS h), ptv (mP bP (numS (skS h))), .string (pkS h), .string (pkS h)] (by kernel_rfl) (by kernel_rfl) (by kernel_rfl) (by kernel_rfl) (fun _ _ _ h => h) H0.drew ?_ ?_
  · refine AllSure.cons (sure_call (v := ptv bP) (by kernel_rfl) (by kernel_rfl) ent13 HA.keep #[] (by kernel_rfl) (fun w' h' => base_pv w' (VV.below h'.old VV.big))) ?_
    refine AllSure.cons (OpSure.take (v := .string h) (by kernel_rfl) (by kernel_rfl) (fun w' h' => run_load1 (fun w => Tryd.isAgg9 w) (by kernel_rfl) (((hB.at' (h'.old.block q hB.lt)).cell 0).trans rfl))) ?_
    refine AllSure.cons (OpSure.take (v := .string (h.extract 0 32)) (by kernel_rfl) (by kernel_rfl) (fun _ _ => (Sc.run_cut_hi (s := h) (b := 32) (by kernel_rfl) (by kernel_rfl) (by rw [hh]; decide)))) ?_
    refine AllSure.cons (sure_call (v := .string (skS h)) (by kernel_rfl) (by kernel_rfl) ent47 HA.keep #[.string (h.extract 0 32)] (by kernel_rfl) (fun w' h' => Sc.Clamp_yes (h.extract 0 32) (ext_size h 0 32 (by rw [hh]; decide)) w')) ?_
    refine AllSure.cons (sure_call (v := ptv (mP bP (numS (skS h)))) (by kernel_rfl) (by kernel_rfl) ent14 HA.keep #[ptv bP, .string (skS h)] (by kernel_rfl) (fun w' h' => mul_pv bP (skS h) (skS_size h hh) w' (VV.below h'.old VV.big))) ?_
    refine AllSure.cons (sure_call (v := .string (pkS h)) (by kernel_rfl) (by kernel_rfl) ent15 HA.keep #[ptv (mP bP (numS (skS h)))] (by kernel_rfl) (fun w' h' => bytes_pv (mP bP (numS (skS h))) w' (VV.below h'.old VV.big))) ?_
    refine AllSure.cons (OpSure.take (v := .string (pkS h)) (by kernel_rfl) (by kernel_rfl) (fun _ _ => (by kernel_rfl))) ?_
    exact AllSure.nil
  intro w1 h2
  refine then_at (F := ⟨(iN .i64 2 :: pt q :: un :: .string (pkS h) :: iN .i64 2 :: .bool false :: .bool false :: un :: un :: un :: .bool false :: .bool false :: un :: un :: ptv bP :: .string h :: .string (h.extract 0 32) :: .string (skS h) :: ptv (mP bP (numS (skS h))) :: .string (pkS h) :: List.replicate 0 un).toArray, []⟩) (by kernel_rfl) ?_
  refine wp_ret ?_
  repeat first | refine then_ret ?_ | refine block_ret ?_
  exact bodyPost_ret (v := .string (pkS h)) (by kernel_rfl) rfl ⟨rfl, h2.old⟩

set_option linter.unusedVariables false in
set_option maxRecDepth 100000 in
set_option maxHeartbeats 2000000 in
theorem partsOf_any (s : ByteArray) (hs : s.size = 32) (w : World) (VV : VA w) :
    Calls Tryd.prog 23 #[.string s] w fun e w' => ∃ q, e = .returned (.func (.func 46) #[] #[.pointer (some ⟨q, 0, none⟩)]) ∧ w.heap.size ≤ q ∧ Blk w' q 9 #[.string (hS s)] ∧ Below w.heap.size w w' := by
  have H0 := HA.start w
  go_enter Tryd.func23, Tryd.ntmps23
  refine wp_seq ?_
  refine wl_region ?_
  refine wl_val (.nilFunc) (by kernel_rfl) (by kernel_rfl) ?_
  refine wl_nil ?_
  refine then_at (F := ⟨(.string s :: un :: .nilFunc :: List.replicate 5 un).toArray, []⟩) (by kernel_rfl) ?_
  refine wp_seq ?_
  refine wl_region ?_
  refine wl_val (.string s) (by kernel_rfl) (by kernel_rfl) ?_
  refine Hh.wl_mks (n := 1) (m := 1) (c := Hh.psc [s]) H0 9 (by kernel_rfl) (run_bs1 (u := s) (by kernel_rfl)) ?_
  intro q1 w2 h3
  refine wl_call (v := .string (hS s)) h3 (by kernel_rfl) ent17 #[.slice (some ⟨q1, 0, none⟩) 1 1] (by kernel_rfl) (sha_1 s (by omega) q1 w2 (VV.below h3.old VV.big) (h3.get 0 rfl)) ?_
  intro w4 h5
  refine wl_make h5 9 (by kernel_rfl) run_alloc9 ?_
  intro q6 w7 h8
  refine wl_putstr (q := q6) (s := hS s) h8 0 rfl (by kernel_rfl) (by kernel_rfl) (by kernel_rfl) ?_
  intro w9 (h10 : HA w [(q6, 9, #[.string (hS s)]), (q1, 9, Hh.psc [s])] w9)
  refine wl_nil ?_
  refine then_at (F := ⟨(.string s :: un :: .nilFunc :: pt q6 :: .string s :: .slice (some ⟨q1, 0, none⟩) 1 1 :: .string (hS s) :: List.replicate 1 un).toArray, []⟩) (by kernel_rfl) ?_
  refine wp_seq ?_
  refine wl_region ?_
  refine wl_val (.func (.func 46) #[] #[.pointer (some ⟨q6, 0, none⟩)]) (by kernel_rfl) (by kernel_rfl) ?_
  refine wl_val (.func (.func 46) #[] #[.pointer (some ⟨q6, 0, none⟩)]) (by kernel_rfl) (by kernel_rfl) ?_
  refine wl_nil ?_
  refine then_at (F := ⟨(.string s :: un :: .func (.func 46) #[] #[pt q6] :: pt q6 :: .string s :: .slice (some ⟨q1, 0, none⟩) 1 1 :: .string (hS s) :: .func (.func 46) #[] #[pt q6] :: List.replicate 0 un).toArray, []⟩) (by kernel_rfl) ?_
  refine wp_ret ?_
  repeat first | refine then_ret ?_ | refine block_ret ?_
  exact bodyPost_ret (v := .func (.func 46) #[] #[.pointer (some ⟨q6, 0, none⟩)]) (by kernel_rfl) rfl ⟨q6, rfl, h10.own _ (List.mem_of_getElem? (show [(q6, 9, #[.string (hS s)]), (q1, 9, Hh.psc [s])][0]? = some _ from rfl)), h10.get 0 rfl, h10.old⟩
end Go.Proofs.YtefjnfeckenmkaaDoor
