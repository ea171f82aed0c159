/-
 sign: what is reckoned; points by themselves; what the walks need.
-/
import Derived.Test.YtefjnfeckenmkaaGreatDoorS2
import Derived.Test.YtefjnfeckenmkaaGreatDoorH3
namespace Go.Proofs.YtefjnfeckenmkaaGreatDoor
set_option linter.unusedVariables false
set_option maxRecDepth 100000
set_option maxHeartbeats 2000000
open Go.RowKit Num
theorem ent5 (args : Array Value) (w : World) : (callFunc 5 args).run Tryz.prog w = .ok (.enter 5 args) w := by go_simp
theorem ent7 (args : Array Value) (w : World) : (callFunc 7 args).run Tryz.prog w = .ok (.enter 7 args) w := by go_simp
theorem ent9 (args : Array Value) (w : World) : (callFunc 9 args).run Tryz.prog w = .ok (.enter 9 args) w := by go_simp
theorem ent10 (args : Array Value) (w : World) : (callFunc 10 args).run Tryz.prog w = .ok (.enter 10 args) w := by go_simp
theorem ent11 (args : Array Value) (w : World) : (callFunc 11 args).run Tryz.prog w = .ok (.enter 11 args) w := by go_simp
theorem ent12 (args : Array Value) (w : World) : (callFunc 12 args).run Tryz.prog w = .ok (.enter 12 args) w := by go_simp
theorem ent15 (args : Array Value) (w : World) : (callFunc 15 args).run Tryz.prog w = .ok (.enter 15 args) w := by go_simp
theorem ent16 (args : Array Value) (w : World) : (callFunc 16 args).run Tryz.prog w = .ok (.enter 16 args) w := by go_simp
theorem ent17 (args : Array Value) (w : World) : (callFunc 17 args).run Tryz.prog w = .ok (.enter 17 args) w := by go_simp
theorem ent18 (args : Array Value) (w : World) : (callFunc 18 args).run Tryz.prog w = .ok (.enter 18 args) w := by go_simp
theorem ent19 (args : Array Value) (w : World) : (callFunc 19 args).run Tryz.prog w = .ok (.enter 19 args) w := by go_simp
theorem ent20 (args : Array Value) (w : World) : (callFunc 20 args).run Tryz.prog w = .ok (.enter 20 args) w := by go_simp
theorem ent21 (args : Array Value) (w : World) : (callFunc 21 args).run Tryz.prog w = .ok (.enter 21 args) w := by go_simp
theorem ent25 (args : Array Value) (w : World) : (callFunc 25 args).run Tryz.prog w = .ok (.enter 25 args) w := by go_simp
theorem ent26 (args : Array Value) (w : World) : (callFunc 26 args).run Tryz.prog w = .ok (.enter 26 args) w := by go_simp
theorem ent27 (args : Array Value) (w : World) : (callFunc 27 args).run Tryz.prog w = .ok (.enter 27 args) w := by go_simp
theorem ent28 (args : Array Value) (w : World) : (callFunc 28 args).run Tryz.prog w = .ok (.enter 28 args) w := by go_simp
theorem ent29 (args : Array Value) (w : World) : (callFunc 29 args).run Tryz.prog w = .ok (.enter 29 args) w := by go_simp
theorem ent30 (args : Array Value) (w : World) : (callFunc 30 args).run Tryz.prog w = .ok (.enter 30 args) w := by go_simp
theorem ent31 (args : Array Value) (w : World) : (callFunc 31 args).run Tryz.prog w = .ok (.enter 31 args) w := by go_simp
theorem ent32 (args : Array Value) (w : World) : (callFunc 32 args).run Tryz.prog w = .ok (.enter 32 args) w := by go_simp
theorem ent33 (args : Array Value) (w : World) : (callFunc 33 args).run Tryz.prog w = .ok (.enter 33 args) w := by go_simp
theorem ent34 (args : Array Value) (w : World) : (callFunc 34 args).run Tryz.prog w = .ok (.enter 34 args) w := by go_simp
theorem ent35 (args : Array Value) (w : World) : (callFunc 35 args).run Tryz.prog w = .ok (.enter 35 args) w := by go_simp
theorem ent36 (args : Array Value) (w : World) : (callFunc 36 args).run Tryz.prog w = .ok (.enter 36 args) w := by go_simp
theorem ent37 (args : Array Value) (w : World) : (callFunc 37 args).run Tryz.prog w = .ok (.enter 37 args) w := by go_simp
theorem ent38 (args : Array Value) (w : World) : (callFunc 38 args).run Tryz.prog w = .ok (.enter 38 args) w := by go_simp
theorem ent39 (args : Array Value) (w : World) : (callFunc 39 args).run Tryz.prog w = .ok (.enter 39 args) w := by go_simp
theorem ent42 (args : Array Value) (w : World) : (callFunc 42 args).run Tryz.prog w = .ok (.enter 42 args) w := by go_simp
theorem ent43 (args : Array Value) (w : World) : (callFunc 43 args).run Tryz.prog w = .ok (.enter 43 args) w := by go_simp
theorem ent60 (args : Array Value) (w : World) : (callFunc 60 args).run Tryz.prog w = .ok (.enter 60 args) w := by go_simp
structure VA (w : World) : Prop where
 v : Vars w
 s : Sc.Vars w
 h : Hh.Vars w
theorem VA.big {w : World} (h : VA w) : 9 ≤ w.heap.size := h.v.big
theorem VA.below {w w' : World} {B : Nat} (h : VA w) (hb : Below B w w') (hB : 9 ≤ B) : VA w' := ⟨h.v.below hb hB, h.s.below hb hB, h.h.below hb hB⟩
def ptc (p : Pt) : Array Value := pr p.x.val (subP p.y.val 1)
abbrev ptv (p : Pt) : Value := .agg (ptc p)
theorem ptc_sz (p : Pt) : (ptc p).size = (pr 0 0).size := pr_sz _ _ 0 0
theorem ptc_info (p : Pt) : (Tryz.prog.info? 39).map (·.size) = some (ptc p).size := info27p _ _
theorem ptc_one (p : Pt) : (ptc p).all (·.oneCell') = true := one_pr _ _
theorem Pn.ptc {a b : Nat} {p : Pt} (h : Pn a b p) : Value.agg (pr a b) = ptv p := by
 obtain ⟨h1, h2⟩ := h.one (Pn.self p)
 rw [h1, h2]
 rfl
theorem base_pv (w : World) (VV : VA w) : Calls Tryz.prog 16 #[] w fun e w' => e = .returned (ptv bP) ∧ Below w.heap.size w w' := by
 rw [← Pn.base.ptc]
 exact Base_any w VV.v
theorem mul_pv (p : Pt) (s : ByteArray) (hs : s.size = 32) (w : World) (VV : VA w) : Calls Tryz.prog 17 #[ptv p, .string s] w fun e w' => e = .returned (ptv (mP p (numS s))) ∧ Below w.heap.size w w' := by
 obtain ⟨x, y, h1, h2⟩ := mul_ex (Pn.self p) s hs
 rw [← h1.ptc]
 exact h2 w VV.v
theorem add_pv (p q : Pt) (w : World) (VV : VA w) : Calls Tryz.prog 30 #[ptv p, ptv q] w fun e w' => e = .returned (ptv (aP p q)) ∧ Below w.heap.size w w' := by
 obtain ⟨x, y, h1, h2⟩ := add_ex (Pn.self p) (Pn.self q)
 rw [← h1.ptc]
 exact h2 w VV.v
theorem bytes_pv (p : Pt) (w : World) (VV : VA w) : Calls Tryz.prog 18 #[ptv p] w fun e w' => e = .returned (.string (encP p)) ∧ Below w.heap.size w w' := bytes_ex (Pn.self p) w VV.v
theorem same_pv_yes (p q : Pt) (h : p = q) (w : World) : Calls Tryz.prog 29 #[ptv p, ptv q] w fun e w' => e = .returned (.bool true) ∧ Below w.heap.size w w' := same_yes (Pn.self p) (Pn.self q) h w
theorem same_pv_no (p q : Pt) (h : p ≠ q) (w : World) : Calls Tryz.prog 29 #[ptv p, ptv q] w fun e w' => e = .returned (.bool false) ∧ Below w.heap.size w w' := same_no (Pn.self p) (Pn.self q) h w
theorem of_pv (p : Pt) (w : World) (VV : VA w) : Calls Tryz.prog 28 #[.string (encP p)] w fun e w' => e = .returned (.tuple #[ptv p, .bool true]) ∧ Below w.heap.size w w' := of_enc p w VV.v
theorem of_pv_no (s : ByteArray) (h : ∀ p, encP p ≠ s) (w : World) (VV : VA w) : Calls Tryz.prog 28 #[.string s] w fun e w' => e = .returned (.tuple #[.agg (pr 0 0), .bool false]) ∧ Below w.heap.size w w' := by
 by_cases hs : s.size = 32
 ·rcases of_ex2 s hs with ⟨a, b, p, _, e, _⟩ | h2
  ·exact absurd e (h p)
  ·exact h2 w VV.v
 ·exact of_no s hs w VV.v
theorem encP_inj {p q : Pt} (h : encP p = encP q) : p = q := by
 apply code_inj
 unfold code
 have hn : numS (encP p) = numS (encP q) := by rw [h]
 have hp := y_255 p
 have hq := y_255 q
 by_cases a : p.x.val % 2 = 1 <;> by_cases b : q.x.val % 2 = 1
 ·rw [encP_odd p a, encP_odd q b] at hn
  omega
 ·rw [encP_odd p a, encP_even q b] at hn
  omega
 ·rw [encP_even p a, encP_odd q b] at hn
  omega
 ·rw [encP_even p a, encP_even q b] at hn
  omega
def sh (l : List UInt8) : ByteArray := ⟨(Hh.digP Hh.KL l).toArray⟩
theorem sh_size (l : List UInt8) : (sh l).size = 64 := Hh.dig_szL l
def kS (l : List UInt8) : ByteArray := Sc.rS (sh l)
theorem kS_size (l : List UInt8) : (kS l).size = 32 := bytesOf_size _
def skS (h : ByteArray) : ByteArray := Sc.clampS (h.extract 0 32)
def pfS (h : ByteArray) : ByteArray := h.extract 32 h.size
def pkS (h : ByteArray) : ByteArray := encP (mP bP (numS (skS h)))
def hS (seed : ByteArray) : ByteArray := sh (Hh.bl seed)
theorem ext_size (s : ByteArray) (a b : Nat) (hb : b ≤ s.size) : (s.extract a b).size = b - a := Sc.size_extract s a b hb
theorem clamp_size (s : ByteArray) (h : s.size = 32) : (Sc.clampS s).size = 32 := by
 show (Sc.clampL s).toArray.size = 32
 rw [List.size_toArray, Sc.clampL_len, h]
theorem skS_size (h : ByteArray) (hh : h.size = 64) : (skS h).size = 32 := clamp_size _ (ext_size h 0 32 (by rw [hh]; decide))
theorem pfS_size (h : ByteArray) (hh : h.size = 64) : (pfS h).size = 32 := by unfold pfS; rw [ext_size h 32 h.size (Nat.le_refl _), hh]
theorem hS_size (s : ByteArray) : (hS s).size = 64 := sh_size _
def rrS (seed text : ByteArray) : ByteArray := kS (Hh.bl (pfS (hS seed)) ++ Hh.bl text)
def RbS (seed text : ByteArray) : ByteArray := encP (mP bP (numS (rrS seed text)))
def kkS (seed text : ByteArray) : ByteArray := kS (Hh.bl (RbS seed text) ++ (Hh.bl (pkS (hS seed)) ++ Hh.bl text))
def SsS (seed text : ByteArray) : ByteArray := Sc.aS (rrS seed text) (Sc.mS (kkS seed text) (skS (hS seed)))
def sigS (seed text : ByteArray) : ByteArray := RbS seed text ++ SsS seed text
theorem RbS_size (s t : ByteArray) : (RbS s t).size = 32 := encP_size _
theorem SsS_size (s t : ByteArray) : (SsS s t).size = 32 := bytesOf_size _
theorem app_size (s t : ByteArray) : (s ++ t).size = s.size + t.size := ByteArray.size_append
def kvS (p t r : ByteArray) : ByteArray := kS (Hh.bl r ++ (Hh.bl p ++ Hh.bl t))
def verP (p t g : ByteArray) : Prop := g.size = 64 ∧ Sc.isS (g.extract 32 g.size) ∧ ∃ R A : Pt, encP R = g.extract 0 32 ∧ encP A = p ∧ mP bP (numS (g.extract 32 g.size)) = aP R (mP A (numS (kvS p t (g.extract 0 32))))
section
variable {ops : Array Oper} {Q : Exit → Act → World → Prop} {a : Act} {w w0 : World} {L : List (Nat × TypeId × Array Value)} {rest : List Oper} {dst : Option Tmp} {ty : TypeId} {pos : String} {aft : Array Edge} {gd : Option (Nat × Bool)} {x y z : Operand} {ρ : Operand → Value} {P : Program}
theorem run_alloc9 : (execOp ρ ⟨dst, .alloc 9, ty, pos, aft, gd⟩).run Tryz.prog w = .ok (.value (.pointer (some ⟨w.heap.size, 0, none⟩))) (w.alloc (.cells #[.string ByteArray.empty] 9)) := by
 simp only [execOp]
 go_simp
 rfl
theorem run_bs1 {u : ByteArray} (hx : ρ x = .string u) : (execOp ρ ⟨dst, .buildSlice 61 1 #[(0, x)], ty, pos, aft, gd⟩).run Tryz.prog w = .ok (.value (.slice (some ⟨w.heap.size, 0, none⟩) 1 1)) (w.alloc (.cells (Hh.psc [u]) 9)) := Hh.run_bs1 hx
theorem run_bs2 {u v : ByteArray} (hx : ρ x = .string u) (hy : ρ y = .string v) : (execOp ρ ⟨dst, .buildSlice 61 2 #[(0, x), (1, y)], ty, pos, aft, gd⟩).run Tryz.prog w = .ok (.value (.slice (some ⟨w.heap.size, 0, none⟩) 2 2)) (w.alloc (.cells (Hh.psc [u, v]) 9)) := Hh.run_bs2 hx hy
theorem run_bs3 {u v v2 : ByteArray}    (hx : ρ x = .string u := by kernel_rfl) (hy : ρ y = .string v := by kernel_rfl) (hz : ρ z = .string v2 := by kernel_rfl) : (execOp ρ ⟨dst, .buildSlice 61 3 #[(0, x), (1, y), (2, z)], ty, pos, aft, gd⟩).run Tryz.prog w = .ok (.value (.slice (some ⟨w.heap.size, 0, none⟩) 3 3)) (w.alloc (.cells (Hh.psc [u, v, v2]) 9)) := by
 simp only [execOp]
 go_simp
 rfl
theorem run_store_str {q : Nat} {s : ByteArray} (hx : ρ x = .pointer (some ⟨q, 0, none⟩)) (hy : ρ y = .string s) (h : (w.cell? ⟨q, 0, none⟩).isSome = true) (hf : w.frozen? ⟨q, 0, none⟩ = false) :
  (execOp ρ ⟨dst, .store 9 x y, ty, pos, aft, gd⟩).run Tryz.prog w = .ok .skip (w.setCell ⟨q, 0, none⟩ (.string s)) := by
 obtain ⟨v, hv⟩ := Option.isSome_iff_exists.1 h
 simp only [execOp, hx, hy]
 simp [go_sem, hv, hf]
theorem wl_putstr {q : Nat} {s : ByteArray} {v : Value} (H : HA w0 L w) (i : Nat) (hi : L[i]? = some (q, 9, #[v])) (hw : Region.wanted ⟨dst, .store 9 x y, ty, pos, aft, gd⟩ (yielded ops a.tmps) = true) (hx : a.eval x = .pointer (some ⟨q, 0, none⟩)) (hy : a.eval y = .string s)
  (h : ∀ w', HA w0 (L.set i (q, 9, #[.string s])) w' → WL Tryz.prog ops Q rest (a.put dst undef) w') : WL Tryz.prog ops Q (⟨dst, .store 9 x y, ty, pos, aft, gd⟩ :: rest) a w := by
 refine ⟨?_⟩
 unfold wpList
 rw [if_pos hw]
 refine .inl ?_
 unfold Oper.wp
 rw [run_store_str hx hy (by rw [(H.get i hi).cell 0]; rfl) ((H.get i hi).free 0 (Nat.zero_lt_one))]
 exact (h _ (H.put i hi 0 (.string s))).out
theorem HA.more {w' : World} {q : Nat} {t : TypeId} {c : Array Value} (h : HA w0 L w) (hb : Below w.heap.size w w') (hq : w.heap.size ≤ q) (hB : Blk w' q t c) : HA w0 ((q, t, c) :: L) w' := by
 have h2 := h.keep _ _ hb
 refine ⟨h2.old, ?_, ?_, ?_⟩
 ·intro x hx
  rcases List.mem_cons.1 hx with rfl | hx
  ·exact hB
  ·exact h2.blk x hx
 ·intro x hx
  rcases List.mem_cons.1 hx with rfl | hx
  ·exact Nat.le_trans h.size hq
  ·exact h2.own x hx
 ·rw [List.map_cons, List.nodup_cons]
  refine ⟨fun hm => ?_, h2.nd⟩
  obtain ⟨x, hx, e⟩ := List.mem_map.1 hm
  have := (h.blk x hx).lt
  simp only at e
  omega
theorem wl_calln {f : FuncId} {xs : Array Operand} {ats : Array TypeId} {mk : Nat → Value} {t : TypeId} {c : Array Value} (H : HA w0 L w) (hw : Region.wanted ⟨dst, .call { callee := .value (.func f), args := xs, argTypes := ats }, ty, pos, aft, gd⟩ (yielded ops a.tmps) = true)
  (hr : ∀ args w, (callFunc f args).run Tryz.prog w = .ok (.enter f args) w) (args : Array Value) (ha : #[] ++ xs.map a.eval ++ #[] = args) (hc : Calls Tryz.prog f args w fun e w' => ∃ q, e = .returned (mk q) ∧ w.heap.size ≤ q ∧ Blk w' q t c ∧ Below w.heap.size w w')
  (h : ∀ q w', HA w0 ((q, t, c) :: L) w' → WL Tryz.prog ops Q rest (a.put dst (mk q)) w') : WL Tryz.prog ops Q (⟨dst, .call { callee := .value (.func f), args := xs, argTypes := ats }, ty, pos, aft, gd⟩ :: rest) a w := by
 refine ⟨?_⟩
 unfold wpList
 rw [if_pos hw]
 refine .inl ?_
 unfold Oper.wp
 rw [execOp_call_go, ha, hr]
 refine hc.mono ?_
 rintro e w' ⟨q, rfl, hq, hB, hb⟩
 exact (h q w' (H.more hb hq hB)).out
end
theorem szP_mono (ps : List ByteArray) : ∀ i n, i ≤ n → Hh.szP ps i ≤ Hh.szP ps n
 | i, 0, h => by rw [Nat.le_zero.1 h]; exact Nat.le_refl _
 | i, n + 1, h => by
  rcases Nat.lt_or_ge i (n + 1) with h1 | h1
  ·exact Nat.le_trans (szP_mono ps i n (by omega)) (Nat.le_add_right _ _)
  ·rw [Nat.le_antisymm h h1]; exact Nat.le_refl _
theorem sz_all (ps : List ByteArray) (n : Nat) (h : Hh.szP ps n ≤ 2251799813685248) : ∀ i, i ≤ n → Hh.szP ps i ≤ 2251799813685248 := fun i hi => Nat.le_trans (szP_mono ps i n hi) h
theorem sha_1 (a : ByteArray) (ha : a.size ≤ 562949953421312) (q : Nat) (w : World) (VV : VA w) (hB : Blk w q 9 (Hh.psc [a])) : Calls Tryz.prog 37 #[.slice (some ⟨q, 0, none⟩) 1 1] w fun e w' => e = .returned (.string (sh (Hh.bl a))) ∧ Below w.heap.size w w' :=
 Hh.shaL' [a] 1 rfl (some ⟨q, 0, none⟩) 1 w VV.h (Hh.parts_ofc hB) (Hh.sz_one a (by omega)) (by decide)
theorem number_any (ps : List ByteArray) (n : Nat) (hn : ps.length = n) (hle : n ≤ 1000) (hsz : Hh.szP ps n ≤ 2251799813685248) (q : Nat) (w : World) (VV : VA w) (hB : Blk w q 9 (Hh.psc ps)) :
  Calls Tryz.prog 15 #[.slice (some ⟨q, 0, none⟩) n n] w fun e w' => e = .returned (.string (kS (Hh.catP ps n))) ∧ Below w.heap.size w w' := by
 have H0 := HA.start w
 go_enter Tryz.func15, Tryz.ntmps15
 refine zsr ?_
 refine zwv (.string { data := #[] }) ?_
 refine znt ?_
 refine zsr ?_
 refine zwv (.slice (some ⟨q, 0, none⟩) n n) ?_
 refine zwc H0 ent37 (Hh.shaL' ps n hn (some ⟨q, 0, none⟩) n w (VV.below H0.old VV.big).h (fun i hi => Hh.parts_ofc (hB.at' (H0.old.block q hB.lt)) i (by rw [hn]; exact hi)) (sz_all ps n hsz) (by omega)) ?_
 intro w1 h2
 refine zwc h2 ent43 (Sc.Reduce_any (sh (Hh.catP ps n)) w1 (VV.below h2.old VV.big).s) ?_
 intro w3 h4
 refine zwv (.string (kS (Hh.catP ps n))) ?_
 refine znt ?_
 exact wp_ret (zb h4.old)
theorem number_2 (a b : ByteArray) (ha : a.size ≤ 1000) (hb : b.size ≤ 562949953421312) (q : Nat) (w : World) (VV : VA w) (hB : Blk w q 9 (Hh.psc [a, b])) : Calls Tryz.prog 15 #[.slice (some ⟨q, 0, none⟩) 2 2] w fun e w' => e = .returned (.string (kS (Hh.bl a ++ Hh.bl b))) ∧ Below w.heap.size w w' :=
 number_any [a, b] 2 rfl (by decide) (by show 0 + a.size + b.size ≤ _; omega) q w VV hB
theorem number_3 (a b c : ByteArray) (ha : a.size ≤ 1000) (hb : b.size ≤ 562949953421312) (hc : c.size ≤ 562949953421312) (q : Nat) (w : World) (VV : VA w) (hB : Blk w q 9 (Hh.psc [a, b, c])) : Calls Tryz.prog 15 #[.slice (some ⟨q, 0, none⟩) 3 3] w fun e w' => e = .returned (.string (kS (Hh.bl a ++ (Hh.bl b ++ Hh.bl c)))) ∧ Below w.heap.size w w' := by
 have h := number_any [a, b, c] 3 rfl (by decide) (by show 0 + a.size + b.size + c.size ≤ _; omega) q w VV hB
 rw [← List.append_assoc]
 exact h
theorem parts_0 (h : ByteArray) (hh : h.size = 64) (q : Nat) (w : World) (VV : VA w) (hB : Blk w q 9 #[.string h]) :
  Calls Tryz.prog 38 #[iN .i64 0, .pointer (some ⟨q, 0, none⟩)] w fun e w' => e = .returned (.string (skS h)) ∧ Below w.heap.size w w' := by
 have H0 := HA.start w
 go_enter Tryz.func38, Tryz.ntmps38
 refine zsr ?_
 refine zwv (.string { data := #[] }) ?_
 refine znt ?_
 refine wp_seq ?_
 refine zsr ?_
 refine zwv (iN .i64 0) ?_
 refine znt ?_
 refine wp_block ?_
 refine zsr ?_
 refine zwu (run_eqi (k := .i64) (a := 0) (b := 0) true (by decide)) ?_
 refine zwv (.bool true) ?_
 refine znt ?_
 refine zct ?_
 refine zsr ?_
 refine zwu (v := .string h) (run_load1 Tryz.isAgg9 (((hB.at' (H0.old.block q hB.lt)).cell 0).trans rfl)) ?_
 refine zwu (Sc.run_cut_hi (s := h) (b := 32) (by rw [hh]; decide)) ?_
 refine zwc H0 ent39 (Sc.Clamp_yes (h.extract 0 32) (ext_size h 0 32 (by rw [hh]; decide)) w) ?_
 intro w1 h2
 refine zwv (.string (skS h)) ?_
 refine znt ?_
 exact wp_ret (zb h2.old)
theorem parts_1 (h : ByteArray) (hh : h.size = 64) (q : Nat) (w : World) (VV : VA w) (hB : Blk w q 9 #[.string h]) :
  Calls Tryz.prog 38 #[iN .i64 1, .pointer (some ⟨q, 0, none⟩)] w fun e w' => e = .returned (.string (pfS h)) ∧ Below w.heap.size w w' := by
 have H0 := HA.start w
 go_enter Tryz.func38, Tryz.ntmps38
 refine zsr ?_
 refine zwv (.string { data := #[] }) ?_
 refine znt ?_
 refine wp_seq ?_
 refine zsr ?_
 refine zwv (iN .i64 1) ?_
 refine znt ?_
 refine wp_block ?_
 refine zsr ?_
 refine zwu (run_eqi (k := .i64) (a := 1) (b := 0) false (by decide)) ?_
 refine zwv (.bool false) ?_
 refine znt ?_
 refine zcf ?_
 refine zsr ?_
 refine zwu (run_eqi (k := .i64) (a := 1) (b := 1) true (by decide)) ?_
 refine zwv (.bool true) ?_
 refine znt ?_
 refine zct ?_
 refine zsr ?_
 refine zwu (v := .string h) (run_load1 Tryz.isAgg9 (((hB.at' (H0.old.block q hB.lt)).cell 0).trans rfl)) ?_
 refine zwu (Sc.run_cut_lo (s := h) (a := 32) (by rw [hh]; decide)) ?_
 refine zwv (.string (h.extract 32 h.size)) ?_
 refine znt ?_
 refine wp_ret ?_
 repeat first | refine then_ret ?_ | refine block_ret ?_
 exact bodyPost_ret (by kernel_rfl) rfl ⟨rfl, H0.old⟩
theorem parts_2 (h : ByteArray) (hh : h.size = 64) (q : Nat) (w : World) (VV : VA w) (hB : Blk w q 9 #[.string h]) :
  Calls Tryz.prog 38 #[iN .i64 2, .pointer (some ⟨q, 0, none⟩)] w fun e w' => e = .returned (.string (pkS h)) ∧ Below w.heap.size w w' := by
 have H0 := HA.start w
 go_enter Tryz.func38, Tryz.ntmps38
 refine zsr ?_
 refine zwv (.string { data := #[] }) ?_
 refine znt ?_
 refine wp_seq ?_
 refine zsr ?_
 refine zwv (iN .i64 2) ?_
 refine znt ?_
 refine wp_block ?_
 refine zsr ?_
 refine zwu (run_eqi (k := .i64) (a := 2) (b := 0) false (by decide)) ?_
 refine zwv (.bool false) ?_
 refine znt ?_
 refine zcf ?_
 refine zsr ?_
 refine zwu (run_eqi (k := .i64) (a := 2) (b := 1) false (by decide)) ?_
 refine zwv (.bool false) ?_
 refine znt ?_
 refine zcf ?_
 refine wp_skip ?_
 refine block_normal ?_
 refine then_at rfl ?_
 refine wp_seq ?_
 refine zrs ⟨(iN .i64 2 :: pt q :: un :: .string (pkS h) :: iN .i64 2 :: .bool false :: .bool false :: un :: un :: un :: .bool false :: .bool false :: un :: un :: ptv bP :: .string h :: .string (h.extract 0 32) :: .string (skS h) :: ptv (mP bP (numS (skS h))) :: .string (pkS h) :: List.replicate 0 un).toArray, []⟩ (HA w []) H0.drew ?_ ?_
 ·refine zsc ent16 HA.keep (fun w' h' => base_pv w' (VV.below h'.old VV.big)) ?_
  refine zst (v := .string h) (fun w' h' => run_load1 Tryz.isAgg9 (((hB.at' (h'.old.block q hB.lt)).cell 0).trans rfl)) ?_
  refine zst (fun _ _ => (Sc.run_cut_hi (s := h) (b := 32) (by rw [hh]; decide))) ?_
  refine zsc ent39 HA.keep (fun w' h' => Sc.Clamp_yes (h.extract 0 32) (ext_size h 0 32 (by rw [hh]; decide)) w') ?_
  refine zsc ent17 HA.keep (fun w' h' => mul_pv bP (skS h) (skS_size h hh) w' (VV.below h'.old VV.big)) ?_
  refine zsc ent18 HA.keep (fun w' h' => bytes_pv (mP bP (numS (skS h))) w' (VV.below h'.old VV.big)) ?_
  refine zsp (.string (pkS h)) ?_
  exact AllSure.nil
 intro w1 h2
 refine then_at rfl ?_
 exact wp_ret (zb h2.old)
theorem partsOf_any (s : ByteArray) (hs : s.size = 32) (w : World) (VV : VA w) :
  Calls Tryz.prog 12 #[.string s] w fun e w' => ∃ q, e = .returned (.func (.func 38) #[] #[.pointer (some ⟨q, 0, none⟩)]) ∧ w.heap.size ≤ q ∧ Blk w' q 9 #[.string (hS s)] ∧ Below w.heap.size w w' := by
 have H0 := HA.start w
 go_enter Tryz.func12, Tryz.ntmps12
 refine zsr ?_
 refine zwv (.nilFunc) ?_
 refine znt ?_
 refine zsr ?_
 refine zwv (.string s) ?_
 refine Hh.wl_mks (n := 1) (m := 1) (c := Hh.psc [s]) H0 9 (run_bs1 (u := s) (by kernel_rfl)) ?_
 intro q1 w2 h3
 refine zwc h3 ent37 (sha_1 s (by omega) q1 w2 (VV.below h3.old VV.big) (h3.get 0 rfl)) ?_
 intro w4 h5
 refine wl_make h5 9 run_alloc9 ?_
 intro q6 w7 h8
 refine wl_putstr (q := q6) (s := hS s) h8 0 rfl (by kernel_rfl) (by kernel_rfl) (by kernel_rfl) ?_
 intro w9 (h10 : HA w [(q6, 9, #[.string (hS s)]), (q1, 9, Hh.psc [s])] w9)
 refine znt ?_
 refine zsr ?_
 refine zwv (.func (.func 38) #[] #[.pointer (some ⟨q6, 0, none⟩)]) ?_
 refine zwv (.func (.func 38) #[] #[.pointer (some ⟨q6, 0, none⟩)]) ?_
 refine znt ?_
 refine wp_ret ?_
 repeat first | refine then_ret ?_ | refine block_ret ?_
 exact bodyPost_ret (v := .func (.func 38) #[] #[.pointer (some ⟨q6, 0, none⟩)]) (by kernel_rfl) rfl ⟨q6, rfl, h10.own _ (List.mem_of_getElem? (show [(q6, 9, #[.string (hS s)]), (q1, 9, Hh.psc [s])][0]? = some _ from rfl)), h10.get 0 rfl, h10.old⟩
end Go.Proofs.YtefjnfeckenmkaaGreatDoor
