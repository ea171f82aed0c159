/-
 The reference's table and its blocks; put, once more.
-/
import Derived.Test.YtihfeoanognonaaGreatG1
namespace Go.Proofs.YtihfeoanognonaaGreat
set_option linter.unusedVariables false
set_option maxRecDepth 100000
set_option maxHeartbeats 2000000
open Go.RowKit
def RIL (RL : BL) (o : Option Addr) (ps : List Nat) : Prop := ps = [] ∨ ∃ q c, o = some ⟨q, 0, none⟩ ∧ (q, 3, c) ∈ RL ∧ ∀ j, j < ps.length → c[j]? = some (iN .i64 (ps.getD j 0))
def RTL (v : Value) (l : List Q4) (RL : BL) : Prop :=
 (v = .slice none 0 0 ∧ l = []) ∨ ∃ g cap cur pl, 0 < l.length ∧ v = .slice (some ⟨g, 0, none⟩) l.length cap ∧ (g, 74, cur) ∈ RL ∧ pl.length = l.length ∧ cur.toList.take (l.length * 4) = tcl l pl ∧ ∀ (i : Nat) q p, l[i]? = some q → pl[i]? = some p → RIL RL p.1 q.ps
def Stand (w : World) (RL : BL) : Prop := ∀ x ∈ RL, Blk w x.1 x.2.1 x.2.2
theorem Stand.keep {w w' : World} {RL : BL} (h : Stand w RL) (hb : Below w.heap.size w w') : Stand w' RL := fun x hx => (h x hx).keep hb
theorem RIL.ri {w : World} {RL : BL} {o : Option Addr} {ps : List Nat} (h : RIL RL o ps) (hs : Stand w RL) : RI 0 w o ps := h.imp id (fun ⟨q, c, h1, h2, h3⟩ => ⟨q, c, h1, Nat.zero_le _, hs _ h2, h3⟩)
theorem RIL.mono {RL RL' : BL} {o : Option Addr} {ps : List Nat} (h : RIL RL o ps) (hs : RL ⊆ RL') : RIL RL' o ps := h.imp id (fun ⟨q, c, h1, h2, h3⟩ => ⟨q, c, h1, hs h2, h3⟩)
theorem RTL.rt {w : World} {v : Value} {l : List Q4} {RL : BL} (h : RTL v l RL) (hs : Stand w RL) : RT w v l :=
 h.imp id (fun ⟨g, cap, cur, pl, h0, h1, h2, h3, h4, h5⟩ => ⟨g, cap, cur, pl, h0, h1, hs _ h2, h3, h4, fun i q p hq hp => (h5 i q p hq hp).ri hs⟩)
theorem RTL.mono {v : Value} {l : List Q4} {RL RL' : BL} (h : RTL v l RL) (hs : RL ⊆ RL') : RTL v l RL' :=
 h.imp id (fun ⟨g, cap, cur, pl, h0, h1, h2, h3, h4, h5⟩ => ⟨g, cap, cur, pl, h0, h1, hs h2, h3, h4, fun i q p hq hp => (h5 i q p hq hp).mono hs⟩)
theorem RTL.form {v : Value} {l : List Q4} {RL : BL} (h : RTL v l RL) : ∃ o c, v = .slice o l.length c := by
 rcases h with ⟨h, rfl⟩ | ⟨g, cap, cur, pl, _, h1, _⟩
 ·exact ⟨_, _, h⟩
 ·exact ⟨_, _, h1⟩
structure Newer (B : Nat) (w : World) (N : BL) : Prop where
 all : ∀ y ∈ N, B ≤ y.1 ∧ Blk w y.1 y.2.1 y.2.2
 nd : (N.map (·.1)).Nodup
theorem Newer.nil (B : Nat) (w : World) : Newer B w [] := ⟨fun y hy => (by cases hy), List.nodup_nil⟩
theorem HA.addL {z : Base} {L N : BL} {w w' : World} (H : HA z L w) (hb : Below w.heap.size w w') (hN : Newer w.heap.size w' N) : HA z (L ++ N) w' := by
 have H' := H.keep w w' hb
 refine ⟨H'.old, fun x hx => (List.mem_append.1 hx).elim (H'.blk x) (fun h => (hN.all x h).2), fun x hx => (List.mem_append.1 hx).elim (H'.own x) (fun h => Nat.le_trans H.old.old.size (hN.all x h).1), ?_⟩
 rw [List.map_append, List.nodup_append]
 refine ⟨H'.nd, hN.nd, fun a ha b hb' e => ?_⟩
 obtain ⟨x, hx, rfl⟩ := List.mem_map.1 ha
 obtain ⟨y, hy, rfl⟩ := List.mem_map.1 hb'
 have h1 := (H.blk x hx).lt
 have h2 := (hN.all y hy).1
 omega
theorem HA.newer {L N : BL} {w w' : World} (H : HA (bs w) (L ++ N) w') : Newer w.heap.size w' N :=
 ⟨fun y hy => ⟨H.own y (by simp [hy]), H.blk y (by simp [hy])⟩, by have := H.nd; rw [List.map_append, List.nodup_append] at this; exact this.2.1⟩
theorem RTL.new {w w' : World} {L Lr RL : BL} {v : Value} {l : List Q4} {pl : List (Option Addr × Nat)} {x : Q4} {o : Option Addr} {c n : Nat} (hn : n = l.length + 1) (hR : Row 74 4 v n (tcl l pl ++ (tmc x.k x.n x.s o x.ps.length c).toList) Lr) (H : HA (bs w) (L ++ Lr) w') (hp : pl.length = l.length) (hri : ∀ (i : Nat) q p, l[i]? = some q → pl[i]? = some p → RIL RL p.1 q.ps) (hrx : RIL RL o x.ps) : ∃ N, RTL v (l ++ [x]) (N ++ RL) ∧ Newer w.heap.size w' N := by
 subst hn
 rcases hR.2 with ⟨_, h2, _⟩ | ⟨g, cap, cur, h1, rfl, h3, h4, h5, h6⟩
 ·omega
 ·refine ⟨[(g, 74, cur)], .inr ⟨g, cap, cur, pl ++ [(o, c)], by simp, by rw [h1, List.length_append]; rfl, by simp, by simp [hp], by rw [List.length_append, List.length_singleton, h6, tcl_snoc l pl x (o, c) hp], fun i q p hq hpp => ?_⟩, H.newer⟩
  ·have hsub : RL ⊆ [(g, 74, cur)] ++ RL := fun y hy => by simp [hy]
   rw [List.getElem?_append] at hq hpp
   split at hq
   ·rename_i hi
    rw [if_pos (by omega)] at hpp
    exact (hri i q p hq hpp).mono hsub
   ·rename_i hi
    rw [if_neg (by omega)] at hpp
    have e : i - l.length = 0 := by
     rcases Nat.eq_zero_or_pos (i - l.length) with h | h
     ·exact h
     ·rw [List.getElem?_eq_none (by simp; omega)] at hq; cases hq
    rw [e] at hq
    rw [show i - pl.length = 0 by omega] at hpp
    simp only [List.getElem?_cons_zero, Option.some.injEq] at hq hpp
    subst hq hpp
    exact hrx.mono hsub
theorem putl_old {w : World} {ov : Option Addr} {cv : Nat} {l : List Q4} {RL : BL} (h : RTL (.slice ov l.length cv) l RL) (hS : Stand w RL) (hl : ∀ q ∈ l, q.ps.length ≤ 1000) (hll : l.length ≤ 1000000) (x : Q4) {o : Option Addr} {c : Nat} (r2 : RIL RL o x.ps) {i : Nat} (hf : l.idxOf? x = some i) :
  Calls Tryz.prog 29 #[.agg #[.slice ov l.length cv], tmv x.k x.n x.s o x.ps.length c] w fun e w' => ∃ v' N, e = .returned (.tuple #[.agg #[v'], iN .i64 (putN l x)]) ∧ RTL v' (putL l x) (N ++ RL) ∧ Newer w.heap.size w' N ∧ Below w.heap.size w w' := by
 have H0 := HA.start w
 go_enter Tryz.func29, Tryz.ntmps29
 refine zsr ?_
 refine wl_make (c := #[.slice ov l.length cv]) H0 27 ?_
 intro q1 w2 (h3 : HA (bs w) [(q1, 27, #[.slice ov l.length cv])] w2)
 refine wl_make (c := #[iN .i64 x.k, iN .i64 x.n, .string x.s, .slice o x.ps.length c]) h3 74 ?_
 intro q4 w5 (h6 : HA (bs w) [(q4, 74, #[iN .i64 x.k, iN .i64 x.n, .string x.s, .slice o x.ps.length c]), (q1, 27, #[.slice ov l.length cv])] w5)
 refine wl_make (c := #[.slice none 0 0]) h6 27 ?_
 intro q7 w8 (h9 : HA (bs w) [(q7, 27, #[.slice none 0 0]), (q4, 74, #[iN .i64 x.k, iN .i64 x.n, .string x.s, .slice o x.ps.length c]), (q1, 27, #[.slice ov l.length cv])] w8)
 refine zwv (iN .i64 0) ?_
 refine znt ?_
 refine zsr ?_
 refine wl_load h9 2 rfl Tryz.underlying27 rfl ?_
 refine wl_load h9 1 rfl Tryz.underlying74 rfl ?_
 refine wl_call (v := iN .i64 i) h9 enter49 #[.agg (#[.slice ov l.length cv]), .agg (#[iN .i64 x.k, iN .i64 x.n, .string x.s, .slice o x.ps.length c])] (by have := find_any (h.rt (hS.keep h9.old.old)) hl hll x (r2.ri (hS.keep h9.old.old)) (c := c); rw [fdI, hf] at this; exact this) ?_
 intro w10 h11
 refine zwv (iN .i64 i) ?_
 refine znt ?_
 refine wp_seq ?_
 refine zsr ?_
 refine zwv (iN .i64 i) ?_
 refine zwu (run_geq (k := .i64) (a := i) (b := 0) true (decide_eq_true (by omega))) ?_
 refine znt ?_
 refine zct ?_
 refine zsr ?_
 refine wl_load h11 2 rfl Tryz.underlying27 rfl ?_
 refine zwv (iN .i64 i) ?_
 refine wl_fill (c' := #[.slice ov l.length cv]) h11 0 rfl rfl ?_
 intro w12 (h13 : HA (bs w) [(q7, 27, #[.slice ov l.length cv]), (q4, 74, #[iN .i64 x.k, iN .i64 x.n, .string x.s, .slice o x.ps.length c]), (q1, 27, #[.slice ov l.length cv])] w12)
 refine zwv (iN .i64 i) ?_
 refine znt ?_
 refine wp_ret ?_
 repeat first | refine then_ret ?_ | refine block_ret ?_
 exact bodyPost_ret (v := .tuple #[.agg #[.slice ov l.length cv], iN .i64 i]) (res_cell_tmp (p := 4) (r := 5) (by kernel_rfl) (by kernel_rfl) (by kernel_rfl) (h13.get 0 rfl) Tryz.underlying27 rfl (by kernel_rfl)) rfl ⟨_, [], by rw [putN, hf], by rw [putL, hf]; exact h, Newer.nil _ _, h13.old.old⟩
theorem putl_new {w : World} {g : Nat} {cur : Array Value} {pl : List (Option Addr × Nat)} {cv : Nat} {l : List Q4} {RL : BL} (h : RTL (.slice (some ⟨g, 0, none⟩) l.length cv) l RL) (hS : Stand w RL) (hl : ∀ q ∈ l, q.ps.length ≤ 1000) (hll : l.length ≤ 1000000) (x : Q4) {o : Option Addr} {c : Nat} (r2 : RIL RL o x.ps) (hg : Blk w g 74 cur) (hpl : pl.length = l.length) (hcur : cur.toList.take (l.length * 4) = tcl l pl) (hri : ∀ (i : Nat) q p, l[i]? = some q → pl[i]? = some p → RIL RL p.1 q.ps) (hl0 : 0 < l.length) (hf : l.idxOf? x = none) :
  Calls Tryz.prog 29 #[.agg #[.slice (some ⟨g, 0, none⟩) l.length cv], tmv x.k x.n x.s o x.ps.length c] w fun e w' => ∃ v' N, e = .returned (.tuple #[.agg #[v'], iN .i64 (putN l x)]) ∧ RTL v' (putL l x) (N ++ RL) ∧ Newer w.heap.size w' N ∧ Below w.heap.size w w' := by
 have H0 := HA.start w
 go_enter Tryz.func29, Tryz.ntmps29
 refine zsr ?_
 refine wl_make (c := #[.slice (some ⟨g, 0, none⟩) l.length cv]) H0 27 ?_
 intro q1 w2 (h3 : HA (bs w) [(q1, 27, #[.slice (some ⟨g, 0, none⟩) l.length cv])] w2)
 refine wl_make (c := #[iN .i64 x.k, iN .i64 x.n, .string x.s, .slice o x.ps.length c]) h3 74 ?_
 intro q4 w5 (h6 : HA (bs w) [(q4, 74, #[iN .i64 x.k, iN .i64 x.n, .string x.s, .slice o x.ps.length c]), (q1, 27, #[.slice (some ⟨g, 0, none⟩) l.length cv])] w5)
 refine wl_make (c := #[.slice none 0 0]) h6 27 ?_
 intro q7 w8 (h9 : HA (bs w) [(q7, 27, #[.slice none 0 0]), (q4, 74, #[iN .i64 x.k, iN .i64 x.n, .string x.s, .slice o x.ps.length c]), (q1, 27, #[.slice (some ⟨g, 0, none⟩) l.length cv])] w8)
 refine zwv (iN .i64 0) ?_
 refine znt ?_
 refine zsr ?_
 refine wl_load h9 2 rfl Tryz.underlying27 rfl ?_
 refine wl_load h9 1 rfl Tryz.underlying74 rfl ?_
 refine wl_call (v := .int .i64 (-1)) h9 enter49 #[.agg (#[.slice (some ⟨g, 0, none⟩) l.length cv]), .agg (#[iN .i64 x.k, iN .i64 x.n, .string x.s, .slice o x.ps.length c])] (by have := find_any (h.rt (hS.keep h9.old.old)) hl hll x (r2.ri (hS.keep h9.old.old)) (c := c); rw [fdI, hf] at this; exact this) ?_
 intro w10 h11
 refine zwv (.int .i64 (-1)) ?_
 refine znt ?_
 refine wp_seq ?_
 refine zsr ?_
 refine zwv (.int .i64 (-1)) ?_
 refine zwv (.bool false) ?_
 refine znt ?_
 refine zcf ?_
 refine wp_skip ?_
 refine then_at rfl ?_
 refine zsr ?_
 refine zwv (.slice none 0 0) ?_
 refine znt ?_
 refine zsr ?_
 refine zwv (.slice none 0 0) ?_
 refine zwv (.pointer (some ⟨q1, 0, none⟩)) ?_
 refine zwu (v := .slice (some ⟨g, 0, none⟩) l.length cv) (run_load1 Tryz.isAgg25 (((h11.get 2 rfl).cell 0).trans rfl)) ?_
 refine wl_appendR (p := g) (m := l.length) (c := cv) (news := tcl l pl) (Lr := []) (L := [(q7, 27, #[.slice none 0 0]), (q4, 74, #[iN .i64 x.k, iN .i64 x.n, .string x.s, .slice o x.ps.length c]), (q1, 27, #[.slice (some ⟨g, 0, none⟩) l.length cv])]) (Row.nil 74 4) h11 (by decide) _ 56 Tryz.underlying25 info31 rfl (by decide) (by kernel_rfl) (by kernel_rfl) (by kernel_rfl) (tcl_len l pl hpl) (fun j u hu => tcl_cell (h11.old.old) hg hcur hpl j u hu) (tcl_one l pl) (by unfold maxLen; omega) (by omega) (by omega) ?_
 intro v1 w12 Lr1 hR1 h13
 have h14 : HA (bs w) ((q7, 27, #[.slice none 0 0]) :: (q4, 74, #[iN .i64 x.k, iN .i64 x.n, .string x.s, .slice o x.ps.length c]) :: (q1, 27, #[.slice (some ⟨g, 0, none⟩) l.length cv]) :: Lr1) w12 := HA.perm h13 List.perm_append_comm
 refine zwv (v1) ?_
 refine znt ?_
 refine zsr ?_
 refine zwv (v1) ?_
 refine wl_load h14 1 rfl Tryz.underlying74 rfl ?_
 refine wl_mks (n := 1) (m := 1) (c := tmc x.k x.n x.s o x.ps.length c) h14 74 ?_
 intro q15 w16 (h17 : HA (bs w) ((q15, 74, tmc x.k x.n x.s o x.ps.length c) :: (q7, 27, #[.slice none 0 0]) :: (q4, 74, #[iN .i64 x.k, iN .i64 x.n, .string x.s, .slice o x.ps.length c]) :: (q1, 27, #[.slice (some ⟨g, 0, none⟩) l.length cv]) :: Lr1) w16)
 have h18 : HA (bs w) ((q15, 74, tmc x.k x.n x.s o x.ps.length c) :: (Lr1 ++ [(q7, 27, #[.slice none 0 0]), (q4, 74, #[iN .i64 x.k, iN .i64 x.n, .string x.s, .slice o x.ps.length c]), (q1, 27, #[.slice (some ⟨g, 0, none⟩) l.length cv])])) w16 := HA.perm h17 (List.Perm.cons _ (List.perm_append_comm (l₁ := ([(q7, 27, #[.slice none 0 0]), (q4, 74, #[iN .i64 x.k, iN .i64 x.n, .string x.s, .slice o x.ps.length c]), (q1, 27, #[.slice (some ⟨g, 0, none⟩) l.length cv])] : BL)) (l₂ := (Lr1 : BL))))
 refine wl_append (m := 1) (c := 1) (Lr := Lr1) (L := [(q7, 27, #[.slice none 0 0]), (q4, 74, #[iN .i64 x.k, iN .i64 x.n, .string x.s, .slice o x.ps.length c]), (q1, 27, #[.slice (some ⟨g, 0, none⟩) l.length cv])]) hR1 h18 _ 56 Tryz.underlying25 info31 rfl rfl (by unfold maxLen; omega) (by omega) ?_
 intro v2 w19 Lr2 hR2 h20
 have h21 : HA (bs w) ((q7, 27, #[.slice none 0 0]) :: (q4, 74, #[iN .i64 x.k, iN .i64 x.n, .string x.s, .slice o x.ps.length c]) :: (q1, 27, #[.slice (some ⟨g, 0, none⟩) l.length cv]) :: Lr2) w19 := HA.perm h20 List.perm_append_comm
 obtain ⟨pv, cw, rfl⟩ := hR2.form
 refine zwv (.slice pv ((0 + l.length) + 1) cw) ?_
 refine znt ?_
 refine zsr ?_
 refine zwv (.slice pv ((0 + l.length) + 1) cw) ?_
 refine zwv (.agg #[.slice pv ((0 + l.length) + 1) cw]) ?_
 refine zwv (.slice pv ((0 + l.length) + 1) cw) ?_
 refine zwv (iN .i64 ((0 + l.length) + 1)) ?_
 refine zwu (v := iN .i64 (((0 + l.length) + 1) - 1)) (run_sub (k := .i64) (a := (0 + l.length) + 1) (b := 1) (by kernel_rfl) (by kernel_rfl) (by first | omega | (simp only [top]; omega)) (by first | omega | (simp only [top]; omega))) ?_
 refine wl_fill (c' := #[.slice pv ((0 + l.length) + 1) cw]) h21 0 rfl rfl ?_
 intro w22 (h23 : HA (bs w) ((q7, 27, #[.slice pv ((0 + l.length) + 1) cw]) :: (q4, 74, #[iN .i64 x.k, iN .i64 x.n, .string x.s, .slice o x.ps.length c]) :: (q1, 27, #[.slice (some ⟨g, 0, none⟩) l.length cv]) :: Lr2) w22)
 refine zwv (iN .i64 (((0 + l.length) + 1) - 1)) ?_
 refine znt ?_
 refine wp_ret ?_
 repeat first | refine then_ret ?_ | refine block_ret ?_
 obtain ⟨N, hN1, hN2⟩ := RTL.new (RL := RL) (L := [(q7, 27, #[.slice pv ((0 + l.length) + 1) cw]), (q4, 74, #[iN .i64 x.k, iN .i64 x.n, .string x.s, .slice o x.ps.length c]), (q1, 27, #[.slice (some ⟨g, 0, none⟩) l.length cv])]) (pl := pl) (l := l) (x := x) (o := o) (c := c) (by omega) hR2 h23 hpl (fun i q p hq hp => hri i q p hq hp) r2
 exact bodyPost_ret (v := .tuple #[.agg #[.slice pv ((0 + l.length) + 1) cw], iN .i64 ((0 + l.length) + 1 - 1)]) (res_cell_tmp (p := 4) (r := 5) (by kernel_rfl) (by kernel_rfl) (by kernel_rfl) (h23.get 0 rfl) Tryz.underlying27 rfl (by kernel_rfl)) rfl ⟨_, N, by rw [putN, hf]; rw [show 0 + l.length + 1 - 1 = l.length by omega], by rw [putL, hf]; exact hN1, hN2, h23.old.old⟩
theorem putl_new0 {w : World} (x : Q4) {o : Option Addr} {c : Nat} {RL : BL} (hS : Stand w RL) (r2 : RIL RL o x.ps) (l : List Q4) (hl0 : l = []) (h : RTL (.slice none 0 0) l RL) (hl : ∀ q ∈ l, q.ps.length ≤ 1000) (hll : l.length ≤ 1000000) (hf : l.idxOf? x = none) :
  Calls Tryz.prog 29 #[.agg #[.slice none 0 0], tmv x.k x.n x.s o x.ps.length c] w fun e w' => ∃ v' N, e = .returned (.tuple #[.agg #[v'], iN .i64 (putN l x)]) ∧ RTL v' (putL l x) (N ++ RL) ∧ Newer w.heap.size w' N ∧ Below w.heap.size w w' := by
 have H0 := HA.start w
 subst hl0
 go_enter Tryz.func29, Tryz.ntmps29
 refine zsr ?_
 refine wl_make (c := #[.slice none 0 0]) H0 27 ?_
 intro q1 w2 (h3 : HA (bs w) [(q1, 27, #[.slice none 0 0])] w2)
 refine wl_make (c := #[iN .i64 x.k, iN .i64 x.n, .string x.s, .slice o x.ps.length c]) h3 74 ?_
 intro q4 w5 (h6 : HA (bs w) [(q4, 74, #[iN .i64 x.k, iN .i64 x.n, .string x.s, .slice o x.ps.length c]), (q1, 27, #[.slice none 0 0])] w5)
 refine wl_make (c := #[.slice none 0 0]) h6 27 ?_
 intro q7 w8 (h9 : HA (bs w) [(q7, 27, #[.slice none 0 0]), (q4, 74, #[iN .i64 x.k, iN .i64 x.n, .string x.s, .slice o x.ps.length c]), (q1, 27, #[.slice none 0 0])] w8)
 refine zwv (iN .i64 0) ?_
 refine znt ?_
 refine zsr ?_
 refine wl_load h9 2 rfl Tryz.underlying27 rfl ?_
 refine wl_load h9 1 rfl Tryz.underlying74 rfl ?_
 refine wl_call (v := .int .i64 (-1)) h9 enter49 #[.agg (#[.slice none 0 0]), .agg (#[iN .i64 x.k, iN .i64 x.n, .string x.s, .slice o x.ps.length c])] (by have := find_any (h.rt (hS.keep h9.old.old)) hl hll x (r2.ri (hS.keep h9.old.old)) (c := c); rw [fdI, hf] at this; exact this) ?_
 intro w10 h11
 refine zwv (.int .i64 (-1)) ?_
 refine znt ?_
 refine wp_seq ?_
 refine zsr ?_
 refine zwv (.int .i64 (-1)) ?_
 refine zwv (.bool false) ?_
 refine znt ?_
 refine zcf ?_
 refine wp_skip ?_
 refine then_at rfl ?_
 refine zsr ?_
 refine zwv (.slice none 0 0) ?_
 refine znt ?_
 refine zsr ?_
 refine zwv (.slice none 0 0) ?_
 refine zwv (.pointer (some ⟨q1, 0, none⟩)) ?_
 refine zwu (v := .slice none 0 0) (run_load1 Tryz.isAgg25 (((h11.get 2 rfl).cell 0).trans rfl)) ?_
 refine zwv (.slice none 0 0) ?_
 refine zwv (.slice none 0 0) ?_
 refine znt ?_
 refine zsr ?_
 refine zwv (.slice none 0 0) ?_
 refine wl_load h11 1 rfl Tryz.underlying74 rfl ?_
 refine wl_mks (n := 1) (m := 1) (c := tmc x.k x.n x.s o x.ps.length c) h11 74 ?_
 intro q12 w13 (h14 : HA (bs w) [(q12, 74, tmc x.k x.n x.s o x.ps.length c), (q7, 27, #[.slice none 0 0]), (q4, 74, #[iN .i64 x.k, iN .i64 x.n, .string x.s, .slice o x.ps.length c]), (q1, 27, #[.slice none 0 0])] w13)
 have h15 : HA (bs w) ((q12, 74, tmc x.k x.n x.s o x.ps.length c) :: ([] ++ [(q7, 27, #[.slice none 0 0]), (q4, 74, #[iN .i64 x.k, iN .i64 x.n, .string x.s, .slice o x.ps.length c]), (q1, 27, #[.slice none 0 0])])) w13 := HA.perm h14 (List.Perm.cons _ (List.perm_append_comm (l₁ := ([(q7, 27, #[.slice none 0 0]), (q4, 74, #[iN .i64 x.k, iN .i64 x.n, .string x.s, .slice o x.ps.length c]), (q1, 27, #[.slice none 0 0])] : BL)) (l₂ := ([] : BL))))
 refine wl_append (m := 1) (c := 1) (Lr := []) (L := [(q7, 27, #[.slice none 0 0]), (q4, 74, #[iN .i64 x.k, iN .i64 x.n, .string x.s, .slice o x.ps.length c]), (q1, 27, #[.slice none 0 0])]) (Row.nil 74 4) h15 _ 56 Tryz.underlying25 info31 rfl rfl (by unfold maxLen; omega) (by omega) ?_
 intro v2 w16 Lr2 hR2 h17
 have h18 : HA (bs w) ((q7, 27, #[.slice none 0 0]) :: (q4, 74, #[iN .i64 x.k, iN .i64 x.n, .string x.s, .slice o x.ps.length c]) :: (q1, 27, #[.slice none 0 0]) :: Lr2) w16 := HA.perm h17 List.perm_append_comm
 obtain ⟨pv, cw, rfl⟩ := hR2.form
 refine zwv (.slice pv (0 + 1) cw) ?_
 refine znt ?_
 refine zsr ?_
 refine zwv (.slice pv (0 + 1) cw) ?_
 refine zwv (.agg #[.slice pv (0 + 1) cw]) ?_
 refine zwv (.slice pv (0 + 1) cw) ?_
 refine zwv (iN .i64 (0 + 1)) ?_
 refine zwu (v := iN .i64 ((0 + 1) - 1)) (run_sub (k := .i64) (a := 0 + 1) (b := 1) (by kernel_rfl) (by kernel_rfl) (by first | omega | (simp only [top]; omega)) (by first | omega | (simp only [top]; omega))) ?_
 refine wl_fill (c' := #[.slice pv (0 + 1) cw]) h18 0 rfl rfl ?_
 intro w19 (h20 : HA (bs w) ((q7, 27, #[.slice pv (0 + 1) cw]) :: (q4, 74, #[iN .i64 x.k, iN .i64 x.n, .string x.s, .slice o x.ps.length c]) :: (q1, 27, #[.slice none 0 0]) :: Lr2) w19)
 refine zwv (iN .i64 ((0 + 1) - 1)) ?_
 refine znt ?_
 refine wp_ret ?_
 repeat first | refine then_ret ?_ | refine block_ret ?_
 obtain ⟨N, hN1, hN2⟩ := RTL.new (RL := RL) (L := [(q7, 27, #[.slice pv (0 + 1) cw]), (q4, 74, #[iN .i64 x.k, iN .i64 x.n, .string x.s, .slice o x.ps.length c]), (q1, 27, #[.slice none 0 0])]) (pl := []) (l := []) (x := x) (o := o) (c := c) (rfl) hR2 h20 rfl (fun i q p hq hp => by simp at hq) r2
 exact bodyPost_ret (v := .tuple #[.agg #[.slice pv (0 + 1) cw], iN .i64 (0 + 1 - 1)]) (res_cell_tmp (p := 4) (r := 5) (by kernel_rfl) (by kernel_rfl) (by kernel_rfl) (h20.get 0 rfl) Tryz.underlying27 rfl (by kernel_rfl)) rfl ⟨_, N, by rw [putN, hf]; rfl, by rw [putL, hf]; exact hN1, hN2, h20.old.old⟩
theorem putl_any {w : World} {v : Value} {l : List Q4} {RL : BL} (h : RTL v l RL) (hS : Stand w RL) (hl : ∀ q ∈ l, q.ps.length ≤ 1000) (hll : l.length ≤ 1000000) (x : Q4) {o : Option Addr} {c : Nat} (r2 : RIL RL o x.ps) :
  Calls Tryz.prog 29 #[.agg #[v], tmv x.k x.n x.s o x.ps.length c] w fun e w' => ∃ v' N, e = .returned (.tuple #[.agg #[v'], iN .i64 (putN l x)]) ∧ RTL v' (putL l x) (N ++ RL) ∧ Newer w.heap.size w' N ∧ Below w.heap.size w w' := by
 cases hf : l.idxOf? x with
 | some i =>
  obtain ⟨ov, cv, rfl⟩ := h.form
  exact putl_old h hS hl hll x r2 hf
 | none =>
  have h0 := h
  rcases h with ⟨rfl, h2⟩ | ⟨g, cap, cur, pl, e, rfl, h2, h3, h4, h5⟩
  ·exact putl_new0 x hS r2 l h2 h0 hl hll hf
  ·exact putl_new h0 hS hl hll x r2 (hS _ h2) h3 h4 h5 e hf
end Go.Proofs.YtihfeoanognonaaGreat
