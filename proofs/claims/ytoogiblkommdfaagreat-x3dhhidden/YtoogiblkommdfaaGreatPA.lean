/-
  Tables without places: what is made, whatever the memory. A prim of terms in memory.
-/
import Derived.Test.YtoogiblkommdfaaGreatGD
import Derived.Test.YtoogiblkommdfaaGreatGE
namespace Go.Proofs.YtoogiblkommdfaaGreat
open Go.RowKit

def zE : Ent → Ent
  | .mk k n s ps _ => .mk k n s ps 0
  | .nm n => .nm n
  | .dt s => .dt s
def Z (es : List Ent) : List Ent := es.map zE
theorem Z_len (es : List Ent) : (Z es).length = es.length := by simp [Z]
theorem Z_app (a b : List Ent) : Z (a ++ b) = Z a ++ Z b := by simp [Z]
theorem Z_get (es : List Ent) (i : Nat) : (Z es)[i]? = (es[i]?).map zE := by simp [Z]
theorem nms_Z : ∀ es : List Ent, nms (Z es) = nms es
  | [] => rfl
  | e :: es => by
    have := nms_Z es
    cases e <;> simp only [Z, List.map_cons, zE, nms] at this ⊢ <;> omega
theorem dts_Z : ∀ (es : List Ent) (i : Nat), dts (Z es) i = dts es i
  | [], _ => rfl
  | e :: es, i => by
    have := dts_Z es (i + 1)
    cases e <;> simp only [Z, List.map_cons, zE, dts] at this ⊢ <;> rw [this]
theorem mks_Z : ∀ (es : List Ent) (i : Nat), mks (Z es) i = mks es i
  | [], _ => rfl
  | e :: es, i => by
    have := mks_Z es (i + 1)
    cases e <;> simp only [Z, List.map_cons, zE, mks] at this ⊢ <;> rw [this]
theorem secT_Z (es : List Ent) (p : Nat) : secT (Z es) p = secT es p := by
  unfold secT
  rw [Z_get]
  cases es[p]? with
  | none => rfl
  | some e => cases e <;> rfl
theorem partF_Z (es : List Ent) (s : ByteArray) : partF (Z es) s = (Z (partF es s).1, (partF es s).2) := by
  unfold partF
  rw [Z_len, dts_Z]
  cases numT es.length s with
  | some n => rfl
  | none =>
    cases lkT (dts es 0) s with
    | some n => rfl
    | none => simp only [Z_app]; rfl
theorem pfE_Z (es : List Ent) (ss : List ByteArray) : ∀ k, pfE (Z es) ss k = Z (pfE es ss k)
  | 0 => rfl
  | k + 1 => by
    show (partF (pfE (Z es) ss k) _).1 = Z (partF (pfE es ss k) _).1
    rw [pfE_Z es ss k, partF_Z]
theorem pfN_Z (es : List Ent) (ss : List ByteArray) : ∀ k, pfN (Z es) ss k = pfN es ss k
  | 0 => rfl
  | k + 1 => by
    show pfN (Z es) ss k ++ [(partF (pfE (Z es) ss k) _).2] = pfN es ss k ++ [(partF (pfE es ss k) _).2]
    rw [pfN_Z es ss k, pfE_Z, partF_Z]
theorem joinN_Z (es : List Ent) (k : Nat) (ns : List Nat) : joinN (Z es) k ns = joinN es k ns := by unfold joinN dhN; rw [secT_Z]
theorem joinP_Z (es : List Ent) (k : Nat) (ns : List Nat) : joinP (Z es) k ns = joinP es k ns := by unfold joinP dhP; rw [secT_Z]
theorem lkJ_Z (es : List Ent) (k : Nat) (label : ByteArray) (ss : List ByteArray) : lkJ (Z es) k label ss = lkJ es k label ss := by
  unfold lkJ
  rw [pfE_Z, pfN_Z, mks_Z, joinN_Z, joinP_Z]
/-- what is made, and its number -/
def mkA (A : List Ent) (k : Nat) (label : ByteArray) (ss : List ByteArray) : List Ent × Nat :=
  match lkJ A k label ss with
  | some x => (pfE A ss ss.length, x)
  | none => (pfE A ss ss.length ++ [.mk k (joinN (pfE A ss ss.length) k (pfN A ss ss.length)) (joinS k label) (joinP (pfE A ss ss.length) k (pfN A ss ss.length)) 0], (pfE A ss ss.length).length)
theorem JO.z {es es' : List Ent} {k x : Nat} {label : ByteArray} {ss : List ByteArray} (h : JO es k label ss x es') : Z es' = (mkA (Z es) k label ss).1 ∧ x = (mkA (Z es) k label ss).2 := by
  unfold mkA
  rw [lkJ_Z, pfE_Z, pfN_Z, joinN_Z, joinP_Z, Z_len]
  rcases h with ⟨h1, rfl⟩ | ⟨h1, rfl, b, rfl⟩
  · rw [h1]; exact ⟨rfl, rfl⟩
  · rw [h1]; exact ⟨by rw [Z_app]; rfl, rfl⟩
theorem mkA_len (A : List Ent) (k : Nat) (label : ByteArray) (ss : List ByteArray) : (mkA A k label ss).1.length ≤ A.length + ss.length + 1 := by
  have := pfE_len A ss ss.length
  unfold mkA
  split
  · simp only; omega
  · simp; omega
/-- what is so of every table -/
structure OkT (es : List Ent) : Prop where
  wf : Wf es
  wg : Wg es
  dd : ∀ s, Ent.dt s ∈ es → s.size ≤ 1000000
  ll : ∀ k n s ps b, Ent.mk k n s ps b ∈ es → s.size ≤ 1000000
  kk : ∀ k n s ps b, Ent.mk k n s ps b ∈ es → 3 ≤ k
theorem OkT.nil : OkT [] := ⟨Wf.nil, Wg.nil, fun _ h => (by cases h), fun _ _ _ _ _ h => (by cases h), fun _ _ _ _ _ h => (by cases h)⟩
theorem OkT.nm {es : List Ent} (h : OkT es) (n : Nat) (hl : es.length < 60000) : OkT (es ++ [.nm n]) := ⟨h.wf.nm n hl, h.wg.nm n, fun s hs => by
    rcases List.mem_append.1 hs with hs | hs
    · exact h.dd s hs
    · simp at hs, fun k n s ps b hs => by
    rcases List.mem_append.1 hs with hs | hs
    · exact h.ll k n s ps b hs
    · simp at hs, fun k n s ps b hs => by
    rcases List.mem_append.1 hs with hs | hs
    · exact h.kk k n s ps b hs
    · simp at hs⟩
theorem OkT.part {es : List Ent} (h : OkT es) (s : ByteArray) (hs : s.size ≤ 1000000) (hl : es.length < 60000) : OkT (partF es s).1 := by
  refine ⟨h.wf.part s hl, h.wg.part s, ?_, ?_, ?_⟩
  · unfold partF
    split
    · exact h.dd
    · split
      · exact h.dd
      · intro t ht
        rcases List.mem_append.1 ht with ht | ht
        · exact h.dd t ht
        · obtain rfl := Ent.dt.inj (List.mem_singleton.1 ht); exact hs
  · unfold partF
    split
    · exact h.ll
    · split
      · exact h.ll
      · intro k n t ps b ht
        rcases List.mem_append.1 ht with ht | ht
        · exact h.ll k n t ps b ht
        · cases List.mem_singleton.1 ht
  · unfold partF
    split
    · exact h.kk
    · split
      · exact h.kk
      · intro k n t ps b ht
        rcases List.mem_append.1 ht with ht | ht
        · exact h.kk k n t ps b ht
        · cases List.mem_singleton.1 ht
theorem OkT.parts {es : List Ent} (h : OkT es) (ss : List ByteArray) (hs : ∀ i, (ss.getD i ByteArray.empty).size ≤ 1000000) : ∀ k, es.length + k ≤ 60000 → OkT (pfE es ss k)
  | 0, _ => h
  | k + 1, hk => (h.parts ss hs k (by omega)).part _ (hs k) (by have := pfE_len es ss k; omega)
theorem JO.ok {es es' : List Ent} {k x : Nat} {label : ByteArray} {ss : List ByteArray} (h : OkT es) (hJ : JO es k label ss x es') (hl : es.length + ss.length < 60000) (hs : ss.length ≤ 100) (hlab : label.size ≤ 1000000) (hss : ∀ i, (ss.getD i ByteArray.empty).size ≤ 1000000) (h3 : k = 3 → ss.length = 1) (h4 : k = 4 → ss.length = 2) (h6 : k = 6 → ss.length = 4) (h7 : k = 7 → ss.length = 2) (hk : 3 ≤ k) : OkT es' := by
  refine ⟨JO.wf h.wf hJ hl hs h3, JO.wg h.wg h.wf hJ hl h4 h6 h7, ?_, ?_, ?_⟩
  · have hp := h.parts ss hss ss.length (by omega)
    rcases hJ with ⟨_, rfl⟩ | ⟨_, _, b, rfl⟩
    · exact hp.dd
    · intro t ht
      rcases List.mem_append.1 ht with ht | ht
      · exact hp.dd t ht
      · cases List.mem_singleton.1 ht
  · have hp := h.parts ss hss ss.length (by omega)
    rcases hJ with ⟨_, rfl⟩ | ⟨_, _, b, rfl⟩
    · exact hp.ll
    · intro k' n' t ps b' ht
      rcases List.mem_append.1 ht with ht | ht
      · exact hp.ll _ _ t _ _ ht
      · obtain ⟨rfl, rfl, rfl, rfl, rfl⟩ := Ent.mk.inj (List.mem_singleton.1 ht)
        unfold joinS
        split
        · exact Nat.zero_le _
        · exact hlab
  · have hp := h.parts ss hss ss.length (by omega)
    rcases hJ with ⟨_, rfl⟩ | ⟨_, _, b, rfl⟩
    · exact hp.kk
    · intro k' n' t ps b' ht
      rcases List.mem_append.1 ht with ht | ht
      · exact hp.kk _ _ t _ _ ht
      · obtain ⟨rfl, rfl, rfl, rfl, rfl⟩ := Ent.mk.inj (List.mem_singleton.1 ht)
        exact hk
theorem mayB_k {k : Nat} {s : ByteArray} {n : Nat} (h : mayB k s n = true) : 3 ≤ k := by
  unfold mayB at h
  by_cases hk : 3 ≤ k
  · exact hk
  · exfalso
    have : (k : Int) ≠ 3 ∧ (k : Int) ≠ 4 ∧ (k : Int) ≠ 5 ∧ (k : Int) ≠ 6 ∧ (k : Int) ≠ 7 := by omega
    simp_all
/-- where a prim lies -/
structure Pr where
  q : Nat
  t : Tb
def kitv (p : Pr) : Value := .agg #[pt p.t.q]
def pcell (p : Pr) (jv : Value) : Array Value := #[.iface 114 (kitv p), jv]
/-- a prim of terms with that table and so many deeds, and what is one's own beside it -/
def PH (w0 : World) (M : ML) (p : Pr) (A : List Ent) (n : Nat) (L : BL) (w : World) : Prop :=
  ∃ es jv xs Lj, Z es = A ∧ OkT es ∧ Row 71 6 jv n xs Lj ∧ TH w0 M p.t es ((p.q, 112, pcell p jv) :: (Lj ++ L)) w
section
variable {w0 w w' : World} {M : ML} {p : Pr} {A : List Ent} {n : Nat} {L : BL}
theorem perm_pr (a c : Nat × TypeId × Array Value) (R B J L' : BL) : (L' ++ (a :: (R ++ (B ++ (c :: J))))).Perm (a :: (R ++ (B ++ (c :: (J ++ L'))))) := by
  refine List.perm_append_comm.trans ?_
  simp [List.append_assoc]
theorem PH.front (h : PH w0 M p A n L w) : ∃ z X, (∀ L' w', HA z (L' ++ X) w' → PH w0 M p A n L' w') ∧ (∀ L' w', HA z L' w' → Below w0.heap.size w0 w') ∧ HA z (L ++ X) w := by
  obtain ⟨es, jv, xs, Lj, h1, h2, h3, v, Lr, h4, H⟩ := h
  exact ⟨zb w0 M p.t es, _, fun L' w' H' => ⟨es, jv, xs, Lj, h1, h2, h3, v, Lr, h4, H'.perm (perm_pr _ _ Lr (PB es) Lj L')⟩, fun L' w' H' => H'.old.old, H.perm (perm_pr _ _ Lr (PB es) Lj L).symm⟩
theorem PH.keep (h : PH w0 M p A n L w) (hb : Below w.heap.size w w') : PH w0 M p A n L w' := by
  obtain ⟨es, jv, xs, Lj, h1, h2, h3, H⟩ := h
  exact ⟨es, jv, xs, Lj, h1, h2, h3, H.keep hb⟩
theorem PH.blk (h : PH w0 M p A n L w) : ∃ jv, Blk w p.q 112 (pcell p jv) := by
  obtain ⟨es, jv, xs, Lj, h1, h2, h3, H⟩ := h
  exact ⟨jv, H.blk (x := (p.q, 112, pcell p jv)) (by simp)⟩
theorem PH.few (h : PH w0 M p A n L w) : A.length ≤ 60000 := by
  obtain ⟨es, jv, xs, Lj, rfl, h2, h3, H⟩ := h
  rw [Z_len]; exact h2.wf.few
theorem PH.sub {L' : BL} (H : PH w0 M p A n L w) (h : L'.Sublist L) : PH w0 M p A n L' w := by
  obtain ⟨es, jv, xs, Lj, h1, h2, h3, H⟩ := H
  exact ⟨es, jv, xs, Lj, h1, h2, h3, H.sub (List.Sublist.cons_cons _ (List.Sublist.append (List.Sublist.refl _) h))⟩
theorem PH.perm {L' : BL} (H : PH w0 M p A n L w) (h : L.Perm L') : PH w0 M p A n L' w := by
  obtain ⟨es, jv, xs, Lj, h1, h2, h3, H⟩ := H
  exact ⟨es, jv, xs, Lj, h1, h2, h3, H.perm (List.Perm.cons _ (List.Perm.append_left _ h))⟩
theorem Make_P (H : PH w0 M p A n L w) (k : Nat) (label : ByteArray) (ss : List ByteArray) (o : Option Addr) (cc : Nat) (hp : ss = [] ∨ ∃ pq cs, o = some ⟨pq, 0, none⟩ ∧ PreS cs ss ∧ (pq, 9, cs) ∈ L) (hf : A.length < 58000) (hmb : mayB k label ss.length = true) (hlab : label.size ≤ 65536) (hss : ∀ i, (ss.getD i ByteArray.empty).size ≤ 65536) (hsl : ss.length ≤ 100) (h3 : k = 3 → ss.length = 1) (h4 : k = 4 → ss.length = 2) (h6 : k = 6 → ss.length = 4) (h7 : k = 7 → ss.length = 2) :
    Calls Tryz.prog 364 #[pt p.t.q, iN .i64 k, .string label, .slice o ss.length cc] w fun e w' => e = .returned (.tuple #[.string (txt (mkA A k label ss).2), iN .i64 0]) ∧ PH w0 M p (mkA A k label ss).1 n L w' := by
  obtain ⟨es, jv, xs, Lj, rfl, h2, hR, H⟩ := H
  rw [Z_len] at hf
  refine (Make_ok H h2.wf k label ss o cc (hp.imp id fun ⟨pq, cs, e1, e2, e3⟩ => ⟨pq, cs, e1, e2, by simp [e3]⟩) hf hmb hlab hss hsl h4).mono ?_
  rintro e w' ⟨x, es', hJ, rfl, H'⟩
  obtain ⟨e1, rfl⟩ := hJ.z
  exact ⟨rfl, es', jv, xs, Lj, e1, hJ.ok h2 (by omega) hsl (by omega) (fun i => by have := hss i; omega) h3 h4 h6 h7 (mayB_k hmb), hR, H'⟩
theorem Fresh_P (H : PH w0 M p A n L w) (hf : A.length < 58000) :
    Calls Tryz.prog 234 #[pt p.t.q] w fun e w' => e = .returned (.string (txt A.length)) ∧ PH w0 M p (A ++ [.nm (nms A)]) n L w' := by
  obtain ⟨es, jv, xs, Lj, rfl, h2, hR, H⟩ := H
  rw [Z_len] at hf
  refine (Fresh_any H (by omega)).mono ?_
  rintro e w' ⟨rfl, H'⟩
  refine ⟨by rw [Z_len], es ++ [.nm (nms es)], jv, xs, Lj, by rw [Z_app, nms_Z]; rfl, h2.nm _ (by omega), hR, H'⟩
/-- what Of tells of a term -/
def kE : Ent → Nat
  | .nm _ => 1
  | .dt _ => 2
  | .mk k _ _ _ _ => k
def nE : Ent → Nat
  | .nm n => n
  | .dt _ => 0
  | .mk _ n _ _ _ => n
def sE : Ent → ByteArray
  | .nm _ => { data := #[] }
  | .dt s => s
  | .mk _ _ s _ _ => s
def psE : Ent → List Nat
  | .mk _ _ _ ps _ => ps
  | _ => []
theorem Of_y (H : PH w0 M p A n L w) {sx : ByteArray} {x : Nat} {q : Ent} (hn : numT A.length sx = some x) (he : A[x]? = some q) :
    Calls Tryz.prog 377 #[pt p.t.q, .string sx] w fun e w' => ∃ po pc, e = .returned (.tuple #[.agg #[iN .i64 (kE q), iN .i64 (nE q), .string (sE q), .slice po (psE q).length pc], .bool true]) ∧ (psE q = [] ∨ ∃ b c, po = some ⟨b, 0, none⟩ ∧ w.heap.size ≤ b ∧ Blk w' b 3 c ∧ ∀ j, j < (psE q).length → c[j]? = some (iN .i64 ((psE q).getD j 0))) ∧ Below w.heap.size w w' := by
  obtain ⟨es, jv, xs, Lj, rfl, h2, hR, H⟩ := H
  rw [Z_len] at hn
  rw [Z_get] at he
  obtain ⟨q', he', rfl⟩ := Option.map_eq_some_iff.1 he
  have hV := H.view
  have hxl : x < es.length := (List.getElem?_eq_some_iff.1 he').1
  have hm : es.length ≤ 65536 := by have := h2.wf.few; omega
  cases q' with
  | mk k n s ps b =>
    refine (Of_made hV h2.wf hn he' (by have := h2.ll k n s ps b (List.mem_of_getElem? he'); omega)).mono ?_
    rintro e w' ⟨mm, c, rfl, h1, h2, h3, h4⟩
    exact ⟨some ⟨(unp mm).1, 0, none⟩, (unp mm).2, rfl, .inr ⟨_, c, rfl, h1, h2, h3⟩, h4⟩
  | nm y =>
    obtain ⟨v, hq, hrow⟩ := hV.row
    rcases hrow with ⟨rfl, _⟩ | ⟨g, cap, cur, rfl, hg, htk⟩
    · simp at hxl
    · refine (Of_nm hq hg hm hxl hn (row_get htk he')).mono ?_
      rintro e w' ⟨rfl, hb⟩
      exact ⟨none, 0, rfl, .inl rfl, hb⟩
  | dt s =>
    obtain ⟨v, hq, hrow⟩ := hV.row
    rcases hrow with ⟨rfl, _⟩ | ⟨g, cap, cur, rfl, hg, htk⟩
    · simp at hxl
    · refine (Of_dt hq hg hm hxl hn (by have := h2.dd s (List.mem_of_getElem? he'); omega) (row_get htk he')).mono ?_
      rintro e w' ⟨rfl, hb⟩
      exact ⟨none, 0, rfl, .inl rfl, hb⟩
theorem Of_n (H : PH w0 M p A n L w) {sx : ByteArray} (hn : numT A.length sx = none) :
    Calls Tryz.prog 377 #[pt p.t.q, .string sx] w fun e w' => e = .returned (.tuple #[.agg #[iN .i64 0, iN .i64 0, .string { data := #[] }, .slice none 0 0], .bool false]) ∧ Below w.heap.size w w' := by
  obtain ⟨es, jv, xs, Lj, rfl, h2, hR, H⟩ := H
  rw [Z_len] at hn
  exact Of_not H.view h2.wf hn
end
end Go.Proofs.YtoogiblkommdfaaGreat
