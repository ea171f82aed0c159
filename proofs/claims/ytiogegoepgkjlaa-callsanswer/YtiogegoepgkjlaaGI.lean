/-
  What the reference's DecodeCall reads.
-/
import Derived.Test.YtiogegoepgkjlaaJ4
import Derived.Test.YtiogegoepgkjlaaK2
import Derived.Test.YtiogegoepgkjlaaCN
set_option linter.unusedVariables false
set_option linter.unusedSimpArgs false
namespace Go.Proofs.Ytiogegoepgkjlaa
open Go.RowKit

theorem dvr_len : ∀ (n : Nat) (us : List UInt8) (ds : List Mb), (dvr n us ds).1.length = ds.length + n
  | 0, _, _ => rfl
  | n + 1, us, ds => by rw [dvr_s, dvr_len n, List.length_append, List.length_singleton]; omega
theorem lisRr_len (s : ByteArray) : (lisRr s).ds.length ≤ 1000000 := by
  unfold lisRr rdLr
  rw [dvr_len]
  simp only [List.length_nil]
  omega
theorem lisr_bk {s : ByteArray} {l : Li} (h : lisRr s = l) : l.ds.length ≤ 1000000 := h ▸ lisRr_len s
open Rs
theorem nxt_less {m : Nat} {bs : List UInt8} (hm : m ≤ 16384) (h : (nxt 16384 bs).1.size ≤ m) : nxt m bs = nxt 16384 bs := by
  unfold nxt at h ⊢
  by_cases h1 : 4 ≤ bs.length ∧ Wi.val (bs.take 4) ≤ 16384 ∧ 4 + Wi.val (bs.take 4) ≤ bs.length
  · rw [if_pos h1] at h ⊢
    have h2 : (⟨(Wi.txt bs).toArray⟩ : ByteArray).size = Wi.val (bs.take 4) := Rs.txt_size h1.2.2
    rw [h2] at h
    rw [if_pos ⟨h1.1, h, h1.2.2⟩]
  · rw [if_neg h1, if_neg (fun h3 => h1 ⟨h3.1, by omega, h3.2.2⟩)]
theorem dvs_mem : ∀ (n : Nat) (us : List UInt8) (ds : List Mb) (m : Mb), m ∈ ds → m ∈ (dvs n us ds).1
  | 0, _, _, _, h => h
  | n + 1, us, ds, m, h => dvs_mem n _ _ m (List.mem_append_left _ h)
theorem dvr_eq : ∀ (n : Nat) (us : List UInt8) (ds : List Mb), (∀ m ∈ (dvs n us ds).1, m.sg.size ≤ 1000 ∧ m.dh.size ≤ 1000) → dvr n us ds = dvs n us ds
  | 0, _, _, _ => rfl
  | n + 1, us, ds, h => by
    have h1 := h _ (dvs_mem n _ _ _ (List.mem_append_right ds (List.mem_singleton.2 rfl)))
    have e1 := nxt_less (by decide) h1.1
    have e2 := nxt_less (by decide) h1.2
    rw [dvr_s, dvs_s, e1, e2]
    exact dvr_eq n _ _ h
end Go.Proofs.Ytiogegoepgkjlaa

set_option linter.unusedVariables false
set_option linter.unusedSimpArgs false
namespace Go.Proofs.Ytiogegoepgkjlaa
open Go.RowKit

/-- what an answer's bytes may be -/
def rdEr (id er : Nat) (l b : ByteArray) (q : List It × List UInt8) : Nat × An := (id, ⟨(er : Int), lisRr l, (decA b).1, q.1, (Rs.nxt 16384 q.2).1, ((Rs.nxn 1 (Rs.nxt 16384 q.2).2.2).1 : Nat)⟩)
def rdAr (bs : List UInt8) : Nat × An := rdEr (Rs.nxn 8 bs).1 (Rs.nxn 1 (Rs.nxn 8 bs).2.2).1 (Rs.nxt 16384 (Rs.nxn 1 (Rs.nxn 8 bs).2.2).2.2).1 (Rs.nxt 16384 (Rs.nxt 16384 (Rs.nxn 1 (Rs.nxn 8 bs).2.2).2.2).2.2).1 (its (min (Rs.nxn 1 (Rs.nxt 16384 (Rs.nxt 16384 (Rs.nxn 1 (Rs.nxn 8 bs).2.2).2.2).2.2).2.2).1 10) (Rs.nxn 1 (Rs.nxt 16384 (Rs.nxt 16384 (Rs.nxn 1 (Rs.nxn 8 bs).2.2).2.2).2.2).2.2).2.2 [])
def decNr (s : ByteArray) : Nat × An × Nat := bif decide ((encN (rdAr (bl s)).1 (rdAr (bl s)).2).2 = 0) && decide ((encN (rdAr (bl s)).1 (rdAr (bl s)).2).1 = s) then ((rdAr (bl s)).1, (rdAr (bl s)).2, 0) else (0, an0, 4)
theorem decNr_y {s y : ByteArray} {id e : Nat} {c : An} (hrd : rdAr (bl s) = (id, c)) (hE : encN id c = (y, e)) (h1 : decide (e = 0) = true) (h2 : decide (y = s) = true) : decNr s = (id, c, 0) := by
  unfold decNr
  rw [hrd]
  show (bif decide ((encN id c).2 = 0) && decide ((encN id c).1 = s) then (id, c, 0) else (0, an0, 4)) = _
  rw [hE]
  show (bif decide (e = 0) && decide (y = s) then (id, c, 0) else (0, an0, 4)) = _
  rw [h1, h2]
  rfl
theorem decNr_n {s y : ByteArray} {id e : Nat} {c : An} (hrd : rdAr (bl s) = (id, c)) (hE : encN id c = (y, e)) (h : (decide (e = 0) && decide (y = s)) = false) : decNr s = (0, an0, 4) := by
  unfold decNr
  rw [hrd]
  show (bif decide ((encN id c).2 = 0) && decide ((encN id c).1 = s) then (id, c, 0) else (0, an0, 4)) = _
  rw [hE]
  show (bif decide (e = 0) && decide (y = s) then (id, c, 0) else (0, an0, 4)) = _
  rw [h]
  rfl
open Rs
theorem lisRr_eq2 {s : ByteArray} {l : Li} (h : lisR s = l) (h1 : l.ac.size ≤ 1000) (h2 : l.sg.size ≤ 1000) (h3 : l.ds.length ≤ 2) (h4 : ∀ m ∈ l.ds, m.sg.size ≤ 1000 ∧ m.dh.size ≤ 1000) : lisRr s = l := by
  subst h
  unfold lisRr lisR rdLr rdL at *
  simp only at h1 h2 h3 h4 ⊢
  rw [nxt_less (by decide) h1]
  rw [dvs_len] at h3
  simp only [List.length_nil] at h3
  rw [show ∀ x : Nat, x = (nxn 1 (nxt 16384 (nxn 4 (nxn 1 (bl s)).2.2).2.2).2.2).1 → min x 10 = x from fun x hx => by omega]
  · rw [dvr_eq _ _ _ (fun m hm => h4 m hm), nxt_less (by decide) h2]
  · rfl
theorem its_len : ∀ (n : Nat) (us : List UInt8) (ss : List It), (its n us ss).1.length = ss.length + n
  | 0, _, _ => rfl
  | n + 1, us, ss => by rw [its_s, its_len n, List.length_append, List.length_singleton]; omega
theorem mayA_li2 {a : An} (h : mayA a = true) : a.li = ⟨0, 0, { data := #[] }, [], { data := #[] }⟩ ∨ mayL a.li = true := by
  rcases q : sameL a.li ⟨0, 0, { data := #[] }, [], { data := #[] }⟩ with _ | _
  · exact .inr (mayA_li h q)
  · exact .inl (of_decide_eq_true ((sameL_eq _ _).symm.trans q))
theorem rdAr_eq {bs : List UInt8} {id : Nat} {c : An} {r : List UInt8} (h : rdA bs = (id, c, r)) (hm : mayA c = true) : rdAr bs = (id, c) := by
  have hO := mayA_ok hm
  have hl := mayA_li2 hm
  have hn := hO.len
  unfold rdA rdE at h
  unfold rdAr rdEr
  obtain ⟨rfl, h'⟩ := Prod.mk.inj h
  obtain ⟨rfl, _⟩ := Prod.mk.inj h'
  simp only at hn hl ⊢
  rw [its_len] at hn
  simp only [List.length_nil] at hn
  rw [show min (Rs.nxn 1 (Rs.nxt 16384 (Rs.nxt 16384 (Rs.nxn 1 (Rs.nxn 8 bs).2.2).2.2).2.2).2.2).1 10 = (Rs.nxn 1 (Rs.nxt 16384 (Rs.nxt 16384 (Rs.nxn 1 (Rs.nxn 8 bs).2.2).2.2).2.2).2.2).1 by omega]
  refine Prod.ext rfl ?_
  show (⟨_, lisRr _, _, _, _, _⟩ : An) = _
  rw [show lisRr (Rs.nxt 16384 (Rs.nxn 1 (Rs.nxn 8 bs).2.2).2.2).1 = lisR (Rs.nxt 16384 (Rs.nxn 1 (Rs.nxn 8 bs).2.2).2.2).1 from ?_]
  rcases hl with e | e
  · exact lisRr_eq2 rfl (by rw [e]; exact Nat.zero_le _) (by rw [e]; exact Nat.zero_le _) (by rw [e]; exact Nat.zero_le _) (by rw [e]; intro m hm; cases hm)
  · have hM := mayL_iff e
    exact lisRr_eq2 rfl hM.ac hM.sg hM.dl (fun m hm => by have := hM.dm m hm; omega)
theorem decNr_eq (s : ByteArray) : decNr s = decN s := by
  rcases decN_cases s with h | ⟨id, c, h, hid, hm, hz, he⟩
  · rw [h]
    unfold decNr
    rcases q : (decide ((encN (rdAr (bl s)).1 (rdAr (bl s)).2).2 = 0) && decide ((encN (rdAr (bl s)).1 (rdAr (bl s)).2).1 = s)) with _ | _
    · rfl
    · exfalso
      have h1 := of_decide_eq_true (and2 q).1
      have h2 := of_decide_eq_true (and2 q).2
      obtain ⟨g1, g2, g3⟩ := encN_inv (id := (rdAr (bl s)).1) (a := (rdAr (bl s)).2) (y := s) (Prod.ext h2 h1)
      have h4 := decN_enc g1 (nxn8_lt (bl s)) g2
      rw [show ansB (nxn 8 (bl s)).1 (rdAr (bl s)).2 = s from g3, h] at h4
      have := congrArg (fun x => x.2.2) h4
      exact absurd (show (4 : Nat) = 0 from this) (by decide)
  · rw [h]
    have hrd := rdA_enc hm hid hz []
    rw [List.append_nil, he] at hrd
    exact decNr_y (rdAr_eq hrd hm) ((encN_ok hm hz).trans (by rw [he])) rfl (decide_eq_true rfl)
end Go.Proofs.Ytiogegoepgkjlaa
