/-
  What a turned hello, a turned reply cannot open.
-/
import Derived.Test.YtcjjbpbehapjpaaGreatL2
namespace Go.Proofs.YtcjjbpbehapjpaaGreat
open Go.RowKit Rs

/-- what was put behind a table, and sealed nothing -/
def Ext (A A' : List Ent) : Prop := ∃ B, A' = A ++ B ∧ ∀ n s ps b, Ent.mk 6 n s ps b ∉ B
theorem Ext.refl (A : List Ent) : Ext A A := ⟨[], by simp, fun _ _ _ _ h => by cases h⟩
theorem Ext.trans {A B C : List Ent} (h : Ext A B) (h2 : Ext B C) : Ext A C := by
  obtain ⟨X, rfl, hX⟩ := h
  obtain ⟨Y, rfl, hY⟩ := h2
  exact ⟨X ++ Y, by simp, fun n s ps b hm => (List.mem_append.1 hm).elim (hX n s ps b) (hY n s ps b)⟩
theorem Ext.part (A : List Ent) (s : ByteArray) : Ext A (partF A s).1 := by
  unfold partF
  split
  · exact Ext.refl A
  · split
    · exact Ext.refl A
    · exact ⟨[.dt s], rfl, fun _ _ _ _ h => by cases List.mem_singleton.1 h⟩
theorem Ext.parts (A : List Ent) (ss : List ByteArray) : ∀ k, Ext A (pfE A ss k)
  | 0 => Ext.refl A
  | k + 1 => (Ext.parts A ss k).trans (Ext.part _ _)
theorem Ext.make (A : List Ent) {k : Nat} (hk : k ≠ 6) (label : ByteArray) (ss : List ByteArray) : Ext A (mkA A k label ss).1 := by
  unfold mkA
  split
  · exact Ext.parts A ss _
  · refine (Ext.parts A ss ss.length).trans ⟨_, rfl, fun n s ps b hm => ?_⟩
    have := (Ent.mk.inj (List.mem_singleton.1 hm)).1
    exact hk this.symm
theorem Ext.make' {A A' : List Ent} {k x : Nat} (hk : k ≠ 6) {label : ByteArray} {ss : List ByteArray} (h : mkA A k label ss = (A', x)) : Ext A A' := by
  have := Ext.make A hk label ss
  rw [h] at this
  exact this
theorem Ext.der (A : List Ent) (sec salt info : ByteArray) : ∀ k, Ext A (derE A sec salt info k)
  | 0 => Ext.refl A
  | k + 1 => (Ext.der A sec salt info k).trans (Ext.make _ (by decide) _ _)
theorem Ext.get {A A' : List Ent} (h : Ext A A') {z : Nat} (hz : z < A.length) : A'[z]? = A[z]? := by
  obtain ⟨B, rfl, _⟩ := h
  exact List.getElem?_append_left hz
theorem Ext.not {A A' : List Ent} (h : Ext A A') {z n : Nat} {s : ByteArray} {ps : List Nat} {b : Nat} (hz : A.length ≤ z) : A'[z]? ≠ some (.mk 6 n s ps b) := by
  obtain ⟨B, rfl, hB⟩ := h
  rw [List.getElem?_append_right hz]
  exact fun e => hB n s ps b (List.mem_of_getElem? e)
theorem eight {s : ByteArray} (h : s.size = 8) : ∃ a b c d e f g i : UInt8, s = ⟨#[a, b, c, d, e, f, g, i]⟩ := by
  obtain ⟨⟨l⟩⟩ := s
  have h : l.length = 8 := h
  match l, h with
  | [a, b, c, d, e, f, g, i], _ => exact ⟨a, b, c, d, e, f, g, i, rfl⟩
theorem u8eq {a : UInt8} {m : Nat} (h : m % 256 = a.toNat) : UInt8.ofNat m = a := by
  apply UInt8.toNat_inj.1
  rw [UInt8.toNat_ofNat']
  exact h
/-- a text that has a number is that number's text -/
theorem numT_is {m x : Nat} {s : ByteArray} (h : numT m s = some x) : s = txt x := by
  unfold numT at h
  split at h
  · next h8 =>
    unfold firstT at h
    split at h
    · next hc =>
      obtain rfl := Option.some.inj h
      obtain ⟨_, hh, _⟩ := hc
      obtain ⟨a, b, c, d, e, f, g, i, rfl⟩ := eight h8
      have hx : ((⟨#[a, b, c, d, e, f, g, i]⟩ : ByteArray).extract 0 4).data.toList = hdS.data.toList := by rw [hh]
      have hl : [a, b, c, d] = [240, 84, 82, 77] := by simpa [hdS] using hx
      simp only [List.cons.injEq, and_true] at hl
      obtain ⟨rfl, rfl, rfl, rfl⟩ := hl
      have hn : n4 (⟨#[240, 84, 82, 77, e, f, g, i]⟩ : ByteArray) = ((e.toNat * 256 + f.toNat) * 256 + g.toNat) * 256 + i.toNat := by
        unfold n4
        simp [val]
      rw [hn]
      have he := e.toNat_lt
      have hf := f.toNat_lt
      have hg := g.toNat_lt
      have hi := i.toNat_lt
      unfold txt putS p4 hdS bl
      simp only [List.cons_append, List.nil_append]
      rw [u8eq (a := e) (by omega), u8eq (a := f) (by omega), u8eq (a := g) (by omega), u8eq (a := i) (by omega)]
    · cases h
  · cases h
def hdA : ByteArray := adrT 4 ++ layT [txt 5] 1
def hdB : ByteArray := layT [txt 14] 1
theorem isA_dt {A : List Ent} {m : Nat} {y s : ByteArray} (hs : s.size ≠ 8) (h : A[m]? = some (.dt y)) (hne : s ≠ y) : isA A m s = false := by
  unfold isA
  have e : numT A.length s = none := if_neg hs
  rw [e, h]
  exact decide_eq_false fun e => hne e.symm
theorem enc_at : ∀ z, z < 25 → z ≠ 12 → z ≠ 24 → ∀ n s ps b, (tk 25)[z]? ≠ some (.mk 6 n s ps b)
  | 0, _, _, _ | 1, _, _, _ | 2, _, _, _ | 3, _, _, _ | 4, _, _, _ | 5, _, _, _ | 6, _, _, _ | 7, _, _, _ | 8, _, _, _ | 9, _, _, _ | 10, _, _, _ | 11, _, _, _ | 13, _, _, _ | 14, _, _, _ | 15, _, _, _ | 16, _, _, _ | 17, _, _, _ | 18, _, _, _ | 19, _, _, _ | 20, _, _, _ | 21, _, _, _ | 22, _, _, _ | 23, _, _, _ => fun n s ps b h => by cases h
  | 12, _, h, _ => absurd rfl h
  | 24, _, _, h => absurd rfl h
  | n + 25, h, _, _ => by omega
theorem tk25_len : (tk 25).length = 25 := by kernel_rfl
theorem opn_none {A : List Ent} {key nonce hd pf : ByteArray} (hE : Ext (tk 25) A) (hs : hd.size ≠ 8) (h1 : pf = txt 12 → hd ≠ hdA) (h2 : pf = txt 24 → hd ≠ hdB) : opnA A key nonce hd pf = none := by
  unfold opnA
  cases hn : numT A.length pf with
  | none => rfl
  | some z =>
    have hpf := numT_is hn
    simp only
    cases he : A[z]? with
    | none => rfl
    | some q =>
      cases q with
      | nm y => rfl
      | dt y => rfl
      | mk k m s ps b =>
        simp only
        rw [if_neg]
        rintro ⟨rfl, _, _, h3⟩
        by_cases hz : z < 25
        · rw [hE.get (by rw [tk25_len]; exact hz)] at he
          by_cases e12 : z = 12
          · subst e12
            have : ps = [10, 9, 11, 9] := by cases he; rfl
            subst this
            have e := isA_dt (A := A) (m := 11) (y := hdA) hs (by rw [hE.get (by rw [tk25_len]; decide)]; kernel_rfl) (h1 hpf)
            rw [show [10, 9, 11, 9].getD 2 0 = 11 from rfl, e] at h3
            cases h3
          · by_cases e24 : z = 24
            · subst e24
              have : ps = [23, 9, 18, 9] := by cases he; rfl
              subst this
              have e := isA_dt (A := A) (m := 18) (y := hdB) hs (by rw [hE.get (by rw [tk25_len]; decide)]; kernel_rfl) (h2 hpf)
              rw [show [23, 9, 18, 9].getD 2 0 = 18 from rfl, e] at h3
              cases h3
            · exact enc_at z hz e12 e24 _ _ _ _ he
        · exact hE.not (by rw [tk25_len]; omega) he
def rdH (l : List UInt8) : Option (Nat × ByteArray × ByteArray) := if (nxn 2 l).2.1 = true then (rdTold (nxn 2 l).2.2).map (fun q => ((nxn 2 l).1, q)) else none
theorem rdH_bl (s : ByteArray) : rdHello s = rdH (bl s) := rfl
theorem bl_trn (s : ByteArray) (i : Nat) (b : UInt8) : bl (trn s i b) = (bl s).set i ((bl s).getD i 0 ^^^ b) := by simp [trn, bl]
theorem xor_eq {v b : UInt8} (h : v ^^^ b = v) : b = 0 := by
  have h2 := congrArg (v ^^^ ·) h
  simpa [← UInt8.xor_assoc] using h2
theorem ofNat_toNat' (b : UInt8) : UInt8.ofNat b.toNat = b := u8eq (Nat.mod_eq_of_lt b.toNat_lt)
theorem all1 {m : Nat} {f : UInt8 → Bool} (h : ((List.range m).all fun b => f (UInt8.ofNat (b + 1))) = true) (hm : 255 ≤ m) {b : UInt8} (hb : b ≠ 0) : f b = true := by
  have h0 : b.toNat ≠ 0 := fun e => hb (by rw [← ofNat_toNat' b, e]; rfl)
  have hl := b.toNat_lt
  have h2 := List.all_eq_true.1 h (b.toNat - 1) (List.mem_range.2 (by omega))
  rw [Nat.sub_add_cancel (by omega), ofNat_toNat'] at h2
  exact h2
def hL : List UInt8 := [0, 4, 0, 0, 0, 8, 240, 84, 82, 77, 0, 0, 0, 5, 0, 0, 0, 8, 240, 84, 82, 77, 0, 0, 0, 12]
theorem bl_h0 : bl hello0 = hL := by kernel_rfl
def yL : List UInt8 := [0, 0, 0, 8, 240, 84, 82, 77, 0, 0, 0, 14, 0, 0, 0, 8, 240, 84, 82, 77, 0, 0, 0, 24]
theorem bl_y0 : bl reply0 = yL := by kernel_rfl
theorem hs_0 (b : UInt8) : rdH (hL.set 0 (0 ^^^ b)) = some (Wi.val [0 ^^^ b, 4], ⟨#[240, 84, 82, 77, 0, 0, 0, 5]⟩, ⟨#[240, 84, 82, 77, 0, 0, 0, 12]⟩) := by kernel_rfl
theorem hc_0 : ((List.range 255).all fun b => bl (adrT (Wi.val [0 ^^^ UInt8.ofNat (b + 1), 4]) ++ layT [⟨#[240, 84, 82, 77, 0, 0, 0, 5]⟩] 1) != bl hdA) = true := by kernel_rfl
theorem hs_1 (b : UInt8) : rdH (hL.set 1 (4 ^^^ b)) = some (Wi.val [0, 4 ^^^ b], ⟨#[240, 84, 82, 77, 0, 0, 0, 5]⟩, ⟨#[240, 84, 82, 77, 0, 0, 0, 12]⟩) := by kernel_rfl
theorem hc_1 : ((List.range 255).all fun b => bl (adrT (Wi.val [0, 4 ^^^ UInt8.ofNat (b + 1)]) ++ layT [⟨#[240, 84, 82, 77, 0, 0, 0, 5]⟩] 1) != bl hdA) = true := by kernel_rfl
theorem hn_2 : ((List.range 255).all fun b => (rdH (hL.set 2 (0 ^^^ UInt8.ofNat (b + 1)))).isNone) = true := by kernel_rfl
theorem hn_3 : ((List.range 255).all fun b => (rdH (hL.set 3 (0 ^^^ UInt8.ofNat (b + 1)))).isNone) = true := by kernel_rfl
theorem hn_4 : ((List.range 255).all fun b => (rdH (hL.set 4 (0 ^^^ UInt8.ofNat (b + 1)))).isNone) = true := by kernel_rfl
theorem hn_5 : ((List.range 255).all fun b => (rdH (hL.set 5 (8 ^^^ UInt8.ofNat (b + 1)))).isNone) = true := by kernel_rfl
theorem hs_6 (b : UInt8) : rdH (hL.set 6 (240 ^^^ b)) = some (4, ⟨#[240 ^^^ b, 84, 82, 77, 0, 0, 0, 5]⟩, ⟨#[240, 84, 82, 77, 0, 0, 0, 12]⟩) := by kernel_rfl
theorem hg_6 (b : UInt8) : (bl (adrT 4 ++ layT [⟨#[240 ^^^ b, 84, 82, 77, 0, 0, 0, 5]⟩] 1)).getD 6 0 = 240 ^^^ b := by kernel_rfl
theorem hs_7 (b : UInt8) : rdH (hL.set 7 (84 ^^^ b)) = some (4, ⟨#[240, 84 ^^^ b, 82, 77, 0, 0, 0, 5]⟩, ⟨#[240, 84, 82, 77, 0, 0, 0, 12]⟩) := by kernel_rfl
theorem hg_7 (b : UInt8) : (bl (adrT 4 ++ layT [⟨#[240, 84 ^^^ b, 82, 77, 0, 0, 0, 5]⟩] 1)).getD 7 0 = 84 ^^^ b := by kernel_rfl
theorem hs_8 (b : UInt8) : rdH (hL.set 8 (82 ^^^ b)) = some (4, ⟨#[240, 84, 82 ^^^ b, 77, 0, 0, 0, 5]⟩, ⟨#[240, 84, 82, 77, 0, 0, 0, 12]⟩) := by kernel_rfl
theorem hg_8 (b : UInt8) : (bl (adrT 4 ++ layT [⟨#[240, 84, 82 ^^^ b, 77, 0, 0, 0, 5]⟩] 1)).getD 8 0 = 82 ^^^ b := by kernel_rfl
theorem hs_9 (b : UInt8) : rdH (hL.set 9 (77 ^^^ b)) = some (4, ⟨#[240, 84, 82, 77 ^^^ b, 0, 0, 0, 5]⟩, ⟨#[240, 84, 82, 77, 0, 0, 0, 12]⟩) := by kernel_rfl
theorem hg_9 (b : UInt8) : (bl (adrT 4 ++ layT [⟨#[240, 84, 82, 77 ^^^ b, 0, 0, 0, 5]⟩] 1)).getD 9 0 = 77 ^^^ b := by kernel_rfl
theorem hs_10 (b : UInt8) : rdH (hL.set 10 (0 ^^^ b)) = some (4, ⟨#[240, 84, 82, 77, 0 ^^^ b, 0, 0, 5]⟩, ⟨#[240, 84, 82, 77, 0, 0, 0, 12]⟩) := by kernel_rfl
theorem hg_10 (b : UInt8) : (bl (adrT 4 ++ layT [⟨#[240, 84, 82, 77, 0 ^^^ b, 0, 0, 5]⟩] 1)).getD 10 0 = 0 ^^^ b := by kernel_rfl
theorem hs_11 (b : UInt8) : rdH (hL.set 11 (0 ^^^ b)) = some (4, ⟨#[240, 84, 82, 77, 0, 0 ^^^ b, 0, 5]⟩, ⟨#[240, 84, 82, 77, 0, 0, 0, 12]⟩) := by kernel_rfl
theorem hg_11 (b : UInt8) : (bl (adrT 4 ++ layT [⟨#[240, 84, 82, 77, 0, 0 ^^^ b, 0, 5]⟩] 1)).getD 11 0 = 0 ^^^ b := by kernel_rfl
theorem hs_12 (b : UInt8) : rdH (hL.set 12 (0 ^^^ b)) = some (4, ⟨#[240, 84, 82, 77, 0, 0, 0 ^^^ b, 5]⟩, ⟨#[240, 84, 82, 77, 0, 0, 0, 12]⟩) := by kernel_rfl
theorem hg_12 (b : UInt8) : (bl (adrT 4 ++ layT [⟨#[240, 84, 82, 77, 0, 0, 0 ^^^ b, 5]⟩] 1)).getD 12 0 = 0 ^^^ b := by kernel_rfl
theorem hs_13 (b : UInt8) : rdH (hL.set 13 (5 ^^^ b)) = some (4, ⟨#[240, 84, 82, 77, 0, 0, 0, 5 ^^^ b]⟩, ⟨#[240, 84, 82, 77, 0, 0, 0, 12]⟩) := by kernel_rfl
theorem hg_13 (b : UInt8) : (bl (adrT 4 ++ layT [⟨#[240, 84, 82, 77, 0, 0, 0, 5 ^^^ b]⟩] 1)).getD 13 0 = 5 ^^^ b := by kernel_rfl
theorem hn_14 : ((List.range 255).all fun b => (rdH (hL.set 14 (0 ^^^ UInt8.ofNat (b + 1)))).isNone) = true := by kernel_rfl
theorem hn_15 : ((List.range 255).all fun b => (rdH (hL.set 15 (0 ^^^ UInt8.ofNat (b + 1)))).isNone) = true := by kernel_rfl
theorem hn_16 : ((List.range 255).all fun b => (rdH (hL.set 16 (0 ^^^ UInt8.ofNat (b + 1)))).isNone) = true := by kernel_rfl
theorem hn_17 : ((List.range 255).all fun b => (rdH (hL.set 17 (8 ^^^ UInt8.ofNat (b + 1)))).isNone) = true := by kernel_rfl
theorem hs_18 (b : UInt8) : rdH (hL.set 18 (240 ^^^ b)) = some (4, ⟨#[240, 84, 82, 77, 0, 0, 0, 5]⟩, ⟨#[240 ^^^ b, 84, 82, 77, 0, 0, 0, 12]⟩) := by kernel_rfl
theorem hg_18 (b : UInt8) : (bl ⟨#[240 ^^^ b, 84, 82, 77, 0, 0, 0, 12]⟩).getD 0 0 = 240 ^^^ b := by kernel_rfl
theorem hs_19 (b : UInt8) : rdH (hL.set 19 (84 ^^^ b)) = some (4, ⟨#[240, 84, 82, 77, 0, 0, 0, 5]⟩, ⟨#[240, 84 ^^^ b, 82, 77, 0, 0, 0, 12]⟩) := by kernel_rfl
theorem hg_19 (b : UInt8) : (bl ⟨#[240, 84 ^^^ b, 82, 77, 0, 0, 0, 12]⟩).getD 1 0 = 84 ^^^ b := by kernel_rfl
theorem hs_20 (b : UInt8) : rdH (hL.set 20 (82 ^^^ b)) = some (4, ⟨#[240, 84, 82, 77, 0, 0, 0, 5]⟩, ⟨#[240, 84, 82 ^^^ b, 77, 0, 0, 0, 12]⟩) := by kernel_rfl
theorem hg_20 (b : UInt8) : (bl ⟨#[240, 84, 82 ^^^ b, 77, 0, 0, 0, 12]⟩).getD 2 0 = 82 ^^^ b := by kernel_rfl
theorem hs_21 (b : UInt8) : rdH (hL.set 21 (77 ^^^ b)) = some (4, ⟨#[240, 84, 82, 77, 0, 0, 0, 5]⟩, ⟨#[240, 84, 82, 77 ^^^ b, 0, 0, 0, 12]⟩) := by kernel_rfl
theorem hg_21 (b : UInt8) : (bl ⟨#[240, 84, 82, 77 ^^^ b, 0, 0, 0, 12]⟩).getD 3 0 = 77 ^^^ b := by kernel_rfl
theorem hs_22 (b : UInt8) : rdH (hL.set 22 (0 ^^^ b)) = some (4, ⟨#[240, 84, 82, 77, 0, 0, 0, 5]⟩, ⟨#[240, 84, 82, 77, 0 ^^^ b, 0, 0, 12]⟩) := by kernel_rfl
theorem hg_22 (b : UInt8) : (bl ⟨#[240, 84, 82, 77, 0 ^^^ b, 0, 0, 12]⟩).getD 4 0 = 0 ^^^ b := by kernel_rfl
theorem hs_23 (b : UInt8) : rdH (hL.set 23 (0 ^^^ b)) = some (4, ⟨#[240, 84, 82, 77, 0, 0, 0, 5]⟩, ⟨#[240, 84, 82, 77, 0, 0 ^^^ b, 0, 12]⟩) := by kernel_rfl
theorem hg_23 (b : UInt8) : (bl ⟨#[240, 84, 82, 77, 0, 0 ^^^ b, 0, 12]⟩).getD 5 0 = 0 ^^^ b := by kernel_rfl
theorem hs_24 (b : UInt8) : rdH (hL.set 24 (0 ^^^ b)) = some (4, ⟨#[240, 84, 82, 77, 0, 0, 0, 5]⟩, ⟨#[240, 84, 82, 77, 0, 0, 0 ^^^ b, 12]⟩) := by kernel_rfl
theorem hg_24 (b : UInt8) : (bl ⟨#[240, 84, 82, 77, 0, 0, 0 ^^^ b, 12]⟩).getD 6 0 = 0 ^^^ b := by kernel_rfl
theorem hs_25 (b : UInt8) : rdH (hL.set 25 (12 ^^^ b)) = some (4, ⟨#[240, 84, 82, 77, 0, 0, 0, 5]⟩, ⟨#[240, 84, 82, 77, 0, 0, 0, 12 ^^^ b]⟩) := by kernel_rfl
theorem hg_25 (b : UInt8) : (bl ⟨#[240, 84, 82, 77, 0, 0, 0, 12 ^^^ b]⟩).getD 7 0 = 12 ^^^ b := by kernel_rfl
theorem hdA_bl : bl hdA = hL.take 14 := by kernel_rfl
theorem hdA_at (k : Nat) (hk : k < 14) : (bl hdA).getD k 0 = hL.getD k 0 := by
  rw [hdA_bl, List.getD_eq_getElem?_getD, List.getD_eq_getElem?_getD, List.getElem?_take, if_pos hk]
theorem t12_bl : bl (txt 12) = hL.drop 18 := by kernel_rfl
theorem t12_at (k : Nat) (_ : k < 8) : (bl (txt 12)).getD k 0 = hL.getD (18 + k) 0 := by
  rw [t12_bl, List.getD_eq_getElem?_getD, List.getD_eq_getElem?_getD, List.getElem?_drop]
theorem hdB_bl : bl hdB = yL.take 12 := by kernel_rfl
theorem hdB_at (k : Nat) (hk : k < 12) : (bl hdB).getD k 0 = yL.getD k 0 := by
  rw [hdB_bl, List.getD_eq_getElem?_getD, List.getD_eq_getElem?_getD, List.getElem?_take, if_pos hk]
theorem t24_bl : bl (txt 24) = yL.drop 16 := by kernel_rfl
theorem t24_at (k : Nat) (_ : k < 8) : (bl (txt 24)).getD k 0 = yL.getD (16 + k) 0 := by
  rw [t24_bl, List.getD_eq_getElem?_getD, List.getD_eq_getElem?_getD, List.getElem?_drop]
theorem hello_bad1 {b : UInt8} (hb : b ≠ 0) {fr : Nat} {pu pf : ByteArray} : ∀ i, i < 26 → rdH (hL.set i (hL.getD i 0 ^^^ b)) = some (fr, pu, pf) → pu.size = 8 ∧ (pf = txt 12 → adrT fr ++ layT [pu] 1 ≠ hdA)
  | 0, _ => fun h => by
    have h2 : rdH (hL.set 0 (0 ^^^ b)) = some (fr, pu, pf) := h
    rw [hs_0 b] at h2
    simp only [Option.some.injEq, Prod.mk.injEq] at h2
    obtain ⟨rfl, rfl, rfl⟩ := h2
    refine ⟨rfl, fun _ e => ?_⟩
    have h3 := all1 (f := fun b => bl (adrT (Wi.val [0 ^^^ b, 4]) ++ layT [⟨#[240, 84, 82, 77, 0, 0, 0, 5]⟩] 1) != bl hdA) hc_0 (by decide) hb
    rw [e] at h3
    simp at h3
  | 1, _ => fun h => by
    have h2 : rdH (hL.set 1 (4 ^^^ b)) = some (fr, pu, pf) := h
    rw [hs_1 b] at h2
    simp only [Option.some.injEq, Prod.mk.injEq] at h2
    obtain ⟨rfl, rfl, rfl⟩ := h2
    refine ⟨rfl, fun _ e => ?_⟩
    have h3 := all1 (f := fun b => bl (adrT (Wi.val [0, 4 ^^^ b]) ++ layT [⟨#[240, 84, 82, 77, 0, 0, 0, 5]⟩] 1) != bl hdA) hc_1 (by decide) hb
    rw [e] at h3
    simp at h3
  | 2, _ => fun h => by
    have h2 : rdH (hL.set 2 (0 ^^^ b)) = some (fr, pu, pf) := h
    have h3 := all1 (f := fun b => (rdH (hL.set 2 (0 ^^^ b))).isNone) hn_2 (by decide) hb
    rw [h2] at h3
    cases h3
  | 3, _ => fun h => by
    have h2 : rdH (hL.set 3 (0 ^^^ b)) = some (fr, pu, pf) := h
    have h3 := all1 (f := fun b => (rdH (hL.set 3 (0 ^^^ b))).isNone) hn_3 (by decide) hb
    rw [h2] at h3
    cases h3
  | 4, _ => fun h => by
    have h2 : rdH (hL.set 4 (0 ^^^ b)) = some (fr, pu, pf) := h
    have h3 := all1 (f := fun b => (rdH (hL.set 4 (0 ^^^ b))).isNone) hn_4 (by decide) hb
    rw [h2] at h3
    cases h3
  | 5, _ => fun h => by
    have h2 : rdH (hL.set 5 (8 ^^^ b)) = some (fr, pu, pf) := h
    have h3 := all1 (f := fun b => (rdH (hL.set 5 (8 ^^^ b))).isNone) hn_5 (by decide) hb
    rw [h2] at h3
    cases h3
  | 6, _ => fun h => by
    have h2 : rdH (hL.set 6 (240 ^^^ b)) = some (fr, pu, pf) := h
    rw [hs_6 b] at h2
    simp only [Option.some.injEq, Prod.mk.injEq] at h2
    obtain ⟨rfl, rfl, rfl⟩ := h2
    refine ⟨rfl, fun _ e => ?_⟩
    have h3 := hg_6 b
    rw [e, hdA_at 6 (by decide)] at h3
    exact hb (xor_eq h3.symm)
  | 7, _ => fun h => by
    have h2 : rdH (hL.set 7 (84 ^^^ b)) = some (fr, pu, pf) := h
    rw [hs_7 b] at h2
    simp only [Option.some.injEq, Prod.mk.injEq] at h2
    obtain ⟨rfl, rfl, rfl⟩ := h2
    refine ⟨rfl, fun _ e => ?_⟩
    have h3 := hg_7 b
    rw [e, hdA_at 7 (by decide)] at h3
    exact hb (xor_eq h3.symm)
  | 8, _ => fun h => by
    have h2 : rdH (hL.set 8 (82 ^^^ b)) = some (fr, pu, pf) := h
    rw [hs_8 b] at h2
    simp only [Option.some.injEq, Prod.mk.injEq] at h2
    obtain ⟨rfl, rfl, rfl⟩ := h2
    refine ⟨rfl, fun _ e => ?_⟩
    have h3 := hg_8 b
    rw [e, hdA_at 8 (by decide)] at h3
    exact hb (xor_eq h3.symm)
  | 9, _ => fun h => by
    have h2 : rdH (hL.set 9 (77 ^^^ b)) = some (fr, pu, pf) := h
    rw [hs_9 b] at h2
    simp only [Option.some.injEq, Prod.mk.injEq] at h2
    obtain ⟨rfl, rfl, rfl⟩ := h2
    refine ⟨rfl, fun _ e => ?_⟩
    have h3 := hg_9 b
    rw [e, hdA_at 9 (by decide)] at h3
    exact hb (xor_eq h3.symm)
  | 10, _ => fun h => by
    have h2 : rdH (hL.set 10 (0 ^^^ b)) = some (fr, pu, pf) := h
    rw [hs_10 b] at h2
    simp only [Option.some.injEq, Prod.mk.injEq] at h2
    obtain ⟨rfl, rfl, rfl⟩ := h2
    refine ⟨rfl, fun _ e => ?_⟩
    have h3 := hg_10 b
    rw [e, hdA_at 10 (by decide)] at h3
    exact hb (xor_eq h3.symm)
  | 11, _ => fun h => by
    have h2 : rdH (hL.set 11 (0 ^^^ b)) = some (fr, pu, pf) := h
    rw [hs_11 b] at h2
    simp only [Option.some.injEq, Prod.mk.injEq] at h2
    obtain ⟨rfl, rfl, rfl⟩ := h2
    refine ⟨rfl, fun _ e => ?_⟩
    have h3 := hg_11 b
    rw [e, hdA_at 11 (by decide)] at h3
    exact hb (xor_eq h3.symm)
  | 12, _ => fun h => by
    have h2 : rdH (hL.set 12 (0 ^^^ b)) = some (fr, pu, pf) := h
    rw [hs_12 b] at h2
    simp only [Option.some.injEq, Prod.mk.injEq] at h2
    obtain ⟨rfl, rfl, rfl⟩ := h2
    refine ⟨rfl, fun _ e => ?_⟩
    have h3 := hg_12 b
    rw [e, hdA_at 12 (by decide)] at h3
    exact hb (xor_eq h3.symm)
  | 13, _ => fun h => by
    have h2 : rdH (hL.set 13 (5 ^^^ b)) = some (fr, pu, pf) := h
    rw [hs_13 b] at h2
    simp only [Option.some.injEq, Prod.mk.injEq] at h2
    obtain ⟨rfl, rfl, rfl⟩ := h2
    refine ⟨rfl, fun _ e => ?_⟩
    have h3 := hg_13 b
    rw [e, hdA_at 13 (by decide)] at h3
    exact hb (xor_eq h3.symm)
  | 14, _ => fun h => by
    have h2 : rdH (hL.set 14 (0 ^^^ b)) = some (fr, pu, pf) := h
    have h3 := all1 (f := fun b => (rdH (hL.set 14 (0 ^^^ b))).isNone) hn_14 (by decide) hb
    rw [h2] at h3
    cases h3
  | 15, _ => fun h => by
    have h2 : rdH (hL.set 15 (0 ^^^ b)) = some (fr, pu, pf) := h
    have h3 := all1 (f := fun b => (rdH (hL.set 15 (0 ^^^ b))).isNone) hn_15 (by decide) hb
    rw [h2] at h3
    cases h3
  | 16, _ => fun h => by
    have h2 : rdH (hL.set 16 (0 ^^^ b)) = some (fr, pu, pf) := h
    have h3 := all1 (f := fun b => (rdH (hL.set 16 (0 ^^^ b))).isNone) hn_16 (by decide) hb
    rw [h2] at h3
    cases h3
  | 17, _ => fun h => by
    have h2 : rdH (hL.set 17 (8 ^^^ b)) = some (fr, pu, pf) := h
    have h3 := all1 (f := fun b => (rdH (hL.set 17 (8 ^^^ b))).isNone) hn_17 (by decide) hb
    rw [h2] at h3
    cases h3
  | 18, _ => fun h => by
    have h2 : rdH (hL.set 18 (240 ^^^ b)) = some (fr, pu, pf) := h
    rw [hs_18 b] at h2
    simp only [Option.some.injEq, Prod.mk.injEq] at h2
    obtain ⟨rfl, rfl, rfl⟩ := h2
    refine ⟨rfl, fun e _ => ?_⟩
    have h3 := hg_18 b
    rw [e, t12_at 0 (by decide)] at h3
    exact hb (xor_eq h3.symm)
  | 19, _ => fun h => by
    have h2 : rdH (hL.set 19 (84 ^^^ b)) = some (fr, pu, pf) := h
    rw [hs_19 b] at h2
    simp only [Option.some.injEq, Prod.mk.injEq] at h2
    obtain ⟨rfl, rfl, rfl⟩ := h2
    refine ⟨rfl, fun e _ => ?_⟩
    have h3 := hg_19 b
    rw [e, t12_at 1 (by decide)] at h3
    exact hb (xor_eq h3.symm)
  | 20, _ => fun h => by
    have h2 : rdH (hL.set 20 (82 ^^^ b)) = some (fr, pu, pf) := h
    rw [hs_20 b] at h2
    simp only [Option.some.injEq, Prod.mk.injEq] at h2
    obtain ⟨rfl, rfl, rfl⟩ := h2
    refine ⟨rfl, fun e _ => ?_⟩
    have h3 := hg_20 b
    rw [e, t12_at 2 (by decide)] at h3
    exact hb (xor_eq h3.symm)
  | 21, _ => fun h => by
    have h2 : rdH (hL.set 21 (77 ^^^ b)) = some (fr, pu, pf) := h
    rw [hs_21 b] at h2
    simp only [Option.some.injEq, Prod.mk.injEq] at h2
    obtain ⟨rfl, rfl, rfl⟩ := h2
    refine ⟨rfl, fun e _ => ?_⟩
    have h3 := hg_21 b
    rw [e, t12_at 3 (by decide)] at h3
    exact hb (xor_eq h3.symm)
  | 22, _ => fun h => by
    have h2 : rdH (hL.set 22 (0 ^^^ b)) = some (fr, pu, pf) := h
    rw [hs_22 b] at h2
    simp only [Option.some.injEq, Prod.mk.injEq] at h2
    obtain ⟨rfl, rfl, rfl⟩ := h2
    refine ⟨rfl, fun e _ => ?_⟩
    have h3 := hg_22 b
    rw [e, t12_at 4 (by decide)] at h3
    exact hb (xor_eq h3.symm)
  | 23, _ => fun h => by
    have h2 : rdH (hL.set 23 (0 ^^^ b)) = some (fr, pu, pf) := h
    rw [hs_23 b] at h2
    simp only [Option.some.injEq, Prod.mk.injEq] at h2
    obtain ⟨rfl, rfl, rfl⟩ := h2
    refine ⟨rfl, fun e _ => ?_⟩
    have h3 := hg_23 b
    rw [e, t12_at 5 (by decide)] at h3
    exact hb (xor_eq h3.symm)
  | 24, _ => fun h => by
    have h2 : rdH (hL.set 24 (0 ^^^ b)) = some (fr, pu, pf) := h
    rw [hs_24 b] at h2
    simp only [Option.some.injEq, Prod.mk.injEq] at h2
    obtain ⟨rfl, rfl, rfl⟩ := h2
    refine ⟨rfl, fun e _ => ?_⟩
    have h3 := hg_24 b
    rw [e, t12_at 6 (by decide)] at h3
    exact hb (xor_eq h3.symm)
  | 25, _ => fun h => by
    have h2 : rdH (hL.set 25 (12 ^^^ b)) = some (fr, pu, pf) := h
    rw [hs_25 b] at h2
    simp only [Option.some.injEq, Prod.mk.injEq] at h2
    obtain ⟨rfl, rfl, rfl⟩ := h2
    refine ⟨rfl, fun e _ => ?_⟩
    have h3 := hg_25 b
    rw [e, t12_at 7 (by decide)] at h3
    exact hb (xor_eq h3.symm)
  | n + 26, h => by omega
theorem hello_bad {i : Nat} {b : UInt8} (hi : i < 26) (hb : b ≠ 0) {fr : Nat} {pu pf : ByteArray} (h : rdHello (trn hello0 i b) = some (fr, pu, pf)) : pu.size = 8 ∧ (pf = txt 12 → adrT fr ++ layT [pu] 1 ≠ hdA) := by
  rw [rdH_bl, bl_trn, bl_h0] at h
  exact hello_bad1 hb i hi h
theorem yn_0 : ((List.range 255).all fun b => (rdTold (yL.set 0 (0 ^^^ UInt8.ofNat (b + 1)))).isNone) = true := by kernel_rfl
theorem yn_1 : ((List.range 255).all fun b => (rdTold (yL.set 1 (0 ^^^ UInt8.ofNat (b + 1)))).isNone) = true := by kernel_rfl
theorem yn_2 : ((List.range 255).all fun b => (rdTold (yL.set 2 (0 ^^^ UInt8.ofNat (b + 1)))).isNone) = true := by kernel_rfl
theorem yn_3 : ((List.range 255).all fun b => (rdTold (yL.set 3 (8 ^^^ UInt8.ofNat (b + 1)))).isNone) = true := by kernel_rfl
theorem ys_4 (b : UInt8) : rdTold (yL.set 4 (240 ^^^ b)) = some (⟨#[240 ^^^ b, 84, 82, 77, 0, 0, 0, 14]⟩, ⟨#[240, 84, 82, 77, 0, 0, 0, 24]⟩) := by kernel_rfl
theorem yg_4 (b : UInt8) : (bl (layT [⟨#[240 ^^^ b, 84, 82, 77, 0, 0, 0, 14]⟩] 1)).getD 4 0 = 240 ^^^ b := by kernel_rfl
theorem ys_5 (b : UInt8) : rdTold (yL.set 5 (84 ^^^ b)) = some (⟨#[240, 84 ^^^ b, 82, 77, 0, 0, 0, 14]⟩, ⟨#[240, 84, 82, 77, 0, 0, 0, 24]⟩) := by kernel_rfl
theorem yg_5 (b : UInt8) : (bl (layT [⟨#[240, 84 ^^^ b, 82, 77, 0, 0, 0, 14]⟩] 1)).getD 5 0 = 84 ^^^ b := by kernel_rfl
theorem ys_6 (b : UInt8) : rdTold (yL.set 6 (82 ^^^ b)) = some (⟨#[240, 84, 82 ^^^ b, 77, 0, 0, 0, 14]⟩, ⟨#[240, 84, 82, 77, 0, 0, 0, 24]⟩) := by kernel_rfl
theorem yg_6 (b : UInt8) : (bl (layT [⟨#[240, 84, 82 ^^^ b, 77, 0, 0, 0, 14]⟩] 1)).getD 6 0 = 82 ^^^ b := by kernel_rfl
theorem ys_7 (b : UInt8) : rdTold (yL.set 7 (77 ^^^ b)) = some (⟨#[240, 84, 82, 77 ^^^ b, 0, 0, 0, 14]⟩, ⟨#[240, 84, 82, 77, 0, 0, 0, 24]⟩) := by kernel_rfl
theorem yg_7 (b : UInt8) : (bl (layT [⟨#[240, 84, 82, 77 ^^^ b, 0, 0, 0, 14]⟩] 1)).getD 7 0 = 77 ^^^ b := by kernel_rfl
theorem ys_8 (b : UInt8) : rdTold (yL.set 8 (0 ^^^ b)) = some (⟨#[240, 84, 82, 77, 0 ^^^ b, 0, 0, 14]⟩, ⟨#[240, 84, 82, 77, 0, 0, 0, 24]⟩) := by kernel_rfl
theorem yg_8 (b : UInt8) : (bl (layT [⟨#[240, 84, 82, 77, 0 ^^^ b, 0, 0, 14]⟩] 1)).getD 8 0 = 0 ^^^ b := by kernel_rfl
theorem ys_9 (b : UInt8) : rdTold (yL.set 9 (0 ^^^ b)) = some (⟨#[240, 84, 82, 77, 0, 0 ^^^ b, 0, 14]⟩, ⟨#[240, 84, 82, 77, 0, 0, 0, 24]⟩) := by kernel_rfl
theorem yg_9 (b : UInt8) : (bl (layT [⟨#[240, 84, 82, 77, 0, 0 ^^^ b, 0, 14]⟩] 1)).getD 9 0 = 0 ^^^ b := by kernel_rfl
theorem ys_10 (b : UInt8) : rdTold (yL.set 10 (0 ^^^ b)) = some (⟨#[240, 84, 82, 77, 0, 0, 0 ^^^ b, 14]⟩, ⟨#[240, 84, 82, 77, 0, 0, 0, 24]⟩) := by kernel_rfl
theorem yg_10 (b : UInt8) : (bl (layT [⟨#[240, 84, 82, 77, 0, 0, 0 ^^^ b, 14]⟩] 1)).getD 10 0 = 0 ^^^ b := by kernel_rfl
theorem ys_11 (b : UInt8) : rdTold (yL.set 11 (14 ^^^ b)) = some (⟨#[240, 84, 82, 77, 0, 0, 0, 14 ^^^ b]⟩, ⟨#[240, 84, 82, 77, 0, 0, 0, 24]⟩) := by kernel_rfl
theorem yg_11 (b : UInt8) : (bl (layT [⟨#[240, 84, 82, 77, 0, 0, 0, 14 ^^^ b]⟩] 1)).getD 11 0 = 14 ^^^ b := by kernel_rfl
theorem yn_12 : ((List.range 255).all fun b => (rdTold (yL.set 12 (0 ^^^ UInt8.ofNat (b + 1)))).isNone) = true := by kernel_rfl
theorem yn_13 : ((List.range 255).all fun b => (rdTold (yL.set 13 (0 ^^^ UInt8.ofNat (b + 1)))).isNone) = true := by kernel_rfl
theorem yn_14 : ((List.range 255).all fun b => (rdTold (yL.set 14 (0 ^^^ UInt8.ofNat (b + 1)))).isNone) = true := by kernel_rfl
theorem yn_15 : ((List.range 255).all fun b => (rdTold (yL.set 15 (8 ^^^ UInt8.ofNat (b + 1)))).isNone) = true := by kernel_rfl
theorem ys_16 (b : UInt8) : rdTold (yL.set 16 (240 ^^^ b)) = some (⟨#[240, 84, 82, 77, 0, 0, 0, 14]⟩, ⟨#[240 ^^^ b, 84, 82, 77, 0, 0, 0, 24]⟩) := by kernel_rfl
theorem yg_16 (b : UInt8) : (bl ⟨#[240 ^^^ b, 84, 82, 77, 0, 0, 0, 24]⟩).getD 0 0 = 240 ^^^ b := by kernel_rfl
theorem ys_17 (b : UInt8) : rdTold (yL.set 17 (84 ^^^ b)) = some (⟨#[240, 84, 82, 77, 0, 0, 0, 14]⟩, ⟨#[240, 84 ^^^ b, 82, 77, 0, 0, 0, 24]⟩) := by kernel_rfl
theorem yg_17 (b : UInt8) : (bl ⟨#[240, 84 ^^^ b, 82, 77, 0, 0, 0, 24]⟩).getD 1 0 = 84 ^^^ b := by kernel_rfl
theorem ys_18 (b : UInt8) : rdTold (yL.set 18 (82 ^^^ b)) = some (⟨#[240, 84, 82, 77, 0, 0, 0, 14]⟩, ⟨#[240, 84, 82 ^^^ b, 77, 0, 0, 0, 24]⟩) := by kernel_rfl
theorem yg_18 (b : UInt8) : (bl ⟨#[240, 84, 82 ^^^ b, 77, 0, 0, 0, 24]⟩).getD 2 0 = 82 ^^^ b := by kernel_rfl
theorem ys_19 (b : UInt8) : rdTold (yL.set 19 (77 ^^^ b)) = some (⟨#[240, 84, 82, 77, 0, 0, 0, 14]⟩, ⟨#[240, 84, 82, 77 ^^^ b, 0, 0, 0, 24]⟩) := by kernel_rfl
theorem yg_19 (b : UInt8) : (bl ⟨#[240, 84, 82, 77 ^^^ b, 0, 0, 0, 24]⟩).getD 3 0 = 77 ^^^ b := by kernel_rfl
theorem ys_20 (b : UInt8) : rdTold (yL.set 20 (0 ^^^ b)) = some (⟨#[240, 84, 82, 77, 0, 0, 0, 14]⟩, ⟨#[240, 84, 82, 77, 0 ^^^ b, 0, 0, 24]⟩) := by kernel_rfl
theorem yg_20 (b : UInt8) : (bl ⟨#[240, 84, 82, 77, 0 ^^^ b, 0, 0, 24]⟩).getD 4 0 = 0 ^^^ b := by kernel_rfl
theorem ys_21 (b : UInt8) : rdTold (yL.set 21 (0 ^^^ b)) = some (⟨#[240, 84, 82, 77, 0, 0, 0, 14]⟩, ⟨#[240, 84, 82, 77, 0, 0 ^^^ b, 0, 24]⟩) := by kernel_rfl
theorem yg_21 (b : UInt8) : (bl ⟨#[240, 84, 82, 77, 0, 0 ^^^ b, 0, 24]⟩).getD 5 0 = 0 ^^^ b := by kernel_rfl
theorem ys_22 (b : UInt8) : rdTold (yL.set 22 (0 ^^^ b)) = some (⟨#[240, 84, 82, 77, 0, 0, 0, 14]⟩, ⟨#[240, 84, 82, 77, 0, 0, 0 ^^^ b, 24]⟩) := by kernel_rfl
theorem yg_22 (b : UInt8) : (bl ⟨#[240, 84, 82, 77, 0, 0, 0 ^^^ b, 24]⟩).getD 6 0 = 0 ^^^ b := by kernel_rfl
theorem ys_23 (b : UInt8) : rdTold (yL.set 23 (24 ^^^ b)) = some (⟨#[240, 84, 82, 77, 0, 0, 0, 14]⟩, ⟨#[240, 84, 82, 77, 0, 0, 0, 24 ^^^ b]⟩) := by kernel_rfl
theorem yg_23 (b : UInt8) : (bl ⟨#[240, 84, 82, 77, 0, 0, 0, 24 ^^^ b]⟩).getD 7 0 = 24 ^^^ b := by kernel_rfl
theorem reply_bad1 {b : UInt8} (hb : b ≠ 0) {pu pf : ByteArray} : ∀ i, i < 24 → rdTold (yL.set i (yL.getD i 0 ^^^ b)) = some (pu, pf) → pu.size = 8 ∧ (pf = txt 24 → layT [pu] 1 ≠ hdB)
  | 0, _ => fun h => by
    have h2 : rdTold (yL.set 0 (0 ^^^ b)) = some (pu, pf) := h
    have h3 := all1 (f := fun b => (rdTold (yL.set 0 (0 ^^^ b))).isNone) yn_0 (by decide) hb
    rw [h2] at h3
    cases h3
  | 1, _ => fun h => by
    have h2 : rdTold (yL.set 1 (0 ^^^ b)) = some (pu, pf) := h
    have h3 := all1 (f := fun b => (rdTold (yL.set 1 (0 ^^^ b))).isNone) yn_1 (by decide) hb
    rw [h2] at h3
    cases h3
  | 2, _ => fun h => by
    have h2 : rdTold (yL.set 2 (0 ^^^ b)) = some (pu, pf) := h
    have h3 := all1 (f := fun b => (rdTold (yL.set 2 (0 ^^^ b))).isNone) yn_2 (by decide) hb
    rw [h2] at h3
    cases h3
  | 3, _ => fun h => by
    have h2 : rdTold (yL.set 3 (8 ^^^ b)) = some (pu, pf) := h
    have h3 := all1 (f := fun b => (rdTold (yL.set 3 (8 ^^^ b))).isNone) yn_3 (by decide) hb
    rw [h2] at h3
    cases h3
  | 4, _ => fun h => by
    have h2 : rdTold (yL.set 4 (240 ^^^ b)) = some (pu, pf) := h
    rw [ys_4 b] at h2
    simp only [Option.some.injEq, Prod.mk.injEq] at h2
    obtain ⟨rfl, rfl⟩ := h2
    refine ⟨rfl, fun _ e => ?_⟩
    have h3 := yg_4 b
    rw [e, hdB_at 4 (by decide)] at h3
    exact hb (xor_eq h3.symm)
  | 5, _ => fun h => by
    have h2 : rdTold (yL.set 5 (84 ^^^ b)) = some (pu, pf) := h
    rw [ys_5 b] at h2
    simp only [Option.some.injEq, Prod.mk.injEq] at h2
    obtain ⟨rfl, rfl⟩ := h2
    refine ⟨rfl, fun _ e => ?_⟩
    have h3 := yg_5 b
    rw [e, hdB_at 5 (by decide)] at h3
    exact hb (xor_eq h3.symm)
  | 6, _ => fun h => by
    have h2 : rdTold (yL.set 6 (82 ^^^ b)) = some (pu, pf) := h
    rw [ys_6 b] at h2
    simp only [Option.some.injEq, Prod.mk.injEq] at h2
    obtain ⟨rfl, rfl⟩ := h2
    refine ⟨rfl, fun _ e => ?_⟩
    have h3 := yg_6 b
    rw [e, hdB_at 6 (by decide)] at h3
    exact hb (xor_eq h3.symm)
  | 7, _ => fun h => by
    have h2 : rdTold (yL.set 7 (77 ^^^ b)) = some (pu, pf) := h
    rw [ys_7 b] at h2
    simp only [Option.some.injEq, Prod.mk.injEq] at h2
    obtain ⟨rfl, rfl⟩ := h2
    refine ⟨rfl, fun _ e => ?_⟩
    have h3 := yg_7 b
    rw [e, hdB_at 7 (by decide)] at h3
    exact hb (xor_eq h3.symm)
  | 8, _ => fun h => by
    have h2 : rdTold (yL.set 8 (0 ^^^ b)) = some (pu, pf) := h
    rw [ys_8 b] at h2
    simp only [Option.some.injEq, Prod.mk.injEq] at h2
    obtain ⟨rfl, rfl⟩ := h2
    refine ⟨rfl, fun _ e => ?_⟩
    have h3 := yg_8 b
    rw [e, hdB_at 8 (by decide)] at h3
    exact hb (xor_eq h3.symm)
  | 9, _ => fun h => by
    have h2 : rdTold (yL.set 9 (0 ^^^ b)) = some (pu, pf) := h
    rw [ys_9 b] at h2
    simp only [Option.some.injEq, Prod.mk.injEq] at h2
    obtain ⟨rfl, rfl⟩ := h2
    refine ⟨rfl, fun _ e => ?_⟩
    have h3 := yg_9 b
    rw [e, hdB_at 9 (by decide)] at h3
    exact hb (xor_eq h3.symm)
  | 10, _ => fun h => by
    have h2 : rdTold (yL.set 10 (0 ^^^ b)) = some (pu, pf) := h
    rw [ys_10 b] at h2
    simp only [Option.some.injEq, Prod.mk.injEq] at h2
    obtain ⟨rfl, rfl⟩ := h2
    refine ⟨rfl, fun _ e => ?_⟩
    have h3 := yg_10 b
    rw [e, hdB_at 10 (by decide)] at h3
    exact hb (xor_eq h3.symm)
  | 11, _ => fun h => by
    have h2 : rdTold (yL.set 11 (14 ^^^ b)) = some (pu, pf) := h
    rw [ys_11 b] at h2
    simp only [Option.some.injEq, Prod.mk.injEq] at h2
    obtain ⟨rfl, rfl⟩ := h2
    refine ⟨rfl, fun _ e => ?_⟩
    have h3 := yg_11 b
    rw [e, hdB_at 11 (by decide)] at h3
    exact hb (xor_eq h3.symm)
  | 12, _ => fun h => by
    have h2 : rdTold (yL.set 12 (0 ^^^ b)) = some (pu, pf) := h
    have h3 := all1 (f := fun b => (rdTold (yL.set 12 (0 ^^^ b))).isNone) yn_12 (by decide) hb
    rw [h2] at h3
    cases h3
  | 13, _ => fun h => by
    have h2 : rdTold (yL.set 13 (0 ^^^ b)) = some (pu, pf) := h
    have h3 := all1 (f := fun b => (rdTold (yL.set 13 (0 ^^^ b))).isNone) yn_13 (by decide) hb
    rw [h2] at h3
    cases h3
  | 14, _ => fun h => by
    have h2 : rdTold (yL.set 14 (0 ^^^ b)) = some (pu, pf) := h
    have h3 := all1 (f := fun b => (rdTold (yL.set 14 (0 ^^^ b))).isNone) yn_14 (by decide) hb
    rw [h2] at h3
    cases h3
  | 15, _ => fun h => by
    have h2 : rdTold (yL.set 15 (8 ^^^ b)) = some (pu, pf) := h
    have h3 := all1 (f := fun b => (rdTold (yL.set 15 (8 ^^^ b))).isNone) yn_15 (by decide) hb
    rw [h2] at h3
    cases h3
  | 16, _ => fun h => by
    have h2 : rdTold (yL.set 16 (240 ^^^ b)) = some (pu, pf) := h
    rw [ys_16 b] at h2
    simp only [Option.some.injEq, Prod.mk.injEq] at h2
    obtain ⟨rfl, rfl⟩ := h2
    refine ⟨rfl, fun e _ => ?_⟩
    have h3 := yg_16 b
    rw [e, t24_at 0 (by decide)] at h3
    exact hb (xor_eq h3.symm)
  | 17, _ => fun h => by
    have h2 : rdTold (yL.set 17 (84 ^^^ b)) = some (pu, pf) := h
    rw [ys_17 b] at h2
    simp only [Option.some.injEq, Prod.mk.injEq] at h2
    obtain ⟨rfl, rfl⟩ := h2
    refine ⟨rfl, fun e _ => ?_⟩
    have h3 := yg_17 b
    rw [e, t24_at 1 (by decide)] at h3
    exact hb (xor_eq h3.symm)
  | 18, _ => fun h => by
    have h2 : rdTold (yL.set 18 (82 ^^^ b)) = some (pu, pf) := h
    rw [ys_18 b] at h2
    simp only [Option.some.injEq, Prod.mk.injEq] at h2
    obtain ⟨rfl, rfl⟩ := h2
    refine ⟨rfl, fun e _ => ?_⟩
    have h3 := yg_18 b
    rw [e, t24_at 2 (by decide)] at h3
    exact hb (xor_eq h3.symm)
  | 19, _ => fun h => by
    have h2 : rdTold (yL.set 19 (77 ^^^ b)) = some (pu, pf) := h
    rw [ys_19 b] at h2
    simp only [Option.some.injEq, Prod.mk.injEq] at h2
    obtain ⟨rfl, rfl⟩ := h2
    refine ⟨rfl, fun e _ => ?_⟩
    have h3 := yg_19 b
    rw [e, t24_at 3 (by decide)] at h3
    exact hb (xor_eq h3.symm)
  | 20, _ => fun h => by
    have h2 : rdTold (yL.set 20 (0 ^^^ b)) = some (pu, pf) := h
    rw [ys_20 b] at h2
    simp only [Option.some.injEq, Prod.mk.injEq] at h2
    obtain ⟨rfl, rfl⟩ := h2
    refine ⟨rfl, fun e _ => ?_⟩
    have h3 := yg_20 b
    rw [e, t24_at 4 (by decide)] at h3
    exact hb (xor_eq h3.symm)
  | 21, _ => fun h => by
    have h2 : rdTold (yL.set 21 (0 ^^^ b)) = some (pu, pf) := h
    rw [ys_21 b] at h2
    simp only [Option.some.injEq, Prod.mk.injEq] at h2
    obtain ⟨rfl, rfl⟩ := h2
    refine ⟨rfl, fun e _ => ?_⟩
    have h3 := yg_21 b
    rw [e, t24_at 5 (by decide)] at h3
    exact hb (xor_eq h3.symm)
  | 22, _ => fun h => by
    have h2 : rdTold (yL.set 22 (0 ^^^ b)) = some (pu, pf) := h
    rw [ys_22 b] at h2
    simp only [Option.some.injEq, Prod.mk.injEq] at h2
    obtain ⟨rfl, rfl⟩ := h2
    refine ⟨rfl, fun e _ => ?_⟩
    have h3 := yg_22 b
    rw [e, t24_at 6 (by decide)] at h3
    exact hb (xor_eq h3.symm)
  | 23, _ => fun h => by
    have h2 : rdTold (yL.set 23 (24 ^^^ b)) = some (pu, pf) := h
    rw [ys_23 b] at h2
    simp only [Option.some.injEq, Prod.mk.injEq] at h2
    obtain ⟨rfl, rfl⟩ := h2
    refine ⟨rfl, fun e _ => ?_⟩
    have h3 := yg_23 b
    rw [e, t24_at 7 (by decide)] at h3
    exact hb (xor_eq h3.symm)
  | n + 24, h => by omega
theorem reply_bad {i : Nat} {b : UInt8} (hi : i < 24) (hb : b ≠ 0) {pu pf : ByteArray} (h : rdTold (bl (trn reply0 i b)) = some (pu, pf)) : pu.size = 8 ∧ (pf = txt 24 → layT [pu] 1 ≠ hdB) := by
  rw [bl_trn, bl_y0] at h
  exact reply_bad1 hb i hi h
theorem lay1_eq (s : ByteArray) : (layT [s] 1).size = s.size + 4 := by
  show (((layT [s] 0).data.toList ++ Wi.pt ([s].getD 0 ByteArray.empty).data.toList).toArray).size = _
  rw [List.size_toArray, List.length_append, Wi.pt, List.length_append, Wi.be_length, Array.length_toList, Array.length_toList]
  show 0 + (4 + s.data.size) = s.data.size + 4
  omega
theorem bl_app (s t : ByteArray) : bl (s ++ t) = bl s ++ bl t := by simp [bl]
theorem long_chk : ((List.range 256).all fun c => (rdH (hL ++ [UInt8.ofNat c])).isNone) = true := by kernel_rfl
theorem long_no (c : UInt8) : rdHello (hello0 ++ ⟨([c].take 1).toArray⟩) = none := by
  have h := List.all_eq_true.1 long_chk c.toNat (List.mem_range.2 c.toNat_lt)
  rw [ofNat_toNat'] at h
  rw [rdH_bl, bl_app, bl_h0]
  exact Option.isNone_iff_eq_none.1 h
theorem short_no : rdTold (bl (reply0.extract 0 (reply0.size - 1))) = none := by kernel_rfl
theorem trn_zero {s : ByteArray} {i : Nat} (hi : i < s.size) : trn s i 0 = s := by
  have e : (bl s).set i ((bl s).getD i 0 ^^^ 0) = bl s := by
    apply List.ext_getElem?
    intro j
    rw [List.getElem?_set]
    split
    · next h =>
      subst h
      have hl : i < (bl s).length := by rw [bl_len]; exact hi
      rw [if_pos hl, List.getD_eq_getElem?_getD, List.getElem?_eq_getElem hl]
      simp
    · rfl
  unfold trn
  rw [e]
  apply ByteArray.ext
  simp [bl]
end Go.Proofs.YtcjjbpbehapjpaaGreat
