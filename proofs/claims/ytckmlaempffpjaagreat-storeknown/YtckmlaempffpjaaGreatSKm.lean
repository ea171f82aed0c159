/-
  What StoreKnown needs: the chapter's examples, step by step.
-/
import Derived.Test.YtckmlaempffpjaaGreatSOm
namespace Go.Proofs.YtckmlaempffpjaaGreat
open Go.RowKit Go.Shelf

theorem pre_no {S : SS} (h : S.size ≤ 1024) : preS S = (S, 0) := by
  unfold preS
  exact if_neg (by omega)
theorem do_x {S : SS} {ps : List Rw} {ds : List ByteArray} (hr : refR ps ds = 0) (hn : ps.length + ds.length ≠ 0) (hs : S.size ≤ 1024) : DoS S ps ds = chgS S ps ds := by
  unfold DoS
  rw [if_neg (fun e => e.elim (fun e => e hr) hn), pre_no hs]
  exact if_neg (fun e => e.1 rfl)
theorem do_no {S : SS} {ps : List Rw} {ds : List ByteArray} {n : Nat} (hr : refR ps ds = n) (hn : n ≠ 0) : DoS S ps ds = (S, n) := by
  unfold DoS
  rw [if_pos (.inl (by rw [hr]; exact hn)), hr]
theorem do_none {S : SS} : DoS S [] [] = (S, 0) := by
  unfold DoS
  exact if_pos (.inr rfl)
theorem packB_nil : packB [] = { data := #[] } := by
  have h : packL [] = [] := List.length_eq_zero_iff.1 (by rw [packL_len (l := []) List.nodup_nil]; rfl)
  unfold packB
  rw [h]
theorem pack_x {S : SS} (h : S.rows = []) (h7 : (layS S { data := #[] }).2 ≠ 7) : PackS S = layS S { data := #[] } := by
  unfold PackS
  rw [h, packB_nil]
  exact if_neg h7
/-! bytes 0 -/
def zN (n : Nat) : List UInt8 := List.replicate n 0
def zB (n : Nat) : ByteArray := ⟨(zN n).toArray⟩
theorem zN_len (n : Nat) : (zN n).length = n := List.length_replicate
theorem zB_size (n : Nat) : (zB n).size = n := by
  show (zN n).toArray.size = n
  rw [List.size_toArray, zN_len]
def bK : ByteArray := { data := #[107] }
def bV : ByteArray := { data := #[118] }
def bX : ByteArray := { data := #[120] }
def kv : Rw := ⟨bK, bV⟩
def kvs (n : Nat) : List Rw := List.replicate n kv
theorem kvs_len (n : Nat) : (kvs n).length = n := List.length_replicate
theorem kvs_succ (n : Nat) : kvs (n + 1) = kvs n ++ [kv] := by unfold kvs; exact List.replicate_succ'
def rz : Rw := ⟨{ data := #[] }, { data := #[] }⟩
def rzs : List Rw := List.replicate 65 rz
theorem r_a : refR [⟨{ data := #[] }, bX⟩] [] = 2 := by decide +kernel
theorem r_b : refR [⟨zB 65, bX⟩] [] = 3 := by
  rw [ref_one]
  have := zB_size 65
  rw [if_neg (by show ¬ (zB 65).size = 0; omega), if_pos (.inl (by show 64 < (zB 65).size; omega))]
theorem r_e : refR [] [{ data := #[] }] = 2 := by decide +kernel
theorem r_f : refR [] [zB 65] = 3 := by decide +kernel
theorem r_g : refR [⟨bK, zB 262145⟩] [] = 3 := by
  rw [ref_one]
  have h1 := zB_size 262145
  rw [if_neg (by show ¬ bK.size = 0; decide), if_pos (.inr (by show 262144 < (zB 262145).size; rw [h1]; decide))]
theorem r_h : refR rzs [] = 2 := by decide +kernel
theorem r_i : refR (kvs 65) [] = 3 := by decide +kernel
theorem r_k : refR (kvs 64) [] = 0 := by decide +kernel
theorem r_d : refR [] [bK] = 0 := by decide +kernel
/-! the store, step by step -/
def K0 : SS := ⟨⟨[], 1048576, 0, false, []⟩, [], 0⟩
def K1 : SS := (chgS K0 (kvs 64) []).1
theorem k1_ok : (chgS K0 (kvs 64) []).2 = 0 := by decide +kernel
theorem k1_sz : K1.size = 648 := by decide +kernel
theorem k1_rw : K1.rows = [kv] := by decide +kernel
def K2 : SS := (chgS K1 [] [bK]).1
theorem k2_ok : (chgS K1 [] [bK]).2 = 0 := by decide +kernel
theorem k2_rw : K2.rows = [] := by decide +kernel
def K3 : SS := (layS K2 { data := #[] }).1
theorem k3_ok : (layS K2 { data := #[] }).2 = 0 := by decide +kernel
theorem k3_sz : K3.size = 0 := by decide +kernel
theorem k3_rw : K3.rows = [] := by decide +kernel
def w2 : List Rw := [⟨{ data := #[97] }, { data := #[49] }⟩, ⟨{ data := #[98] }, { data := #[50] }⟩]
def K4 : SS := (chgS K3 w2 []).1
theorem k4_ok : (chgS K3 w2 []).2 = 0 := by decide +kernel
def txt28 : ByteArray := { data := #[0, 0, 0, 24, 0, 2, 0, 0, 0, 1, 97, 0, 0, 0, 1, 49, 0, 0, 0, 1, 98, 0, 0, 0, 1, 50, 0, 0] }
theorem k4_rd : readD K4.D nS = (txt28, 0) := by decide +kernel
def K5 : SS := ⟨(armD K4.D 2).1, K4.rows, K4.size⟩
theorem k5_ok : (armD K4.D 2).2 = 0 := by decide +kernel
def c3 : List Rw := [⟨{ data := #[99] }, { data := #[51] }⟩]
def K6 : SS := (chgS K5 c3 []).1
theorem k6_ok : (chgS K5 c3 []).2 = 16 := by decide +kernel
/-! the power comes again: one file -/
theorem srt_one (x : FA) : srtL [x] = [bl x.nm] := by
  unfold srtL
  exact List.mergeSort_singleton _
theorem wk_one1 (x : FA) (ks : List Int) : wkK [x] ks 1 = [cutA x (ks.getD 0 0)] := by
  have h : rankF [x] x.nm = 0 := by unfold rankF; rw [srt_one]; simp
  unfold wkK
  rw [List.map_cons, List.map_nil, h, if_pos (by decide)]
theorem wake_one (x : FA) (n l : Nat) (b : Bool) (sz : List Nat) (ks : List Int) : wakeD ⟨[x], n, l, b, sz⟩ ks = ⟨[cutA x (ks.getD 0 0)], n + x.da.length - (cutA x (ks.getD 0 0)).da.length, 0, false, sz⟩ := by
  unfold wakeD
  rw [show ([x] : List FA).length = 1 from rfl, wk_one1]
  simp [used]
def x6 : FA := ⟨nS, bl txt28 ++ frameB c3 [], 28⟩
theorem k6_d : K6.D = ⟨[x6], 1048530, 0, true, K6.D.sizes⟩ := by kernel_rfl
def D7 : DS := ⟨[⟨nS, (bl txt28 ++ frameB c3 []).take 35, 35⟩], 1048541, 0, false, K6.D.sizes⟩
theorem k7_d : wakeD K6.D [7] = D7 := by
  rw [k6_d, wake_one]
  kernel_rfl
def K8 : SS := (opnS D7).1
theorem k8_ok : (opnS D7).2 = 0 := by decide +kernel
theorem k8_rw : K8.rows = w2 := by decide +kernel
theorem k8_get : getR w2 { data := #[99] } = ({ data := #[] }, false) := by decide +kernel
theorem k8_lg : (lgD D7).size = 35 := by decide +kernel
def b8 : ByteArray := { data := #[0, 0, 0, 4, 0, 0, 0, 0] }
def D9 : DS := (AppendD K8.D nS b8).1
theorem k9_ok : (AppendD K8.D nS b8).2 = 0 := by decide +kernel
theorem k10_lg : (lgD D9).size = 36 := by decide +kernel
theorem k0_opn : opnS ⟨[], 1048576, 0, false, []⟩ = (K0, 0) := by
  have hr : readD ⟨[], 1048576, 0, false, []⟩ nS = ({ data := #[] }, 5) := rfl
  have hl : lgD ⟨[], 1048576, 0, false, []⟩ = { data := #[] } := rfl
  have hp : rplB { data := #[] } = ([], [], true) := by decide
  unfold opnS rawS
  rw [hr, hl, hp, if_neg (fun e => e.2 rfl), if_neg (by decide)]
  rfl
/-! a log does not grow without an end -/
theorem do_len {S : SS} {cs : List Chg} {a b : Fi} {B R N : Nat} {ps : List Rw} {ds : List ByteArray} (hc : ChOk ps ds) (h : Gd S cs a b B) (hg : DG S.D R N) (hl : S.D.left = 0) (hro : B + B + (frameB ps ds).length ≤ roomD S.D) (h0 : (DoS S ps ds).2 = 0) :
    (DoS S ps ds).1.size ≤ 1024 + 2 * (packL S.rows).length + (frameB ps ds).length := by
  have hgo : ¬ (refR ps ds ≠ 0 ∨ ps.length + ds.length = 0) := fun e => e.elim (fun e => e hc.r) hc.n
  have hfs : (frmB ps ds).size = (frameB ps ds).length := by rw [frmB_size, frameB_len]
  have ed : DoS S ps ds = if (preS S).2 ≠ 0 ∧ (preS S).2 ≠ 7 then preS S else chgS (preS S).1 ps ds := by unfold DoS; exact if_neg hgo
  rw [ed] at h0 ⊢
  split
  · rename_i hp
    rw [if_pos hp] at h0
    exact absurd h0 hp.1
  · rename_i hp
    rw [if_neg hp] at h0
    -- what was packed ahead
    have hpre : (preS S).1.size ≤ 1024 + 2 * (packL S.rows).length ∧ roomD (preS S).1.D = roomD S.D ∧ DG (preS S).1.D R (N + 5) ∧ ∃ cs' a' b', Gd (preS S).1 cs' a' b' B := by
      refine ⟨?_, room_pre hg, hg.preS, ?_⟩
      · unfold preS
        split
        · rename_i hlt
          rcases pack_v h hg with r | r | r
          · exfalso
            have e : preS S = PackS S := by unfold preS; exact if_pos hlt
            rw [e] at hp
            exact hp ⟨by rw [r.1]; decide, by rw [r.1]; decide⟩
          · have := r.2.1; omega
          · rw [r.2.2.sz, pack_log]; omega
        · show S.size ≤ _; omega
      · rcases pre_v h hg with r | r | r
        · exact absurd hl r.2.1
        · exact r.2.2
        · exact absurd hl r.2.1
    obtain ⟨z1, z2, z3, cs', a', b', z4⟩ := hpre
    generalize (preS S).1 = T at *
    have hw0 : (writeS T (frmB ps ds)).2 = 0 := by
      unfold chgS at h0
      split at h0
      · rename_i hne; exact absurd h0 hne
      · rename_i hne; exact Decidable.not_not.1 hne
    have hsz : (chgS T ps ds).1.size = (writeS T (frmB ps ds)).1.size := by
      unfold chgS
      split <;> rfl
    rw [hsz]
    have hA7 : (wrA T (frmB ps ds)).2 ≠ 7 := by
      rcases wrA_v z4 z3 (frmB ps ds) with r | r | r
      · rw [r.1]; decide
      · have := r.2.2.2; rw [z2, hfs] at this; omega
      · rw [r.1]; decide
    have hwB : wrB T (frmB ps ds) = wrA T (frmB ps ds) := by unfold wrB; exact if_neg hA7
    unfold writeS at hw0 ⊢
    rw [hwB] at hw0 ⊢
    split
    · rename_i hne
      rw [if_pos hne] at hw0
      exact absurd hw0 hne
    · show T.size + (frmB ps ds).size ≤ _
      omega
end Go.Proofs.YtckmlaempffpjaaGreat
