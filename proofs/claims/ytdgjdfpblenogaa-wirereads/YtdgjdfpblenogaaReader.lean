/-
  The reader's calls: New, Number, Text, Take and Left by what they answer and what they leave.
-/
import Derived.Test.YtdgjdfpblenogaaText
namespace Go.Proofs.Ytdgjdfpblenogaa
open Go.RowKit

/-- nothing but block b has turned, and no block has come -/
structure Only (b : Nat) (w w' : World) : Prop where
  os : w'.os = w.os
  tape : w'.tape = w.tape
  output : w'.output = w.output
  size : w'.heap.size = w.heap.size
  block : ∀ k, k ≠ b → w'.heap[k]? = w.heap[k]?

theorem Only.refl (b : Nat) (w : World) : Only b w w := ⟨rfl, rfl, rfl, rfl, fun _ _ => rfl⟩
theorem Only.below {b B : Nat} {w w' : World} (h : Only b w w') (hB : B ≤ b) : Below B w w' :=
  ⟨h.os, h.tape, h.output, Nat.le_of_eq h.size.symm, fun k hk => h.block k (by omega)⟩
theorem Only.cell {b : Nat} {w w' : World} (h : Only b w w') {p : Addr} (hp : p.block ≠ b) : w'.cell? p = w.cell? p := World.cell?_of_block (w := w) (h.block p.block hp)
theorem Only.frozen {b : Nat} {w w' : World} (h : Only b w w') {p : Addr} (hp : p.block ≠ b) : w'.frozen? p = w.frozen? p := World.frozen?_of_block (w := w) (h.block p.block hp)
theorem Only.setCell (w : World) (b o : Nat) (v : Value) : Only b w (w.setCell ⟨b, o, none⟩ v) :=
  ⟨rfl, rfl, rfl, by simp, fun k hk => Below.heap_setCell _ _ _ _ hk⟩

/-- what becomes of a reader's bytes in a world that has turned elsewhere alone -/
theorem Rd.kept {w w' : World} {b d o cap : Nat} {bs : List UInt8} (h : Rd w b d o cap bs) (hb : w'.heap[b]? = w.heap[b]?) (hd : w'.heap[d]? = w.heap[d]?) : Rd w' b d o cap bs :=
  ⟨(World.cell?_of_block (w := w) hb).trans h.made, (World.cell?_of_block (w := w) hb).trans h.left, (World.frozen?_of_block (w := w) hb).trans h.free, h.room, h.few,
    fun i hi => (World.cell?_of_block (w := w) hd).trans (h.cells i hi)⟩

theorem Rd.drop {w : World} {b d o cap n : Nat} {bs : List UInt8} (h : Rd w b d o cap bs) (hne : d ≠ b) (hn : n ≤ bs.length) :
    ∃ o' cap', Rd (w.setCell ⟨b, 1, none⟩ (.slice (some (if cap = n then ⟨d, o, none⟩ else ⟨d, o + n, none⟩)) (bs.length - n) (cap - n))) b d o' cap' (bs.drop n) := by
  have hroom := h.room
  have hother : ∀ p : Addr, p ≠ ⟨b, 1, none⟩ → ∀ v, (w.setCell ⟨b, 1, none⟩ v).cell? p = w.cell? p := fun p hp v => World.cell?_setCell_other _ _ _ _ (Ne.symm hp)
  by_cases hc : cap = n
  · refine ⟨o, cap - n, ?_, ?_, ?_, ?_, ?_, ?_⟩
    · rw [hother _ (by simp)]; exact h.made
    · rw [World.cell?_setCell_same _ _ _ h.left, if_pos hc, List.length_drop]
    · rw [World.frozen?_setCell]; exact h.free
    · rw [List.length_drop]; omega
    · have := h.few; rw [List.length_drop]; omega
    · intro i hi; rw [List.length_drop] at hi; omega
  · refine ⟨o + n, cap - n, ?_, ?_, ?_, ?_, ?_, ?_⟩
    · rw [hother _ (by simp)]; exact h.made
    · rw [World.cell?_setCell_same _ _ _ h.left, if_neg hc, List.length_drop]
    · rw [World.frozen?_setCell]; exact h.free
    · rw [List.length_drop]; omega
    · have := h.few; rw [List.length_drop]; omega
    · intro i hi
      have hi' : n + i < bs.length := by rw [List.length_drop] at hi; omega
      rw [hother _ (by intro e; exact hne (by simpa using congrArg Addr.block e)), List.getElem_drop, Nat.add_assoc]
      exact h.cells (n + i) hi'

/-- drop by its contract -/
theorem drop_rd (w : World) (b d o cap n : Nat) (bs : List UInt8) (h : Rd w b d o cap bs) (hne : d ≠ b) (hn : n ≤ bs.length) :
    Calls Try.prog 31 #[.pointer (some ⟨b, 0, none⟩), .int .i64 n] w fun e w' =>
      e = .returned (.tuple #[]) ∧ (∃ o' cap', Rd w' b d o' cap' (bs.drop n)) ∧ Only b w w' := by
  refine (drop_ok w b d o bs.length cap n h.left h.free hn).mono ?_
  rintro e w' ⟨rfl, rfl⟩
  exact ⟨rfl, h.drop hne hn, Only.setCell _ _ _ _⟩

set_option maxHeartbeats 1000000 in
theorem Number_yes (w : World) (b d o cap width : Nat) (bs : List UInt8) (hr : Rd w b d o cap bs) (hne : d ≠ b) (h1 : 1 ≤ width) (h8 : width ≤ 8) (hw : width ≤ bs.length) :
    Calls Try.prog 19 #[.pointer (some ⟨b, 0, none⟩), .int .i64 width] w fun e w' =>
      e = .returned (.tuple #[.int .u64 (val (bs.take width)), .bool true]) ∧ (∃ o' cap', Rd w' b d o' cap' (bs.drop width)) ∧ Only b w w' := by
  have L := hide (look_any w (.pointer (some ⟨b, 0, none⟩)))
  have N := hide (number_ok w b d o cap width bs hr h1 h8 hw)
  have D := hide (drop_rd w b d o cap width bs hr hne hw)
  go_enter Try.func19, Try.ntmps19
  go_wp2_with fail
  refine L.out.mono ?_
  rintro e w1 ⟨rfl, rfl⟩
  go_wp2_with fail
  refine N.out.mono ?_
  rintro e w1 ⟨rfl, rfl⟩
  go_wp2_with fail
  refine D.out.mono ?_
  rintro e w1 ⟨rfl, hrd, hon⟩
  clear L N D hr
  go_wp2
  go_ret2
  exact ⟨rfl, hrd, hon⟩

theorem Number_no (w : World) (b d o cap : Nat) (width : Int) (bs : List UInt8) (hr : Rd w b d o cap bs) (h : width < 1 ∨ 8 < width ∨ bs.length < width) :
    Calls Try.prog 19 #[.pointer (some ⟨b, 0, none⟩), .int .i64 width] w fun e w' =>
      e = .returned (.tuple #[.int .u64 0, .bool false]) ∧ w' = w := by
  have L := hide (look_any w (.pointer (some ⟨b, 0, none⟩)))
  have N : Hid (Calls Try.prog 29 #[.func (Fn.func 34) #[.pointer (some ⟨b, 0, none⟩)] #[], .int .i64 width] w fun e w' => e = .returned (.tuple #[.int .u64 0, .bool false]) ∧ w' = w) := by
    by_cases hb : width < 1 ∨ 8 < width
    · exact number_bad w _ width hb
    · obtain ⟨m, rfl⟩ := Int.eq_ofNat_of_zero_le (show 0 ≤ width by omega)
      exact number_short w b d o cap m bs hr (by omega) (by omega) (by omega)
  clear h
  go_enter Try.func19, Try.ntmps19
  go_wp2_with fail
  refine L.out.mono ?_
  rintro e w1 ⟨rfl, rfl⟩
  go_wp2_with fail
  refine N.out.mono ?_
  rintro e w1 ⟨rfl, rfl⟩
  go_wp2
  go_ret2
  exact ⟨rfl, rfl⟩

theorem Number_nil (w : World) (width : Nat) (h1 : 1 ≤ width) (h8 : width ≤ 8) :
    Calls Try.prog 19 #[.pointer none, .int .i64 width] w fun e w' =>
      e = .returned (.tuple #[.int .u64 0, .bool false]) ∧ w' = w := by
  have L := hide (look_any w (.pointer none))
  have N := hide (number_nil w width h1 h8)
  go_enter Try.func19, Try.ntmps19
  go_wp2_with fail
  refine L.out.mono ?_
  rintro e w1 ⟨rfl, rfl⟩
  go_wp2_with fail
  refine N.out.mono ?_
  rintro e w1 ⟨rfl, rfl⟩
  go_wp2
  go_ret2
  exact ⟨rfl, rfl⟩

set_option maxHeartbeats 1000000 in
theorem Text_yes (w : World) (b d o cap most : Nat) (bs : List UInt8) (hr : Rd w b d o cap bs) (hne : d ≠ b) (h4 : 4 ≤ bs.length) (hm : val (bs.take 4) ≤ most) (hw : 4 + val (bs.take 4) ≤ bs.length) (hmm : most < 9223372036854775808) :
    Calls Try.prog 21 #[.pointer (some ⟨b, 0, none⟩), .int .i64 most] w fun e w' =>
      e = .returned (.tuple #[.string ⟨(txt bs).toArray⟩, .bool true]) ∧ (∃ o' cap', Rd w' b d o' cap' (bs.drop (4 + val (bs.take 4)))) ∧ Only b w w' := by
  have L := hide (look_any w (.pointer (some ⟨b, 0, none⟩)))
  have N := hide (text_yes w b d o cap most bs hr h4 hm hw hmm)
  have D := hide (drop_rd w b d o cap (4 + val (bs.take 4)) bs hr hne hw)
  have hlen : (txt bs).length = val (bs.take 4) := by rw [List.length_take, List.length_drop]; omega
  have hfew := hr.few
  generalize val (bs.take 4) = n at *
  generalize txt bs = t at *
  subst hlen
  clear hm hmm h4
  go_enter Try.func21, Try.ntmps21
  go_wp2_with fail
  refine L.out.mono ?_
  rintro e w1 ⟨rfl, rfl⟩
  go_wp2_with fail
  refine N.out.mono ?_
  rintro e w1 ⟨rfl, rfl⟩
  go_wp2_with fail
  refine D.out.mono ?_
  rintro e w1 ⟨rfl, hrd, hon⟩
  clear L N D hr
  go_wp2
  go_ret2
  exact ⟨rfl, hrd, hon⟩

theorem Text_no (w : World) (b d o cap : Nat) (most : Int) (bs : List UInt8) (hr : Rd w b d o cap bs) (hlo : -9223372036854775808 ≤ most) (hmm : most < 9223372036854775808)
    (h : bs.length < 4 ∨ most < 0 ∨ most < val (bs.take 4) ∨ bs.length < 4 + val (bs.take 4)) :
    Calls Try.prog 21 #[.pointer (some ⟨b, 0, none⟩), .int .i64 most] w fun e w' =>
      e = .returned (.tuple #[.string ⟨#[]⟩, .bool false]) ∧ w' = w := by
  have L := hide (look_any w (.pointer (some ⟨b, 0, none⟩)))
  have N := hide (text_no w b d o cap most bs hr hlo hmm h)
  clear h hlo hmm
  go_enter Try.func21, Try.ntmps21
  go_wp2_with fail
  refine L.out.mono ?_
  rintro e w1 ⟨rfl, rfl⟩
  go_wp2_with fail
  refine N.out.mono ?_
  rintro e w1 ⟨rfl, rfl⟩
  go_wp2
  go_ret2
  exact ⟨rfl, rfl⟩

theorem Text_nil (w : World) (most : Int) :
    Calls Try.prog 21 #[.pointer none, .int .i64 most] w fun e w' =>
      e = .returned (.tuple #[.string ⟨#[]⟩, .bool false]) ∧ w' = w := by
  have L := hide (look_any w (.pointer none))
  have N := hide (text_nil w most)
  go_enter Try.func21, Try.ntmps21
  go_wp2_with fail
  refine L.out.mono ?_
  rintro e w1 ⟨rfl, rfl⟩
  go_wp2_with fail
  refine N.out.mono ?_
  rintro e w1 ⟨rfl, rfl⟩
  go_wp2
  go_ret2
  exact ⟨rfl, rfl⟩

set_option maxHeartbeats 1000000 in
theorem Take_yes (w : World) (b d o cap n : Nat) (bs : List UInt8) (hr : Rd w b d o cap bs) (hne : d ≠ b) (hn : n ≤ bs.length) :
    Calls Try.prog 23 #[.pointer (some ⟨b, 0, none⟩), .int .i64 n] w fun e w' =>
      e = .returned (.tuple #[.string ⟨(bs.take n).toArray⟩, .bool true]) ∧ (∃ o' cap', Rd w' b d o' cap' (bs.drop n)) ∧ Only b w w' := by
  have L := hide (look_any w (.pointer (some ⟨b, 0, none⟩)))
  have C := hide (cut_some w b d o cap 0 n bs hr (by omega))
  have D := hide (drop_rd w b d o cap n bs hr hne hn)
  go_enter Try.func23, Try.ntmps23
  go_wp2_with fail
  refine L.out.mono ?_
  rintro e w1 ⟨rfl, rfl⟩
  go_wp2_with fail
  refine C.out.mono ?_
  rintro e w1 ⟨o', ho, rfl, rfl⟩
  have HO := hide ho
  clear ho
  go_wp2_with fail
  refine D.out.mono ?_
  rintro e w2 ⟨rfl, hrd, hon⟩
  have hv : (convert 49 9 (.slice (some ⟨d, o', none⟩) n n)).run Try.prog w2 = .ok (.string ⟨(bs.take n).toArray⟩) w2 := by
    have h := conv_piece w2 d o o' n 0 n bs (by omega) (fun i hi => (hon.cell (by exact hne)).trans (hr.cells i hi)) (fun j hj => (hon.cell (by exact hne)).trans ((HO.out j hj).trans (hon.cell (by exact hne)).symm))
    rw [List.drop_zero] at h
    exact h
  clear L C D hr HO
  go_wp2
  go_ret2
  exact ⟨rfl, hrd, hon⟩

theorem Take_no (w : World) (b d o cap : Nat) (n : Int) (bs : List UInt8) (hr : Rd w b d o cap bs) (h : n < 0 ∨ bs.length < n) :
    Calls Try.prog 23 #[.pointer (some ⟨b, 0, none⟩), .int .i64 n] w fun e w' =>
      e = .returned (.tuple #[.string ⟨#[]⟩, .bool false]) ∧ w' = w := by
  have L := hide (look_any w (.pointer (some ⟨b, 0, none⟩)))
  have C := hide (cut_no w b d o bs.length cap 0 n hr.made hr.left hr.few (by omega))
  have hv := conv_none w 0
  clear h
  go_enter Try.func23, Try.ntmps23
  go_wp2_with fail
  refine L.out.mono ?_
  rintro e w1 ⟨rfl, rfl⟩
  go_wp2_with fail
  refine C.out.mono ?_
  rintro e w1 ⟨rfl, rfl⟩
  go_wp2
  go_ret2
  exact ⟨rfl, rfl⟩

theorem Take_nil (w : World) (n : Int) :
    Calls Try.prog 23 #[.pointer none, .int .i64 n] w fun e w' =>
      e = .returned (.tuple #[.string ⟨#[]⟩, .bool false]) ∧ w' = w := by
  have L := hide (look_any w (.pointer none))
  have C := hide (cut_nil w 0 n)
  have hv := conv_none w 0
  go_enter Try.func23, Try.ntmps23
  go_wp2_with fail
  refine L.out.mono ?_
  rintro e w1 ⟨rfl, rfl⟩
  go_wp2_with fail
  refine C.out.mono ?_
  rintro e w1 ⟨rfl, rfl⟩
  go_wp2
  go_ret2
  exact ⟨rfl, rfl⟩

theorem Left_rd (w : World) (b d o cap : Nat) (bs : List UInt8) (hr : Rd w b d o cap bs) :
    Calls Try.prog 25 #[.pointer (some ⟨b, 0, none⟩)] w fun e w' => e = .returned (.int .i64 bs.length) ∧ w' = w :=
  left_ok w b bs.length cap _ hr.left

set_option maxHeartbeats 1000000 in
theorem New_any (w : World) (s : ByteArray) (hs : s.size ≤ 1000000) :
    Calls Try.prog 17 #[.string s] w fun e w' =>
      e = .returned (.pointer (some ⟨w.heap.size + 1, 0, none⟩)) ∧ (∃ cap, Rd w' (w.heap.size + 1) w.heap.size 0 cap s.data.toList) ∧ Below w.heap.size w w' ∧ w'.heap.size = w.heap.size + 2 := by
  have hv := run_bytes_of_string (P := Try.prog) w 9 49 5 s Try.underlying9 Try.underlying49 Try.underlying5
  have hcap := grownCap_ge w s.size 0 5
  generalize grownCap w s.size 0 5 = cap at *
  have hrow : ∀ j (hj : j < s.data.size), (bytesRow s cap)[j]? = some (.int .u8 (s.data[j].toNat : Int)) := bytesRow_at s cap
  generalize bytesRow s cap = row at *
  have HR := hide hrow
  clear hrow
  go_enter Try.func17, Try.ntmps17
  go_wp2
  go_ret
  refine ⟨rfl, ⟨cap, ?_, ?_, ?_, ?_, ?_, ?_⟩, ?_, by simp⟩
  · rw [World.cell?_drew, World.cell?_alloc_at _ _ _ _ (by simp)]; rfl
  · rw [World.cell?_drew, World.cell?_alloc_at _ _ _ _ (by simp)]; simp
  · rw [World.frozen?_drew, World.frozen?_alloc_at _ _ _ _ (by simp)]
  · simpa using hcap
  · simpa using hs
  · intro i hi
    have hi' : i < s.data.size := by simpa using hi
    rw [World.cell?_drew, World.cell?_alloc_past _ _ _ (by simp), World.cell?_alloc_mark, Nat.zero_add, HR.out i hi']
    rfl
  · exact (((Below.refl _ _).alloc (Nat.le_refl _) _).alloc (by simp) _).drew
end Go.Proofs.Ytdgjdfpblenogaa
