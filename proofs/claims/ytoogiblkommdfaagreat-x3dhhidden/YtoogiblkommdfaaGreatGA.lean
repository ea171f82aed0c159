/-
  none, Len, textOf.
-/
import Derived.Test.YtoogiblkommdfaaGreatTM
import Derived.WalkMore
import Derived.Laws.IdiomStrings
set_option linter.unusedVariables false
namespace Go.Proofs.YtoogiblkommdfaaGreat
open Go.RowKit

set_option maxRecDepth 100000 in
set_option maxHeartbeats 2000000 in
theorem none_no {w : World} {q : Nat} {t : Tb} {n : Nat} {v : Value} (hq : Blk w q 145 (tcell t n v)) :
    Calls Tryz.prog 80 #[pt q] w fun e w' => e = .returned (.bool false) ∧ Below w.heap.size w w' := by
  have H0 := HA.start w
  go_enter Tryz.func80, Tryz.ntmps80
  refine wp_seq (wl_region ?_)
  refine zv (.bool false) ?_
  refine wl_nil ?_
  refine then_at (F := ⟨(pt q :: un :: .bool false :: List.replicate 9 un).toArray, []⟩) ky ?_
  refine wp_seq (wl_region ?_)
  refine zv (.pointer (some ⟨q, 0, none⟩)) ?_
  refine zv (.bool false) ?_
  refine zv (.bool false) ?_
  refine zv (.pointer (some ⟨q, 0, none⟩)) ?_
  refine zv (.pointer (some ⟨q, 0, none⟩)) ?_
  refine zv (.pointer (some ⟨q, 2, none⟩)) ?_
  refine zu (.map (some t.mb)) (run_load1 (fun w => Tryz.isAgg142 w) ky (((hq.keep H0.old.old).cell 2).trans rfl)) ?_
  refine zv (.bool false) ?_
  refine zv (.bool false) ?_
  refine zv (.bool false) ?_
  refine wl_nil ?_
  refine then_at (F := ⟨(pt q :: un :: .bool false :: pt q :: .bool false :: .bool false :: pt q :: pt q :: .pointer (some ⟨q, 2, none⟩) :: .map (some t.mb) :: .bool false :: .bool false :: List.replicate 0 un).toArray, []⟩) ky ?_
  refine wp_ret ?_
  repeat first | refine then_ret ?_ | refine block_ret ?_
  exact bodyPost_ret (v := .bool false) ky rfl ⟨rfl, H0.old.old⟩
set_option maxRecDepth 100000 in
set_option maxHeartbeats 2000000 in
theorem Len_any {w : World} {q : Nat} {t : Tb} {n m c : Nat} {p : Option Addr} (hq : Blk w q 145 (tcell t n (.slice p m c))) :
    Calls Tryz.prog 116 #[pt q] w fun e w' => e = .returned (iN .i64 m) ∧ Below w.heap.size w w' := by
  have H0 := HA.start w
  go_enter Tryz.func116, Tryz.ntmps116
  refine wp_seq (wl_region ?_)
  refine zv (iN .i64 0) ?_
  refine wl_nil ?_
  refine then_at (F := ⟨(pt q :: un :: iN .i64 0 :: List.replicate 7 un).toArray, []⟩) ky ?_
  refine wp_seq (wp_seq (wl_region ?_))
  refine zv (.pointer (some ⟨q, 0, none⟩)) ?_
  refine wl_call (v := .bool false) H0 ky enter80 #[.pointer (some ⟨q, 0, none⟩)] ky (none_no (hq.keep H0.old.old)) ?_
  intro w1 h2
  refine wl_nil ?_
  refine then_at (F := ⟨(pt q :: un :: iN .i64 0 :: pt q :: .bool false :: List.replicate 5 un).toArray, []⟩) ky ?_
  refine wp_cond_false ky ?_
  refine wp_skip ?_
  refine then_at (F := ⟨(pt q :: un :: iN .i64 0 :: pt q :: .bool false :: List.replicate 5 un).toArray, []⟩) ky ?_
  refine wp_seq (wl_region ?_)
  refine zv (.pointer (some ⟨q, 0, none⟩)) ?_
  refine zv (.pointer (some ⟨q, 0, none⟩)) ?_
  refine zv (.pointer (some ⟨q, 0, none⟩)) ?_
  refine zu (.slice p m c) (run_load1 (fun w => Tryz.isAgg141 w) ky (((hq.keep h2.old.old).cell 0).trans rfl)) ?_
  refine zv (iN .i64 m) ?_
  refine zv (iN .i64 m) ?_
  refine wl_nil ?_
  refine then_at (F := ⟨(pt q :: un :: iN .i64 m :: pt q :: .bool false :: pt q :: pt q :: pt q :: .slice p m c :: iN .i64 m :: List.replicate 0 un).toArray, []⟩) ky ?_
  refine wp_ret ?_
  repeat first | refine then_ret ?_ | refine block_ret ?_
  exact bodyPost_ret (v := iN .i64 m) ky rfl ⟨rfl, h2.old.old⟩
def hdS : ByteArray := { data := #[240, 84, 82, 77] }
def txt (n : Nat) : ByteArray := putS hdS n
set_option maxRecDepth 100000 in
set_option maxHeartbeats 2000000 in
theorem textOf_any (n : Nat) (hn : n < 9223372036854775808) (w : World) :
    Calls Tryz.prog 366 #[iN .i64 n] w fun e w' => e = .returned (.string (txt n)) ∧ Below w.heap.size w w' := by
  have H0 := HA.start w
  go_enter Tryz.func366, Tryz.ntmps366
  refine wp_seq (wl_region ?_)
  refine zv (.string ({ data := #[] })) ?_
  refine wl_nil ?_
  refine then_at (F := ⟨(iN .i64 n :: un :: .string ({ data := #[] }) :: List.replicate 3 un).toArray, []⟩) ky ?_
  refine wp_seq (wl_region ?_)
  refine zv (iN .i64 n) ?_
  refine zu (iN .u64 n) (run_conv .u64 Tryz.underlying3 Tryz.underlying95 ky (by simp only [top]; omega)) ?_
  refine wl_call (v := .string (putS ({ data := #[240, 84, 82, 77] }) n)) H0 ky enter75 #[.string ({ data := #[240, 84, 82, 77] }), iN .i64 4, iN .u64 n] ky (PutNumber_4 ({ data := #[240, 84, 82, 77] }) n (by decide) (by omega) w) ?_
  intro w1 h2
  refine zv (.string (putS ({ data := #[240, 84, 82, 77] }) n)) ?_
  refine wl_nil ?_
  refine then_at (F := ⟨(iN .i64 n :: un :: .string (putS ({ data := #[240, 84, 82, 77] }) n) :: iN .i64 n :: iN .u64 n :: .string (putS ({ data := #[240, 84, 82, 77] }) n) :: List.replicate 0 un).toArray, []⟩) ky ?_
  refine wp_ret ?_
  repeat first | refine then_ret ?_ | refine block_ret ?_
  exact bodyPost_ret (v := .string (txt n)) ky rfl ⟨rfl, h2.old.old⟩
end Go.Proofs.YtoogiblkommdfaaGreat

namespace Go.Proofs.YtoogiblkommdfaaGreat
open Go.RowKit

theorem hide {p : Prop} (h : p) : Hid p := h
set_option maxHeartbeats 400000 in
theorem cut_ok (w : World) (b d o len cap skip n : Nat) (h0 : w.cell? ⟨b, 0, none⟩ = some (.bool true)) (h1 : w.cell? ⟨b, 1, none⟩ = some (.slice (some ⟨d, o, none⟩) len cap))
    (hlc : len ≤ cap) (hcap : len ≤ 1000000) (hs : skip + n ≤ len) :
    Calls Tryz.prog 121 #[.pointer (some ⟨b, 0, none⟩), .int .i64 skip, .int .i64 n] w fun e w' =>
      e = .returned (.tuple #[.slice (some (if n = 0 then ⟨d, o, none⟩ else ⟨d, o + skip, none⟩)) n n, .bool true]) ∧ w' = w := by
  go_enter Tryz.func121, Tryz.ntmps121
  go_wp2
  all_goals go_ret2
  all_goals exact ⟨rfl, rfl⟩

set_option maxHeartbeats 400000 in
theorem cut_no (w : World) (b d o len cap : Nat) (skip n : Int) (h0 : w.cell? ⟨b, 0, none⟩ = some (.bool true)) (h1 : w.cell? ⟨b, 1, none⟩ = some (.slice (some ⟨d, o, none⟩) len cap))
    (hcap : len ≤ 1000000) (hs : skip < 0 ∨ (len : Int) < skip ∨ n < 0 ∨ (len : Int) - skip < n) :
    Calls Tryz.prog 121 #[.pointer (some ⟨b, 0, none⟩), .int .i64 skip, .int .i64 n] w fun e w' =>
      e = .returned (.tuple #[.slice none 0 0, .bool false]) ∧ w' = w := by
  by_cases a1 : skip < 0
  · clear hs
    go_enter Tryz.func121, Tryz.ntmps121
    go_wp2
    all_goals go_ret2
    all_goals exact ⟨rfl, rfl⟩
  by_cases a2 : (len : Int) < skip
  · clear hs
    go_enter Tryz.func121, Tryz.ntmps121
    go_wp2
    all_goals go_ret2
    all_goals exact ⟨rfl, rfl⟩
  by_cases a3 : n < 0
  · clear hs
    go_enter Tryz.func121, Tryz.ntmps121
    go_wp2
    all_goals go_ret2
    all_goals exact ⟨rfl, rfl⟩
  have a4 : (len : Int) - skip < n := by omega
  clear hs
  go_enter Tryz.func121, Tryz.ntmps121
  go_wp2
  all_goals go_ret2
  all_goals exact ⟨rfl, rfl⟩

theorem look_any (w : World) (p : Value) :
    Calls Tryz.prog 88 #[p] w fun e w' => e = .returned (.func (Fn.func 121) #[p] #[]) ∧ w' = w := by
  go_enter Tryz.func88, Tryz.ntmps88
  go_wp2
  all_goals go_ret
  exact ⟨rfl, rfl⟩

theorem drop_ok (w : World) (b d o len cap n : Nat) (h1 : w.cell? ⟨b, 1, none⟩ = some (.slice (some ⟨d, o, none⟩) len cap)) (hf : w.frozen? ⟨b, 1, none⟩ = false)
    (hs : n ≤ len) :
    Calls Tryz.prog 89 #[.pointer (some ⟨b, 0, none⟩), .int .i64 n] w fun e w' =>
      e = .returned (.tuple #[]) ∧ w' = w.setCell ⟨b, 1, none⟩ (.slice (some (if cap = n then ⟨d, o, none⟩ else ⟨d, o + n, none⟩)) (len - n) (cap - n)) := by
  go_enter Tryz.func89, Tryz.ntmps89
  go_wp2
  all_goals go_end0
  all_goals exact ⟨rfl, rfl⟩

/-- the number of bytes, the highest first -/
def val (l : List UInt8) : Nat := l.foldl (fun v c => v * 256 + c.toNat) 0

theorem val_snoc (l : List UInt8) (c : UInt8) : val (l ++ [c]) = val l * 256 + c.toNat := by
  simp [val]

theorem val_take (l : List UInt8) (k : Nat) (h : k < l.length) : val (l.take (k + 1)) = val (l.take k) * 256 + l[k].toNat := by
  rw [List.take_succ_eq_append_getElem h, val_snoc]

theorem val_from (l : List UInt8) : ∀ a n, a < 256 ^ n → l.foldl (fun v c => v * 256 + c.toNat) a < 256 ^ (n + l.length) := by
  induction l with
  | nil => intro a n h; simpa using h
  | cons c l ih =>
    intro a n h
    have hc := c.toNat_lt
    have := ih (a * 256 + c.toNat) (n + 1) (by rw [Nat.pow_succ]; omega)
    simpa [List.foldl_cons, Nat.add_assoc, Nat.add_comm 1] using this

theorem val_lt (l : List UInt8) : val l < 256 ^ l.length := by
  have := val_from l 0 0 (by decide)
  rw [Nat.zero_add] at this
  exact this

/-- the reader in block b has the bytes bs, which lie in block d -/
structure Rd (w : World) (b d o cap : Nat) (bs : List UInt8) : Prop where
  made : w.cell? ⟨b, 0, none⟩ = some (.bool true)
  left : w.cell? ⟨b, 1, none⟩ = some (.slice (some ⟨d, o, none⟩) bs.length cap)
  free : w.frozen? ⟨b, 1, none⟩ = false
  room : bs.length ≤ cap
  few : bs.length ≤ 1000000
  cells : ∀ i (h : i < bs.length), w.cell? ⟨d, o + i, none⟩ = some (.int .u8 bs[i].toNat)

theorem join8 (V c : Nat) (hV : V < 72057594037927936) (hc : c < 256) : bits .or .u64 ((V : Int) * 256) (IntKind.u64.wrap (c : Int)) = ((V * 256 + c : Nat) : Int) := by
  have e : IntKind.u64.wrap (c : Int) = (c : Int) := by rw [IntKind.wrap_u64]; omega
  have e2 : (V : Int) * 256 = ((V * 256 : Nat) : Int) := by omega
  rw [e, e2, u64_or_nat (V * 256) c (by omega) (by omega), nat_join 8 (V * 256) c (by omega) (by omega)]

theorem int_eq {k : IntKind} {a b : Int} (h : a = b) : Value.int k a = .int k b := by rw [h]

set_option maxHeartbeats 1000000 in
theorem number_ok (w : World) (b d o cap width : Nat) (bs : List UInt8) (hr : Rd w b d o cap bs) (h1 : 1 ≤ width) (h8 : width ≤ 8) (hw : width ≤ bs.length) :
    Calls Tryz.prog 87 #[.func (Fn.func 121) #[.pointer (some ⟨b, 0, none⟩)] #[], .int .i64 width] w fun e w' =>
      e = .returned (.tuple #[.int .u64 (val (bs.take width)), .bool true]) ∧ w' = w := by
  obtain ⟨r0, r1, r2, r3, r4, r5⟩ := hr
  go_enter Tryz.func87, Tryz.ntmps87
  go_wp2
  go_step3
  go_wp2
  go_step3
  go_wp2
  go_loop [6, 7] (fun v i => ∃ k : Nat, k ≤ width ∧ i = .int .i64 k ∧ v = .int .u64 (val (bs.take k))) (fun _ i => width - (intOf i).toNat)
  case atStart => exact ⟨0, Nat.zero_le _, rfl, rfl⟩
  case round =>
    obtain ⟨k, hk, rfl, rfl⟩ := hrel
    by_cases hlt : k < width
    · have hkb : k < bs.length := by omega
      have hne : ((k : Int) == (width : Int)) = false := beq_eq_false_iff_ne.2 (by omega)
      have hc := r5 k hkb
      have HV : Hid (val (bs.take (k + 1)) = val (bs.take k) * 256 + bs[k].toNat) := val_take bs k hkb
      have hb : val (bs.take k) < 72057594037927936 := by
        have := val_lt (bs.take k)
        have h2 : 256 ^ (bs.take k).length ≤ 256 ^ 7 := Nat.pow_le_pow_right (by decide) (by rw [List.length_take]; omega)
        have h3 : (256 : Nat) ^ 7 = 72057594037927936 := by decide
        omega
      generalize val (bs.take k) = V at *
      go_wp2_with (go_at_call 121; refine (cut_ok w b d o bs.length cap k 1 r0 r1 r3 r4 (by omega)).mono ?_; rintro e w' ⟨rfl, rfl⟩)
      go_round
      case rel => exact ⟨k + 1, by omega, by go_num, int_eq (by rw [HV.out]; exact join8 V _ hb (UInt8.toNat_lt _))⟩
      case measure => simp [intOf]; omega
    · have hke : k = width := by omega
      subst hke
      by_cases hkb : k + 1 ≤ bs.length
      · go_wp2_with (go_at_call 121; refine (cut_ok w b d o bs.length cap k 1 r0 r1 r3 r4 (by omega)).mono ?_; rintro e w' ⟨rfl, rfl⟩)
        rw [Exit.noGoto_ret]
        go_ret2
        exact ⟨rfl, rfl⟩
      · go_wp2_with (go_at_call 121; refine (cut_no w b d o bs.length cap k 1 r0 r1 r4 (by omega)).mono ?_; rintro e w' ⟨rfl, rfl⟩)
        rw [Exit.noGoto_ret]
        go_ret2
        exact ⟨rfl, rfl⟩

/-- nothing but block b has turned, and no block has come -/
structure Only (b : Nat) (w w' : World) : Prop where
  os : w'.os = w.os
  tape : w'.tape = w.tape
  output : w'.output = w.output
  size : w'.heap.size = w.heap.size
  block : ∀ k, k ≠ b → w'.heap[k]? = w.heap[k]?

theorem Only.below {b B : Nat} {w w' : World} (h : Only b w w') (hB : B ≤ b) : Below B w w' :=
  ⟨h.os, h.tape, h.output, Nat.le_of_eq h.size.symm, fun k hk => h.block k (by omega)⟩
theorem Only.setCell (w : World) (b o : Nat) (v : Value) : Only b w (w.setCell ⟨b, o, none⟩ v) :=
  ⟨rfl, rfl, rfl, by simp, fun k hk => Below.heap_setCell _ _ _ _ hk⟩

theorem Rd.drop {w : World} {b d o cap n : Nat} {bs : List UInt8} (h : Rd w b d o cap bs) (hne : d ≠ b) (hn : n ≤ bs.length) :
    ∃ o' cap', Rd (w.setCell ⟨b, 1, none⟩ (.slice (some (if cap = n then ⟨d, o, none⟩ else ⟨d, o + n, none⟩)) (bs.length - n) (cap - n))) b d o' cap' (bs.drop n) := by
  have hroom := h.room
  have hother : ∀ p : Addr, p ≠ ⟨b, 1, none⟩ → ∀ v, (w.setCell ⟨b, 1, none⟩ v).cell? p = w.cell? p := fun p hp v => World.cell?_setCell_other _ _ _ _ (Ne.symm hp)
  by_cases hc : cap = n
  · refine ⟨o, cap - n, ?_, ?_, ?_, ?_, ?_, ?_⟩
    · rw [hother _ (by simp)]; exact h.made
    · rw [World.cell?_setCell_same _ _ _ h.left, if_pos hc, List.length_drop]
    · rw [World.frozen?_setCell]; exact h.free
    · rw [List.length_drop]; omega
    · have := h.few; rw [List.length_drop]; omega
    · intro i hi; rw [List.length_drop] at hi; omega
  · refine ⟨o + n, cap - n, ?_, ?_, ?_, ?_, ?_, ?_⟩
    · rw [hother _ (by simp)]; exact h.made
    · rw [World.cell?_setCell_same _ _ _ h.left, if_neg hc, List.length_drop]
    · rw [World.frozen?_setCell]; exact h.free
    · rw [List.length_drop]; omega
    · have := h.few; rw [List.length_drop]; omega
    · intro i hi
      have hi' : n + i < bs.length := by rw [List.length_drop] at hi; omega
      rw [hother _ (by intro e; exact hne (by simpa using congrArg Addr.block e)), List.getElem_drop, Nat.add_assoc]
      exact h.cells (n + i) hi'

/-- drop by its contract -/
theorem drop_rd (w : World) (b d o cap n : Nat) (bs : List UInt8) (h : Rd w b d o cap bs) (hne : d ≠ b) (hn : n ≤ bs.length) :
    Calls Tryz.prog 89 #[.pointer (some ⟨b, 0, none⟩), .int .i64 n] w fun e w' =>
      e = .returned (.tuple #[]) ∧ (∃ o' cap', Rd w' b d o' cap' (bs.drop n)) ∧ Only b w w' := by
  refine (drop_ok w b d o bs.length cap n h.left h.free hn).mono ?_
  rintro e w' ⟨rfl, rfl⟩
  exact ⟨rfl, h.drop hne hn, Only.setCell _ _ _ _⟩

set_option maxHeartbeats 1000000 in
theorem Number_yes (w : World) (b d o cap width : Nat) (bs : List UInt8) (hr : Rd w b d o cap bs) (hne : d ≠ b) (h1 : 1 ≤ width) (h8 : width ≤ 8) (hw : width ≤ bs.length) :
    Calls Tryz.prog 46 #[.pointer (some ⟨b, 0, none⟩), .int .i64 width] w fun e w' =>
      e = .returned (.tuple #[.int .u64 (val (bs.take width)), .bool true]) ∧ (∃ o' cap', Rd w' b d o' cap' (bs.drop width)) ∧ Only b w w' := by
  have L := hide (look_any w (.pointer (some ⟨b, 0, none⟩)))
  have N := hide (number_ok w b d o cap width bs hr h1 h8 hw)
  have D := hide (drop_rd w b d o cap width bs hr hne hw)
  go_enter Tryz.func46, Tryz.ntmps46
  go_wp2_with fail
  refine L.out.mono ?_
  rintro e w1 ⟨rfl, rfl⟩
  go_wp2_with fail
  refine N.out.mono ?_
  rintro e w1 ⟨rfl, rfl⟩
  go_wp2_with fail
  refine D.out.mono ?_
  rintro e w1 ⟨rfl, hrd, hon⟩
  clear L N D hr
  go_wp2
  go_ret2
  exact ⟨rfl, hrd, hon⟩

set_option maxHeartbeats 1000000 in
theorem New_any (w : World) (s : ByteArray) (hs : s.size ≤ 1000000) :
    Calls Tryz.prog 44 #[.string s] w fun e w' =>
      e = .returned (.pointer (some ⟨w.heap.size + 1, 0, none⟩)) ∧ (∃ cap, Rd w' (w.heap.size + 1) w.heap.size 0 cap s.data.toList) ∧ Below w.heap.size w w' ∧ w'.heap.size = w.heap.size + 2 := by
  have hv := run_bytes_of_string (P := Tryz.prog) w 9 75 5 s Tryz.underlying9 Tryz.underlying75 Tryz.underlying5
  have hcap := grownCap_ge w s.size 0 5
  generalize grownCap w s.size 0 5 = cap at *
  have hrow : ∀ j (hj : j < s.data.size), (bytesRow s cap)[j]? = some (.int .u8 (s.data[j].toNat : Int)) := bytesRow_at s cap
  generalize bytesRow s cap = row at *
  have HR := hide hrow
  clear hrow
  go_enter Tryz.func44, Tryz.ntmps44
  go_wp2
  go_ret
  refine ⟨rfl, ⟨cap, ?_, ?_, ?_, ?_, ?_, ?_⟩, ?_, by simp⟩
  · rw [World.cell?_drew, World.cell?_alloc_at _ _ _ _ (by simp)]; rfl
  · rw [World.cell?_drew, World.cell?_alloc_at _ _ _ _ (by simp)]; simp
  · rw [World.frozen?_drew, World.frozen?_alloc_at _ _ _ _ (by simp)]
  · simpa using hcap
  · simpa using hs
  · intro i hi
    have hi' : i < s.data.size := by simpa using hi
    rw [World.cell?_drew, World.cell?_alloc_past _ _ _ (by simp), World.cell?_alloc_mark, Nat.zero_add, HR.out i hi']
    rfl
  · exact (((Below.refl _ _).alloc (Nat.le_refl _) _).alloc (by simp) _).drew
/-- New and Number of four bytes, one behind the other: nothing that was there is turned -/
theorem New_4 (w : World) (s : ByteArray) (hs : s.size = 4) :
    Calls Tryz.prog 44 #[.string s] w fun e w' =>
      ∃ b, e = .returned (.pointer (some ⟨b, 0, none⟩)) ∧ Below w.heap.size w w' ∧ w.heap.size ≤ b ∧ b < w'.heap.size ∧ ∃ d o cap, d ≠ b ∧ d < w'.heap.size ∧ Rd w' b d o cap s.data.toList := by
  refine (New_any w s (by omega)).mono ?_
  rintro e w' ⟨rfl, ⟨cap, hr⟩, hb, hz⟩
  exact ⟨_, rfl, hb, by omega, by omega, w.heap.size, 0, cap, by omega, by omega, hr⟩
theorem Number_4 (w0 w : World) (b d o cap : Nat) (s : ByteArray) (hs : s.size = 4) (hr : Rd w b d o cap s.data.toList) (hne : d ≠ b) (hb : w0.heap.size ≤ b) (hw : Below w0.heap.size w0 w) :
    Calls Tryz.prog 46 #[.pointer (some ⟨b, 0, none⟩), iN .i64 4] w fun e w' => e = .returned (.tuple #[iN .u64 (val s.data.toList), .bool true]) ∧ Below w0.heap.size w0 w' := by
  have hl : s.data.toList.length = 4 := by simpa using hs
  refine (Number_yes w b d o cap 4 s.data.toList hr hne (by decide) (by decide) (by omega)).mono ?_
  rintro e w' ⟨rfl, _, ho⟩
  rw [List.take_of_length_le (by omega)]
  exact ⟨rfl, hw.trans (ho.below hb)⟩
end Go.Proofs.YtoogiblkommdfaaGreat

namespace Go.Proofs.YtoogiblkommdfaaGreat
open Go.RowKit

theorem HA.ofBelow {w w' : World} (h : Below w.heap.size w w') : HA (bs w) [] w' := ⟨⟨h, fun _ h => (by cases h), fun _ h => (by cases h), List.nodup_nil⟩, fun _ h => (by cases h), fun _ h => (by cases h), List.nodup_nil⟩
def n4 (s : ByteArray) : Nat := val (s.extract 4 8).data.toList
def firstT (m : Nat) (s : ByteArray) : Option Nat := if 8 ≤ s.size ∧ s.extract 0 4 = hdS ∧ n4 s < m then some (n4 s) else none
def numT (m : Nat) (s : ByteArray) : Option Nat := if s.size = 8 then firstT m s else none
def onum (o : Option Nat) : Value := .tuple #[iN .i64 (o.getD 0), .bool o.isSome]
theorem x48 (s : ByteArray) (h : 8 ≤ s.size) : (s.extract 4 8).size = 4 := by rw [ByteArray.size_extract]; omega
theorem n4_lt (s : ByteArray) (h : 8 ≤ s.size) : n4 s < 4294967296 := by
  have h1 := val_lt (s.extract 4 8).data.toList
  have h2 : (s.extract 4 8).data.toList.length = 4 := x48 s h
  rw [h2] at h1
  exact h1
set_option maxRecDepth 100000 in
set_option maxHeartbeats 2000000 in
theorem lpre_yes (s : ByteArray) (h4 : 4 ≤ s.size) (hs : s.extract 0 4 = hdS) (w : World) :
    Calls Tryz.prog 157 #[.string s, .string hdS] w fun e w' => e = .returned (.bool true) ∧ Below w.heap.size w w' := by
  have H0 := HA.start w
  go_enter Tryz.func157, Tryz.ntmps157
  refine wp_seq (wl_region ?_)
  refine zv (.bool false) ?_
  refine wl_nil (then_at rfl (wp_seq (wl_region ?_)))
  refine zv (.string s) ?_
  refine zu (iN .i64 s.size) (run_len (s := s) ky) ?_
  refine zv (.string hdS) ?_
  refine zu (iN .i64 hdS.size) (run_len (s := hdS) ky) ?_
  refine zu (.bool true) (run_geq (k := .i64) (a := s.size) (b := hdS.size) ky ky true (by rw [show hdS.size = 4 from rfl]; exact decide_eq_true (by omega))) ?_
  refine zv (.bool true) ?_
  refine zv (.string s) ?_
  refine zv (.string hdS) ?_
  refine zu (iN .i64 hdS.size) (run_len (s := hdS) ky) ?_
  refine zu (.string (s.extract 0 hdS.size)) (run_cut_hi (s := s) (b := hdS.size) ky ky (by rw [show hdS.size = 4 from rfl]; omega)) ?_
  refine zv (.string hdS) ?_
  refine zu (.bool true) (run_eqs (s := s.extract 0 hdS.size) (t := hdS) ky ky true (decide_eq_true hs)) ?_
  refine zv (.bool true) ?_
  refine zv (.bool true) ?_
  refine wl_nil (then_at rfl ?_)
  refine wp_ret ?_
  repeat first | refine then_ret ?_ | refine block_ret ?_
  exact bodyPost_ret (v := .bool true) ky rfl ⟨rfl, H0.old.old⟩
set_option maxRecDepth 100000 in
set_option maxHeartbeats 2000000 in
theorem pre_yes (s : ByteArray) (h4 : 4 ≤ s.size) (hs : s.extract 0 4 = hdS) (w : World) :
    Calls Tryz.prog 115 #[.string s, .string hdS] w fun e w' => e = .returned (.bool true) ∧ Below w.heap.size w w' := by
  have H0 := HA.start w
  go_enter Tryz.func115, Tryz.ntmps115
  refine wp_seq (wl_region ?_)
  refine zv (.bool false) ?_
  refine wl_nil (then_at rfl (wp_seq (wl_region ?_)))
  refine zv (.string s) ?_
  refine zv (.string hdS) ?_
  refine wl_call (v := .bool true) H0 ky enter157 #[.string s, .string hdS] ky (lpre_yes s h4 hs w) ?_
  intro w1 h2
  refine zv (.bool true) ?_
  refine wl_nil (then_at rfl ?_)
  refine wp_ret ?_
  repeat first | refine then_ret ?_ | refine block_ret ?_
  exact bodyPost_ret (v := .bool true) ky rfl ⟨rfl, h2.old.old⟩
set_option maxRecDepth 100000 in
set_option maxHeartbeats 2000000 in
theorem lpre_no (s : ByteArray) (h4 : 4 ≤ s.size) (hs : s.extract 0 4 ≠ hdS) (w : World) :
    Calls Tryz.prog 157 #[.string s, .string hdS] w fun e w' => e = .returned (.bool false) ∧ Below w.heap.size w w' := by
  have H0 := HA.start w
  go_enter Tryz.func157, Tryz.ntmps157
  refine wp_seq (wl_region ?_)
  refine zv (.bool false) ?_
  refine wl_nil (then_at rfl (wp_seq (wl_region ?_)))
  refine zv (.string s) ?_
  refine zu (iN .i64 s.size) (run_len (s := s) ky) ?_
  refine zv (.string hdS) ?_
  refine zu (iN .i64 hdS.size) (run_len (s := hdS) ky) ?_
  refine zu (.bool true) (run_geq (k := .i64) (a := s.size) (b := hdS.size) ky ky true (by rw [show hdS.size = 4 from rfl]; exact decide_eq_true (by omega))) ?_
  refine zv (.bool true) ?_
  refine zv (.string s) ?_
  refine zv (.string hdS) ?_
  refine zu (iN .i64 hdS.size) (run_len (s := hdS) ky) ?_
  refine zu (.string (s.extract 0 hdS.size)) (run_cut_hi (s := s) (b := hdS.size) ky ky (by rw [show hdS.size = 4 from rfl]; omega)) ?_
  refine zv (.string hdS) ?_
  refine zu (.bool false) (run_eqs (s := s.extract 0 hdS.size) (t := hdS) ky ky false (decide_eq_false hs)) ?_
  refine zv (.bool false) ?_
  refine zv (.bool false) ?_
  refine wl_nil (then_at rfl ?_)
  refine wp_ret ?_
  repeat first | refine then_ret ?_ | refine block_ret ?_
  exact bodyPost_ret (v := .bool false) ky rfl ⟨rfl, H0.old.old⟩
set_option maxRecDepth 100000 in
set_option maxHeartbeats 2000000 in
theorem pre_no (s : ByteArray) (h4 : 4 ≤ s.size) (hs : s.extract 0 4 ≠ hdS) (w : World) :
    Calls Tryz.prog 115 #[.string s, .string hdS] w fun e w' => e = .returned (.bool false) ∧ Below w.heap.size w w' := by
  have H0 := HA.start w
  go_enter Tryz.func115, Tryz.ntmps115
  refine wp_seq (wl_region ?_)
  refine zv (.bool false) ?_
  refine wl_nil (then_at rfl (wp_seq (wl_region ?_)))
  refine zv (.string s) ?_
  refine zv (.string hdS) ?_
  refine wl_call (v := .bool false) H0 ky enter157 #[.string s, .string hdS] ky (lpre_no s h4 hs w) ?_
  intro w1 h2
  refine zv (.bool false) ?_
  refine wl_nil (then_at rfl ?_)
  refine wp_ret ?_
  repeat first | refine then_ret ?_ | refine block_ret ?_
  exact bodyPost_ret (v := .bool false) ky rfl ⟨rfl, h2.old.old⟩
set_option maxRecDepth 100000 in
set_option maxHeartbeats 2000000 in
theorem first_a {w : World} {q : Nat} {t : Tb} {n m c : Nat} {p : Option Addr} (hq : Blk w q 145 (tcell t n (.slice p m c))) (hm : m ≤ 65536) (s : ByteArray) (h8 : s.size < 8) :
    Calls Tryz.prog 77 #[pt q, .string s] w fun e w' => e = .returned (onum (firstT m s)) ∧ Below w.heap.size w w' := by
  have H0 := HA.start w
  go_enter Tryz.func77, Tryz.ntmps77
  refine wp_seq (wl_region ?_)
  refine zv (iN .i64 0) ?_
  refine zv (.bool false) ?_
  refine wl_nil (then_at rfl (wp_seq (wp_seq (wl_region ?_))))
  refine zv (.string s) ?_
  refine zu (iN .i64 s.size) (run_len (s := s) ky) ?_
  refine zu (.bool true) (run_lss (k := .i64) (a := s.size) (b := 8) ky ky true (decide_eq_true (by omega))) ?_
  refine zv (.bool true) ?_
  refine wl_skip ky ?_
  refine wl_skip ky ?_
  refine wl_skip ky ?_
  refine zv (.bool true) ?_
  refine wl_nil (then_at rfl ?_)
  refine wp_cond_true ky ?_
  refine wp_seq (wl_region ?_)
  refine zv (iN .i64 0) ?_
  refine zv (.bool false) ?_
  refine wl_nil (then_at rfl ?_)
  refine wp_ret ?_
  repeat first | refine then_ret ?_ | refine block_ret ?_
  exact bodyPost_ret (v := .tuple #[iN .i64 0, .bool false]) ky rfl ⟨by rw [firstT, if_neg (by omega)]; rfl, H0.old.old⟩
set_option maxRecDepth 100000 in
set_option maxHeartbeats 2000000 in
theorem first_b {w : World} {q : Nat} {t : Tb} {n m c : Nat} {p : Option Addr} (hq : Blk w q 145 (tcell t n (.slice p m c))) (hm : m ≤ 65536) (s : ByteArray) (h8 : 8 ≤ s.size) (hs : s.extract 0 4 ≠ hdS) :
    Calls Tryz.prog 77 #[pt q, .string s] w fun e w' => e = .returned (onum (firstT m s)) ∧ Below w.heap.size w w' := by
  have H0 := HA.start w
  have hv := n4_lt s h8
  go_enter Tryz.func77, Tryz.ntmps77
  refine wp_seq (wl_region ?_)
  refine zv (iN .i64 0) ?_
  refine zv (.bool false) ?_
  refine wl_nil (then_at rfl (wp_seq (wp_seq (wl_region ?_))))
  refine zv (.string s) ?_
  refine zu (iN .i64 s.size) (run_len (s := s) ky) ?_
  refine zu (.bool false) (run_lss (k := .i64) (a := s.size) (b := 8) ky ky false (decide_eq_false (by omega))) ?_
  refine zv (.bool false) ?_
  refine zv (.string s) ?_
  refine wl_call (v := .bool false) H0 ky enter115 #[.string s, .string ({ data := #[240, 84, 82, 77] })] ky (pre_no s (by omega) hs w) ?_
  intro w1 h2
  refine zv (.bool true) ?_
  refine zv (.bool true) ?_
  refine wl_nil (then_at rfl ?_)
  refine wp_cond_true ky ?_
  refine wp_seq (wl_region ?_)
  refine zv (iN .i64 0) ?_
  refine zv (.bool false) ?_
  refine wl_nil (then_at rfl ?_)
  refine wp_ret ?_
  repeat first | refine then_ret ?_ | refine block_ret ?_
  exact bodyPost_ret (v := .tuple #[iN .i64 0, .bool false]) ky rfl ⟨by rw [firstT, if_neg (fun h => hs h.2.1)]; rfl, h2.old.old⟩
set_option maxRecDepth 100000 in
set_option maxHeartbeats 2000000 in
theorem first_c {w : World} {q : Nat} {t : Tb} {n m c : Nat} {p : Option Addr} (hq : Blk w q 145 (tcell t n (.slice p m c))) (hm : m ≤ 65536) (s : ByteArray) (h8 : 8 ≤ s.size) (hs : s.extract 0 4 = hdS) (hg : m ≤ n4 s) :
    Calls Tryz.prog 77 #[pt q, .string s] w fun e w' => e = .returned (onum (firstT m s)) ∧ Below w.heap.size w w' := by
  have H0 := HA.start w
  have hv := n4_lt s h8
  go_enter Tryz.func77, Tryz.ntmps77
  refine wp_seq (wl_region ?_)
  refine zv (iN .i64 0) ?_
  refine zv (.bool false) ?_
  refine wl_nil (then_at rfl (wp_seq (wp_seq (wl_region ?_))))
  refine zv (.string s) ?_
  refine zu (iN .i64 s.size) (run_len (s := s) ky) ?_
  refine zu (.bool false) (run_lss (k := .i64) (a := s.size) (b := 8) ky ky false (decide_eq_false (by omega))) ?_
  refine zv (.bool false) ?_
  refine zv (.string s) ?_
  refine wl_call (v := .bool true) H0 ky enter115 #[.string s, .string ({ data := #[240, 84, 82, 77] })] ky (pre_yes s (by omega) hs w) ?_
  intro w1 h2
  refine zv (.bool false) ?_
  refine zv (.bool false) ?_
  refine wl_nil (then_at rfl ?_)
  refine wp_cond_false ky ?_
  refine wp_skip (then_at rfl (wp_seq (wl_region ?_)))
  refine zv (.string s) ?_
  refine zu (.string (s.extract 4 8)) (run_cut2 (s := s) (a := 4) (b := 8) ky ky ky (by decide) (by omega)) ?_
  refine wl_callx ky enter44 #[.string (s.extract 4 8)] ky (New_4 w1 (s.extract 4 8) (x48 s h8)) ?_
  rintro _ w13 ⟨qb3, rfl, hb4, hl5, hl6, qd7, o8, cap9, hd10, hd11, hr12⟩
  refine ⟨_, rfl, ?_⟩
  have h14 := HA.keep _ _ h2 hb4
  refine wl_callx ky enter46 #[.pointer (some ⟨qb3, 0, none⟩), iN .i64 4] ky (Number_4 w w13 qb3 qd7 o8 cap9 (s.extract 4 8) (x48 s h8) hr12 hd10 (Nat.le_trans h2.old.old.size hl5) h14.old.old) ?_
  rintro _ w16 ⟨rfl, hw15⟩
  refine ⟨_, rfl, ?_⟩
  have h17 := HA.ofBelow hw15
  refine zv (.tuple #[iN .u64 (n4 s), .bool true]) ?_
  refine zv (iN .u64 (n4 s)) ?_
  refine zv (.bool true) ?_
  refine zv (iN .u64 (n4 s)) ?_
  refine zv (.bool true) ?_
  refine wl_nil (then_at rfl (wp_seq (wp_seq (wl_region ?_))))
  refine zv (.bool true) ?_
  refine zv (.bool false) ?_
  refine zv (.bool false) ?_
  refine zv (iN .u64 (n4 s)) ?_
  refine zv (.pointer (some ⟨q, 0, none⟩)) ?_
  refine wl_call (v := iN .i64 m) h17 ky enter116 #[.pointer (some ⟨q, 0, none⟩)] ky (Len_any (hq.keep h17.old.old)) ?_
  intro w18 h19
  refine zu (iN .u64 m) (run_conv .u64 Tryz.underlying3 Tryz.underlying95 ky (by simp only [top]; omega)) ?_
  refine zu (.bool true) (run_geq (k := .u64) (a := n4 s) (b := m) ky ky true (decide_eq_true (by omega))) ?_
  refine zv (.bool true) ?_
  refine wl_nil (then_at rfl ?_)
  refine wp_cond_true ky ?_
  refine wp_seq (wl_region ?_)
  refine zv (iN .i64 0) ?_
  refine zv (.bool false) ?_
  refine wl_nil (then_at rfl ?_)
  refine wp_ret ?_
  repeat first | refine then_ret ?_ | refine block_ret ?_
  exact bodyPost_ret (v := .tuple #[iN .i64 0, .bool false]) ky rfl ⟨by rw [firstT, if_neg (fun h => by omega)]; rfl, h19.old.old⟩
set_option maxRecDepth 100000 in
set_option maxHeartbeats 2000000 in
theorem first_d {w : World} {q : Nat} {t : Tb} {n m c : Nat} {p : Option Addr} (hq : Blk w q 145 (tcell t n (.slice p m c))) (hm : m ≤ 65536) (s : ByteArray) (h8 : 8 ≤ s.size) (hs : s.extract 0 4 = hdS) (hg : n4 s < m) :
    Calls Tryz.prog 77 #[pt q, .string s] w fun e w' => e = .returned (onum (firstT m s)) ∧ Below w.heap.size w w' := by
  have H0 := HA.start w
  have hv := n4_lt s h8
  go_enter Tryz.func77, Tryz.ntmps77
  refine wp_seq (wl_region ?_)
  refine zv (iN .i64 0) ?_
  refine zv (.bool false) ?_
  refine wl_nil (then_at rfl (wp_seq (wp_seq (wl_region ?_))))
  refine zv (.string s) ?_
  refine zu (iN .i64 s.size) (run_len (s := s) ky) ?_
  refine zu (.bool false) (run_lss (k := .i64) (a := s.size) (b := 8) ky ky false (decide_eq_false (by omega))) ?_
  refine zv (.bool false) ?_
  refine zv (.string s) ?_
  refine wl_call (v := .bool true) H0 ky enter115 #[.string s, .string ({ data := #[240, 84, 82, 77] })] ky (pre_yes s (by omega) hs w) ?_
  intro w1 h2
  refine zv (.bool false) ?_
  refine zv (.bool false) ?_
  refine wl_nil (then_at rfl ?_)
  refine wp_cond_false ky ?_
  refine wp_skip (then_at rfl (wp_seq (wl_region ?_)))
  refine zv (.string s) ?_
  refine zu (.string (s.extract 4 8)) (run_cut2 (s := s) (a := 4) (b := 8) ky ky ky (by decide) (by omega)) ?_
  refine wl_callx ky enter44 #[.string (s.extract 4 8)] ky (New_4 w1 (s.extract 4 8) (x48 s h8)) ?_
  rintro _ w13 ⟨qb3, rfl, hb4, hl5, hl6, qd7, o8, cap9, hd10, hd11, hr12⟩
  refine ⟨_, rfl, ?_⟩
  have h14 := HA.keep _ _ h2 hb4
  refine wl_callx ky enter46 #[.pointer (some ⟨qb3, 0, none⟩), iN .i64 4] ky (Number_4 w w13 qb3 qd7 o8 cap9 (s.extract 4 8) (x48 s h8) hr12 hd10 (Nat.le_trans h2.old.old.size hl5) h14.old.old) ?_
  rintro _ w16 ⟨rfl, hw15⟩
  refine ⟨_, rfl, ?_⟩
  have h17 := HA.ofBelow hw15
  refine zv (.tuple #[iN .u64 (n4 s), .bool true]) ?_
  refine zv (iN .u64 (n4 s)) ?_
  refine zv (.bool true) ?_
  refine zv (iN .u64 (n4 s)) ?_
  refine zv (.bool true) ?_
  refine wl_nil (then_at rfl (wp_seq (wp_seq (wl_region ?_))))
  refine zv (.bool true) ?_
  refine zv (.bool false) ?_
  refine zv (.bool false) ?_
  refine zv (iN .u64 (n4 s)) ?_
  refine zv (.pointer (some ⟨q, 0, none⟩)) ?_
  refine wl_call (v := iN .i64 m) h17 ky enter116 #[.pointer (some ⟨q, 0, none⟩)] ky (Len_any (hq.keep h17.old.old)) ?_
  intro w18 h19
  refine zu (iN .u64 m) (run_conv .u64 Tryz.underlying3 Tryz.underlying95 ky (by simp only [top]; omega)) ?_
  refine zu (.bool false) (run_geq (k := .u64) (a := n4 s) (b := m) ky ky false (decide_eq_false (by omega))) ?_
  refine zv (.bool false) ?_
  refine wl_nil (then_at rfl ?_)
  refine wp_cond_false ky ?_
  refine wp_skip (then_at rfl (wp_seq (wl_region ?_)))
  refine zv (iN .u64 (n4 s)) ?_
  refine zu (iN .i64 (n4 s)) (run_conv .i64 Tryz.underlying95 Tryz.underlying3 ky (by simp only [top]; omega)) ?_
  refine zv (iN .i64 (n4 s)) ?_
  refine zv (.bool true) ?_
  refine wl_nil (then_at rfl ?_)
  refine wp_ret ?_
  repeat first | refine then_ret ?_ | refine block_ret ?_
  exact bodyPost_ret (v := .tuple #[iN .i64 (n4 s), .bool true]) ky rfl ⟨by rw [firstT, if_pos ⟨h8, hs, hg⟩]; rfl, h19.old.old⟩
theorem first_any {w : World} {q : Nat} {t : Tb} {n m c : Nat} {p : Option Addr} (hq : Blk w q 145 (tcell t n (.slice p m c))) (hm : m ≤ 65536) (s : ByteArray) :
    Calls Tryz.prog 77 #[pt q, .string s] w fun e w' => e = .returned (onum (firstT m s)) ∧ Below w.heap.size w w' := by
  by_cases h8 : 8 ≤ s.size
  · by_cases hs : s.extract 0 4 = hdS
    · by_cases hg : n4 s < m
      · exact first_d hq hm s h8 hs hg
      · exact first_c hq hm s h8 hs (by omega)
    · exact first_b hq hm s h8 hs
  · exact first_a hq hm s (by omega)
set_option maxRecDepth 100000 in
set_option maxHeartbeats 2000000 in
theorem num_a {w : World} {q : Nat} {t : Tb} {n m c : Nat} {p : Option Addr} (hq : Blk w q 145 (tcell t n (.slice p m c))) (hm : m ≤ 65536) (s : ByteArray) (h8 : s.size = 8) :
    Calls Tryz.prog 382 #[pt q, .string s] w fun e w' => e = .returned (onum (numT m s)) ∧ Below w.heap.size w w' := by
  have H0 := HA.start w
  go_enter Tryz.func382, Tryz.ntmps382
  refine wp_seq (wl_region ?_)
  refine zv (iN .i64 0) ?_
  refine zv (.bool false) ?_
  refine wl_nil (then_at rfl (wp_seq (wp_seq (wl_region ?_))))
  refine zv (.string s) ?_
  refine zu (iN .i64 s.size) (run_len (s := s) ky) ?_
  refine zu (.bool false) (run_nei (k := .i64) (a := s.size) (b := 8) ky ky false (decide_eq_false (by omega))) ?_
  refine wl_nil (then_at rfl ?_)
  refine wp_cond_false ky ?_
  refine wp_skip (then_at rfl (wp_seq (wl_region ?_)))
  refine zv (.pointer (some ⟨q, 0, none⟩)) ?_
  refine zv (.string s) ?_
  refine wl_call (v := onum (firstT m s)) H0 ky enter77 #[.pointer (some ⟨q, 0, none⟩), .string s] ky (first_any (hq.keep H0.old.old) hm s) ?_
  intro w1 h2
  refine zv (iN .i64 ((firstT m s).getD 0)) ?_
  refine zv (.bool (firstT m s).isSome) ?_
  refine zv (iN .i64 ((firstT m s).getD 0)) ?_
  refine zv (.bool (firstT m s).isSome) ?_
  refine wl_nil (then_at rfl ?_)
  refine wp_ret ?_
  repeat first | refine then_ret ?_ | refine block_ret ?_
  exact bodyPost_ret (v := onum (firstT m s)) ky rfl ⟨by rw [numT, if_pos h8], h2.old.old⟩
set_option maxRecDepth 100000 in
set_option maxHeartbeats 2000000 in
theorem num_b {w : World} {q : Nat} {t : Tb} {n m c : Nat} {p : Option Addr} (hq : Blk w q 145 (tcell t n (.slice p m c))) (hm : m ≤ 65536) (s : ByteArray) (h8 : ¬ s.size = 8) :
    Calls Tryz.prog 382 #[pt q, .string s] w fun e w' => e = .returned (onum (numT m s)) ∧ Below w.heap.size w w' := by
  have H0 := HA.start w
  go_enter Tryz.func382, Tryz.ntmps382
  refine wp_seq (wl_region ?_)
  refine zv (iN .i64 0) ?_
  refine zv (.bool false) ?_
  refine wl_nil (then_at rfl (wp_seq (wp_seq (wl_region ?_))))
  refine zv (.string s) ?_
  refine zu (iN .i64 s.size) (run_len (s := s) ky) ?_
  refine zu (.bool true) (run_nei (k := .i64) (a := s.size) (b := 8) ky ky true (decide_eq_true (by omega))) ?_
  refine wl_nil (then_at rfl ?_)
  refine wp_cond_true ky ?_
  refine wp_seq (wl_region ?_)
  refine zv (iN .i64 0) ?_
  refine zv (.bool false) ?_
  refine wl_nil (then_at rfl ?_)
  refine wp_ret ?_
  repeat first | refine then_ret ?_ | refine block_ret ?_
  exact bodyPost_ret (v := .tuple #[iN .i64 0, .bool false]) ky rfl ⟨by rw [numT, if_neg h8]; rfl, H0.old.old⟩
theorem num_any {w : World} {q : Nat} {t : Tb} {n m c : Nat} {p : Option Addr} (hq : Blk w q 145 (tcell t n (.slice p m c))) (hm : m ≤ 65536) (s : ByteArray) :
    Calls Tryz.prog 382 #[pt q, .string s] w fun e w' => e = .returned (onum (numT m s)) ∧ Below w.heap.size w w' := by
  by_cases h8 : s.size = 8
  · exact num_a hq hm s h8
  · exact num_b hq hm s h8
end Go.Proofs.YtoogiblkommdfaaGreat
