/-
  Prims that are none; the real kind, handed a secret of five bytes; X3dhKnown: the law.
-/
import Derived.Test.YtoogiblkommdfaaGreatXM
import Derived.Test.YtoogiblkommdfaaGreatX9
import Derived.Test.YtoogiblkommdfaaGreatShR
set_option linter.unusedVariables false
namespace Go.Proofs.YtoogiblkommdfaaGreat
open Go.RowKit

set_option maxRecDepth 100000 in
set_option maxHeartbeats 2000000 in
theorem pnone_nil {w : World}  :
    Calls Tryz.prog 56 #[.pointer none] w fun e w' => e = .returned (.bool true) ∧ Below w.heap.size w w' := by
  have H0 := HA.start w
  go_enter Tryz.func56, Tryz.ntmps56
  refine wp_seq (wl_region ?_)
  refine zv (.bool false) ?_
  refine wl_nil (then_at rfl (wp_seq (wl_region ?_)))
  refine zv (.pointer none) ?_
  refine zv (.bool true) ?_
  refine zv (.bool true) ?_
  refine wl_skip ky ?_
  refine wl_skip ky ?_
  refine wl_skip ky ?_
  refine wl_skip ky ?_
  refine wl_skip ky ?_
  refine zv (.bool true) ?_
  refine zv (.bool true) ?_
  refine wl_nil (then_at rfl ?_)
  refine wp_ret ?_
  repeat first | refine then_ret ?_ | refine block_ret ?_
  exact bodyPost_ret (v := .bool true) ky rfl ⟨rfl, H0.old.old⟩
set_option maxRecDepth 100000 in
set_option maxHeartbeats 2000000 in
theorem Kit_nil {w : World}  :
    Calls Tryz.prog 66 #[.pointer none] w fun e w' => e = .returned (.int .i64 (-1)) ∧ Below w.heap.size w w' := by
  have H0 := HA.start w
  go_enter Tryz.func66, Tryz.ntmps66
  refine wp_seq (wl_region ?_)
  refine zv (iN .i64 0) ?_
  refine wl_nil (then_at rfl (wp_seq (wp_seq (wl_region ?_))))
  refine zv (.pointer none) ?_
  refine wl_call (v := .bool true) H0 ky enter56 #[.pointer none] ky (pnone_nil) ?_
  intro w1 h2
  refine wl_nil (then_at rfl ?_)
  refine wp_cond_true ky ?_
  refine wp_seq (wl_region ?_)
  refine zv (.int .i64 (-1)) ?_
  refine wl_nil (then_at rfl ?_)
  refine wp_ret ?_
  repeat first | refine then_ret ?_ | refine block_ret ?_
  exact bodyPost_ret (v := .int .i64 (-1)) ky rfl ⟨rfl, h2.old.old⟩
set_option maxRecDepth 100000 in
set_option maxHeartbeats 2000000 in
theorem Public_nil {w : World} (s : ByteArray) :
    Calls Tryz.prog 33 #[.pointer none, .string s] w fun e w' => e = .returned (.tuple #[.string { data := #[] }, iN .i64 1]) ∧ Below w.heap.size w w' := by
  have H0 := HA.start w
  go_enter Tryz.func33, Tryz.ntmps33
  refine wp_seq (wl_region ?_)
  refine zv (.string ({ data := #[] })) ?_
  refine zv (iN .i64 0) ?_
  refine wl_nil (then_at rfl (wp_seq (wp_seq (wl_region ?_))))
  refine zv (.pointer none) ?_
  refine wl_call (v := .bool true) H0 ky enter56 #[.pointer none] ky (pnone_nil) ?_
  intro w1 h2
  refine wl_nil (then_at rfl ?_)
  refine wp_cond_true ky ?_
  refine wp_seq (wl_region ?_)
  refine zv (.string ({ data := #[] })) ?_
  refine zv (iN .i64 1) ?_
  refine wl_nil (then_at rfl ?_)
  refine wp_ret ?_
  repeat first | refine then_ret ?_ | refine block_ret ?_
  exact bodyPost_ret (v := .tuple #[.string { data := #[] }, iN .i64 1]) ky rfl ⟨rfl, h2.old.old⟩
set_option maxRecDepth 100000 in
set_option maxHeartbeats 2000000 in
theorem chk_nil {w : World} (x : Bu) :
    Calls Tryz.prog 26 #[.pointer none, .agg (buC x)] w fun e w' => e = .returned (iN .i64 1) ∧ Below w.heap.size w w' := by
  have H0 := HA.start w
  go_enter Tryz.func26, Tryz.ntmps26
  refine wp_seq (wl_region ?_)
  refine wl_make (c := buC x) H0 23 ky ky ?_
  intro q1 w2 (h3 : HA (bs w) [(q1, 23, buC x)] w2)
  refine zv (iN .i64 0) ?_
  refine wl_nil (then_at rfl (wp_seq (wp_block (wp_seq (wl_region ?_)))))
  refine zv (.pointer none) ?_
  refine wl_call (v := .int .i64 (-1)) h3 ky enter66 #[.pointer none] ky (Kit_nil) ?_
  intro w4 h5
  refine zv (.bool true) ?_
  refine zv (.bool true) ?_
  refine wl_nil (then_at rfl ?_)
  refine wp_cond_true ky ?_
  refine wp_seq (wl_region ?_)
  refine zv (iN .i64 1) ?_
  refine wl_nil (then_at rfl ?_)
  refine wp_ret ?_
  repeat first | refine then_ret ?_ | refine block_ret ?_
  exact bodyPost_ret (v := iN .i64 1) ky rfl ⟨rfl, h5.old.old⟩
set_option maxRecDepth 100000 in
set_option maxHeartbeats 2000000 in
theorem beg_nil {w : World} (self : ByteArray) (x : Bu) (draw : ByteArray) :
    Calls Tryz.prog 27 #[.pointer none, .string self, .agg (buC x), .string draw] w fun e w' => e = .returned (.tuple #[.string { data := #[] }, .string { data := #[] }, iN .i64 1]) ∧ Below w.heap.size w w' := by
  have H0 := HA.start w
  go_enter Tryz.func27, Tryz.ntmps27
  refine wp_seq (wl_region ?_)
  refine wl_make (c := buC x) H0 23 ky ky ?_
  intro q1 w2 (h3 : HA (bs w) [(q1, 23, buC x)] w2)
  refine zv (.string ({ data := #[] })) ?_
  refine zv (.string ({ data := #[] })) ?_
  refine zv (iN .i64 0) ?_
  refine wl_nil (then_at rfl (wp_seq (wp_seq (wl_region ?_))))
  refine zv (.pointer none) ?_
  refine wl_load h3 0 rfl ky ky Tryz.underlying23 rfl ky ?_
  refine wl_call (v := iN .i64 1) h3 ky enter26 #[.pointer none, .agg (buC x)] ky (chk_nil x) ?_
  intro w4 h5
  refine zv (iN .i64 1) ?_
  refine wl_nil (then_at rfl (wp_seq (wl_region ?_)))
  refine zv (iN .i64 1) ?_
  refine zv (.bool true) ?_
  refine wl_nil (then_at rfl ?_)
  refine wp_cond_true ky ?_
  refine wp_seq (wl_region ?_)
  refine zv (iN .i64 1) ?_
  refine zv (.string ({ data := #[] })) ?_
  refine zv (.string ({ data := #[] })) ?_
  refine zv (iN .i64 1) ?_
  refine wl_nil (then_at rfl ?_)
  refine wp_ret ?_
  repeat first | refine then_ret ?_ | refine block_ret ?_
  exact bodyPost_ret (v := .tuple #[.string { data := #[] }, .string { data := #[] }, iN .i64 1]) ky rfl ⟨rfl, h5.old.old⟩
set_option maxRecDepth 100000 in
set_option maxHeartbeats 2000000 in
theorem acc_nil {w : World} (self pre once peer pub : ByteArray) :
    Calls Tryz.prog 30 #[.pointer none, .string self, .string pre, .string once, .string peer, .string pub] w fun e w' => e = .returned (.tuple #[.string { data := #[] }, iN .i64 1]) ∧ Below w.heap.size w w' := by
  have H0 := HA.start w
  go_enter Tryz.func30, Tryz.ntmps30
  refine wp_seq (wl_region ?_)
  refine zv (.string ({ data := #[] })) ?_
  refine zv (iN .i64 0) ?_
  refine wl_nil (then_at rfl (wp_seq (wl_region ?_)))
  refine zv (.pointer none) ?_
  refine zv (.string self) ?_
  refine wl_call (v := .tuple #[.string ({ data := #[] }), iN .i64 1]) H0 ky enter33 #[.pointer none, .string self] ky (Public_nil self) ?_
  intro w1 h2
  refine zv (.tuple #[.string ({ data := #[] }), iN .i64 1]) ?_
  refine zv (.string ({ data := #[] })) ?_
  refine zv (iN .i64 1) ?_
  refine zv (.string ({ data := #[] })) ?_
  refine zv (iN .i64 1) ?_
  refine wl_nil (then_at rfl (wp_seq (wp_seq (wl_region ?_))))
  refine zv (iN .i64 1) ?_
  refine zv (.bool true) ?_
  refine wl_nil (then_at rfl ?_)
  refine wp_cond_true ky ?_
  refine wp_seq (wl_region ?_)
  refine zv (iN .i64 1) ?_
  refine zv (.string ({ data := #[] })) ?_
  refine zv (iN .i64 1) ?_
  refine wl_nil (then_at rfl ?_)
  refine wp_ret ?_
  repeat first | refine then_ret ?_ | refine block_ret ?_
  exact bodyPost_ret (v := .tuple #[.string { data := #[] }, iN .i64 1]) ky rfl ⟨rfl, h2.old.old⟩
def z31 : ByteArray := ⟨(Lib.repeatL ({ data := #[0] } : ByteArray).data.toList 31).toArray⟩
theorem z31_size : z31.size = 31 := by kernel_rfl
def nineT : ByteArray := { data := #[9] } ++ z31
theorem Repeat_31 (w : World) : Calls Tryz.prog 247 #[.string { data := #[0] }, iN .i64 31] w fun e w' => e = .returned (.string z31) ∧ Below w.heap.size w w' := Tryz.strings_Repeat { data := #[0] } 31 w (by decide) (by decide)
set_option maxRecDepth 100000 in
set_option maxHeartbeats 2000000 in
theorem none_r {w : World} {q : Nat} (hk : w.cell? ⟨q, 0, none⟩ = some (.iface 108 (.agg #[])))  :
    Calls Tryz.prog 56 #[pt q] w fun e w' => e = .returned (.bool false) ∧ Below w.heap.size w w' := by
  have H0 := HA.start w
  go_enter Tryz.func56, Tryz.ntmps56
  refine wp_seq (wl_region ?_)
  refine zv (.bool false) ?_
  refine wl_nil (then_at rfl (wp_seq (wl_region ?_)))
  refine zv (.pointer (some ⟨q, 0, none⟩)) ?_
  refine zv (.bool false) ?_
  refine zv (.bool false) ?_
  refine zv (.pointer (some ⟨q, 0, none⟩)) ?_
  refine zv (.pointer (some ⟨q, 0, none⟩)) ?_
  refine zv (.pointer (some ⟨q, 0, none⟩)) ?_
  refine zu (.iface 108 (.agg #[])) (run_load1 (fun w => Tryz.isAgg110 w) ky (got H0.old.old hk)) ?_
  refine zv (.bool false) ?_
  refine zv (.bool false) ?_
  refine zv (.bool false) ?_
  refine wl_nil (then_at rfl ?_)
  refine wp_ret ?_
  repeat first | refine then_ret ?_ | refine block_ret ?_
  exact bodyPost_ret (v := .bool false) ky rfl ⟨rfl, H0.old.old⟩
set_option maxRecDepth 100000 in
set_option maxHeartbeats 2000000 in
theorem X25519_n {w : World} (s u : ByteArray) (hs : ¬ s.size = 32) :
    Calls Tryz.prog 252 #[.string s, .string u] w fun e w' => e = .returned (.string { data := #[] }) ∧ Below w.heap.size w w' := by
  have H0 := HA.start w
  go_enter Tryz.func252, Tryz.ntmps252
  refine wp_seq (wl_region ?_)
  refine zv (.string ({ data := #[] })) ?_
  refine wl_nil (then_at rfl (wp_seq (wp_seq (wl_region ?_))))
  refine zv (.string s) ?_
  refine zu (iN .i64 s.size) (run_len (s := s) ky) ?_
  refine zu (.bool true) (run_nei (k := .i64) (a := s.size) (b := 32) ky ky true (by simpa using hs)) ?_
  refine zv (.bool true) ?_
  refine wl_skip ky ?_
  refine wl_skip ky ?_
  refine wl_skip ky ?_
  refine zv (.bool true) ?_
  refine wl_nil (then_at rfl ?_)
  refine wp_cond_true ky ?_
  refine wp_seq (wl_region ?_)
  refine zv (.string ({ data := #[] })) ?_
  refine wl_nil (then_at rfl ?_)
  refine wp_ret ?_
  repeat first | refine then_ret ?_ | refine block_ret ?_
  exact bodyPost_ret (v := .string { data := #[] }) ky rfl ⟨rfl, H0.old.old⟩
set_option maxRecDepth 100000 in
set_option maxHeartbeats 2000000 in
theorem times_n {w : World} (s u : ByteArray) (hs : ¬ s.size = 32) :
    Calls Tryz.prog 245 #[.string s, .string u] w fun e w' => e = .returned (.tuple #[.string { data := #[] }, iN .i64 8]) ∧ Below w.heap.size w w' := by
  have H0 := HA.start w
  go_enter Tryz.func245, Tryz.ntmps245
  refine wp_seq (wl_region ?_)
  refine zv (.string ({ data := #[] })) ?_
  refine zv (iN .i64 0) ?_
  refine wl_nil (then_at rfl (wp_seq (wl_region ?_)))
  refine zv (.string s) ?_
  refine zv (.string u) ?_
  refine wl_call (v := .string ({ data := #[] })) H0 ky enter252 #[.string s, .string u] ky (X25519_n s u hs) ?_
  intro w1 h2
  refine zv (.string ({ data := #[] })) ?_
  refine wl_nil (then_at rfl (wp_seq (wp_seq (wl_region ?_))))
  refine zv (.string ({ data := #[] })) ?_
  refine zv (.bool true) ?_
  refine wl_nil (then_at rfl ?_)
  refine wp_cond_true ky ?_
  refine wp_seq (wl_region ?_)
  refine zv (.string ({ data := #[] })) ?_
  refine zv (iN .i64 8) ?_
  refine wl_nil (then_at rfl ?_)
  refine wp_ret ?_
  repeat first | refine then_ret ?_ | refine block_ret ?_
  exact bodyPost_ret (v := .tuple #[.string { data := #[] }, iN .i64 8]) ky rfl ⟨rfl, h2.old.old⟩
set_option maxRecDepth 100000 in
set_option maxHeartbeats 2000000 in
theorem rpublic_n {w : World} (s : ByteArray) (hs : ¬ s.size = 32) :
    Calls Tryz.prog 237 #[.agg #[], .string s] w fun e w' => e = .returned (.tuple #[.string { data := #[] }, iN .i64 8]) ∧ Below w.heap.size w w' := by
  have H0 := HA.start w
  go_enter Tryz.func237, Tryz.ntmps237
  refine wp_seq (wl_region ?_)
  refine wl_make (c := #[]) H0 108 ky ky ?_
  intro q1 w2 (h3 : HA (bs w) [(q1, 108, #[])] w2)
  refine zv (.string ({ data := #[] })) ?_
  refine zv (iN .i64 0) ?_
  refine wl_nil (then_at rfl (wp_seq (wl_region ?_)))
  refine zv (.string s) ?_
  refine wl_call (v := .string z31) h3 ky enter247 #[.string ({ data := #[0] }), iN .i64 31] ky (Repeat_31 w2) ?_
  intro w4 h5
  refine zu (.string nineT) (run_cat (s := { data := #[9] }) (t := z31) ky ky (by rw [z31_size]; decide)) ?_
  refine wl_call (v := .tuple #[.string ({ data := #[] }), iN .i64 8]) h5 ky enter245 #[.string s, .string nineT] ky (times_n s nineT hs) ?_
  intro w6 h7
  refine zv (.string ({ data := #[] })) ?_
  refine zv (iN .i64 8) ?_
  refine zv (.string ({ data := #[] })) ?_
  refine zv (iN .i64 8) ?_
  refine wl_nil (then_at rfl ?_)
  refine wp_ret ?_
  repeat first | refine then_ret ?_ | refine block_ret ?_
  exact bodyPost_ret (v := .tuple #[.string { data := #[] }, iN .i64 8]) ky rfl ⟨rfl, h7.old.old⟩
set_option maxRecDepth 100000 in
set_option maxHeartbeats 2000000 in
theorem Public_r {w : World} {q : Nat} (hk : w.cell? ⟨q, 0, none⟩ = some (.iface 108 (.agg #[]))) (s : ByteArray) (hs : ¬ s.size = 32) :
    Calls Tryz.prog 33 #[pt q, .string s] w fun e w' => e = .returned (.tuple #[.string { data := #[] }, iN .i64 8]) ∧ Below w.heap.size w w' := by
  have H0 := HA.start w
  go_enter Tryz.func33, Tryz.ntmps33
  refine wp_seq (wl_region ?_)
  refine zv (.string ({ data := #[] })) ?_
  refine zv (iN .i64 0) ?_
  refine wl_nil (then_at rfl (wp_seq (wp_seq (wl_region ?_))))
  refine zv (.pointer (some ⟨q, 0, none⟩)) ?_
  refine wl_call (v := .bool false) H0 ky enter56 #[.pointer (some ⟨q, 0, none⟩)] ky (none_r (got H0.old.old hk)) ?_
  intro w1 h2
  refine wl_nil (then_at rfl ?_)
  refine wp_cond_false ky ?_
  refine wp_skip (then_at rfl (wp_seq (wl_region ?_)))
  refine zv (.pointer (some ⟨q, 0, none⟩)) ?_
  refine zv (.pointer (some ⟨q, 0, none⟩)) ?_
  refine zv (.pointer (some ⟨q, 0, none⟩)) ?_
  refine zu (.iface 108 (.agg #[])) (run_load1 (fun w => Tryz.isAgg110 w) ky (got h2.old.old hk)) ?_
  refine zv (.string s) ?_
  refine wl_invoke (f := 237) (T := 108) (rv := .agg #[]) (args := #[.string s]) ky (fun _ => by kernel_rfl) ky ky (rpublic_n s hs) ?_
  rintro _ w4 ⟨rfl, hb3⟩
  refine ⟨_, rfl, ?_⟩
  have h5 := HA.keep _ _ h2 hb3
  refine zv (.string ({ data := #[] })) ?_
  refine zv (iN .i64 8) ?_
  refine zv (.string ({ data := #[] })) ?_
  refine zv (iN .i64 8) ?_
  refine wl_nil (then_at rfl ?_)
  refine wp_ret ?_
  repeat first | refine then_ret ?_ | refine block_ret ?_
  exact bodyPost_ret (v := .tuple #[.string { data := #[] }, iN .i64 8]) ky rfl ⟨rfl, h5.old.old⟩
set_option maxRecDepth 100000 in
set_option maxHeartbeats 2000000 in
theorem acc_r {w : World} {q : Nat} (hk : w.cell? ⟨q, 0, none⟩ = some (.iface 108 (.agg #[]))) (self pre once peer pub : ByteArray) (hs : ¬ self.size = 32) :
    Calls Tryz.prog 30 #[pt q, .string self, .string pre, .string once, .string peer, .string pub] w fun e w' => e = .returned (.tuple #[.string { data := #[] }, iN .i64 8]) ∧ Below w.heap.size w w' := by
  have H0 := HA.start w
  go_enter Tryz.func30, Tryz.ntmps30
  refine wp_seq (wl_region ?_)
  refine zv (.string ({ data := #[] })) ?_
  refine zv (iN .i64 0) ?_
  refine wl_nil (then_at rfl (wp_seq (wl_region ?_)))
  refine zv (.pointer (some ⟨q, 0, none⟩)) ?_
  refine zv (.string self) ?_
  refine wl_call (v := .tuple #[.string ({ data := #[] }), iN .i64 8]) H0 ky enter33 #[.pointer (some ⟨q, 0, none⟩), .string self] ky (Public_r (got H0.old.old hk) self hs) ?_
  intro w1 h2
  refine zv (.tuple #[.string ({ data := #[] }), iN .i64 8]) ?_
  refine zv (.string ({ data := #[] })) ?_
  refine zv (iN .i64 8) ?_
  refine zv (.string ({ data := #[] })) ?_
  refine zv (iN .i64 8) ?_
  refine wl_nil (then_at rfl (wp_seq (wp_seq (wl_region ?_))))
  refine zv (iN .i64 8) ?_
  refine zv (.bool true) ?_
  refine wl_nil (then_at rfl ?_)
  refine wp_cond_true ky ?_
  refine wp_seq (wl_region ?_)
  refine zv (iN .i64 8) ?_
  refine zv (.string ({ data := #[] })) ?_
  refine zv (iN .i64 8) ?_
  refine wl_nil (then_at rfl ?_)
  refine wp_ret ?_
  repeat first | refine then_ret ?_ | refine block_ret ?_
  exact bodyPost_ret (v := .tuple #[.string { data := #[] }, iN .i64 8]) ky rfl ⟨rfl, h2.old.old⟩
set_option maxRecDepth 100000 in
set_option maxHeartbeats 2000000 in
theorem New_r {z : Base} {L : BL} {w : World} (H0 : HA z L w) :
    Calls Tryz.prog 15 #[iN .i64 0] w fun e w' => ∃ q, e = .returned (.tuple #[pt q, iN .i64 0]) ∧ HA z ((q, 112, #[.iface 108 (.agg #[]), .slice none 0 0]) :: L) w' := by
  go_enter Tryz.func15, Tryz.ntmps15
  refine wp_seq (wl_region ?_)
  refine zv (.pointer none) ?_
  refine zv (iN .i64 0) ?_
  refine wl_nil (then_at rfl (wp_seq (wp_seq (wl_region ?_))))
  refine zv (iN .i64 0) ?_
  refine wl_nil (then_at rfl (wp_block (wp_seq (wl_region ?_))))
  refine zu (.bool true) (run_eqi (k := .i64) (a := 0) (b := 0) ky ky true (by decide)) ?_
  refine zv (.bool true) ?_
  refine wl_nil (then_at rfl ?_)
  refine wp_cond_true ky ?_
  refine wp_seq (wl_region ?_)
  refine zv (.agg #[]) ?_
  refine zv (.iface 108 (.agg #[])) ?_
  refine zv (.agg #[.iface 108 (.agg #[]), .slice none 0 0]) ?_
  refine wl_make (c := #[.iface 108 (.agg #[]), .slice none 0 0]) H0 112 ky ky ?_
  intro q1 w2 (h3 : HA z ((q1, 112, #[.iface 108 (.agg #[]), .slice none 0 0]) :: L) w2)
  refine zv (.pointer (some ⟨q1, 0, none⟩)) ?_
  refine zv (iN .i64 0) ?_
  refine wl_nil (then_at rfl ?_)
  refine wp_ret ?_
  repeat first | refine then_ret ?_ | refine block_ret ?_
  exact bodyPost_ret (v := .tuple #[pt q1, iN .i64 0]) ky rfl ⟨q1, rfl, h3⟩
def encX : ByteArray := encB (mkB 1 1 ((txt 6)) ((txt 4)) 3 ((txt 5)) ((txt 8)) 9 ((txt 10))) ++ { data := #[120] }
def TK : List Ent := [.nm 0,
  .nm 1,
  .nm 2,
  .nm 3,
  .mk 3 0 { data := #[] } [1] 0,
  .mk 3 0 { data := #[] } [2] 0,
  .mk 3 0 { data := #[] } [3] 0,
  .dt { data := #[112, 114, 101, 0, 0, 0, 3, 0, 0, 0, 8, 240, 84, 82, 77, 0, 0, 0, 5] },
  .mk 7 0 { data := #[] } [3, 7] 0,
  .nm 4,
  .mk 3 0 { data := #[] } [9] 0]
def tK (k : Nat) : List Ent := TK.take k
theorem tK_lt (k : Nat) : (tK k).length < 50000 := Nat.lt_of_le_of_lt (List.length_take_le' _ _) (by decide)
theorem Kq0 : frA (tK 0) = (tK 1) := by kernel_rfl
theorem Kq1 : (tK 0).length = 0 := by kernel_rfl
theorem Kq2 : frA (tK 1) = (tK 2) := by kernel_rfl
theorem Kq3 : (tK 1).length = 1 := by kernel_rfl
theorem Kq4 : frA (tK 2) = (tK 3) := by kernel_rfl
theorem Kq5 : (tK 2).length = 2 := by kernel_rfl
theorem Kq6 : frA (tK 3) = (tK 4) := by kernel_rfl
theorem Kq7 : (tK 3).length = 3 := by kernel_rfl
theorem Kq8 : mkA (tK 4) 3 { data := #[] } [txt 1] = ((tK 5), 4) := by kernel_rfl
theorem Kq9 : mkA (tK 5) 3 { data := #[] } [txt 2] = ((tK 6), 5) := by kernel_rfl
theorem Kq10 : mkA (tK 6) 3 { data := #[] } [txt 3] = ((tK 7), 6) := by kernel_rfl
theorem Kq11 : mkA (tK 7) 3 { data := #[] } [txt 3] = ((tK 7), 6) := by kernel_rfl
theorem Kq12 : mkA (tK 7) 7 { data := #[] } [txt 3, sg3 (txt 5)] = ((tK 9), 8) := by kernel_rfl
theorem Kq13 : frA (tK 9) = (tK 10) := by kernel_rfl
theorem Kq14 : (tK 9).length = 9 := by kernel_rfl
theorem Kq15 : mkA (tK 10) 3 { data := #[] } [txt 9] = ((tK 11), 10) := by kernel_rfl
theorem Kq16 : mayX (mkB 1 1 ((txt 6)) ((txt 4)) 3 ((txt 5)) ((txt 8)) 9 ((txt 10))) = true := by kernel_rfl
theorem Kq17 : mayX (mkB 1 1 ((txt 6)) ((txt 4)) 4 ((txt 5)) ((txt 8)) 9 ((txt 10))) = true := by kernel_rfl
theorem Kq18 : mayX (mkB 1 1 ((txt 6)) ({ data := #[] }) 3 ((txt 5)) ((txt 8)) 9 ((txt 10))) = false := by kernel_rfl
theorem Kq19 : mayX (mkB 1 1 ((txt 6)) ((txt 4)) 3 ((txt 5)) ((txt 8)) 0 ((txt 10))) = false := by kernel_rfl
theorem Kq20 : vrfA (tK 11) (txt 6) (sgT (mkB 1 1 ((txt 6)) ((txt 4)) 4 ((txt 5)) ((txt 8)) 9 ((txt 10)))) (txt 8) = false := by kernel_rfl
theorem Kq21 : decA encX = (bu0, 4) := by kernel_rfl
theorem Kq22 : decA { data := #[] } = (bu0, 4) := by kernel_rfl
theorem made_K {w0 w : World} {M : ML} {p : Pr} {n : Nat} {L : BL} (H : PH w0 M p (tK 1) n L w) (hj : n < 1000) :
    Calls Tryz.prog 34 #[pt p.q, .agg #[.string { data := #[] }, .string { data := #[] }, .string { data := #[] }, .string { data := #[] }], .bool true] w fun e w' => e = .returned (.tuple #[.agg (dvC ((txt 1)) ((txt 2)) ((txt 9)) ((txt 4)) (mkB 1 1 ((txt 6)) ((txt 4)) 3 ((txt 5)) ((txt 8)) 9 ((txt 10)))), .bool true]) ∧ PH w0 M p (tK 11) (n + 1) L w' :=
  made_t H Kq2 Kq3 Kq4 Kq5 Kq6 Kq7 Kq8 Kq9 Kq10 Kq11 Kq12 (tK_lt 1) (tK_lt 2) (tK_lt 3) (tK_lt 4) (tK_lt 5) (tK_lt 6) (tK_lt 7) hj Kq13 Kq14 Kq15 (tK_lt 9) (tK_lt 10)
theorem encA_y {x : Bu} (hx : mayX x = true) : encA x = (encB x, 0) := by unfold encA; rw [hx]; rfl
set_option maxRecDepth 100000 in
set_option maxHeartbeats 8000000 in
theorem knownX (w : World) :
    Calls Tryz.prog 9 #[] w fun e w' => e = .returned (.bool true) ∧ Below w.heap.size w w' := by
  have H0 : HA ⟨w, []⟩ [] w := HA.start w
  go_enter Tryz.func9, Tryz.ntmps9
  refine wp_seq (wl_region ?_)
  refine zv (.bool false) ?_
  refine wl_nil (then_at rfl (wp_seq (wl_region ?_)))
  refine wl_callx ky enter15 #[iN .i64 1] ky (New_P H0) ?_
  rintro _ w3 ⟨p1, rfl, hD2⟩
  refine ⟨_, rfl, ?_⟩
  obtain ⟨z4, X5, hcl6, hbe7, h8⟩ := PH.front hD2
  have h9 : HA z4 X5 w3 := h8
  refine zv (.tuple #[.pointer (some ⟨p1.q, 0, none⟩), iN .i64 0]) ?_
  refine zv (.pointer (some ⟨p1.q, 0, none⟩)) ?_
  refine zv (iN .i64 0) ?_
  refine zv (.pointer (some ⟨p1.q, 0, none⟩)) ?_
  refine zv (iN .i64 0) ?_
  refine wl_nil (then_at rfl (wp_seq (wl_region ?_)))
  refine zv (.pointer (some ⟨p1.q, 0, none⟩)) ?_
  refine wl_callx ky enter18 #[.pointer (some ⟨p1.q, 0, none⟩), .string ({ data := #[] })] ky (Secret_E (hcl6 ([]) _ h9) { data := #[] } (Nat.lt_of_lt_of_le (tK_lt 0) (by decide)) Kq0 Kq1) ?_
  rintro _ w11 ⟨rfl, hD10⟩
  refine ⟨_, rfl, ?_⟩
  obtain ⟨z12, X13, hcl14, hbe15, h16⟩ := PH.front hD10
  have h17 : HA z12 X13 w11 := h16
  refine zv (.string ((txt 0))) ?_
  refine wl_nil (then_at rfl (wp_seq (wl_region ?_)))
  refine zv (.pointer (some ⟨p1.q, 0, none⟩)) ?_
  refine zv (.agg #[.string ({ data := #[] }), .string ({ data := #[] }), .string ({ data := #[] }), .string ({ data := #[] })]) ?_
  refine wl_callx ky enter34 #[.pointer (some ⟨p1.q, 0, none⟩), .agg #[.string ({ data := #[] }), .string ({ data := #[] }), .string ({ data := #[] }), .string ({ data := #[] })], .bool true] ky (made_K (hcl14 ([]) _ h17) (by decide)) ?_
  rintro _ w19 ⟨rfl, hD18⟩
  refine ⟨_, rfl, ?_⟩
  obtain ⟨z20, X21, hcl22, hbe23, h24⟩ := PH.front hD18
  have h25 : HA z20 X21 w19 := h24
  refine zv (.tuple #[.agg (dvC ((txt 1)) ((txt 2)) ((txt 9)) ((txt 4)) (mkB 1 1 ((txt 6)) ((txt 4)) 3 ((txt 5)) ((txt 8)) 9 ((txt 10)))), .bool true]) ?_
  refine zv (.agg (dvC ((txt 1)) ((txt 2)) ((txt 9)) ((txt 4)) (mkB 1 1 ((txt 6)) ((txt 4)) 3 ((txt 5)) ((txt 8)) 9 ((txt 10))))) ?_
  refine zv (.bool true) ?_
  refine wl_make (c := dvC ({ data := #[] }) ({ data := #[] }) ({ data := #[] }) ({ data := #[] }) (mkB 0 0 ({ data := #[] }) ({ data := #[] }) 0 ({ data := #[] }) ({ data := #[] }) 0 ({ data := #[] }))) h25 77 ky ky ?_
  intro q26 w27 (h28 : HA z20 ((q26, 77, dvC ({ data := #[] }) ({ data := #[] }) ({ data := #[] }) ({ data := #[] }) (mkB 0 0 ({ data := #[] }) ({ data := #[] }) 0 ({ data := #[] }) ({ data := #[] }) 0 ({ data := #[] }))) :: X21) w27)
  refine wl_fill (c' := dvC ((txt 1)) ((txt 2)) ((txt 9)) ((txt 4)) (mkB 1 1 ((txt 6)) ((txt 4)) 3 ((txt 5)) ((txt 8)) 9 ((txt 10)))) h28 0 rfl ky ky ky rfl ky ky ?_
  intro w29 (h30 : HA z20 ((q26, 77, dvC ((txt 1)) ((txt 2)) ((txt 9)) ((txt 4)) (mkB 1 1 ((txt 6)) ((txt 4)) 3 ((txt 5)) ((txt 8)) 9 ((txt 10)))) :: X21) w29)
  refine zv (.bool true) ?_
  refine wl_nil (then_at rfl (wp_seq (wl_region ?_)))
  refine zv (.pointer (some ⟨q26, 4, none⟩)) ?_
  refine zu (.agg (buC (mkB 1 1 ((txt 6)) ((txt 4)) 3 ((txt 5)) ((txt 8)) 9 ((txt 10))))) (run_load_part (q := q26) (off := 4) (d := buC (mkB 1 1 ((txt 6)) ((txt 4)) 3 ((txt 5)) ((txt 8)) 9 ((txt 10)))) ky (h30.get 0 rfl) Tryz.underlying23 rfl ky (by intro j hj; match j, hj with | 0, _ => rfl | 1, _ => rfl | 2, _ => rfl | 3, _ => rfl | 4, _ => rfl | 5, _ => rfl | 6, _ => rfl | 7, _ => rfl | 8, _ => rfl)) ?_
  refine wl_make (c := #[iN .i64 0, iN .i64 0, .string ({ data := #[] }), .string ({ data := #[] }), iN .i64 0, .string ({ data := #[] }), .string ({ data := #[] }), iN .i64 0, .string ({ data := #[] })]) h30 23 ky ky ?_
  intro q31 w32 (h33 : HA z20 ((q31, 23, #[iN .i64 0, iN .i64 0, .string ({ data := #[] }), .string ({ data := #[] }), iN .i64 0, .string ({ data := #[] }), .string ({ data := #[] }), iN .i64 0, .string ({ data := #[] })]) :: (q26, 77, dvC ((txt 1)) ((txt 2)) ((txt 9)) ((txt 4)) (mkB 1 1 ((txt 6)) ((txt 4)) 3 ((txt 5)) ((txt 8)) 9 ((txt 10)))) :: X21) w32)
  refine wl_fill (c' := buC (mkB 1 1 ((txt 6)) ((txt 4)) 3 ((txt 5)) ((txt 8)) 9 ((txt 10)))) h33 0 rfl ky ky ky rfl ky ky ?_
  intro w34 (h35 : HA z20 ((q31, 23, buC (mkB 1 1 ((txt 6)) ((txt 4)) 3 ((txt 5)) ((txt 8)) 9 ((txt 10)))) :: (q26, 77, dvC ((txt 1)) ((txt 2)) ((txt 9)) ((txt 4)) (mkB 1 1 ((txt 6)) ((txt 4)) 3 ((txt 5)) ((txt 8)) 9 ((txt 10)))) :: X21) w34)
  refine wl_nil (then_at rfl (wp_seq (wl_region ?_)))
  refine zv (.pointer (some ⟨q31, 4, none⟩)) ?_
  refine wl_putv (v := iN .i64 4) h35 0 rfl 4 (by show 4 < 9; decide) ky (fun w => Tryz.sizeOf3 w) ky ky ky ?_
  intro w36 (h37 : HA z20 ((q31, 23, buC (mkB 1 1 ((txt 6)) ((txt 4)) 4 ((txt 5)) ((txt 8)) 9 ((txt 10)))) :: (q26, 77, dvC ((txt 1)) ((txt 2)) ((txt 9)) ((txt 4)) (mkB 1 1 ((txt 6)) ((txt 4)) 3 ((txt 5)) ((txt 8)) 9 ((txt 10)))) :: X21) w36)
  refine wl_nil (then_at rfl (wp_seq (wl_region ?_)))
  refine zv (.pointer (some ⟨q26, 4, none⟩)) ?_
  refine zu (.agg (buC (mkB 1 1 ((txt 6)) ((txt 4)) 3 ((txt 5)) ((txt 8)) 9 ((txt 10))))) (run_load_part (q := q26) (off := 4) (d := buC (mkB 1 1 ((txt 6)) ((txt 4)) 3 ((txt 5)) ((txt 8)) 9 ((txt 10)))) ky (h37.get 1 rfl) Tryz.underlying23 rfl ky (by intro j hj; match j, hj with | 0, _ => rfl | 1, _ => rfl | 2, _ => rfl | 3, _ => rfl | 4, _ => rfl | 5, _ => rfl | 6, _ => rfl | 7, _ => rfl | 8, _ => rfl)) ?_
  refine wl_make (c := #[iN .i64 0, iN .i64 0, .string ({ data := #[] }), .string ({ data := #[] }), iN .i64 0, .string ({ data := #[] }), .string ({ data := #[] }), iN .i64 0, .string ({ data := #[] })]) h37 23 ky ky ?_
  intro q38 w39 (h40 : HA z20 ((q38, 23, #[iN .i64 0, iN .i64 0, .string ({ data := #[] }), .string ({ data := #[] }), iN .i64 0, .string ({ data := #[] }), .string ({ data := #[] }), iN .i64 0, .string ({ data := #[] })]) :: (q31, 23, buC (mkB 1 1 ((txt 6)) ((txt 4)) 4 ((txt 5)) ((txt 8)) 9 ((txt 10)))) :: (q26, 77, dvC ((txt 1)) ((txt 2)) ((txt 9)) ((txt 4)) (mkB 1 1 ((txt 6)) ((txt 4)) 3 ((txt 5)) ((txt 8)) 9 ((txt 10)))) :: X21) w39)
  refine wl_fill (c' := buC (mkB 1 1 ((txt 6)) ((txt 4)) 3 ((txt 5)) ((txt 8)) 9 ((txt 10)))) h40 0 rfl ky ky ky rfl ky ky ?_
  intro w41 (h42 : HA z20 ((q38, 23, buC (mkB 1 1 ((txt 6)) ((txt 4)) 3 ((txt 5)) ((txt 8)) 9 ((txt 10)))) :: (q31, 23, buC (mkB 1 1 ((txt 6)) ((txt 4)) 4 ((txt 5)) ((txt 8)) 9 ((txt 10)))) :: (q26, 77, dvC ((txt 1)) ((txt 2)) ((txt 9)) ((txt 4)) (mkB 1 1 ((txt 6)) ((txt 4)) 3 ((txt 5)) ((txt 8)) 9 ((txt 10)))) :: X21) w41)
  refine wl_nil (then_at rfl (wp_seq (wl_region ?_)))
  refine zv (.pointer (some ⟨q38, 3, none⟩)) ?_
  refine wl_putv (v := .string ({ data := #[] })) h42 0 rfl 3 (by show 3 < 9; decide) ky (fun w => Tryz.sizeOf9 w) ky ky ky ?_
  intro w43 (h44 : HA z20 ((q38, 23, buC (mkB 1 1 ((txt 6)) ({ data := #[] }) 3 ((txt 5)) ((txt 8)) 9 ((txt 10)))) :: (q31, 23, buC (mkB 1 1 ((txt 6)) ((txt 4)) 4 ((txt 5)) ((txt 8)) 9 ((txt 10)))) :: (q26, 77, dvC ((txt 1)) ((txt 2)) ((txt 9)) ((txt 4)) (mkB 1 1 ((txt 6)) ((txt 4)) 3 ((txt 5)) ((txt 8)) 9 ((txt 10)))) :: X21) w43)
  refine wl_nil (then_at rfl (wp_seq (wl_region ?_)))
  refine zv (.pointer (some ⟨q26, 4, none⟩)) ?_
  refine zu (.agg (buC (mkB 1 1 ((txt 6)) ((txt 4)) 3 ((txt 5)) ((txt 8)) 9 ((txt 10))))) (run_load_part (q := q26) (off := 4) (d := buC (mkB 1 1 ((txt 6)) ((txt 4)) 3 ((txt 5)) ((txt 8)) 9 ((txt 10)))) ky (h44.get 2 rfl) Tryz.underlying23 rfl ky (by intro j hj; match j, hj with | 0, _ => rfl | 1, _ => rfl | 2, _ => rfl | 3, _ => rfl | 4, _ => rfl | 5, _ => rfl | 6, _ => rfl | 7, _ => rfl | 8, _ => rfl)) ?_
  refine wl_make (c := #[iN .i64 0, iN .i64 0, .string ({ data := #[] }), .string ({ data := #[] }), iN .i64 0, .string ({ data := #[] }), .string ({ data := #[] }), iN .i64 0, .string ({ data := #[] })]) h44 23 ky ky ?_
  intro q45 w46 (h47 : HA z20 ((q45, 23, #[iN .i64 0, iN .i64 0, .string ({ data := #[] }), .string ({ data := #[] }), iN .i64 0, .string ({ data := #[] }), .string ({ data := #[] }), iN .i64 0, .string ({ data := #[] })]) :: (q38, 23, buC (mkB 1 1 ((txt 6)) ({ data := #[] }) 3 ((txt 5)) ((txt 8)) 9 ((txt 10)))) :: (q31, 23, buC (mkB 1 1 ((txt 6)) ((txt 4)) 4 ((txt 5)) ((txt 8)) 9 ((txt 10)))) :: (q26, 77, dvC ((txt 1)) ((txt 2)) ((txt 9)) ((txt 4)) (mkB 1 1 ((txt 6)) ((txt 4)) 3 ((txt 5)) ((txt 8)) 9 ((txt 10)))) :: X21) w46)
  refine wl_fill (c' := buC (mkB 1 1 ((txt 6)) ((txt 4)) 3 ((txt 5)) ((txt 8)) 9 ((txt 10)))) h47 0 rfl ky ky ky rfl ky ky ?_
  intro w48 (h49 : HA z20 ((q45, 23, buC (mkB 1 1 ((txt 6)) ((txt 4)) 3 ((txt 5)) ((txt 8)) 9 ((txt 10)))) :: (q38, 23, buC (mkB 1 1 ((txt 6)) ({ data := #[] }) 3 ((txt 5)) ((txt 8)) 9 ((txt 10)))) :: (q31, 23, buC (mkB 1 1 ((txt 6)) ((txt 4)) 4 ((txt 5)) ((txt 8)) 9 ((txt 10)))) :: (q26, 77, dvC ((txt 1)) ((txt 2)) ((txt 9)) ((txt 4)) (mkB 1 1 ((txt 6)) ((txt 4)) 3 ((txt 5)) ((txt 8)) 9 ((txt 10)))) :: X21) w48)
  refine wl_nil (then_at rfl (wp_seq (wl_region ?_)))
  refine zv (.pointer (some ⟨q45, 7, none⟩)) ?_
  refine wl_putv (v := iN .i64 0) h49 0 rfl 7 (by show 7 < 9; decide) ky (fun w => Tryz.sizeOf3 w) ky ky ky ?_
  intro w50 (h51 : HA z20 ((q45, 23, buC (mkB 1 1 ((txt 6)) ((txt 4)) 3 ((txt 5)) ((txt 8)) 0 ((txt 10)))) :: (q38, 23, buC (mkB 1 1 ((txt 6)) ({ data := #[] }) 3 ((txt 5)) ((txt 8)) 9 ((txt 10)))) :: (q31, 23, buC (mkB 1 1 ((txt 6)) ((txt 4)) 4 ((txt 5)) ((txt 8)) 9 ((txt 10)))) :: (q26, 77, dvC ((txt 1)) ((txt 2)) ((txt 9)) ((txt 4)) (mkB 1 1 ((txt 6)) ((txt 4)) 3 ((txt 5)) ((txt 8)) 9 ((txt 10)))) :: X21) w50)
  refine wl_nil (then_at rfl (wp_seq (wl_region ?_)))
  refine zv (.pointer (some ⟨q26, 4, none⟩)) ?_
  refine zu (.agg (buC (mkB 1 1 ((txt 6)) ((txt 4)) 3 ((txt 5)) ((txt 8)) 9 ((txt 10))))) (run_load_part (q := q26) (off := 4) (d := buC (mkB 1 1 ((txt 6)) ((txt 4)) 3 ((txt 5)) ((txt 8)) 9 ((txt 10)))) ky (h51.get 3 rfl) Tryz.underlying23 rfl ky (by intro j hj; match j, hj with | 0, _ => rfl | 1, _ => rfl | 2, _ => rfl | 3, _ => rfl | 4, _ => rfl | 5, _ => rfl | 6, _ => rfl | 7, _ => rfl | 8, _ => rfl)) ?_
  refine wl_call (v := .tuple #[.string ((encB (mkB 1 1 ((txt 6)) ((txt 4)) 3 ((txt 5)) ((txt 8)) 9 ((txt 10))))), iN .i64 0]) h51 ky enter10 #[.agg (buC (mkB 1 1 ((txt 6)) ((txt 4)) 3 ((txt 5)) ((txt 8)) 9 ((txt 10))))] ky (enc_E (encA_y Kq16)) ?_
  intro w52 h53
  refine zv (.tuple #[.string ((encB (mkB 1 1 ((txt 6)) ((txt 4)) 3 ((txt 5)) ((txt 8)) 9 ((txt 10))))), iN .i64 0]) ?_
  refine zv (.string ((encB (mkB 1 1 ((txt 6)) ((txt 4)) 3 ((txt 5)) ((txt 8)) 9 ((txt 10)))))) ?_
  refine zv (iN .i64 0) ?_
  refine zv (.string ((encB (mkB 1 1 ((txt 6)) ((txt 4)) 3 ((txt 5)) ((txt 8)) 9 ((txt 10)))))) ?_
  refine zv (iN .i64 0) ?_
  refine wl_nil (then_at rfl (wp_seq (wl_region ?_)))
  refine zv (.string ((encB (mkB 1 1 ((txt 6)) ((txt 4)) 3 ((txt 5)) ((txt 8)) 9 ((txt 10)))))) ?_
  refine wl_call (v := .tuple #[.agg (buC (mkB 1 1 ((txt 6)) ((txt 4)) 3 ((txt 5)) ((txt 8)) 9 ((txt 10)))), iN .i64 0]) h53 ky enter12 #[.string ((encB (mkB 1 1 ((txt 6)) ((txt 4)) 3 ((txt 5)) ((txt 8)) 9 ((txt 10)))))] ky (dec_E (Nat.le_trans (encB_size (mayX_iff Kq16)) (by decide)) (dec_enc Kq16)) ?_
  intro w54 h55
  refine zv (.tuple #[.agg (buC (mkB 1 1 ((txt 6)) ((txt 4)) 3 ((txt 5)) ((txt 8)) 9 ((txt 10)))), iN .i64 0]) ?_
  refine zv (.agg (buC (mkB 1 1 ((txt 6)) ((txt 4)) 3 ((txt 5)) ((txt 8)) 9 ((txt 10))))) ?_
  refine zv (iN .i64 0) ?_
  refine wl_make (c := #[iN .i64 0, iN .i64 0, .string ({ data := #[] }), .string ({ data := #[] }), iN .i64 0, .string ({ data := #[] }), .string ({ data := #[] }), iN .i64 0, .string ({ data := #[] })]) h55 23 ky ky ?_
  intro q56 w57 (h58 : HA z20 ((q56, 23, #[iN .i64 0, iN .i64 0, .string ({ data := #[] }), .string ({ data := #[] }), iN .i64 0, .string ({ data := #[] }), .string ({ data := #[] }), iN .i64 0, .string ({ data := #[] })]) :: (q45, 23, buC (mkB 1 1 ((txt 6)) ((txt 4)) 3 ((txt 5)) ((txt 8)) 0 ((txt 10)))) :: (q38, 23, buC (mkB 1 1 ((txt 6)) ({ data := #[] }) 3 ((txt 5)) ((txt 8)) 9 ((txt 10)))) :: (q31, 23, buC (mkB 1 1 ((txt 6)) ((txt 4)) 4 ((txt 5)) ((txt 8)) 9 ((txt 10)))) :: (q26, 77, dvC ((txt 1)) ((txt 2)) ((txt 9)) ((txt 4)) (mkB 1 1 ((txt 6)) ((txt 4)) 3 ((txt 5)) ((txt 8)) 9 ((txt 10)))) :: X21) w57)
  refine wl_fill (c' := buC (mkB 1 1 ((txt 6)) ((txt 4)) 3 ((txt 5)) ((txt 8)) 9 ((txt 10)))) h58 0 rfl ky ky ky rfl ky ky ?_
  intro w59 (h60 : HA z20 ((q56, 23, buC (mkB 1 1 ((txt 6)) ((txt 4)) 3 ((txt 5)) ((txt 8)) 9 ((txt 10)))) :: (q45, 23, buC (mkB 1 1 ((txt 6)) ((txt 4)) 3 ((txt 5)) ((txt 8)) 0 ((txt 10)))) :: (q38, 23, buC (mkB 1 1 ((txt 6)) ({ data := #[] }) 3 ((txt 5)) ((txt 8)) 9 ((txt 10)))) :: (q31, 23, buC (mkB 1 1 ((txt 6)) ((txt 4)) 4 ((txt 5)) ((txt 8)) 9 ((txt 10)))) :: (q26, 77, dvC ((txt 1)) ((txt 2)) ((txt 9)) ((txt 4)) (mkB 1 1 ((txt 6)) ((txt 4)) 3 ((txt 5)) ((txt 8)) 9 ((txt 10)))) :: X21) w59)
  refine zv (iN .i64 0) ?_
  refine wl_nil ?_
  refine then_at (F := ⟨(.bool false :: pt p1.q :: iN .i64 0 :: .string ((txt 0)) :: pt q26 :: .bool true :: pt q31 :: pt q38 :: pt q45 :: .string ((encB (mkB 1 1 ((txt 6)) ((txt 4)) 3 ((txt 5)) ((txt 8)) 9 ((txt 10))))) :: iN .i64 0 :: pt q56 :: iN .i64 0 :: un :: un :: un :: un :: un :: un :: un :: un :: un :: un :: un :: un :: un :: un :: un :: un :: .tuple #[pt p1.q, iN .i64 0] :: .tuple #[pt p1.q, iN .i64 0] :: pt p1.q :: iN .i64 0 :: pt p1.q :: .string ((txt 0)) :: .tuple #[.agg (dvC ((txt 1)) ((txt 2)) ((txt 9)) ((txt 4)) (mkB 1 1 ((txt 6)) ((txt 4)) 3 ((txt 5)) ((txt 8)) 9 ((txt 10)))), .bool true] :: pt p1.q :: .agg #[.string ({ data := #[] }), .string ({ data := #[] }), .string ({ data := #[] }), .string ({ data := #[] })] :: .tuple #[.agg (dvC ((txt 1)) ((txt 2)) ((txt 9)) ((txt 4)) (mkB 1 1 ((txt 6)) ((txt 4)) 3 ((txt 5)) ((txt 8)) 9 ((txt 10)))), .bool true] :: .agg (dvC ((txt 1)) ((txt 2)) ((txt 9)) ((txt 4)) (mkB 1 1 ((txt 6)) ((txt 4)) 3 ((txt 5)) ((txt 8)) 9 ((txt 10)))) :: .bool true :: .pointer (some ⟨q26, 4, none⟩) :: .agg (buC (mkB 1 1 ((txt 6)) ((txt 4)) 3 ((txt 5)) ((txt 8)) 9 ((txt 10)))) :: .pointer (some ⟨q31, 4, none⟩) :: .pointer (some ⟨q26, 4, none⟩) :: .agg (buC (mkB 1 1 ((txt 6)) ((txt 4)) 3 ((txt 5)) ((txt 8)) 9 ((txt 10)))) :: .pointer (some ⟨q38, 3, none⟩) :: .pointer (some ⟨q26, 4, none⟩) :: .agg (buC (mkB 1 1 ((txt 6)) ((txt 4)) 3 ((txt 5)) ((txt 8)) 9 ((txt 10)))) :: .pointer (some ⟨q45, 7, none⟩) :: .tuple #[.string ((encB (mkB 1 1 ((txt 6)) ((txt 4)) 3 ((txt 5)) ((txt 8)) 9 ((txt 10))))), iN .i64 0] :: .pointer (some ⟨q26, 4, none⟩) :: .agg (buC (mkB 1 1 ((txt 6)) ((txt 4)) 3 ((txt 5)) ((txt 8)) 9 ((txt 10)))) :: .tuple #[.string ((encB (mkB 1 1 ((txt 6)) ((txt 4)) 3 ((txt 5)) ((txt 8)) 9 ((txt 10))))), iN .i64 0] :: .string ((encB (mkB 1 1 ((txt 6)) ((txt 4)) 3 ((txt 5)) ((txt 8)) 9 ((txt 10))))) :: iN .i64 0 :: .tuple #[.agg (buC (mkB 1 1 ((txt 6)) ((txt 4)) 3 ((txt 5)) ((txt 8)) 9 ((txt 10)))), iN .i64 0] :: .string ((encB (mkB 1 1 ((txt 6)) ((txt 4)) 3 ((txt 5)) ((txt 8)) 9 ((txt 10))))) :: .tuple #[.agg (buC (mkB 1 1 ((txt 6)) ((txt 4)) 3 ((txt 5)) ((txt 8)) 9 ((txt 10)))), iN .i64 0] :: .agg (buC (mkB 1 1 ((txt 6)) ((txt 4)) 3 ((txt 5)) ((txt 8)) 9 ((txt 10)))) :: iN .i64 0 :: List.replicate 107 un).toArray, []⟩) ky ?_
  refine wp_seq (wl_region ?_)
  refine zv (.string ((encB (mkB 1 1 ((txt 6)) ((txt 4)) 3 ((txt 5)) ((txt 8)) 9 ((txt 10)))))) ?_
  refine zu (.string encX) (run_cat (s := (encB (mkB 1 1 ((txt 6)) ((txt 4)) 3 ((txt 5)) ((txt 8)) 9 ((txt 10))))) (t := { data := #[120] }) ky ky (by have := encB_size (mayX_iff Kq16); have e : ({ data := #[120] } : ByteArray).size = 1 := rfl; omega)) ?_
  refine wl_call (v := .tuple #[.agg (buC bu0), iN .i64 4]) h60 ky enter12 #[.string encX] ky (dec_E (Nat.le_trans (show encX.size ≤ 100001 by rw [encX, ByteArray.size_append]; have := encB_size (mayX_iff Kq16); have e : ({ data := #[120] } : ByteArray).size = 1 := rfl; omega) (by decide)) Kq21) ?_
  intro w61 h62
  refine zv (.tuple #[.agg (buC bu0), iN .i64 4]) ?_
  refine zv (.agg (buC bu0)) ?_
  refine zv (iN .i64 4) ?_
  refine wl_make (c := #[iN .i64 0, iN .i64 0, .string ({ data := #[] }), .string ({ data := #[] }), iN .i64 0, .string ({ data := #[] }), .string ({ data := #[] }), iN .i64 0, .string ({ data := #[] })]) h62 23 ky ky ?_
  intro q63 w64 (h65 : HA z20 ((q63, 23, #[iN .i64 0, iN .i64 0, .string ({ data := #[] }), .string ({ data := #[] }), iN .i64 0, .string ({ data := #[] }), .string ({ data := #[] }), iN .i64 0, .string ({ data := #[] })]) :: (q56, 23, buC (mkB 1 1 ((txt 6)) ((txt 4)) 3 ((txt 5)) ((txt 8)) 9 ((txt 10)))) :: (q45, 23, buC (mkB 1 1 ((txt 6)) ((txt 4)) 3 ((txt 5)) ((txt 8)) 0 ((txt 10)))) :: (q38, 23, buC (mkB 1 1 ((txt 6)) ({ data := #[] }) 3 ((txt 5)) ((txt 8)) 9 ((txt 10)))) :: (q31, 23, buC (mkB 1 1 ((txt 6)) ((txt 4)) 4 ((txt 5)) ((txt 8)) 9 ((txt 10)))) :: (q26, 77, dvC ((txt 1)) ((txt 2)) ((txt 9)) ((txt 4)) (mkB 1 1 ((txt 6)) ((txt 4)) 3 ((txt 5)) ((txt 8)) 9 ((txt 10)))) :: X21) w64)
  refine wl_fill (c' := buC bu0) h65 0 rfl ky ky ky rfl ky ky ?_
  intro w66 (h67 : HA z20 ((q63, 23, buC bu0) :: (q56, 23, buC (mkB 1 1 ((txt 6)) ((txt 4)) 3 ((txt 5)) ((txt 8)) 9 ((txt 10)))) :: (q45, 23, buC (mkB 1 1 ((txt 6)) ((txt 4)) 3 ((txt 5)) ((txt 8)) 0 ((txt 10)))) :: (q38, 23, buC (mkB 1 1 ((txt 6)) ({ data := #[] }) 3 ((txt 5)) ((txt 8)) 9 ((txt 10)))) :: (q31, 23, buC (mkB 1 1 ((txt 6)) ((txt 4)) 4 ((txt 5)) ((txt 8)) 9 ((txt 10)))) :: (q26, 77, dvC ((txt 1)) ((txt 2)) ((txt 9)) ((txt 4)) (mkB 1 1 ((txt 6)) ((txt 4)) 3 ((txt 5)) ((txt 8)) 9 ((txt 10)))) :: X21) w66)
  refine zv (iN .i64 4) ?_
  refine wl_nil (then_at rfl (wp_seq (wl_region ?_)))
  refine wl_call (v := .tuple #[.agg (buC bu0), iN .i64 4]) h67 ky enter12 #[.string ({ data := #[] })] ky (dec_E (by decide) Kq22) ?_
  intro w68 h69
  refine zv (.tuple #[.agg (buC bu0), iN .i64 4]) ?_
  refine zv (.agg (buC bu0)) ?_
  refine zv (iN .i64 4) ?_
  refine wl_make (c := #[iN .i64 0, iN .i64 0, .string ({ data := #[] }), .string ({ data := #[] }), iN .i64 0, .string ({ data := #[] }), .string ({ data := #[] }), iN .i64 0, .string ({ data := #[] })]) h69 23 ky ky ?_
  intro q70 w71 (h72 : HA z20 ((q70, 23, #[iN .i64 0, iN .i64 0, .string ({ data := #[] }), .string ({ data := #[] }), iN .i64 0, .string ({ data := #[] }), .string ({ data := #[] }), iN .i64 0, .string ({ data := #[] })]) :: (q63, 23, buC bu0) :: (q56, 23, buC (mkB 1 1 ((txt 6)) ((txt 4)) 3 ((txt 5)) ((txt 8)) 9 ((txt 10)))) :: (q45, 23, buC (mkB 1 1 ((txt 6)) ((txt 4)) 3 ((txt 5)) ((txt 8)) 0 ((txt 10)))) :: (q38, 23, buC (mkB 1 1 ((txt 6)) ({ data := #[] }) 3 ((txt 5)) ((txt 8)) 9 ((txt 10)))) :: (q31, 23, buC (mkB 1 1 ((txt 6)) ((txt 4)) 4 ((txt 5)) ((txt 8)) 9 ((txt 10)))) :: (q26, 77, dvC ((txt 1)) ((txt 2)) ((txt 9)) ((txt 4)) (mkB 1 1 ((txt 6)) ((txt 4)) 3 ((txt 5)) ((txt 8)) 9 ((txt 10)))) :: X21) w71)
  refine wl_fill (c' := buC bu0) h72 0 rfl ky ky ky rfl ky ky ?_
  intro w73 (h74 : HA z20 ((q70, 23, buC bu0) :: (q63, 23, buC bu0) :: (q56, 23, buC (mkB 1 1 ((txt 6)) ((txt 4)) 3 ((txt 5)) ((txt 8)) 9 ((txt 10)))) :: (q45, 23, buC (mkB 1 1 ((txt 6)) ((txt 4)) 3 ((txt 5)) ((txt 8)) 0 ((txt 10)))) :: (q38, 23, buC (mkB 1 1 ((txt 6)) ({ data := #[] }) 3 ((txt 5)) ((txt 8)) 9 ((txt 10)))) :: (q31, 23, buC (mkB 1 1 ((txt 6)) ((txt 4)) 4 ((txt 5)) ((txt 8)) 9 ((txt 10)))) :: (q26, 77, dvC ((txt 1)) ((txt 2)) ((txt 9)) ((txt 4)) (mkB 1 1 ((txt 6)) ((txt 4)) 3 ((txt 5)) ((txt 8)) 9 ((txt 10)))) :: X21) w73)
  refine zv (iN .i64 4) ?_
  refine wl_nil (then_at rfl (wp_seq (wl_region ?_)))
  refine zv (.pointer (some ⟨p1.q, 0, none⟩)) ?_
  refine zv (.string ((txt 0))) ?_
  refine wl_load h74 5 rfl ky ky Tryz.underlying23 rfl ky ?_
  refine wl_callx ky enter27 #[.pointer (some ⟨p1.q, 0, none⟩), .string ((txt 0)), .agg (buC (mkB 1 1 ((txt 6)) ((txt 4)) 4 ((txt 5)) ((txt 8)) 9 ((txt 10)))), .string ({ data := #[] })] ky (beg_n (hcl22 ((q70, 23, buC bu0) :: (q63, 23, buC bu0) :: (q56, 23, buC (mkB 1 1 ((txt 6)) ((txt 4)) 3 ((txt 5)) ((txt 8)) 9 ((txt 10)))) :: (q45, 23, buC (mkB 1 1 ((txt 6)) ((txt 4)) 3 ((txt 5)) ((txt 8)) 0 ((txt 10)))) :: (q38, 23, buC (mkB 1 1 ((txt 6)) ({ data := #[] }) 3 ((txt 5)) ((txt 8)) 9 ((txt 10)))) :: (q31, 23, buC (mkB 1 1 ((txt 6)) ((txt 4)) 4 ((txt 5)) ((txt 8)) 9 ((txt 10)))) :: (q26, 77, dvC ((txt 1)) ((txt 2)) ((txt 9)) ((txt 4)) (mkB 1 1 ((txt 6)) ((txt 4)) 3 ((txt 5)) ((txt 8)) 9 ((txt 10)))) :: []) _ h74) ((txt 0)) (mkB 1 1 ((txt 6)) ((txt 4)) 4 ((txt 5)) ((txt 8)) 9 ((txt 10))) ({ data := #[] }) (txM _) Kq17 (mayX_iff Kq17) Kq20) ?_
  rintro _ w76 ⟨rfl, hD75⟩
  refine ⟨_, rfl, ?_⟩
  obtain ⟨z77, X78, hcl79, hbe80, h81⟩ := PH.front hD75
  have h82 : HA z77 ((q70, 23, buC bu0) :: (q63, 23, buC bu0) :: (q56, 23, buC (mkB 1 1 ((txt 6)) ((txt 4)) 3 ((txt 5)) ((txt 8)) 9 ((txt 10)))) :: (q45, 23, buC (mkB 1 1 ((txt 6)) ((txt 4)) 3 ((txt 5)) ((txt 8)) 0 ((txt 10)))) :: (q38, 23, buC (mkB 1 1 ((txt 6)) ({ data := #[] }) 3 ((txt 5)) ((txt 8)) 9 ((txt 10)))) :: (q31, 23, buC (mkB 1 1 ((txt 6)) ((txt 4)) 4 ((txt 5)) ((txt 8)) 9 ((txt 10)))) :: (q26, 77, dvC ((txt 1)) ((txt 2)) ((txt 9)) ((txt 4)) (mkB 1 1 ((txt 6)) ((txt 4)) 3 ((txt 5)) ((txt 8)) 9 ((txt 10)))) :: X78) w76 := h81
  refine zv (.tuple #[.string ({ data := #[] }), .string ({ data := #[] }), iN .i64 9]) ?_
  refine zv (.string ({ data := #[] })) ?_
  refine zv (.string ({ data := #[] })) ?_
  refine zv (iN .i64 9) ?_
  refine zv (.string ({ data := #[] })) ?_
  refine zv (.string ({ data := #[] })) ?_
  refine zv (iN .i64 9) ?_
  refine wl_nil (then_at rfl (wp_seq (wl_region ?_)))
  refine zv (.string ((txt 0))) ?_
  refine zv (.pointer (some ⟨q26, 4, none⟩)) ?_
  refine zu (.agg (buC (mkB 1 1 ((txt 6)) ((txt 4)) 3 ((txt 5)) ((txt 8)) 9 ((txt 10))))) (run_load_part (q := q26) (off := 4) (d := buC (mkB 1 1 ((txt 6)) ((txt 4)) 3 ((txt 5)) ((txt 8)) 9 ((txt 10)))) ky (h82.get 6 rfl) Tryz.underlying23 rfl ky (by intro j hj; match j, hj with | 0, _ => rfl | 1, _ => rfl | 2, _ => rfl | 3, _ => rfl | 4, _ => rfl | 5, _ => rfl | 6, _ => rfl | 7, _ => rfl | 8, _ => rfl)) ?_
  refine wl_call (v := .tuple #[.string ({ data := #[] }), .string ({ data := #[] }), iN .i64 1]) h82 ky enter27 #[.pointer none, .string ((txt 0)), .agg (buC (mkB 1 1 ((txt 6)) ((txt 4)) 3 ((txt 5)) ((txt 8)) 9 ((txt 10)))), .string ({ data := #[] })] ky (beg_nil ((txt 0)) (mkB 1 1 ((txt 6)) ((txt 4)) 3 ((txt 5)) ((txt 8)) 9 ((txt 10))) ({ data := #[] })) ?_
  intro w83 h84
  refine zv (.tuple #[.string ({ data := #[] }), .string ({ data := #[] }), iN .i64 1]) ?_
  refine zv (.string ({ data := #[] })) ?_
  refine zv (.string ({ data := #[] })) ?_
  refine zv (iN .i64 1) ?_
  refine zv (.string ({ data := #[] })) ?_
  refine zv (.string ({ data := #[] })) ?_
  refine zv (iN .i64 1) ?_
  refine wl_nil (then_at rfl (wp_seq (wl_region ?_)))
  refine wl_call (v := .tuple #[.string ({ data := #[] }), iN .i64 1]) h84 ky enter30 #[.pointer none, .string ({ data := #[] }), .string ({ data := #[] }), .string ({ data := #[] }), .string ({ data := #[] }), .string ({ data := #[] })] ky (acc_nil ({ data := #[] }) ({ data := #[] }) ({ data := #[] }) ({ data := #[] }) ({ data := #[] })) ?_
  intro w85 h86
  refine zv (.tuple #[.string ({ data := #[] }), iN .i64 1]) ?_
  refine zv (.string ({ data := #[] })) ?_
  refine zv (iN .i64 1) ?_
  refine zv (.string ({ data := #[] })) ?_
  refine zv (iN .i64 1) ?_
  refine wl_nil (then_at rfl (wp_seq (wl_region ?_)))
  refine wl_callx ky enter15 #[iN .i64 0] ky (New_r h86) ?_
  rintro _ w89 ⟨rq87, rfl, h88⟩
  refine ⟨_, rfl, ?_⟩
  have h90 : HA z77 ((rq87, 112, #[.iface 108 (.agg #[]), .slice none 0 0]) :: (q70, 23, buC bu0) :: (q63, 23, buC bu0) :: (q56, 23, buC (mkB 1 1 ((txt 6)) ((txt 4)) 3 ((txt 5)) ((txt 8)) 9 ((txt 10)))) :: (q45, 23, buC (mkB 1 1 ((txt 6)) ((txt 4)) 3 ((txt 5)) ((txt 8)) 0 ((txt 10)))) :: (q38, 23, buC (mkB 1 1 ((txt 6)) ({ data := #[] }) 3 ((txt 5)) ((txt 8)) 9 ((txt 10)))) :: (q31, 23, buC (mkB 1 1 ((txt 6)) ((txt 4)) 4 ((txt 5)) ((txt 8)) 9 ((txt 10)))) :: (q26, 77, dvC ((txt 1)) ((txt 2)) ((txt 9)) ((txt 4)) (mkB 1 1 ((txt 6)) ((txt 4)) 3 ((txt 5)) ((txt 8)) 9 ((txt 10)))) :: X78) w89 := h88
  refine zv (.tuple #[.pointer (some ⟨rq87, 0, none⟩), iN .i64 0]) ?_
  refine zv (.pointer (some ⟨rq87, 0, none⟩)) ?_
  refine zv (iN .i64 0) ?_
  refine zv (.pointer (some ⟨rq87, 0, none⟩)) ?_
  refine zv (iN .i64 0) ?_
  refine wl_nil (then_at rfl (wp_seq (wl_region ?_)))
  refine zv (.pointer (some ⟨rq87, 0, none⟩)) ?_
  refine wl_call (v := .tuple #[.string ({ data := #[] }), iN .i64 8]) h90 ky enter30 #[.pointer (some ⟨rq87, 0, none⟩), .string ({ data := #[115, 104, 111, 114, 116] }), .string ({ data := #[] }), .string ({ data := #[] }), .string ({ data := #[] }), .string ({ data := #[] })] ky (acc_r (q := rq87) ((h90.get 0 rfl).cell 0) ({ data := #[115, 104, 111, 114, 116] }) ({ data := #[] }) ({ data := #[] }) ({ data := #[] }) ({ data := #[] }) (by decide)) ?_
  intro w91 h92
  refine zv (.tuple #[.string ({ data := #[] }), iN .i64 8]) ?_
  refine zv (.string ({ data := #[] })) ?_
  refine zv (iN .i64 8) ?_
  refine zv (.string ({ data := #[] })) ?_
  refine zv (iN .i64 8) ?_
  refine wl_nil (then_at rfl (wp_seq (wl_region ?_)))
  refine zv (.bool true) ?_
  refine wl_call (v := .bool true) h92 ky enter14 #[] ky (works_P w91) ?_
  intro w93 h94
  refine zv (.bool true) ?_
  refine zv (.bool true) ?_
  refine zv (.bool true) ?_
  refine zv (.bool true) ?_
  refine zv (.bool true) ?_
  refine zv (.pointer (some ⟨p1.q, 0, none⟩)) ?_
  refine wl_load h94 6 rfl ky ky Tryz.underlying23 rfl ky ?_
  refine wl_callx ky enter26 #[.pointer (some ⟨p1.q, 0, none⟩), .agg (buC (mkB 1 1 ((txt 6)) ((txt 4)) 4 ((txt 5)) ((txt 8)) 9 ((txt 10))))] ky (chk_n (hcl79 ((rq87, 112, #[.iface 108 (.agg #[]), .slice none 0 0]) :: (q70, 23, buC bu0) :: (q63, 23, buC bu0) :: (q56, 23, buC (mkB 1 1 ((txt 6)) ((txt 4)) 3 ((txt 5)) ((txt 8)) 9 ((txt 10)))) :: (q45, 23, buC (mkB 1 1 ((txt 6)) ((txt 4)) 3 ((txt 5)) ((txt 8)) 0 ((txt 10)))) :: (q38, 23, buC (mkB 1 1 ((txt 6)) ({ data := #[] }) 3 ((txt 5)) ((txt 8)) 9 ((txt 10)))) :: (q31, 23, buC (mkB 1 1 ((txt 6)) ((txt 4)) 4 ((txt 5)) ((txt 8)) 9 ((txt 10)))) :: (q26, 77, dvC ((txt 1)) ((txt 2)) ((txt 9)) ((txt 4)) (mkB 1 1 ((txt 6)) ((txt 4)) 3 ((txt 5)) ((txt 8)) 9 ((txt 10)))) :: []) _ h94) (mkB 1 1 ((txt 6)) ((txt 4)) 4 ((txt 5)) ((txt 8)) 9 ((txt 10))) Kq17 (mayX_iff Kq17) Kq20) ?_
  rintro _ w96 ⟨rfl, hD95⟩
  refine ⟨_, rfl, ?_⟩
  obtain ⟨z97, X98, hcl99, hbe100, h101⟩ := PH.front hD95
  have h102 : HA z97 ((rq87, 112, #[.iface 108 (.agg #[]), .slice none 0 0]) :: (q70, 23, buC bu0) :: (q63, 23, buC bu0) :: (q56, 23, buC (mkB 1 1 ((txt 6)) ((txt 4)) 3 ((txt 5)) ((txt 8)) 9 ((txt 10)))) :: (q45, 23, buC (mkB 1 1 ((txt 6)) ((txt 4)) 3 ((txt 5)) ((txt 8)) 0 ((txt 10)))) :: (q38, 23, buC (mkB 1 1 ((txt 6)) ({ data := #[] }) 3 ((txt 5)) ((txt 8)) 9 ((txt 10)))) :: (q31, 23, buC (mkB 1 1 ((txt 6)) ((txt 4)) 4 ((txt 5)) ((txt 8)) 9 ((txt 10)))) :: (q26, 77, dvC ((txt 1)) ((txt 2)) ((txt 9)) ((txt 4)) (mkB 1 1 ((txt 6)) ((txt 4)) 3 ((txt 5)) ((txt 8)) 9 ((txt 10)))) :: X98) w96 := h101
  refine zv (.bool true) ?_
  refine zv (.bool true) ?_
  refine zv (.bool true) ?_
  refine zv (.pointer (some ⟨p1.q, 0, none⟩)) ?_
  refine wl_load h102 5 rfl ky ky Tryz.underlying23 rfl ky ?_
  refine wl_callx ky enter26 #[.pointer (some ⟨p1.q, 0, none⟩), .agg (buC (mkB 1 1 ((txt 6)) ({ data := #[] }) 3 ((txt 5)) ((txt 8)) 9 ((txt 10))))] ky (chk_a (hcl99 ((rq87, 112, #[.iface 108 (.agg #[]), .slice none 0 0]) :: (q70, 23, buC bu0) :: (q63, 23, buC bu0) :: (q56, 23, buC (mkB 1 1 ((txt 6)) ((txt 4)) 3 ((txt 5)) ((txt 8)) 9 ((txt 10)))) :: (q45, 23, buC (mkB 1 1 ((txt 6)) ((txt 4)) 3 ((txt 5)) ((txt 8)) 0 ((txt 10)))) :: (q38, 23, buC (mkB 1 1 ((txt 6)) ({ data := #[] }) 3 ((txt 5)) ((txt 8)) 9 ((txt 10)))) :: (q31, 23, buC (mkB 1 1 ((txt 6)) ((txt 4)) 4 ((txt 5)) ((txt 8)) 9 ((txt 10)))) :: (q26, 77, dvC ((txt 1)) ((txt 2)) ((txt 9)) ((txt 4)) (mkB 1 1 ((txt 6)) ((txt 4)) 3 ((txt 5)) ((txt 8)) 9 ((txt 10)))) :: []) _ h102) (mkB 1 1 ((txt 6)) ({ data := #[] }) 3 ((txt 5)) ((txt 8)) 9 ((txt 10))) Kq18) ?_
  rintro _ w104 ⟨rfl, hD103⟩
  refine ⟨_, rfl, ?_⟩
  obtain ⟨z105, X106, hcl107, hbe108, h109⟩ := PH.front hD103
  have h110 : HA z105 ((rq87, 112, #[.iface 108 (.agg #[]), .slice none 0 0]) :: (q70, 23, buC bu0) :: (q63, 23, buC bu0) :: (q56, 23, buC (mkB 1 1 ((txt 6)) ((txt 4)) 3 ((txt 5)) ((txt 8)) 9 ((txt 10)))) :: (q45, 23, buC (mkB 1 1 ((txt 6)) ((txt 4)) 3 ((txt 5)) ((txt 8)) 0 ((txt 10)))) :: (q38, 23, buC (mkB 1 1 ((txt 6)) ({ data := #[] }) 3 ((txt 5)) ((txt 8)) 9 ((txt 10)))) :: (q31, 23, buC (mkB 1 1 ((txt 6)) ((txt 4)) 4 ((txt 5)) ((txt 8)) 9 ((txt 10)))) :: (q26, 77, dvC ((txt 1)) ((txt 2)) ((txt 9)) ((txt 4)) (mkB 1 1 ((txt 6)) ((txt 4)) 3 ((txt 5)) ((txt 8)) 9 ((txt 10)))) :: X106) w104 := h109
  refine zv (.bool true) ?_
  refine zv (.bool true) ?_
  refine zv (.bool true) ?_
  refine zv (.pointer (some ⟨p1.q, 0, none⟩)) ?_
  refine wl_load h110 4 rfl ky ky Tryz.underlying23 rfl ky ?_
  refine wl_callx ky enter26 #[.pointer (some ⟨p1.q, 0, none⟩), .agg (buC (mkB 1 1 ((txt 6)) ((txt 4)) 3 ((txt 5)) ((txt 8)) 0 ((txt 10))))] ky (chk_a (hcl107 ((rq87, 112, #[.iface 108 (.agg #[]), .slice none 0 0]) :: (q70, 23, buC bu0) :: (q63, 23, buC bu0) :: (q56, 23, buC (mkB 1 1 ((txt 6)) ((txt 4)) 3 ((txt 5)) ((txt 8)) 9 ((txt 10)))) :: (q45, 23, buC (mkB 1 1 ((txt 6)) ((txt 4)) 3 ((txt 5)) ((txt 8)) 0 ((txt 10)))) :: (q38, 23, buC (mkB 1 1 ((txt 6)) ({ data := #[] }) 3 ((txt 5)) ((txt 8)) 9 ((txt 10)))) :: (q31, 23, buC (mkB 1 1 ((txt 6)) ((txt 4)) 4 ((txt 5)) ((txt 8)) 9 ((txt 10)))) :: (q26, 77, dvC ((txt 1)) ((txt 2)) ((txt 9)) ((txt 4)) (mkB 1 1 ((txt 6)) ((txt 4)) 3 ((txt 5)) ((txt 8)) 9 ((txt 10)))) :: []) _ h110) (mkB 1 1 ((txt 6)) ((txt 4)) 3 ((txt 5)) ((txt 8)) 0 ((txt 10))) Kq19) ?_
  rintro _ w112 ⟨rfl, hD111⟩
  refine ⟨_, rfl, ?_⟩
  obtain ⟨z113, X114, hcl115, hbe116, h117⟩ := PH.front hD111
  have h118 : HA z113 ((rq87, 112, #[.iface 108 (.agg #[]), .slice none 0 0]) :: (q70, 23, buC bu0) :: (q63, 23, buC bu0) :: (q56, 23, buC (mkB 1 1 ((txt 6)) ((txt 4)) 3 ((txt 5)) ((txt 8)) 9 ((txt 10)))) :: (q45, 23, buC (mkB 1 1 ((txt 6)) ((txt 4)) 3 ((txt 5)) ((txt 8)) 0 ((txt 10)))) :: (q38, 23, buC (mkB 1 1 ((txt 6)) ({ data := #[] }) 3 ((txt 5)) ((txt 8)) 9 ((txt 10)))) :: (q31, 23, buC (mkB 1 1 ((txt 6)) ((txt 4)) 4 ((txt 5)) ((txt 8)) 9 ((txt 10)))) :: (q26, 77, dvC ((txt 1)) ((txt 2)) ((txt 9)) ((txt 4)) (mkB 1 1 ((txt 6)) ((txt 4)) 3 ((txt 5)) ((txt 8)) 9 ((txt 10)))) :: X114) w112 := h117
  refine zv (.bool true) ?_
  refine zv (.bool true) ?_
  refine zv (.bool true) ?_
  refine zv (.pointer (some ⟨q26, 4, none⟩)) ?_
  refine zu (.agg (buC (mkB 1 1 ((txt 6)) ((txt 4)) 3 ((txt 5)) ((txt 8)) 9 ((txt 10))))) (run_load_part (q := q26) (off := 4) (d := buC (mkB 1 1 ((txt 6)) ((txt 4)) 3 ((txt 5)) ((txt 8)) 9 ((txt 10)))) ky (h118.get 7 rfl) Tryz.underlying23 rfl ky (by intro j hj; match j, hj with | 0, _ => rfl | 1, _ => rfl | 2, _ => rfl | 3, _ => rfl | 4, _ => rfl | 5, _ => rfl | 6, _ => rfl | 7, _ => rfl | 8, _ => rfl)) ?_
  refine wl_call (v := iN .i64 1) h118 ky enter26 #[.pointer none, .agg (buC (mkB 1 1 ((txt 6)) ((txt 4)) 3 ((txt 5)) ((txt 8)) 9 ((txt 10))))] ky (chk_nil (mkB 1 1 ((txt 6)) ((txt 4)) 3 ((txt 5)) ((txt 8)) 9 ((txt 10)))) ?_
  intro w119 h120
  refine zv (.bool true) ?_
  refine zv (.bool true) ?_
  refine zv (.bool true) ?_
  refine zv (iN .i64 0) ?_
  refine zv (.bool true) ?_
  refine zv (.bool true) ?_
  refine zv (.bool true) ?_
  refine zv (iN .i64 0) ?_
  refine zv (.bool true) ?_
  refine zv (.bool true) ?_
  refine zv (.bool true) ?_
  refine wl_load h120 3 rfl ky ky Tryz.underlying23 rfl ky ?_
  refine zv (.pointer (some ⟨q26, 4, none⟩)) ?_
  refine zu (.agg (buC (mkB 1 1 ((txt 6)) ((txt 4)) 3 ((txt 5)) ((txt 8)) 9 ((txt 10))))) (run_load_part (q := q26) (off := 4) (d := buC (mkB 1 1 ((txt 6)) ((txt 4)) 3 ((txt 5)) ((txt 8)) 9 ((txt 10)))) ky (h120.get 7 rfl) Tryz.underlying23 rfl ky (by intro j hj; match j, hj with | 0, _ => rfl | 1, _ => rfl | 2, _ => rfl | 3, _ => rfl | 4, _ => rfl | 5, _ => rfl | 6, _ => rfl | 7, _ => rfl | 8, _ => rfl)) ?_
  refine zu (.bool true) (run_eqB (a := (mkB 1 1 ((txt 6)) ((txt 4)) 3 ((txt 5)) ((txt 8)) 9 ((txt 10)))) (b := (mkB 1 1 ((txt 6)) ((txt 4)) 3 ((txt 5)) ((txt 8)) 9 ((txt 10)))) ky ky true (decide_eq_true rfl)) ?_
  refine zv (.bool true) ?_
  refine zv (.bool true) ?_
  refine zv (iN .i64 4) ?_
  refine zv (.bool true) ?_
  refine zv (.bool true) ?_
  refine zv (.bool true) ?_
  refine zv (iN .i64 4) ?_
  refine zv (.bool true) ?_
  refine zv (.bool true) ?_
  refine zv (.bool true) ?_
  refine zv (iN .i64 9) ?_
  refine zv (.bool true) ?_
  refine zv (.bool true) ?_
  refine zv (.bool true) ?_
  refine zv (iN .i64 1) ?_
  refine zv (.bool true) ?_
  refine zv (.bool true) ?_
  refine zv (.bool true) ?_
  refine zv (iN .i64 1) ?_
  refine zv (.bool true) ?_
  refine zv (.bool true) ?_
  refine zv (.bool true) ?_
  refine zv (iN .i64 8) ?_
  refine zv (.bool true) ?_
  refine zv (.bool true) ?_
  refine zv (.bool true) ?_
  refine wl_nil (then_at rfl ?_)
  refine wp_ret ?_
  repeat first | refine then_ret ?_ | refine block_ret ?_
  exact bodyPost_ret (v := .bool true) ky rfl ⟨rfl, hbe116 _ _ h120⟩
end Go.Proofs.YtoogiblkommdfaaGreat
