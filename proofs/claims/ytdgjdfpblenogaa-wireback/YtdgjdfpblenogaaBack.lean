/-
  WireBack answers true: the walk.
-/
import Derived.Test.YtdgjdfpblenogaaApart
import Derived.Deep.RegionHeld3
import Derived.Deep.DeepCutAuto
namespace Go.Proofs.Ytdgjdfpblenogaa
open Go.RowKit

/-- what is known of a slice of things that came in -/
structure Things (w : World) (a : Option Addr) (len : Nat) (B N : Nat → Nat) (S : Nat → ByteArray) : Prop where
  most : len ≤ 9223372036854775807
  fits : ∀ i, i < len → B i < 256 ∧ N i < 18446744073709551616 ∧ (S i).size ≤ 9223372036854775807
  lies : 0 < len → ∃ b off, a = some ⟨b, off, none⟩ ∧ ∀ i, i < len → w.cell? ⟨b, off + i * 3, none⟩ = some (.int .u8 (B i)) ∧ w.cell? ⟨b, off + i * 3 + 1, none⟩ = some (.int .u64 (N i)) ∧ w.cell? ⟨b, off + i * 3 + 2, none⟩ = some (.string (S i))

def cut300 (s : ByteArray) : List UInt8 := s.data.toList.take 300

/-- a thing's bytes -/
def tb (B N : Nat → Nat) (S : Nat → ByteArray) (i : Nat) : List UInt8 := if B i % 9 = 0 then pt (cut300 (S i)) else be (N i) (B i % 9)

/-- those of m things from the k-th on -/
def tl (f : Nat → List UInt8) : Nat → Nat → List UInt8
  | 0, _ => []
  | m + 1, k => f k ++ tl f m (k + 1)

theorem tl_snoc (f : Nat → List UInt8) : ∀ m k, tl f (m + 1) k = tl f m k ++ f (k + m)
  | 0, k => by simp [tl]
  | m + 1, k => by
    have := tl_snoc f m (k + 1)
    rw [tl, this, tl, List.append_assoc, show k + 1 + m = k + (m + 1) by omega]

theorem tb_length (B N : Nat → Nat) (S : Nat → ByteArray) (i : Nat) : (tb B N S i).length ≤ 304 := by
  unfold tb
  split
  · rw [pt_length]; unfold cut300; rw [List.length_take]; omega
  · rw [be_length]; omega

theorem tl_length (f : Nat → List UInt8) (h : ∀ i, (f i).length ≤ 304) : ∀ m k, (tl f m k).length ≤ 304 * m
  | 0, _ => by simp [tl]
  | m + 1, k => by
    have := tl_length f h m (k + 1)
    have := h k
    rw [tl, List.length_append]
    omega

theorem min30 (x : Nat) (w : World) : ∃ m : Nat, m ≤ x ∧ m ≤ 30 ∧ (Builtin.min_ #[3, 3] 3 #[.int .i64 x, .int .i64 30]).run Try.prog w = .ok (.int .i64 m) w := by
  refine ⟨min x 30, by omega, by omega, ?_⟩
  rw [run_min_int2]
  by_cases h : (30 : Int) < (x : Int)
  · rw [if_pos h, show min x 30 = 30 by omega]; rfl
  · rw [if_neg h, show min x 30 = x by omega]

theorem take_be (v q : Nat) (R : List UInt8) : (be v q ++ R).take q = be v q := List.take_left' (be_length v q)
theorem drop_be (v q : Nat) (R : List UInt8) : (be v q ++ R).drop q = R := List.drop_left' (be_length v q)

theorem val_pt (c R : List UInt8) (hc : c.length < 4294967296) : val ((pt c ++ R).take 4) = c.length := by
  unfold pt
  rw [List.append_assoc, take_be, val_be, Nat.mod_eq_of_lt (by simpa using hc)]

theorem txt_pt (c R : List UInt8) (hc : c.length < 4294967296) : txt (pt c ++ R) = c := by
  unfold txt
  rw [val_pt c R hc]
  unfold pt
  rw [List.append_assoc, drop_be]
  exact List.take_left

theorem drop_pt (c R : List UInt8) : (pt c ++ R).drop (4 + c.length) = R := List.drop_left' (pt_length c)

theorem Text_pt (w : World) (b d o cap : Nat) (c R : List UInt8) (hr : Rd w b d o cap (pt c ++ R)) (hne : d ≠ b) (hc : c.length ≤ 300) :
    Calls Try.prog 21 #[.pointer (some ⟨b, 0, none⟩), .int .i64 300] w fun e w' =>
      e = .returned (.tuple #[.string ⟨c.toArray⟩, .bool true]) ∧ (∃ o' cap', Rd w' b d o' cap' R) ∧ Only b w w' := by
  have hv := val_pt c R (by omega)
  have hl : (pt c ++ R).length = 4 + c.length + R.length := by rw [List.length_append, pt_length]
  have := Text_yes w b d o cap 300 (pt c ++ R) hr hne (by omega) (by omega) (by omega) (by omega)
  rw [txt_pt c R (by omega), hv, drop_pt] at this
  exact this

theorem Number_be (w : World) (b d o cap v q : Nat) (R : List UInt8) (hr : Rd w b d o cap (be v q ++ R)) (hne : d ≠ b) (h1 : 1 ≤ q) (h8 : q ≤ 8) :
    Calls Try.prog 19 #[.pointer (some ⟨b, 0, none⟩), .int .i64 q] w fun e w' =>
      e = .returned (.tuple #[.int .u64 ((v % 256 ^ q : Nat) : Int), .bool true]) ∧ (∃ o' cap', Rd w' b d o' cap' R) ∧ Only b w w' := by
  have := Number_yes w b d o cap q (be v q ++ R) hr hne h1 h8 (by rw [List.length_append, be_length]; omega)
  rw [take_be, drop_be, val_be] at this
  exact this

theorem str_eta (s : ByteArray) : (⟨s.data.toList.toArray⟩ : ByteArray) = s := by
  apply ByteArray.ext
  simp

theorem cut3_all (s : ByteArray) (h : (s.size : Int) ≤ 300) : s.data.toList = cut300 s := by
  unfold cut300
  rw [List.take_of_length_le (by rw [str_length]; omega)]

theorem cut3_list (s : ByteArray) : (s.extract 0 300).data.toList = cut300 s := by
  unfold cut300
  rw [ByteArray.data_extract]
  simp

theorem cut3_some (s : ByteArray) : (⟨(cut300 s).toArray⟩ : ByteArray) = s.extract 0 300 := by
  rw [← cut3_list s]

theorem shl_shr (v q : Nat) (h1 : 1 ≤ q) (h8 : q ≤ 8) : (v : Int) % 256 ^ q = IntKind.u64.wrap ((v : Int) * 2 ^ (64 - 8 * q)) / 2 ^ (64 - 8 * q) := by
  rw [IntKind.wrap_u64]
  rcases (show q = 1 ∨ q = 2 ∨ q = 3 ∨ q = 4 ∨ q = 5 ∨ q = 6 ∨ q = 7 ∨ q = 8 by omega) with rfl | rfl | rfl | rfl | rfl | rfl | rfl | rfl <;> simp <;> omega

set_option maxRecDepth 100000 in
set_option maxHeartbeats 4000000 in
theorem back_true (a0 : Option Addr) (len0 cap0 : Nat) (B N : Nat → Nat) (S : Nat → ByteArray) (beh : ByteArray) (w : World) (h0 : Things w a0 len0 B N S) (hbs : beh.size ≤ 9223372036854775807) :
    Calls Try.prog 5 #[.slice a0 len0 cap0, .string beh] w fun e w' => e = .returned (.bool true) ∧ Below w.heap.size w w' := by
  obtain ⟨m0, e0, l0⟩ := h0
  have HE := hide e0
  have HL := hide l0
  clear e0 l0
  go_enter Try.func5, Try.ntmps5
  go_upto_region 1 with fail
  go_cut [1] (fun s1 wx => wx = w ∧ ∃ bc : ByteArray, s1 = .string bc ∧ bc.size ≤ 1000)
  case first =>
    by_cases yb : (beh.size : Int) ≤ 1000
    · go_wp2_with fail
      go_meet
      case rel => exact ⟨rfl, beh, rfl, by omega⟩
    · go_wp2_with fail
      go_meet
      case rel => exact ⟨rfl, _, rfl, by rw [ByteArray.size_extract]; omega⟩
  case rest =>
    obtain ⟨rfl, bc, rfl, hbc⟩ := hcut
    clear hbs
    go_upto_region 3 with fail
    go_cut [6] (fun s6 wx => wx = wc ∧ ∃ n : Nat, s6 = .int .i64 n ∧ n ≤ len0 ∧ n ≤ 30)
    case first =>
      by_cases yn : (len0 : Int) ≤ 30
      · go_wp2_with fail
        go_meet
        case rel => exact ⟨rfl, len0, rfl, by omega, by omega⟩
      · go_wp2_with fail
        go_meet
        case rel => exact ⟨rfl, 30, rfl, by omega, by omega⟩
    case rest =>
      obtain ⟨hw, n, rfl, hn1, hn2⟩ := hcut
      subst hw
      go_wp2_with fail
      go_loopw [5, 7] (fun s i wr => ∃ k : Nat, k ≤ n ∧ i = .int .i64 k ∧ s = .string ⟨(tl (tb B N S) k 0).toArray⟩ ∧ Below wc.heap.size wc wr) (fun _ i _ => n - (intOf i).toNat)
      case atStart => exact ⟨0, Nat.zero_le _, rfl, rfl, Below.refl _ _⟩
      case round =>
        obtain ⟨k, hk, rfl, rfl, hb⟩ := hrel
        by_cases hlt : k < n
        · obtain ⟨b, off, rfl, hc⟩ := HL.out (by omega)
          obtain ⟨c0, c1, c2⟩ := hc k (by omega)
          have c0 := (hb.cell (p := ⟨b, off + k * 3, none⟩) (World.block_lt_of_cell? _ _ c0)).trans c0
          have c1 := (hb.cell (p := ⟨b, off + k * 3 + 1, none⟩) (World.block_lt_of_cell? _ _ c1)).trans c1
          have c2 := (hb.cell (p := ⟨b, off + k * 3 + 2, none⟩) (World.block_lt_of_cell? _ _ c2)).trans c2
          obtain ⟨f0, f1, f2⟩ := HE.out k (by omega)
          have HT : Hid (tl (tb B N S) (k + 1) 0 = tl (tb B N S) k 0 ++ if B k % 9 = 0 then pt (cut300 (S k)) else be (N k) (B k % 9)) := by
            rw [tl_snoc, Nat.zero_add]; rfl
          have hlen : (tl (tb B N S) k 0).length ≤ 304 * k := tl_length _ (tb_length B N S) k 0
          clear hc HE HL
          generalize B k = Bk at *
          generalize N k = Nk at *
          generalize S k = Sk at *
          generalize tl (tb B N S) k 0 = X at *
          have hbk : b < wr.heap.size := World.block_lt_of_cell? _ _ c2
          have k0 : (0 : Int) ≤ (k : Int) := by omega
          have k1 : (k : Int) < (len0 : Int) := by omega
          by_cases h9 : Bk % 9 = 0
          · by_cases y0 : (Sk.size : Int) ≤ 300
            · have yy : ((300 : Int) < (Sk.size : Int)) = False := eq_false (by omega)
              have yz : (0 : Int) ≤ (Sk.size : Int) := by omega
              go_wp2_with fail
              go_region_held3 (fun w' => w'.cell? ⟨b, off + k * 3 + 2, none⟩ = some (.string Sk)) (first | go_keep | (rw [hb2.cell (by simp; exact hbk)]; simpa using c2))
                ((go_at_call 12; refine (PutText_any _ ⟨X.toArray⟩ Sk (by rw [str_size]; omega) (by omega)).mono ?_; rintro e w2 ⟨rfl, hb2⟩))
              have Bf := bstep (bstep hb (drewN_below wr 1)) hb2
              have L0 := hide (cut3_all Sk y0)
              rw [if_pos h9] at HT
              clear hb hb2 c0 c1 c2
              go_wp2
              go_roundw
              case rel => exact ⟨k + 1, by omega, by go_num, by rw [L0.out, HT.out], Bf⟩
              case measure => simp [intOf]; omega
            · have yy : ((300 : Int) < (Sk.size : Int)) = True := eq_true (by omega)
              have yz : (300 : Int) ≤ (Sk.size : Int) := by omega
              go_wp2_with fail
              go_region_held3 (fun w' => w'.cell? ⟨b, off + k * 3 + 2, none⟩ = some (.string Sk)) (first | go_keep | (rw [hb2.cell (by simp; exact hbk)]; simpa using c2))
                ((go_at_call 12; refine (PutText_any _ ⟨X.toArray⟩ (Sk.extract 0 300) (by rw [str_size]; omega) (by rw [ByteArray.size_extract]; omega)).mono ?_; rintro e w2 ⟨rfl, hb2⟩))
              have Bf := bstep (bstep hb (drewN_below wr 1)) hb2
              rw [if_pos h9] at HT
              clear hb hb2 c0 c1 c2
              go_wp2
              go_roundw
              case rel => exact ⟨k + 1, by omega, by go_num, by rw [show List.take 300 Sk.data.toList = cut300 Sk from rfl, HT.out], Bf⟩
              case measure => simp [intOf]; omega
          · have C : Hid (Calls Try.prog 10 #[.string ⟨X.toArray⟩, .int .i64 ((Bk : Int) % 9), .int .u64 Nk] wr fun e w' => e = .returned (.string ⟨(X ++ be Nk (Bk % 9)).toArray⟩) ∧ Below wr.heap.size wr w') := by
              have := put_mid wr ⟨X.toArray⟩ (Bk % 9) Nk (by rw [str_size]; omega) (by omega) (by omega)
              rw [show ((Bk % 9 : Nat) : Int) = (Bk : Int) % 9 by omega] at this
              exact this
            rw [if_neg h9] at HT
            go_wp2_with fail
            refine C.out.mono ?_
            rintro e w2 ⟨rfl, hb2⟩
            have Bf := bstep hb hb2
            clear C hb hb2 c0 c1 c2
            go_wp2
            go_roundw
            case rel => exact ⟨k + 1, by omega, by go_num, by rw [HT.out], Bf⟩
            case measure => simp [intOf]; omega
        · obtain rfl : k = n := by omega
          obtain ⟨V, hV⟩ : ∃ V, V = wr := ⟨_, rfl⟩
          subst hV
          have hlen : (tl (tb B N S) k 0).length ≤ 304 * k := tl_length _ (tb_length B N S) k 0
          have C : Hid (Calls Try.prog 17 #[.string (⟨(tl (tb B N S) k 0).toArray⟩ ++ bc)] V fun e w' => e = .returned (.pointer (some ⟨V.heap.size + 1, 0, none⟩)) ∧ (∃ cap, Rd w' (V.heap.size + 1) V.heap.size 0 cap (tl (tb B N S) k 0 ++ bc.data.toList)) ∧ Below V.heap.size V w' ∧ w'.heap.size = V.heap.size + 2) := by
            rw [str_append]
            exact New_any V ⟨(tl (tb B N S) k 0 ++ bc.data.toList).toArray⟩ (by rw [str_size, List.length_append, str_length]; omega)
          generalize hX : tl (tb B N S) k 0 = X at *
          go_wp2_with fail
          refine C.out.mono ?_
          rintro e w2 ⟨rfl, ⟨cap, hr⟩, hb2, hz2⟩
          have Bf := bstep hb hb2
          have hz : V.heap.size + 1 < w2.heap.size := by omega
          have sV := hb.size
          rw [← hX] at hr
          have HR : Hid (∃ o cap, Rd w2 (V.heap.size + 1) V.heap.size o cap (tl (tb B N S) (k - 0) 0 ++ bc.data.toList)) := ⟨0, cap, hr⟩
          clear C hb hb2 hz2 hr hlen hX hk hlt
          go_wp2_with fail
          go_loopw [10] (fun i wr => ∃ j : Nat, j ≤ k ∧ i = .int .i64 j ∧ Hid (∃ o cap, Rd wr (V.heap.size + 1) V.heap.size o cap (tl (tb B N S) (k - j) j ++ bc.data.toList)) ∧ Below wc.heap.size wc wr ∧ V.heap.size + 1 < wr.heap.size) (fun i _ => k - (intOf i).toNat)
          case atStart => exact ⟨0, Nat.zero_le _, rfl, HR, Bf, hz⟩
          case round =>
            clear Bf HR hz
            obtain ⟨j, hj, rfl, HR, hb, hz⟩ := hrel
            by_cases hlt : j < k
            · obtain ⟨b, off, rfl, hc⟩ := HL.out (by omega)
              obtain ⟨c0, c1, c2⟩ := hc j (by omega)
              have c0 := (hb.cell (p := ⟨b, off + j * 3, none⟩) (World.block_lt_of_cell? _ _ c0)).trans c0
              have c1 := (hb.cell (p := ⟨b, off + j * 3 + 1, none⟩) (World.block_lt_of_cell? _ _ c1)).trans c1
              have hbw := World.block_lt_of_cell? _ _ c2
              have c2 := (hb.cell (p := ⟨b, off + j * 3 + 2, none⟩) hbw).trans c2
              have hbk : b ≠ V.heap.size + 1 := by have := hbw; simp only at this; omega
              obtain ⟨f0, f1, f2⟩ := HE.out j (by omega)
              obtain ⟨o, cap, hr⟩ := HR.out
              have ek : k - j = (k - (j + 1)) + 1 := by omega
              rw [ek, tl, List.append_assoc] at hr
              unfold tb at hr
              have k0 : (0 : Int) ≤ (j : Int) := by omega
              have k1 : (j : Int) < (len0 : Int) := by omega
              clear hc HE HL HR
              generalize hR : tl (fun i => if B i % 9 = 0 then pt (cut300 (S i)) else be (N i) (B i % 9)) (k - (j + 1)) (j + 1) ++ bc.data.toList = R at *
              have HR : Hid (tl (tb B N S) (k - (j + 1)) (j + 1) ++ bc.data.toList = R) := hR
              clear hR ek
              generalize B j = Bk at *
              generalize N j = Nk at *
              generalize S j = Sk at *
              by_cases h9 : Bk % 9 = 0
              · rw [if_pos h9] at hr
                by_cases y0 : (Sk.size : Int) ≤ 300
                · have yy : ((300 : Int) < (Sk.size : Int)) = False := eq_false (by omega)
                  have T : Hid (Calls Try.prog 21 #[.pointer (some ⟨V.heap.size + 1, 0, none⟩), .int .i64 300] wr fun e w' => e = .returned (.tuple #[.string Sk, .bool true]) ∧ (∃ o' cap', Rd w' (V.heap.size + 1) V.heap.size o' cap' R) ∧ Only (V.heap.size + 1) wr w') := by
                    have := Text_pt wr _ _ _ _ _ _ hr (by omega) (by unfold cut300; rw [List.length_take]; omega)
                    rw [← cut3_all Sk y0, str_eta] at this
                    exact this
                  go_wp2_with fail
                  refine T.out.mono ?_
                  rintro e w3 ⟨rfl, hrd, hon⟩
                  have c2' := (hon.cell (p := ⟨b, off + j * 3 + 2, none⟩) hbk).trans c2
                  clear T c0 c1 c2 hr
                  go_wp2_with fail
                  go_quiet (fail)
                  have Bf := (bonly hb hon (by omega)).trans ((drewN_below w3 nq).mono (by have := hb.size; have := hon.size; omega))
                  have hz' : V.heap.size + 1 < (w3.drewN nq).heap.size := by show _ < w3.heap.size; rw [hon.size]; exact hz
                  obtain ⟨o2, cap2, hrd⟩ := hrd
                  have HN : Hid (∃ o cap, Rd (w3.drewN nq) (V.heap.size + 1) V.heap.size o cap R) := ⟨o2, cap2, hrd.kept rfl rfl⟩
                  clear hb hon hrd c2'
                  go_wp2
                  go_roundw
                  case rel => exact ⟨j + 1, by omega, by go_num, by rw [HR.out]; exact HN, Bf, hz'⟩
                  case measure => simp [intOf]; omega
                · have yy : ((300 : Int) < (Sk.size : Int)) = True := eq_true (by omega)
                  have yz : (300 : Int) ≤ (Sk.size : Int) := by omega
                  have T : Hid (Calls Try.prog 21 #[.pointer (some ⟨V.heap.size + 1, 0, none⟩), .int .i64 300] wr fun e w' => e = .returned (.tuple #[.string (Sk.extract 0 300), .bool true]) ∧ (∃ o' cap', Rd w' (V.heap.size + 1) V.heap.size o' cap' R) ∧ Only (V.heap.size + 1) wr w') := by
                    have := Text_pt wr _ _ _ _ _ _ hr (by omega) (by unfold cut300; rw [List.length_take]; omega)
                    rw [cut3_some Sk] at this
                    exact this
                  go_wp2_with fail
                  refine T.out.mono ?_
                  rintro e w3 ⟨rfl, hrd, hon⟩
                  have c2' := (hon.cell (p := ⟨b, off + j * 3 + 2, none⟩) hbk).trans c2
                  clear T c0 c1 c2 hr
                  go_wp2_with fail
                  go_quiet (fail)
                  have Bf := (bonly hb hon (by omega)).trans ((drewN_below w3 nq).mono (by have := hb.size; have := hon.size; omega))
                  have hz' : V.heap.size + 1 < (w3.drewN nq).heap.size := by show _ < w3.heap.size; rw [hon.size]; exact hz
                  obtain ⟨o2, cap2, hrd⟩ := hrd
                  have HN : Hid (∃ o cap, Rd (w3.drewN nq) (V.heap.size + 1) V.heap.size o cap R) := ⟨o2, cap2, hrd.kept rfl rfl⟩
                  clear hb hon hrd c2'
                  go_wp2
                  go_roundw
                  case rel => exact ⟨j + 1, by omega, by go_num, by rw [HR.out]; exact HN, Bf, hz'⟩
                  case measure => simp [intOf]; omega
              · rw [if_neg h9] at hr
                have T : Hid (Calls Try.prog 19 #[.pointer (some ⟨V.heap.size + 1, 0, none⟩), .int .i64 ((Bk : Int) % 9)] wr fun e w' => e = .returned (.tuple #[.int .u64 ((Nk % 256 ^ (Bk % 9) : Nat) : Int), .bool true]) ∧ (∃ o' cap', Rd w' (V.heap.size + 1) V.heap.size o' cap' R) ∧ Only (V.heap.size + 1) wr w') := by
                  have := Number_be wr _ _ _ _ _ _ _ hr (by omega) (by omega) (by omega)
                  rw [show ((Bk % 9 : Nat) : Int) = (Bk : Int) % 9 by omega] at this
                  exact this
                go_wp2_with fail
                refine T.out.mono ?_
                rintro e w3 ⟨rfl, hrd, hon⟩
                have c1' := (hon.cell (p := ⟨b, off + j * 3 + 1, none⟩) hbk).trans c1
                have hsh : ((Nk : Int) % 256 ^ (Bk % 9) != IntKind.u64.wrap ((Nk : Int) * 2 ^ (64 - 8 * (Bk % 9))) / 2 ^ (64 - 8 * (Bk % 9))) = false := by
                  rw [← shl_shr Nk (Bk % 9) (by omega) (by omega)]; simp
                have Bf := bonly hb hon (by omega)
                have hz' : V.heap.size + 1 < w3.heap.size := by rw [hon.size]; exact hz
                have HN := hide hrd
                clear T c0 c1 c2 hr hb hon hrd
                go_wp2
                go_roundw
                case rel => exact ⟨j + 1, by omega, by go_num, by rw [HR.out]; exact HN, Bf, hz'⟩
                case measure => simp [intOf]; omega
            · obtain rfl : j = k := by omega
              obtain ⟨U, hU⟩ : ∃ U, U = wr := ⟨_, rfl⟩
              subst hU
              obtain ⟨o, cap, hr⟩ := HR.out
              have ez : tl (tb B N S) (j - j) j ++ bc.data.toList = bc.data.toList := by rw [Nat.sub_self]; rfl
              rw [ez] at hr
              have T : Hid (Calls Try.prog 23 #[.pointer (some ⟨V.heap.size + 1, 0, none⟩), .int .i64 bc.size] U fun e w' => e = .returned (.tuple #[.string bc, .bool true]) ∧ (∃ o' cap', Rd w' (V.heap.size + 1) V.heap.size o' cap' []) ∧ Only (V.heap.size + 1) U w') := by
                have := Take_yes U _ _ _ _ bc.size _ hr (by omega) (by rw [str_length]; exact Nat.le_refl _)
                rw [List.take_of_length_le (by rw [str_length]; exact Nat.le_refl _), List.drop_of_length_le (by rw [str_length]; exact Nat.le_refl _), str_eta] at this
                exact this
              clear HR hr ez HE HL
              go_wp2_with fail
              refine T.out.mono ?_
              rintro e w3 ⟨rfl, ⟨o3, cap3, hr3⟩, hon⟩
              have C1 : Hid (Calls Try.prog 25 #[.pointer (some ⟨V.heap.size + 1, 0, none⟩)] w3 fun e w' => e = .returned (.int .i64 0) ∧ w' = w3) := Left_rd _ _ _ _ _ _ hr3
              have C2 := hide (works_true w3)
              have Bf := bonly hb hon (by omega)
              clear T hr3 hon hb
              go_wp2_with fail
              refine C1.out.mono ?_
              rintro e w4 ⟨rfl, rfl⟩
              go_wp2_with fail
              refine C2.out.mono ?_
              rintro e w5 ⟨rfl, hb5⟩
              have Bg := bstep Bf hb5
              clear C1 C2 hb5 Bf
              go_wp2
              go_ret
              exact ⟨rfl, Bg⟩
end Go.Proofs.Ytdgjdfpblenogaa
