/-
  The closed law.
-/
import Derived.Test.YthljhhhjdajfhaaAb
namespace Go.Proofs.Ythljhhhjdajfhaa
open Go.RowKit

def n12 : ByteArray := { data := #[97, 98, 99, 100, 101, 102, 103, 104, 105, 106, 107, 108] }
def t38 : ByteArray := { data := #[104, 101, 108, 108, 111, 44, 32, 99, 111, 117, 110, 116, 101, 114, 32, 109, 111, 100, 101, 58, 32, 109, 111, 114, 101, 32, 116, 104, 97, 110, 32, 97, 32, 98, 108, 111, 99, 107] }
theorem cn0 : cq (colS (n12 ++ nz)) 0 = ⟨1633837924#32, 1701209960#32, 1768581996#32, 0#32⟩ := by kernel_rfl
theorem e0x0 : encR kwR ⟨1633837924#32, 1701209960#32, 1768581996#32, 0#32⟩ 0 = ⟨1633902951#32, 1633902959#32, 1633902951#32, 202182159#32⟩ := by kernel_rfl
theorem e0x1 : encR kwR ⟨1633837924#32, 1701209960#32, 1768581996#32, 0#32⟩ 1 = ⟨1515149761#32, 3916749692#32, 4173399106#32, 2275494403#32⟩ := by
  rw [encR_mix _ _ _ (by decide), e0x0]
  kernel_rfl
theorem e0x2 : encR kwR ⟨1633837924#32, 1701209960#32, 1768581996#32, 0#32⟩ 2 = ⟨3867450576#32, 3145833956#32, 2785804425#32, 2307542720#32⟩ := by
  rw [encR_mix _ _ _ (by decide), e0x1]
  kernel_rfl
theorem e0x3 : encR kwR ⟨1633837924#32, 1701209960#32, 1768581996#32, 0#32⟩ 3 = ⟨3705157956#32, 2336777422#32, 1737876191#32, 1260129400#32⟩ := by
  rw [encR_mix _ _ _ (by decide), e0x2]
  kernel_rfl
theorem e0x4 : encR kwR ⟨1633837924#32, 1701209960#32, 1768581996#32, 0#32⟩ 4 = ⟨1806368712#32, 4003120845#32, 2442489580#32, 14088364#32⟩ := by
  rw [encR_mix _ _ _ (by decide), e0x3]
  kernel_rfl
theorem e0x5 : encR kwR ⟨1633837924#32, 1701209960#32, 1768581996#32, 0#32⟩ 5 = ⟨1323219927#32, 3908234314#32, 3322506314#32, 546415799#32⟩ := by
  rw [encR_mix _ _ _ (by decide), e0x4]
  kernel_rfl
theorem e0x6 : encR kwR ⟨1633837924#32, 1701209960#32, 1768581996#32, 0#32⟩ 6 = ⟨3777586334#32, 2699789301#32, 3094861815#32, 650581293#32⟩ := by
  rw [encR_mix _ _ _ (by decide), e0x5]
  kernel_rfl
theorem e0x7 : encR kwR ⟨1633837924#32, 1701209960#32, 1768581996#32, 0#32⟩ 7 = ⟨538526762#32, 3753299814#32, 191333202#32, 3521570466#32⟩ := by
  rw [encR_mix _ _ _ (by decide), e0x6]
  kernel_rfl
theorem e0x8 : encR kwR ⟨1633837924#32, 1701209960#32, 1768581996#32, 0#32⟩ 8 = ⟨2061689931#32, 446177579#32, 1516274474#32, 1351612723#32⟩ := by
  rw [encR_mix _ _ _ (by decide), e0x7]
  kernel_rfl
theorem e0x9 : encR kwR ⟨1633837924#32, 1701209960#32, 1768581996#32, 0#32⟩ 9 = ⟨256878370#32, 162022990#32, 1512004105#32, 1770757195#32⟩ := by
  rw [encR_mix _ _ _ (by decide), e0x8]
  kernel_rfl
theorem e0x10 : encR kwR ⟨1633837924#32, 1701209960#32, 1768581996#32, 0#32⟩ 10 = ⟨3226266247#32, 2864985716#32, 1089073430#32, 4150553875#32⟩ := by
  rw [encR_mix _ _ _ (by decide), e0x9]
  kernel_rfl
theorem e0x11 : encR kwR ⟨1633837924#32, 1701209960#32, 1768581996#32, 0#32⟩ 11 = ⟨1729987180#32, 2909526682#32, 355112618#32, 1524458586#32⟩ := by
  rw [encR_mix _ _ _ (by decide), e0x10]
  kernel_rfl
theorem e0x12 : encR kwR ⟨1633837924#32, 1701209960#32, 1768581996#32, 0#32⟩ 12 = ⟨2603607661#32, 2367948423#32, 3378435719#32, 835340131#32⟩ := by
  rw [encR_mix _ _ _ (by decide), e0x11]
  kernel_rfl
theorem e0x13 : encR kwR ⟨1633837924#32, 1701209960#32, 1768581996#32, 0#32⟩ 13 = ⟨836281736#32, 1742230919#32, 3673996290#32, 531888364#32⟩ := by
  rw [encR_mix _ _ _ (by decide), e0x12]
  kernel_rfl
theorem e0x14 : encR kwR ⟨1633837924#32, 1701209960#32, 1768581996#32, 0#32⟩ 14 = ⟨3818724354#32, 985217069#32, 1618461739#32, 2903056961#32⟩ := by
  rw [encR_last _ _ _ (by decide), e0x13]
  kernel_rfl
theorem bk0 : blkP (kwS ris) (cq (colS (n12 ++ nz)) 0) = [227, 157, 28, 2, 58, 185, 56, 45, 96, 119, 196, 43, 173, 9, 34, 65] := by
  unfold blkP encQ
  rw [kwS_ris, cn0, e0x14]
  kernel_rfl
theorem cn1 : cq (colS (n12 ++ nz)) 1 = ⟨1633837924#32, 1701209960#32, 1768581996#32, 1#32⟩ := by kernel_rfl
theorem e1x0 : encR kwR ⟨1633837924#32, 1701209960#32, 1768581996#32, 1#32⟩ 0 = ⟨1633902951#32, 1633902959#32, 1633902951#32, 202182158#32⟩ := by kernel_rfl
theorem e1x1 : encR kwR ⟨1633837924#32, 1701209960#32, 1768581996#32, 1#32⟩ 1 = ⟨2274501984#32, 3916749692#32, 4173399106#32, 2275494403#32⟩ := by
  rw [encR_mix _ _ _ (by decide), e1x0]
  kernel_rfl
theorem e1x2 : encR kwR ⟨1633837924#32, 1701209960#32, 1768581996#32, 1#32⟩ 2 = ⟨2938975536#32, 321486511#32, 1376514941#32, 3473376523#32⟩ := by
  rw [encR_mix _ _ _ (by decide), e1x1]
  kernel_rfl
theorem e1x3 : encR kwR ⟨1633837924#32, 1701209960#32, 1768581996#32, 1#32⟩ 3 = ⟨910496696#32, 382325225#32, 2702499168#32, 1989152661#32⟩ := by
  rw [encR_mix _ _ _ (by decide), e1x2]
  kernel_rfl
theorem e1x4 : encR kwR ⟨1633837924#32, 1701209960#32, 1768581996#32, 1#32⟩ 4 = ⟨861003959#32, 2393898741#32, 31809420#32, 797594820#32⟩ := by
  rw [encR_mix _ _ _ (by decide), e1x3]
  kernel_rfl
theorem e1x5 : encR kwR ⟨1633837924#32, 1701209960#32, 1768581996#32, 1#32⟩ 5 = ⟨2827414168#32, 2765893385#32, 145097119#32, 4003877904#32⟩ := by
  rw [encR_mix _ _ _ (by decide), e1x4]
  kernel_rfl
theorem e1x6 : encR kwR ⟨1633837924#32, 1701209960#32, 1768581996#32, 1#32⟩ 6 = ⟨2127395671#32, 1367375428#32, 3854716445#32, 1049717007#32⟩ := by
  rw [encR_mix _ _ _ (by decide), e1x5]
  kernel_rfl
theorem e1x7 : encR kwR ⟨1633837924#32, 1701209960#32, 1768581996#32, 1#32⟩ 7 = ⟨3583492213#32, 647464421#32, 738699602#32, 2692664041#32⟩ := by
  rw [encR_mix _ _ _ (by decide), e1x6]
  kernel_rfl
theorem e1x8 : encR kwR ⟨1633837924#32, 1701209960#32, 1768581996#32, 1#32⟩ 8 = ⟨1134855229#32, 2317119450#32, 584243415#32, 248398091#32⟩ := by
  rw [encR_mix _ _ _ (by decide), e1x7]
  kernel_rfl
theorem e1x9 : encR kwR ⟨1633837924#32, 1701209960#32, 1768581996#32, 1#32⟩ 9 = ⟨2219089893#32, 2332322941#32, 2200244967#32, 1423849745#32⟩ := by
  rw [encR_mix _ _ _ (by decide), e1x8]
  kernel_rfl
theorem e1x10 : encR kwR ⟨1633837924#32, 1701209960#32, 1768581996#32, 1#32⟩ 10 = ⟨2225950425#32, 1310238871#32, 3552181756#32, 2064882631#32⟩ := by
  rw [encR_mix _ _ _ (by decide), e1x9]
  kernel_rfl
theorem e1x11 : encR kwR ⟨1633837924#32, 1701209960#32, 1768581996#32, 1#32⟩ 11 = ⟨809431409#32, 1646405408#32, 1002480313#32, 659686927#32⟩ := by
  rw [encR_mix _ _ _ (by decide), e1x10]
  kernel_rfl
theorem e1x12 : encR kwR ⟨1633837924#32, 1701209960#32, 1768581996#32, 1#32⟩ 12 = ⟨3477112632#32, 3441569864#32, 1103020604#32, 2396527511#32⟩ := by
  rw [encR_mix _ _ _ (by decide), e1x11]
  kernel_rfl
theorem e1x13 : encR kwR ⟨1633837924#32, 1701209960#32, 1768581996#32, 1#32⟩ 13 = ⟨1107998369#32, 2313490483#32, 2239566310#32, 185922305#32⟩ := by
  rw [encR_mix _ _ _ (by decide), e1x12]
  kernel_rfl
theorem e1x14 : encR kwR ⟨1633837924#32, 1701209960#32, 1768581996#32, 1#32⟩ 14 = ⟨136706992#32, 418804955#32, 2699070719#32, 1175393464#32⟩ := by
  rw [encR_last _ _ _ (by decide), e1x13]
  kernel_rfl
theorem bk1 : blkP (kwS ris) (cq (colS (n12 ++ nz)) 1) = [8, 37, 251, 176, 24, 246, 116, 219, 160, 224, 140, 255, 70, 15, 20, 184] := by
  unfold blkP encQ
  rw [kwS_ris, cn1, e1x14]
  kernel_rfl
theorem cn2 : cq (colS (n12 ++ nz)) 2 = ⟨1633837924#32, 1701209960#32, 1768581996#32, 2#32⟩ := by kernel_rfl
theorem e2x0 : encR kwR ⟨1633837924#32, 1701209960#32, 1768581996#32, 2#32⟩ 0 = ⟨1633902951#32, 1633902959#32, 1633902951#32, 202182157#32⟩ := by kernel_rfl
theorem e2x1 : encR kwR ⟨1633837924#32, 1701209960#32, 1768581996#32, 2#32⟩ 1 = ⟨4226720152#32, 3916749692#32, 4173399106#32, 2275494403#32⟩ := by
  rw [encR_mix _ _ _ (by decide), e2x0]
  kernel_rfl
theorem e2x2 : encR kwR ⟨1633837924#32, 1701209960#32, 1768581996#32, 2#32⟩ 2 = ⟨2671062296#32, 2243944344#32, 1595730288#32, 1724506732#32⟩ := by
  rw [encR_mix _ _ _ (by decide), e2x1]
  kernel_rfl
theorem e2x3 : encR kwR ⟨1633837924#32, 1701209960#32, 1768581996#32, 2#32⟩ 3 = ⟨3991451405#32, 3186520637#32, 2097600258#32, 246205217#32⟩ := by
  rw [encR_mix _ _ _ (by decide), e2x2]
  kernel_rfl
theorem e2x4 : encR kwR ⟨1633837924#32, 1701209960#32, 1768581996#32, 2#32⟩ 4 = ⟨2406326984#32, 2191741475#32, 1703910295#32, 3486334132#32⟩ := by
  rw [encR_mix _ _ _ (by decide), e2x3]
  kernel_rfl
theorem e2x5 : encR kwR ⟨1633837924#32, 1701209960#32, 1768581996#32, 2#32⟩ 5 = ⟨204942530#32, 3751723508#32, 800851279#32, 2965529663#32⟩ := by
  rw [encR_mix _ _ _ (by decide), e2x4]
  kernel_rfl
theorem e2x6 : encR kwR ⟨1633837924#32, 1701209960#32, 1768581996#32, 2#32⟩ 6 = ⟨578174700#32, 655592386#32, 3831121122#32, 4027663176#32⟩ := by
  rw [encR_mix _ _ _ (by decide), e2x5]
  kernel_rfl
theorem e2x7 : encR kwR ⟨1633837924#32, 1701209960#32, 1768581996#32, 2#32⟩ 7 = ⟨3472102425#32, 3691805323#32, 4280378741#32, 3122967192#32⟩ := by
  rw [encR_mix _ _ _ (by decide), e2x6]
  kernel_rfl
theorem e2x8 : encR kwR ⟨1633837924#32, 1701209960#32, 1768581996#32, 2#32⟩ 8 = ⟨337753574#32, 714177440#32, 469814568#32, 2952676460#32⟩ := by
  rw [encR_mix _ _ _ (by decide), e2x7]
  kernel_rfl
theorem e2x9 : encR kwR ⟨1633837924#32, 1701209960#32, 1768581996#32, 2#32⟩ 9 = ⟨3751431401#32, 4130532044#32, 4034453561#32, 2680494133#32⟩ := by
  rw [encR_mix _ _ _ (by decide), e2x8]
  kernel_rfl
theorem e2x10 : encR kwR ⟨1633837924#32, 1701209960#32, 1768581996#32, 2#32⟩ 10 = ⟨1236873808#32, 1449616319#32, 2198675046#32, 961669042#32⟩ := by
  rw [encR_mix _ _ _ (by decide), e2x9]
  kernel_rfl
theorem e2x11 : encR kwR ⟨1633837924#32, 1701209960#32, 1768581996#32, 2#32⟩ 11 = ⟨1469184298#32, 995658068#32, 1469908871#32, 2771655357#32⟩ := by
  rw [encR_mix _ _ _ (by decide), e2x10]
  kernel_rfl
theorem e2x12 : encR kwR ⟨1633837924#32, 1701209960#32, 1768581996#32, 2#32⟩ 12 = ⟨2464207047#32, 3786659637#32, 2951262713#32, 2122905352#32⟩ := by
  rw [encR_mix _ _ _ (by decide), e2x11]
  kernel_rfl
theorem e2x13 : encR kwR ⟨1633837924#32, 1701209960#32, 1768581996#32, 2#32⟩ 13 = ⟨2679938957#32, 1515826583#32, 1035720610#32, 2673439522#32⟩ := by
  rw [encR_mix _ _ _ (by decide), e2x12]
  kernel_rfl
theorem e2x14 : encR kwR ⟨1633837924#32, 1701209960#32, 1768581996#32, 2#32⟩ 14 = ⟨4281825119#32, 31717044#32, 282139060#32, 3054324492#32⟩ := by
  rw [encR_last _ _ _ (by decide), e2x13]
  kernel_rfl
theorem bk2 : blkP (kwS ris) (cq (colS (n12 ++ nz)) 2) = [255, 55, 119, 95, 1, 227, 246, 180, 16, 209, 25, 180, 182, 13, 75, 12] := by
  unfold blkP encQ
  rw [kwS_ris, cn2, e2x14]
  kernel_rfl
def c38 : ByteArray := { data := #[139, 248, 112, 110, 85, 149, 24, 78, 15, 2, 170, 95, 200, 123, 2, 44, 103, 65, 158, 138, 56, 155, 27, 169, 197, 192, 248, 151, 39, 97, 52, 217, 223, 85, 27, 48, 98, 136] }
def h38 : ByteArray := { data := #[56, 98, 102, 56, 55, 48, 54, 101, 53, 53, 57, 53, 49, 56, 52, 101, 48, 102, 48, 50, 97, 97, 53, 102, 99, 56, 55, 98, 48, 50, 50, 99, 54, 55, 52, 49, 57, 101, 56, 97, 51, 56, 57, 98, 49, 98, 97, 57, 99, 53, 99, 48, 102, 56, 57, 55, 50, 55, 54, 49, 51, 52, 100, 57, 100, 102, 53, 53, 49, 98, 51, 48, 54, 50, 56, 56] }
def stK (j : Nat) : UInt8 := ([[227, 157, 28, 2, 58, 185, 56, 45, 96, 119, 196, 43, 173, 9, 34, 65], [8, 37, 251, 176, 24, 246, 116, 219, 160, 224, 140, 255, 70, 15, 20, 184], [255, 55, 119, 95, 1, 227, 246, 180, 16, 209, 25, 180, 182, 13, 75, 12]].getD (j / 16) ([] : List UInt8)).getD (j % 16) 0
theorem xk_congr {st st' : Nat → UInt8} (l : List UInt8) : ∀ n, (∀ j, j < n → st j = st' j) → xk st l n = xk st' l n
  | 0, _ => rfl
  | n + 1, h => by rw [xk, xk, xk_congr l n (fun j hj => h j (by omega)), h n (by omega)]
theorem st_known (j : Nat) (hj : j < 38) : stS ris n12 j = stK j := by
  unfold stS stK
  rcases (by omega : j / 16 = 0 ∨ j / 16 = 1 ∨ j / 16 = 2) with e | e | e
  · rw [e, bk0]; rfl
  · rw [e, bk1]; rfl
  · rw [e, bk2]; rfl
theorem ctr_known : ctrS ris n12 t38 = c38 := by
  unfold ctrS ctrL
  rw [xk_congr (bl t38) t38.size st_known]
  kernel_rfl
theorem hex_known : (⟨(hexQ (bl c38) c38.size).toArray⟩ : ByteArray) = h38 := by kernel_rfl
theorem ctrS_size (key nonce text : ByteArray) : (ctrS key nonce text).size = text.size := by
  show (List.toArray _).size = _
  rw [List.size_toArray]
  unfold ctrL
  rw [xk_len, bl_len]
theorem ctr_none (key nonce : ByteArray) : ctrS key nonce { data := #[] } = { data := #[] } := rfl
/-- so many noughts -/
def zt (n : Nat) : ByteArray := ⟨(List.replicate n 0).toArray⟩
theorem zt_size (n : Nat) : (zt n).size = n := by
  show (List.toArray _).size = _
  rw [List.size_toArray, List.length_replicate]
theorem run_zt {ρ : Operand → Value} {x : Operand} {w : World} {dst : Option Tmp} {ty : TypeId} {pos : String} {aft : Array Edge} {gd : Option (Nat × Bool)} {q n c : Nat} (hx : ρ x = .slice (some ⟨q, 0, none⟩) n c) (h : Blk w q 5 (bc (List.replicate n 0))) :
    (execOp ρ ⟨dst, .convert 31 9 x, ty, pos, aft, gd⟩).run Try.prog w = .ok (.value (.string (zt n))) w := by
  have e := run_textg (dst := dst) (ty := ty) (pos := pos) (aft := aft) (gd := gd) hx h (by rw [List.length_replicate]; omega)
  rw [List.take_of_length_le (by rw [List.length_replicate]; omega)] at e
  exact e
theorem rex (n : Nat) (h : n ≤ 32) : (ris.extract 0 n).size = n := extract_size ris n h
theorem rlo : (ris.extract 1 ris.size).size ≠ 32 := by decide

set_option linter.unusedVariables false in
set_option maxRecDepth 100000 in
set_option maxHeartbeats 2000000 in
theorem known_any (w : World) :
    Calls Try.prog 7 #[] w fun e w' => e = .returned (.bool true) ∧ Below w.heap.size w w' := by
  have H0 := HA.start w
  go_enter Try.func7, Try.ntmps7
  refine wp_seq ?_
  -- region 0
  refine wl_region ?_
  refine wl_val (.bool false) (by kernel_rfl) (by kernel_rfl) ?_
  refine wl_nil ?_
  refine then_at (F := ⟨(.bool false :: List.replicate 117 un).toArray, []⟩) (by kernel_rfl) ?_
  refine wp_seq ?_
  -- region 1
  refine wl_region ?_
  refine wl_call (v := .string ris) H0 (by kernel_rfl) enter15 #[] (by kernel_rfl) (rising_any w) ?_
  intro w1 h2
  refine wl_call (v := .tuple #[.string c38, iN .i64 0]) h2 (by kernel_rfl) enter11 #[.string ris, .string n12, .string t38] (by kernel_rfl) ((ctr_known ▸ Ctr_yes ris n12 t38 (by decide) (by decide) (by decide) w1)) ?_
  intro w3 h4
  refine wl_val (.tuple #[.string c38, iN .i64 0]) (by kernel_rfl) (by kernel_rfl) ?_
  refine wl_val (.string c38) (by kernel_rfl) (by kernel_rfl) ?_
  refine wl_val (iN .i64 0) (by kernel_rfl) (by kernel_rfl) ?_
  refine wl_val (.string c38) (by kernel_rfl) (by kernel_rfl) ?_
  refine wl_val (iN .i64 0) (by kernel_rfl) (by kernel_rfl) ?_
  refine wl_nil ?_
  refine then_at (F := ⟨(.bool false :: .string c38 :: iN .i64 0 :: un :: un :: un :: un :: un :: un :: un :: un :: un :: un :: un :: un :: un :: un :: .tuple #[.string c38, iN .i64 0] :: .string ris :: .tuple #[.string c38, iN .i64 0] :: .string c38 :: iN .i64 0 :: List.replicate 96 un).toArray, []⟩) (by kernel_rfl) ?_
  refine wp_seq ?_
  -- region 2
  refine wp_region_sure ⟨(.bool false :: .string c38 :: iN .i64 0 :: .string ({ data := #[] }) :: iN .i64 8 :: un :: un :: un :: un :: un :: un :: un :: un :: un :: un :: un :: un :: .tuple #[.string c38, iN .i64 0] :: .string ris :: .tuple #[.string c38, iN .i64 0] :: .string c38 :: iN .i64 0 :: .tuple #[.string ({ data := #[] }), iN .i64 8] :: .string ris :: .string (ris.extract 1 ris.size) :: .string ris :: .string (ris.extract 0 16) :: .tuple #[.string ({ data := #[] }), iN .i64 8] :: .string ({ data := #[] }) :: iN .i64 8 :: List.replicate 88 un).toArray, []⟩ (HA w []) [.string ris, .string (ris.extract 1 ris.size), .string ris, .string (ris.extract 0 16), .tuple #[.string ({ data := #[] }), iN .i64 8], .tuple #[.string ({ data := #[] }), iN .i64 8], .string ({ data := #[] }), iN .i64 8, .string ({ data := #[] }), iN .i64 8] (by kernel_rfl) (by kernel_rfl) (by kernel_rfl) (by kernel_rfl) (fun _ _ _ h => h) h4.drew ?_ ?_
  · refine AllSure.cons (sure_call (v := .string ris) (by kernel_rfl) (by kernel_rfl) enter15 HA.keep #[] (by kernel_rfl) (fun w' h' => rising_any w')) ?_
    refine AllSure.cons (OpSure.take (v := .string (ris.extract 1 ris.size)) (by kernel_rfl) (by kernel_rfl) (fun _ _ => (run_cut_lo (s := ris) (a := 1) (by kernel_rfl) (by kernel_rfl) (by decide)))) ?_
    refine AllSure.cons (sure_call (v := .string ris) (by kernel_rfl) (by kernel_rfl) enter15 HA.keep #[] (by kernel_rfl) (fun w' h' => rising_any w')) ?_
    refine AllSure.cons (OpSure.take (v := .string (ris.extract 0 16)) (by kernel_rfl) (by kernel_rfl) (fun _ _ => (run_cut_hi (s := ris) (b := 16) (by kernel_rfl) (by kernel_rfl) (by decide)))) ?_
    refine AllSure.cons (sure_call (v := .tuple #[.string ({ data := #[] }), iN .i64 8]) (by kernel_rfl) (by kernel_rfl) enter8 HA.keep #[.string (ris.extract 1 ris.size), .string (ris.extract 0 16)] (by kernel_rfl) (fun w' h' => Block_no1 (ris.extract 1 ris.size) (ris.extract 0 16) rlo w')) ?_
    refine AllSure.cons (OpSure.take (v := .tuple #[.string ({ data := #[] }), iN .i64 8]) (by kernel_rfl) (by kernel_rfl) (fun _ _ => (by kernel_rfl))) ?_
    refine AllSure.cons (OpSure.take (v := .string ({ data := #[] })) (by kernel_rfl) (by kernel_rfl) (fun _ _ => (by kernel_rfl))) ?_
    refine AllSure.cons (OpSure.take (v := iN .i64 8) (by kernel_rfl) (by kernel_rfl) (fun _ _ => (by kernel_rfl))) ?_
    refine AllSure.cons (OpSure.take (v := .string ({ data := #[] })) (by kernel_rfl) (by kernel_rfl) (fun _ _ => (by kernel_rfl))) ?_
    refine AllSure.cons (OpSure.take (v := iN .i64 8) (by kernel_rfl) (by kernel_rfl) (fun _ _ => (by kernel_rfl))) ?_
    exact AllSure.nil
  intro w5 h6
  refine then_at (F := ⟨(.bool false :: .string c38 :: iN .i64 0 :: .string ({ data := #[] }) :: iN .i64 8 :: un :: un :: un :: un :: un :: un :: un :: un :: un :: un :: un :: un :: .tuple #[.string c38, iN .i64 0] :: .string ris :: .tuple #[.string c38, iN .i64 0] :: .string c38 :: iN .i64 0 :: .tuple #[.string ({ data := #[] }), iN .i64 8] :: .string ris :: .string (ris.extract 1 ris.size) :: .string ris :: .string (ris.extract 0 16) :: .tuple #[.string ({ data := #[] }), iN .i64 8] :: .string ({ data := #[] }) :: iN .i64 8 :: List.replicate 88 un).toArray, []⟩) (by kernel_rfl) ?_
  refine wp_seq ?_
  -- region 3
  refine wl_region ?_
  refine wl_call (v := .string ris) h6 (by kernel_rfl) enter15 #[] (by kernel_rfl) (rising_any w5) ?_
  intro w7 h8
  refine wl_call (v := .string ris) h8 (by kernel_rfl) enter15 #[] (by kernel_rfl) (rising_any w7) ?_
  intro w9 h10
  refine wl_val (.string (ris.extract 0 15)) (by kernel_rfl) (run_cut_hi (s := ris) (b := 15) (by kernel_rfl) (by kernel_rfl) (by decide)) ?_
  refine wl_call (v := .tuple #[.string ({ data := #[] }), iN .i64 2]) h10 (by kernel_rfl) enter8 #[.string ris, .string (ris.extract 0 15)] (by kernel_rfl) (Block_no2 ris (ris.extract 0 15) (by decide) (by rw [rex 15 (by decide)]; decide) w9) ?_
  intro w11 h12
  refine wl_val (.tuple #[.string ({ data := #[] }), iN .i64 2]) (by kernel_rfl) (by kernel_rfl) ?_
  refine wl_val (.string ({ data := #[] })) (by kernel_rfl) (by kernel_rfl) ?_
  refine wl_val (iN .i64 2) (by kernel_rfl) (by kernel_rfl) ?_
  refine wl_val (.string ({ data := #[] })) (by kernel_rfl) (by kernel_rfl) ?_
  refine wl_val (iN .i64 2) (by kernel_rfl) (by kernel_rfl) ?_
  refine wl_nil ?_
  refine then_at (F := ⟨(.bool false :: .string c38 :: iN .i64 0 :: .string ({ data := #[] }) :: iN .i64 8 :: .string ({ data := #[] }) :: iN .i64 2 :: un :: un :: un :: un :: un :: un :: un :: un :: un :: un :: .tuple #[.string c38, iN .i64 0] :: .string ris :: .tuple #[.string c38, iN .i64 0] :: .string c38 :: iN .i64 0 :: .tuple #[.string ({ data := #[] }), iN .i64 8] :: .string ris :: .string (ris.extract 1 ris.size) :: .string ris :: .string (ris.extract 0 16) :: .tuple #[.string ({ data := #[] }), iN .i64 8] :: .string ({ data := #[] }) :: iN .i64 8 :: .tuple #[.string ({ data := #[] }), iN .i64 2] :: .string ris :: .string ris :: .string (ris.extract 0 15) :: .tuple #[.string ({ data := #[] }), iN .i64 2] :: .string ({ data := #[] }) :: iN .i64 2 :: List.replicate 81 un).toArray, []⟩) (by kernel_rfl) ?_
  refine wp_seq ?_
  -- region 4
  refine wl_region ?_
  refine wl_call (v := .string ris) h12 (by kernel_rfl) enter15 #[] (by kernel_rfl) (rising_any w11) ?_
  intro w13 h14
  refine wl_call (v := .string ris) h14 (by kernel_rfl) enter15 #[] (by kernel_rfl) (rising_any w13) ?_
  intro w15 h16
  refine wl_val (.string (ris.extract 0 11)) (by kernel_rfl) (run_cut_hi (s := ris) (b := 11) (by kernel_rfl) (by kernel_rfl) (by decide)) ?_
  refine wl_call (v := .tuple #[.string ({ data := #[] }), iN .i64 2]) h16 (by kernel_rfl) enter11 #[.string ris, .string (ris.extract 0 11), .string { data := #[] }] (by kernel_rfl) (Ctr_no2 ris (ris.extract 0 11) ({ data := #[] }) (by decide) (by rw [rex 11 (by decide)]; decide) w15) ?_
  intro w17 h18
  refine wl_val (.tuple #[.string ({ data := #[] }), iN .i64 2]) (by kernel_rfl) (by kernel_rfl) ?_
  refine wl_val (.string ({ data := #[] })) (by kernel_rfl) (by kernel_rfl) ?_
  refine wl_val (iN .i64 2) (by kernel_rfl) (by kernel_rfl) ?_
  refine wl_val (.string ({ data := #[] })) (by kernel_rfl) (by kernel_rfl) ?_
  refine wl_val (iN .i64 2) (by kernel_rfl) (by kernel_rfl) ?_
  refine wl_nil ?_
  refine then_at (F := ⟨(.bool false :: .string c38 :: iN .i64 0 :: .string ({ data := #[] }) :: iN .i64 8 :: .string ({ data := #[] }) :: iN .i64 2 :: .string ({ data := #[] }) :: iN .i64 2 :: un :: un :: un :: un :: un :: un :: un :: un :: .tuple #[.string c38, iN .i64 0] :: .string ris :: .tuple #[.string c38, iN .i64 0] :: .string c38 :: iN .i64 0 :: .tuple #[.string ({ data := #[] }), iN .i64 8] :: .string ris :: .string (ris.extract 1 ris.size) :: .string ris :: .string (ris.extract 0 16) :: .tuple #[.string ({ data := #[] }), iN .i64 8] :: .string ({ data := #[] }) :: iN .i64 8 :: .tuple #[.string ({ data := #[] }), iN .i64 2] :: .string ris :: .string ris :: .string (ris.extract 0 15) :: .tuple #[.string ({ data := #[] }), iN .i64 2] :: .string ({ data := #[] }) :: iN .i64 2 :: .tuple #[.string ({ data := #[] }), iN .i64 2] :: .string ris :: .string ris :: .string (ris.extract 0 11) :: .tuple #[.string ({ data := #[] }), iN .i64 2] :: .string ({ data := #[] }) :: iN .i64 2 :: List.replicate 74 un).toArray, []⟩) (by kernel_rfl) ?_
  refine wp_seq ?_
  -- region 5
  refine wp_region_ghost (fun g : Nat → Nat => (⟨(.bool false :: .string c38 :: iN .i64 0 :: .string ({ data := #[] }) :: iN .i64 8 :: .string ({ data := #[] }) :: iN .i64 2 :: .string ({ data := #[] }) :: iN .i64 2 :: .string ({ data := #[] }) :: iN .i64 3 :: un :: un :: un :: un :: un :: un :: .tuple #[.string c38, iN .i64 0] :: .string ris :: .tuple #[.string c38, iN .i64 0] :: .string c38 :: iN .i64 0 :: .tuple #[.string ({ data := #[] }), iN .i64 8] :: .string ris :: .string (ris.extract 1 ris.size) :: .string ris :: .string (ris.extract 0 16) :: .tuple #[.string ({ data := #[] }), iN .i64 8] :: .string ({ data := #[] }) :: iN .i64 8 :: .tuple #[.string ({ data := #[] }), iN .i64 2] :: .string ris :: .string ris :: .string (ris.extract 0 15) :: .tuple #[.string ({ data := #[] }), iN .i64 2] :: .string ({ data := #[] }) :: iN .i64 2 :: .tuple #[.string ({ data := #[] }), iN .i64 2] :: .string ris :: .string ris :: .string (ris.extract 0 11) :: .tuple #[.string ({ data := #[] }), iN .i64 2] :: .string ({ data := #[] }) :: iN .i64 2 :: .tuple #[.string ({ data := #[] }), iN .i64 3] :: .string ris :: .string ris :: .string (ris.extract 0 12) :: .slice (some ⟨g 3, 0, none⟩) 1048577 1048577 :: .string (zt 1048577) :: .tuple #[.string ({ data := #[] }), iN .i64 3] :: .string ({ data := #[] }) :: iN .i64 3 :: List.replicate 65 un).toArray, []⟩ : Act)) (GM w [] [(3, 5, bc (List.replicate 1048577 0))]) [.string ris, .string ris, .string (ris.extract 0 12), .slice (some ⟨0, 0, none⟩) 1048577 1048577, .string (zt 1048577), .tuple #[.string ({ data := #[] }), iN .i64 3], .tuple #[.string ({ data := #[] }), iN .i64 3], .string ({ data := #[] }), iN .i64 3, .string ({ data := #[] }), iN .i64 3] (by kernel_rfl) (by kernel_rfl) (by kernel_rfl) (by kernel_rfl) (fun _ _ _ _ h => h) (fun d hd => GM.start h18.drew 11 (by kernel_rfl) hd) ?_ ?_
  · refine AllGhost.cons (gm_call (v := .string ris) (by kernel_rfl) (fun _ => by kernel_rfl) (fun _ => by kernel_rfl) enter15 #[] (fun _ => by kernel_rfl) (fun w' h' => rising_any w')) ?_
    refine AllGhost.cons (gm_call (v := .string ris) (by kernel_rfl) (fun _ => by kernel_rfl) (fun _ => by kernel_rfl) enter15 #[] (fun _ => by kernel_rfl) (fun w' h' => rising_any w')) ?_
    refine AllGhost.cons (gm_plain (v := fun _ => .string (ris.extract 0 12)) (by kernel_rfl) (fun _ => by kernel_rfl) (fun _ => by kernel_rfl) (fun _ _ => (run_cut_hi (s := ris) (b := 12) (by kernel_rfl) (by kernel_rfl) (by decide)))) ?_
    refine AllGhost.cons (gm_make (fun m => .slice (some ⟨m, 0, none⟩) 1048577 1048577) (by kernel_rfl) (fun x hx _ => by cases hx with | head => rfl | tail _ h => cases h) (fun _ => by kernel_rfl) (fun _ _ => by kernel_rfl) (fun _ _ => (run_mk (k := .i64) (m := 1048577) (c := 1048577) (by kernel_rfl) (by kernel_rfl) (Nat.le_refl _) (by decide)))) ?_
    refine AllGhost.cons (gm_reads (v := .string (zt 1048577)) 0 rfl (by kernel_rfl) (fun _ => by kernel_rfl) (fun _ => by kernel_rfl) (by kernel_rfl) (fun g w' hb => run_zt (n := 1048577) (c := 1048577) (by kernel_rfl) hb)) ?_
    refine AllGhost.cons (gm_call (v := .tuple #[.string ({ data := #[] }), iN .i64 3]) (by kernel_rfl) (fun _ => by kernel_rfl) (fun _ => by kernel_rfl) enter11 #[.string ris, .string (ris.extract 0 12), .string (zt 1048577)] (fun _ => by kernel_rfl) (fun w' h' => Ctr_no3 ris (ris.extract 0 12) (zt 1048577) (by decide) (rex 12 (by decide)) (by rw [zt_size]; decide) w')) ?_
    refine AllGhost.cons (gm_plain (v := fun _ => .tuple #[.string ({ data := #[] }), iN .i64 3]) (by kernel_rfl) (fun _ => by kernel_rfl) (fun _ => by kernel_rfl) (fun _ _ => (by kernel_rfl))) ?_
    refine AllGhost.cons (gm_plain (v := fun _ => .string ({ data := #[] })) (by kernel_rfl) (fun _ => by kernel_rfl) (fun _ => by kernel_rfl) (fun _ _ => (by kernel_rfl))) ?_
    refine AllGhost.cons (gm_plain (v := fun _ => iN .i64 3) (by kernel_rfl) (fun _ => by kernel_rfl) (fun _ => by kernel_rfl) (fun _ _ => (by kernel_rfl))) ?_
    refine AllGhost.cons (gm_plain (v := fun _ => .string ({ data := #[] })) (by kernel_rfl) (fun _ => by kernel_rfl) (fun _ => by kernel_rfl) (fun _ _ => (by kernel_rfl))) ?_
    refine AllGhost.cons (gm_plain (v := fun _ => iN .i64 3) (by kernel_rfl) (fun _ => by kernel_rfl) (fun _ => by kernel_rfl) (fun _ _ => (by kernel_rfl))) ?_
    exact AllGhost.nil
  intro g w19 g20
  have h21 := g20.held
  clear g20
  generalize g 3 = u22
  clear g
  refine then_at (F := ⟨(.bool false :: .string c38 :: iN .i64 0 :: .string ({ data := #[] }) :: iN .i64 8 :: .string ({ data := #[] }) :: iN .i64 2 :: .string ({ data := #[] }) :: iN .i64 2 :: .string ({ data := #[] }) :: iN .i64 3 :: un :: un :: un :: un :: un :: un :: .tuple #[.string c38, iN .i64 0] :: .string ris :: .tuple #[.string c38, iN .i64 0] :: .string c38 :: iN .i64 0 :: .tuple #[.string ({ data := #[] }), iN .i64 8] :: .string ris :: .string (ris.extract 1 ris.size) :: .string ris :: .string (ris.extract 0 16) :: .tuple #[.string ({ data := #[] }), iN .i64 8] :: .string ({ data := #[] }) :: iN .i64 8 :: .tuple #[.string ({ data := #[] }), iN .i64 2] :: .string ris :: .string ris :: .string (ris.extract 0 15) :: .tuple #[.string ({ data := #[] }), iN .i64 2] :: .string ({ data := #[] }) :: iN .i64 2 :: .tuple #[.string ({ data := #[] }), iN .i64 2] :: .string ris :: .string ris :: .string (ris.extract 0 11) :: .tuple #[.string ({ data := #[] }), iN .i64 2] :: .string ({ data := #[] }) :: iN .i64 2 :: .tuple #[.string ({ data := #[] }), iN .i64 3] :: .string ris :: .string ris :: .string (ris.extract 0 12) :: .slice (some ⟨u22, 0, none⟩) 1048577 1048577 :: .string (zt 1048577) :: .tuple #[.string ({ data := #[] }), iN .i64 3] :: .string ({ data := #[] }) :: iN .i64 3 :: List.replicate 65 un).toArray, []⟩) (by kernel_rfl) ?_
  refine wp_seq ?_
  -- region 6
  refine wl_region ?_
  refine wl_call (v := .tuple #[.string ({ data := #[] }), iN .i64 8]) h21 (by kernel_rfl) enter11 #[.string { data := #[] }, .string { data := #[] }, .string { data := #[] }] (by kernel_rfl) (Ctr_no1 ({ data := #[] }) ({ data := #[] }) ({ data := #[] }) (by decide) w19) ?_
  intro w23 h24
  refine wl_val (.tuple #[.string ({ data := #[] }), iN .i64 8]) (by kernel_rfl) (by kernel_rfl) ?_
  refine wl_val (.string ({ data := #[] })) (by kernel_rfl) (by kernel_rfl) ?_
  refine wl_val (iN .i64 8) (by kernel_rfl) (by kernel_rfl) ?_
  refine wl_val (.string ({ data := #[] })) (by kernel_rfl) (by kernel_rfl) ?_
  refine wl_val (iN .i64 8) (by kernel_rfl) (by kernel_rfl) ?_
  refine wl_nil ?_
  refine then_at (F := ⟨(.bool false :: .string c38 :: iN .i64 0 :: .string ({ data := #[] }) :: iN .i64 8 :: .string ({ data := #[] }) :: iN .i64 2 :: .string ({ data := #[] }) :: iN .i64 2 :: .string ({ data := #[] }) :: iN .i64 3 :: .string ({ data := #[] }) :: iN .i64 8 :: un :: un :: un :: un :: .tuple #[.string c38, iN .i64 0] :: .string ris :: .tuple #[.string c38, iN .i64 0] :: .string c38 :: iN .i64 0 :: .tuple #[.string ({ data := #[] }), iN .i64 8] :: .string ris :: .string (ris.extract 1 ris.size) :: .string ris :: .string (ris.extract 0 16) :: .tuple #[.string ({ data := #[] }), iN .i64 8] :: .string ({ data := #[] }) :: iN .i64 8 :: .tuple #[.string ({ data := #[] }), iN .i64 2] :: .string ris :: .string ris :: .string (ris.extract 0 15) :: .tuple #[.string ({ data := #[] }), iN .i64 2] :: .string ({ data := #[] }) :: iN .i64 2 :: .tuple #[.string ({ data := #[] }), iN .i64 2] :: .string ris :: .string ris :: .string (ris.extract 0 11) :: .tuple #[.string ({ data := #[] }), iN .i64 2] :: .string ({ data := #[] }) :: iN .i64 2 :: .tuple #[.string ({ data := #[] }), iN .i64 3] :: .string ris :: .string ris :: .string (ris.extract 0 12) :: .slice (some ⟨u22, 0, none⟩) 1048577 1048577 :: .string (zt 1048577) :: .tuple #[.string ({ data := #[] }), iN .i64 3] :: .string ({ data := #[] }) :: iN .i64 3 :: .tuple #[.string ({ data := #[] }), iN .i64 8] :: .tuple #[.string ({ data := #[] }), iN .i64 8] :: .string ({ data := #[] }) :: iN .i64 8 :: List.replicate 61 un).toArray, []⟩) (by kernel_rfl) ?_
  refine wp_seq ?_
  -- region 7
  refine wl_region ?_
  refine wl_call (v := .string ris) h24 (by kernel_rfl) enter15 #[] (by kernel_rfl) (rising_any w23) ?_
  intro w25 h26
  refine wl_call (v := .string ris) h26 (by kernel_rfl) enter15 #[] (by kernel_rfl) (rising_any w25) ?_
  intro w27 h28
  refine wl_val (.string (ris.extract 0 12)) (by kernel_rfl) (run_cut_hi (s := ris) (b := 12) (by kernel_rfl) (by kernel_rfl) (by decide)) ?_
  refine wl_call (v := .tuple #[.string ({ data := #[] }), iN .i64 0]) h28 (by kernel_rfl) enter11 #[.string ris, .string (ris.extract 0 12), .string { data := #[] }] (by kernel_rfl) ((ctr_none ris (ris.extract 0 12) ▸ Ctr_yes ris (ris.extract 0 12) ({ data := #[] }) (by decide) (rex 12 (by decide)) (by decide) w27)) ?_
  intro w29 h30
  refine wl_val (.tuple #[.string ({ data := #[] }), iN .i64 0]) (by kernel_rfl) (by kernel_rfl) ?_
  refine wl_val (.string ({ data := #[] })) (by kernel_rfl) (by kernel_rfl) ?_
  refine wl_val (iN .i64 0) (by kernel_rfl) (by kernel_rfl) ?_
  refine wl_val (.string ({ data := #[] })) (by kernel_rfl) (by kernel_rfl) ?_
  refine wl_val (iN .i64 0) (by kernel_rfl) (by kernel_rfl) ?_
  refine wl_nil ?_
  refine then_at (F := ⟨(.bool false :: .string c38 :: iN .i64 0 :: .string ({ data := #[] }) :: iN .i64 8 :: .string ({ data := #[] }) :: iN .i64 2 :: .string ({ data := #[] }) :: iN .i64 2 :: .string ({ data := #[] }) :: iN .i64 3 :: .string ({ data := #[] }) :: iN .i64 8 :: .string ({ data := #[] }) :: iN .i64 0 :: un :: un :: .tuple #[.string c38, iN .i64 0] :: .string ris :: .tuple #[.string c38, iN .i64 0] :: .string c38 :: iN .i64 0 :: .tuple #[.string ({ data := #[] }), iN .i64 8] :: .string ris :: .string (ris.extract 1 ris.size) :: .string ris :: .string (ris.extract 0 16) :: .tuple #[.string ({ data := #[] }), iN .i64 8] :: .string ({ data := #[] }) :: iN .i64 8 :: .tuple #[.string ({ data := #[] }), iN .i64 2] :: .string ris :: .string ris :: .string (ris.extract 0 15) :: .tuple #[.string ({ data := #[] }), iN .i64 2] :: .string ({ data := #[] }) :: iN .i64 2 :: .tuple #[.string ({ data := #[] }), iN .i64 2] :: .string ris :: .string ris :: .string (ris.extract 0 11) :: .tuple #[.string ({ data := #[] }), iN .i64 2] :: .string ({ data := #[] }) :: iN .i64 2 :: .tuple #[.string ({ data := #[] }), iN .i64 3] :: .string ris :: .string ris :: .string (ris.extract 0 12) :: .slice (some ⟨u22, 0, none⟩) 1048577 1048577 :: .string (zt 1048577) :: .tuple #[.string ({ data := #[] }), iN .i64 3] :: .string ({ data := #[] }) :: iN .i64 3 :: .tuple #[.string ({ data := #[] }), iN .i64 8] :: .tuple #[.string ({ data := #[] }), iN .i64 8] :: .string ({ data := #[] }) :: iN .i64 8 :: .tuple #[.string ({ data := #[] }), iN .i64 0] :: .string ris :: .string ris :: .string (ris.extract 0 12) :: .tuple #[.string ({ data := #[] }), iN .i64 0] :: .string ({ data := #[] }) :: iN .i64 0 :: List.replicate 54 un).toArray, []⟩) (by kernel_rfl) ?_
  refine wp_seq ?_
  -- region 8
  refine wp_region_ghost (fun g : Nat → Nat => (⟨(.bool false :: .string c38 :: iN .i64 0 :: .string ({ data := #[] }) :: iN .i64 8 :: .string ({ data := #[] }) :: iN .i64 2 :: .string ({ data := #[] }) :: iN .i64 2 :: .string ({ data := #[] }) :: iN .i64 3 :: .string ({ data := #[] }) :: iN .i64 8 :: .string ({ data := #[] }) :: iN .i64 0 :: .string (ctrS ris (ris.extract 0 12) (zt 1048576)) :: iN .i64 0 :: .tuple #[.string c38, iN .i64 0] :: .string ris :: .tuple #[.string c38, iN .i64 0] :: .string c38 :: iN .i64 0 :: .tuple #[.string ({ data := #[] }), iN .i64 8] :: .string ris :: .string (ris.extract 1 ris.size) :: .string ris :: .string (ris.extract 0 16) :: .tuple #[.string ({ data := #[] }), iN .i64 8] :: .string ({ data := #[] }) :: iN .i64 8 :: .tuple #[.string ({ data := #[] }), iN .i64 2] :: .string ris :: .string ris :: .string (ris.extract 0 15) :: .tuple #[.string ({ data := #[] }), iN .i64 2] :: .string ({ data := #[] }) :: iN .i64 2 :: .tuple #[.string ({ data := #[] }), iN .i64 2] :: .string ris :: .string ris :: .string (ris.extract 0 11) :: .tuple #[.string ({ data := #[] }), iN .i64 2] :: .string ({ data := #[] }) :: iN .i64 2 :: .tuple #[.string ({ data := #[] }), iN .i64 3] :: .string ris :: .string ris :: .string (ris.extract 0 12) :: .slice (some ⟨u22, 0, none⟩) 1048577 1048577 :: .string (zt 1048577) :: .tuple #[.string ({ data := #[] }), iN .i64 3] :: .string ({ data := #[] }) :: iN .i64 3 :: .tuple #[.string ({ data := #[] }), iN .i64 8] :: .tuple #[.string ({ data := #[] }), iN .i64 8] :: .string ({ data := #[] }) :: iN .i64 8 :: .tuple #[.string ({ data := #[] }), iN .i64 0] :: .string ris :: .string ris :: .string (ris.extract 0 12) :: .tuple #[.string ({ data := #[] }), iN .i64 0] :: .string ({ data := #[] }) :: iN .i64 0 :: .tuple #[.string (ctrS ris (ris.extract 0 12) (zt 1048576)), iN .i64 0] :: .string ris :: .string ris :: .string (ris.extract 0 12) :: .slice (some ⟨g 3, 0, none⟩) 1048576 1048576 :: .string (zt 1048576) :: .tuple #[.string (ctrS ris (ris.extract 0 12) (zt 1048576)), iN .i64 0] :: .string (ctrS ris (ris.extract 0 12) (zt 1048576)) :: iN .i64 0 :: List.replicate 45 un).toArray, []⟩ : Act)) (GM w [] [(3, 5, bc (List.replicate 1048576 0))]) [.string ris, .string ris, .string (ris.extract 0 12), .slice (some ⟨0, 0, none⟩) 1048576 1048576, .string (zt 1048576), .tuple #[.string (ctrS ris (ris.extract 0 12) (zt 1048576)), iN .i64 0], .tuple #[.string (ctrS ris (ris.extract 0 12) (zt 1048576)), iN .i64 0], .string (ctrS ris (ris.extract 0 12) (zt 1048576)), iN .i64 0, .string (ctrS ris (ris.extract 0 12) (zt 1048576)), iN .i64 0] (by kernel_rfl) (by kernel_rfl) (by kernel_rfl) (by kernel_rfl) (fun _ _ _ _ h => h) (fun d hd => GM.start h30.drew 11 (by kernel_rfl) hd) ?_ ?_
  · refine AllGhost.cons (gm_call (v := .string ris) (by kernel_rfl) (fun _ => by kernel_rfl) (fun _ => by kernel_rfl) enter15 #[] (fun _ => by kernel_rfl) (fun w' h' => rising_any w')) ?_
    refine AllGhost.cons (gm_call (v := .string ris) (by kernel_rfl) (fun _ => by kernel_rfl) (fun _ => by kernel_rfl) enter15 #[] (fun _ => by kernel_rfl) (fun w' h' => rising_any w')) ?_
    refine AllGhost.cons (gm_plain (v := fun _ => .string (ris.extract 0 12)) (by kernel_rfl) (fun _ => by kernel_rfl) (fun _ => by kernel_rfl) (fun _ _ => (run_cut_hi (s := ris) (b := 12) (by kernel_rfl) (by kernel_rfl) (by decide)))) ?_
    refine AllGhost.cons (gm_make (fun m => .slice (some ⟨m, 0, none⟩) 1048576 1048576) (by kernel_rfl) (fun x hx _ => by cases hx with | head => rfl | tail _ h => cases h) (fun _ => by kernel_rfl) (fun _ _ => by kernel_rfl) (fun _ _ => (run_mk (k := .i64) (m := 1048576) (c := 1048576) (by kernel_rfl) (by kernel_rfl) (Nat.le_refl _) (by decide)))) ?_
    refine AllGhost.cons (gm_reads (v := .string (zt 1048576)) 0 rfl (by kernel_rfl) (fun _ => by kernel_rfl) (fun _ => by kernel_rfl) (by kernel_rfl) (fun g w' hb => run_zt (n := 1048576) (c := 1048576) (by kernel_rfl) hb)) ?_
    refine AllGhost.cons (gm_call (v := .tuple #[.string (ctrS ris (ris.extract 0 12) (zt 1048576)), iN .i64 0]) (by kernel_rfl) (fun _ => by kernel_rfl) (fun _ => by kernel_rfl) enter11 #[.string ris, .string (ris.extract 0 12), .string (zt 1048576)] (fun _ => by kernel_rfl) (fun w' h' => Ctr_yes ris (ris.extract 0 12) (zt 1048576) (by decide) (rex 12 (by decide)) (by rw [zt_size]; decide) w')) ?_
    refine AllGhost.cons (gm_plain (v := fun _ => .tuple #[.string (ctrS ris (ris.extract 0 12) (zt 1048576)), iN .i64 0]) (by kernel_rfl) (fun _ => by kernel_rfl) (fun _ => by kernel_rfl) (fun _ _ => (by kernel_rfl))) ?_
    refine AllGhost.cons (gm_plain (v := fun _ => .string (ctrS ris (ris.extract 0 12) (zt 1048576))) (by kernel_rfl) (fun _ => by kernel_rfl) (fun _ => by kernel_rfl) (fun _ _ => (by kernel_rfl))) ?_
    refine AllGhost.cons (gm_plain (v := fun _ => iN .i64 0) (by kernel_rfl) (fun _ => by kernel_rfl) (fun _ => by kernel_rfl) (fun _ _ => (by kernel_rfl))) ?_
    refine AllGhost.cons (gm_plain (v := fun _ => .string (ctrS ris (ris.extract 0 12) (zt 1048576))) (by kernel_rfl) (fun _ => by kernel_rfl) (fun _ => by kernel_rfl) (fun _ _ => (by kernel_rfl))) ?_
    refine AllGhost.cons (gm_plain (v := fun _ => iN .i64 0) (by kernel_rfl) (fun _ => by kernel_rfl) (fun _ => by kernel_rfl) (fun _ _ => (by kernel_rfl))) ?_
    exact AllGhost.nil
  intro g w31 g32
  have h33 := g32.held
  clear g32
  generalize g 3 = u34
  clear g
  refine then_at (F := ⟨(.bool false :: .string c38 :: iN .i64 0 :: .string ({ data := #[] }) :: iN .i64 8 :: .string ({ data := #[] }) :: iN .i64 2 :: .string ({ data := #[] }) :: iN .i64 2 :: .string ({ data := #[] }) :: iN .i64 3 :: .string ({ data := #[] }) :: iN .i64 8 :: .string ({ data := #[] }) :: iN .i64 0 :: .string (ctrS ris (ris.extract 0 12) (zt 1048576)) :: iN .i64 0 :: .tuple #[.string c38, iN .i64 0] :: .string ris :: .tuple #[.string c38, iN .i64 0] :: .string c38 :: iN .i64 0 :: .tuple #[.string ({ data := #[] }), iN .i64 8] :: .string ris :: .string (ris.extract 1 ris.size) :: .string ris :: .string (ris.extract 0 16) :: .tuple #[.string ({ data := #[] }), iN .i64 8] :: .string ({ data := #[] }) :: iN .i64 8 :: .tuple #[.string ({ data := #[] }), iN .i64 2] :: .string ris :: .string ris :: .string (ris.extract 0 15) :: .tuple #[.string ({ data := #[] }), iN .i64 2] :: .string ({ data := #[] }) :: iN .i64 2 :: .tuple #[.string ({ data := #[] }), iN .i64 2] :: .string ris :: .string ris :: .string (ris.extract 0 11) :: .tuple #[.string ({ data := #[] }), iN .i64 2] :: .string ({ data := #[] }) :: iN .i64 2 :: .tuple #[.string ({ data := #[] }), iN .i64 3] :: .string ris :: .string ris :: .string (ris.extract 0 12) :: .slice (some ⟨u22, 0, none⟩) 1048577 1048577 :: .string (zt 1048577) :: .tuple #[.string ({ data := #[] }), iN .i64 3] :: .string ({ data := #[] }) :: iN .i64 3 :: .tuple #[.string ({ data := #[] }), iN .i64 8] :: .tuple #[.string ({ data := #[] }), iN .i64 8] :: .string ({ data := #[] }) :: iN .i64 8 :: .tuple #[.string ({ data := #[] }), iN .i64 0] :: .string ris :: .string ris :: .string (ris.extract 0 12) :: .tuple #[.string ({ data := #[] }), iN .i64 0] :: .string ({ data := #[] }) :: iN .i64 0 :: .tuple #[.string (ctrS ris (ris.extract 0 12) (zt 1048576)), iN .i64 0] :: .string ris :: .string ris :: .string (ris.extract 0 12) :: .slice (some ⟨u34, 0, none⟩) 1048576 1048576 :: .string (zt 1048576) :: .tuple #[.string (ctrS ris (ris.extract 0 12) (zt 1048576)), iN .i64 0] :: .string (ctrS ris (ris.extract 0 12) (zt 1048576)) :: iN .i64 0 :: List.replicate 45 un).toArray, []⟩) (by kernel_rfl) ?_
  refine wp_seq ?_
  refine wp_seq ?_
  -- region 9
  refine wl_region ?_
  refine wl_val (iN .i64 0) (by kernel_rfl) (by kernel_rfl) ?_
  refine wl_val (.bool false) (by kernel_rfl) (run_nei (k := .i64) (a := 0) (b := 0) (by kernel_rfl) (by kernel_rfl) false (by decide)) ?_
  refine wl_val (.bool false) (by kernel_rfl) (by kernel_rfl) ?_
  refine wl_val (.string (ctrS ris (ris.extract 0 12) (zt 1048576))) (by kernel_rfl) (by kernel_rfl) ?_
  refine wl_val (iN .i64 ((ctrS ris (ris.extract 0 12) (zt 1048576)).size)) (by kernel_rfl) (run_len (s := ctrS ris (ris.extract 0 12) (zt 1048576)) (by kernel_rfl)) ?_
  refine wl_val (.bool false) (by kernel_rfl) (run_nei (k := .i64) (a := (ctrS ris (ris.extract 0 12) (zt 1048576)).size) (b := 1048576) (by kernel_rfl) (by kernel_rfl) false (decide_eq_false (fun h => h (by rw [ctrS_size, zt_size])))) ?_
  refine wl_val (.bool false) (by kernel_rfl) (by kernel_rfl) ?_
  refine wl_nil ?_
  refine then_at (F := ⟨(.bool false :: .string c38 :: iN .i64 0 :: .string ({ data := #[] }) :: iN .i64 8 :: .string ({ data := #[] }) :: iN .i64 2 :: .string ({ data := #[] }) :: iN .i64 2 :: .string ({ data := #[] }) :: iN .i64 3 :: .string ({ data := #[] }) :: iN .i64 8 :: .string ({ data := #[] }) :: iN .i64 0 :: .string (ctrS ris (ris.extract 0 12) (zt 1048576)) :: iN .i64 0 :: .tuple #[.string c38, iN .i64 0] :: .string ris :: .tuple #[.string c38, iN .i64 0] :: .string c38 :: iN .i64 0 :: .tuple #[.string ({ data := #[] }), iN .i64 8] :: .string ris :: .string (ris.extract 1 ris.size) :: .string ris :: .string (ris.extract 0 16) :: .tuple #[.string ({ data := #[] }), iN .i64 8] :: .string ({ data := #[] }) :: iN .i64 8 :: .tuple #[.string ({ data := #[] }), iN .i64 2] :: .string ris :: .string ris :: .string (ris.extract 0 15) :: .tuple #[.string ({ data := #[] }), iN .i64 2] :: .string ({ data := #[] }) :: iN .i64 2 :: .tuple #[.string ({ data := #[] }), iN .i64 2] :: .string ris :: .string ris :: .string (ris.extract 0 11) :: .tuple #[.string ({ data := #[] }), iN .i64 2] :: .string ({ data := #[] }) :: iN .i64 2 :: .tuple #[.string ({ data := #[] }), iN .i64 3] :: .string ris :: .string ris :: .string (ris.extract 0 12) :: .slice (some ⟨u22, 0, none⟩) 1048577 1048577 :: .string (zt 1048577) :: .tuple #[.string ({ data := #[] }), iN .i64 3] :: .string ({ data := #[] }) :: iN .i64 3 :: .tuple #[.string ({ data := #[] }), iN .i64 8] :: .tuple #[.string ({ data := #[] }), iN .i64 8] :: .string ({ data := #[] }) :: iN .i64 8 :: .tuple #[.string ({ data := #[] }), iN .i64 0] :: .string ris :: .string ris :: .string (ris.extract 0 12) :: .tuple #[.string ({ data := #[] }), iN .i64 0] :: .string ({ data := #[] }) :: iN .i64 0 :: .tuple #[.string (ctrS ris (ris.extract 0 12) (zt 1048576)), iN .i64 0] :: .string ris :: .string ris :: .string (ris.extract 0 12) :: .slice (some ⟨u34, 0, none⟩) 1048576 1048576 :: .string (zt 1048576) :: .tuple #[.string (ctrS ris (ris.extract 0 12) (zt 1048576)), iN .i64 0] :: .string (ctrS ris (ris.extract 0 12) (zt 1048576)) :: iN .i64 0 :: iN .i64 0 :: .bool false :: .bool false :: .string (ctrS ris (ris.extract 0 12) (zt 1048576)) :: iN .i64 ((ctrS ris (ris.extract 0 12) (zt 1048576)).size) :: .bool false :: .bool false :: List.replicate 38 un).toArray, []⟩) (by kernel_rfl) ?_
  refine wp_cond_false (by kernel_rfl) ?_
  refine wp_skip ?_
  refine then_at (F := ⟨(.bool false :: .string c38 :: iN .i64 0 :: .string ({ data := #[] }) :: iN .i64 8 :: .string ({ data := #[] }) :: iN .i64 2 :: .string ({ data := #[] }) :: iN .i64 2 :: .string ({ data := #[] }) :: iN .i64 3 :: .string ({ data := #[] }) :: iN .i64 8 :: .string ({ data := #[] }) :: iN .i64 0 :: .string (ctrS ris (ris.extract 0 12) (zt 1048576)) :: iN .i64 0 :: .tuple #[.string c38, iN .i64 0] :: .string ris :: .tuple #[.string c38, iN .i64 0] :: .string c38 :: iN .i64 0 :: .tuple #[.string ({ data := #[] }), iN .i64 8] :: .string ris :: .string (ris.extract 1 ris.size) :: .string ris :: .string (ris.extract 0 16) :: .tuple #[.string ({ data := #[] }), iN .i64 8] :: .string ({ data := #[] }) :: iN .i64 8 :: .tuple #[.string ({ data := #[] }), iN .i64 2] :: .string ris :: .string ris :: .string (ris.extract 0 15) :: .tuple #[.string ({ data := #[] }), iN .i64 2] :: .string ({ data := #[] }) :: iN .i64 2 :: .tuple #[.string ({ data := #[] }), iN .i64 2] :: .string ris :: .string ris :: .string (ris.extract 0 11) :: .tuple #[.string ({ data := #[] }), iN .i64 2] :: .string ({ data := #[] }) :: iN .i64 2 :: .tuple #[.string ({ data := #[] }), iN .i64 3] :: .string ris :: .string ris :: .string (ris.extract 0 12) :: .slice (some ⟨u22, 0, none⟩) 1048577 1048577 :: .string (zt 1048577) :: .tuple #[.string ({ data := #[] }), iN .i64 3] :: .string ({ data := #[] }) :: iN .i64 3 :: .tuple #[.string ({ data := #[] }), iN .i64 8] :: .tuple #[.string ({ data := #[] }), iN .i64 8] :: .string ({ data := #[] }) :: iN .i64 8 :: .tuple #[.string ({ data := #[] }), iN .i64 0] :: .string ris :: .string ris :: .string (ris.extract 0 12) :: .tuple #[.string ({ data := #[] }), iN .i64 0] :: .string ({ data := #[] }) :: iN .i64 0 :: .tuple #[.string (ctrS ris (ris.extract 0 12) (zt 1048576)), iN .i64 0] :: .string ris :: .string ris :: .string (ris.extract 0 12) :: .slice (some ⟨u34, 0, none⟩) 1048576 1048576 :: .string (zt 1048576) :: .tuple #[.string (ctrS ris (ris.extract 0 12) (zt 1048576)), iN .i64 0] :: .string (ctrS ris (ris.extract 0 12) (zt 1048576)) :: iN .i64 0 :: iN .i64 0 :: .bool false :: .bool false :: .string (ctrS ris (ris.extract 0 12) (zt 1048576)) :: iN .i64 ((ctrS ris (ris.extract 0 12) (zt 1048576)).size) :: .bool false :: .bool false :: List.replicate 38 un).toArray, []⟩) (by kernel_rfl) ?_
  refine wp_seq ?_
  -- region 11
  refine wl_region ?_
  refine wl_val (iN .i64 0) (by kernel_rfl) (by kernel_rfl) ?_
  refine wl_val (.bool true) (by kernel_rfl) (run_eqi (k := .i64) (a := 0) (b := 0) (by kernel_rfl) (by kernel_rfl) true (by decide)) ?_
  refine wl_val (.bool true) (by kernel_rfl) (by kernel_rfl) ?_
  refine wl_val (.string c38) (by kernel_rfl) (by kernel_rfl) ?_
  refine wl_call (v := .string (⟨(hexQ (bl c38) c38.size).toArray⟩)) h33 (by kernel_rfl) enter16 #[.string c38] (by kernel_rfl) (hexc c38 (by decide) w31) ?_
  intro w35 h36
  refine wl_val (.bool true) (by kernel_rfl) (run_eqs (s := ⟨(hexQ (bl c38) c38.size).toArray⟩) (t := h38) (by kernel_rfl) (by kernel_rfl) true (decide_eq_true hex_known)) ?_
  refine wl_val (.bool true) (by kernel_rfl) (by kernel_rfl) ?_
  refine wl_val (.bool true) (by kernel_rfl) (by kernel_rfl) ?_
  refine wl_val (iN .i64 8) (by kernel_rfl) (by kernel_rfl) ?_
  refine wl_val (.bool true) (by kernel_rfl) (run_eqi (k := .i64) (a := 8) (b := 8) (by kernel_rfl) (by kernel_rfl) true (by decide)) ?_
  refine wl_val (.bool true) (by kernel_rfl) (by kernel_rfl) ?_
  refine wl_val (.bool true) (by kernel_rfl) (by kernel_rfl) ?_
  refine wl_val (iN .i64 2) (by kernel_rfl) (by kernel_rfl) ?_
  refine wl_val (.bool true) (by kernel_rfl) (run_eqi (k := .i64) (a := 2) (b := 2) (by kernel_rfl) (by kernel_rfl) true (by decide)) ?_
  refine wl_val (.bool true) (by kernel_rfl) (by kernel_rfl) ?_
  refine wl_val (.bool true) (by kernel_rfl) (by kernel_rfl) ?_
  refine wl_val (iN .i64 2) (by kernel_rfl) (by kernel_rfl) ?_
  refine wl_val (.bool true) (by kernel_rfl) (run_eqi (k := .i64) (a := 2) (b := 2) (by kernel_rfl) (by kernel_rfl) true (by decide)) ?_
  refine wl_val (.bool true) (by kernel_rfl) (by kernel_rfl) ?_
  refine wl_val (.bool true) (by kernel_rfl) (by kernel_rfl) ?_
  refine wl_val (iN .i64 3) (by kernel_rfl) (by kernel_rfl) ?_
  refine wl_val (.bool true) (by kernel_rfl) (run_eqi (k := .i64) (a := 3) (b := 3) (by kernel_rfl) (by kernel_rfl) true (by decide)) ?_
  refine wl_val (.bool true) (by kernel_rfl) (by kernel_rfl) ?_
  refine wl_val (.bool true) (by kernel_rfl) (by kernel_rfl) ?_
  refine wl_val (iN .i64 8) (by kernel_rfl) (by kernel_rfl) ?_
  refine wl_val (.bool true) (by kernel_rfl) (run_eqi (k := .i64) (a := 8) (b := 8) (by kernel_rfl) (by kernel_rfl) true (by decide)) ?_
  refine wl_val (.bool true) (by kernel_rfl) (by kernel_rfl) ?_
  refine wl_val (.bool true) (by kernel_rfl) (by kernel_rfl) ?_
  refine wl_val (iN .i64 0) (by kernel_rfl) (by kernel_rfl) ?_
  refine wl_val (.bool true) (by kernel_rfl) (run_eqi (k := .i64) (a := 0) (b := 0) (by kernel_rfl) (by kernel_rfl) true (by decide)) ?_
  refine wl_val (.bool true) (by kernel_rfl) (by kernel_rfl) ?_
  refine wl_val (.bool true) (by kernel_rfl) (by kernel_rfl) ?_
  refine wl_val (.string ({ data := #[] })) (by kernel_rfl) (by kernel_rfl) ?_
  refine wl_val (.bool true) (by kernel_rfl) (run_eqs (s := { data := #[] }) (t := { data := #[] }) (by kernel_rfl) (by kernel_rfl) true (decide_eq_true rfl)) ?_
  refine wl_val (.bool true) (by kernel_rfl) (by kernel_rfl) ?_
  refine wl_val (.bool true) (by kernel_rfl) (by kernel_rfl) ?_
  refine wl_call (v := .bool true) h36 (by kernel_rfl) enter10 #[] (by kernel_rfl) (works_any w35) ?_
  intro w37 h38
  refine wl_val (.bool true) (by kernel_rfl) (by kernel_rfl) ?_
  refine wl_val (.bool true) (by kernel_rfl) (by kernel_rfl) ?_
  refine wl_nil ?_
  refine then_at (F := ⟨(.bool true :: .string c38 :: iN .i64 0 :: .string ({ data := #[] }) :: iN .i64 8 :: .string ({ data := #[] }) :: iN .i64 2 :: .string ({ data := #[] }) :: iN .i64 2 :: .string ({ data := #[] }) :: iN .i64 3 :: .string ({ data := #[] }) :: iN .i64 8 :: .string ({ data := #[] }) :: iN .i64 0 :: .string (ctrS ris (ris.extract 0 12) (zt 1048576)) :: iN .i64 0 :: .tuple #[.string c38, iN .i64 0] :: .string ris :: .tuple #[.string c38, iN .i64 0] :: .string c38 :: iN .i64 0 :: .tuple #[.string ({ data := #[] }), iN .i64 8] :: .string ris :: .string (ris.extract 1 ris.size) :: .string ris :: .string (ris.extract 0 16) :: .tuple #[.string ({ data := #[] }), iN .i64 8] :: .string ({ data := #[] }) :: iN .i64 8 :: .tuple #[.string ({ data := #[] }), iN .i64 2] :: .string ris :: .string ris :: .string (ris.extract 0 15) :: .tuple #[.string ({ data := #[] }), iN .i64 2] :: .string ({ data := #[] }) :: iN .i64 2 :: .tuple #[.string ({ data := #[] }), iN .i64 2] :: .string ris :: .string ris :: .string (ris.extract 0 11) :: .tuple #[.string ({ data := #[] }), iN .i64 2] :: .string ({ data := #[] }) :: iN .i64 2 :: .tuple #[.string ({ data := #[] }), iN .i64 3] :: .string ris :: .string ris :: .string (ris.extract 0 12) :: .slice (some ⟨u22, 0, none⟩) 1048577 1048577 :: .string (zt 1048577) :: .tuple #[.string ({ data := #[] }), iN .i64 3] :: .string ({ data := #[] }) :: iN .i64 3 :: .tuple #[.string ({ data := #[] }), iN .i64 8] :: .tuple #[.string ({ data := #[] }), iN .i64 8] :: .string ({ data := #[] }) :: iN .i64 8 :: .tuple #[.string ({ data := #[] }), iN .i64 0] :: .string ris :: .string ris :: .string (ris.extract 0 12) :: .tuple #[.string ({ data := #[] }), iN .i64 0] :: .string ({ data := #[] }) :: iN .i64 0 :: .tuple #[.string (ctrS ris (ris.extract 0 12) (zt 1048576)), iN .i64 0] :: .string ris :: .string ris :: .string (ris.extract 0 12) :: .slice (some ⟨u34, 0, none⟩) 1048576 1048576 :: .string (zt 1048576) :: .tuple #[.string (ctrS ris (ris.extract 0 12) (zt 1048576)), iN .i64 0] :: .string (ctrS ris (ris.extract 0 12) (zt 1048576)) :: iN .i64 0 :: iN .i64 0 :: .bool false :: .bool false :: .string (ctrS ris (ris.extract 0 12) (zt 1048576)) :: iN .i64 ((ctrS ris (ris.extract 0 12) (zt 1048576)).size) :: .bool false :: .bool false :: iN .i64 0 :: .bool true :: .bool true :: .string c38 :: .string (⟨(hexQ (bl c38) c38.size).toArray⟩) :: .bool true :: .bool true :: .bool true :: iN .i64 8 :: .bool true :: .bool true :: .bool true :: iN .i64 2 :: .bool true :: .bool true :: .bool true :: iN .i64 2 :: .bool true :: .bool true :: .bool true :: iN .i64 3 :: .bool true :: .bool true :: .bool true :: iN .i64 8 :: .bool true :: .bool true :: .bool true :: iN .i64 0 :: .bool true :: .bool true :: .bool true :: .string ({ data := #[] }) :: .bool true :: .bool true :: .bool true :: .bool true :: .bool true :: List.replicate 0 un).toArray, []⟩) (by kernel_rfl) ?_
  refine wp_ret ?_
  repeat first | refine then_ret ?_ | refine block_ret ?_
  exact bodyPost_ret (v := .bool true) (by kernel_rfl) rfl ⟨rfl, h38.old⟩
end Go.Proofs.Ythljhhhjdajfhaa
