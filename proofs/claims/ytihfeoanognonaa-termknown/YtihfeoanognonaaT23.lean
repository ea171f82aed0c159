/-
  TermKnown.
-/
import Derived.Test.YtihfeoanognonaaT22
namespace Go.Proofs.Ytihfeoanognonaa
open Go.RowKit

theorem TH.drew {w0 w : World} {M : ML} {t : Tb} {es : List Ent} {L : BL} (H : TH w0 M t es L w) : TH w0 M t es L w.drew := by
  obtain ⟨v, Lr, hR, H⟩ := H
  exact ⟨v, Lr, hR, H.drew⟩
set_option maxRecDepth 100000 in
def zT23_0 (tb : Tb) (zt : List Value) := (.bool false :: pt tb.q :: un :: un :: un :: un :: un :: un :: un :: un :: un :: un :: un :: un :: un :: un :: un :: un :: un :: un :: un :: un :: un :: un :: un :: un :: un :: un :: un :: un :: un :: un :: un :: un :: un :: un :: un :: un :: un :: un :: pt tb.q :: zt : List Value)
set_option maxRecDepth 100000 in
def zT23_1 (tb : Tb) q16 q32 (zx2 zx3 zx4 zx5 : Value) (zt : List Value) := (.bool false :: pt tb.q :: zx2 :: zx3 :: zx4 :: zx5 :: un :: un :: un :: un :: un :: un :: un :: un :: un :: un :: un :: un :: un :: un :: un :: un :: un :: un :: un :: un :: un :: un :: un :: un :: un :: un :: un :: un :: un :: un :: un :: un :: un :: un :: pt tb.q :: pt tb.q :: .bool false :: pt tb.q :: .string (txt 0) :: pt tb.q :: .string (txt 1) :: pt tb.q :: .string (txt 0) :: .slice (some ⟨q16, 0, none⟩) 1 1 :: .tuple #[.string (txt 2), iN .i64 0] :: pt tb.q :: .string (txt 1) :: .slice (some ⟨q32, 0, none⟩) 1 1 :: .tuple #[.string (txt 3), iN .i64 0] :: zt : List Value)
set_option maxRecDepth 100000 in
def zT23_2 (tb : Tb) q16 q32 q51 q67 q86 (zx6 zx7 zx8 : Value) (zt : List Value) := (.bool false :: pt tb.q :: .string (txt 5) :: iN .i64 0 :: .string (txt 9) :: iN .i64 0 :: zx6 :: zx7 :: zx8 :: un :: un :: un :: un :: un :: un :: un :: un :: un :: un :: un :: un :: un :: un :: un :: un :: un :: un :: un :: un :: un :: un :: un :: un :: un :: un :: un :: un :: un :: un :: un :: pt tb.q :: pt tb.q :: .bool false :: pt tb.q :: .string (txt 0) :: pt tb.q :: .string (txt 1) :: pt tb.q :: .string (txt 0) :: .slice (some ⟨q16, 0, none⟩) 1 1 :: .tuple #[.string (txt 2), iN .i64 0] :: pt tb.q :: .string (txt 1) :: .slice (some ⟨q32, 0, none⟩) 1 1 :: .tuple #[.string (txt 3), iN .i64 0] :: pt tb.q :: .string (txt 0) :: .string (txt 3) :: .slice (some ⟨q51, 0, none⟩) 2 2 :: .tuple #[.string (txt 4), iN .i64 0] :: .tuple #[.string (txt 5), iN .i64 0] :: pt tb.q :: .string (txt 4) :: .slice (some ⟨q67, 0, none⟩) 1 1 :: .tuple #[.string (txt 5), iN .i64 0] :: .string (txt 5) :: iN .i64 0 :: .tuple #[.string (txt 9), iN .i64 0] :: pt tb.q :: .string (txt 5) :: .string (txt 0) :: .string xS :: .slice (some ⟨q86, 0, none⟩) 4 4 :: .tuple #[.string (txt 9), iN .i64 0] :: .string (txt 9) :: iN .i64 0 :: iN .i64 0 :: .bool false :: .bool false :: .string (txt 5) :: .string (txt 5) :: .bool false :: .bool false :: .bool false :: iN .i64 0 :: .bool false :: .bool false :: .bool false :: .string (txt 9) :: .string (txt 9) :: .bool false :: .bool false :: zt : List Value)
set_option maxRecDepth 100000 in
def zT23_3 (tb : Tb) q117 kb128 q16 q32 q51 q67 q86 mm108 q125 (zx9 zx10 : Value) (zt : List Value) := (.bool false :: pt tb.q :: .string (txt 5) :: iN .i64 0 :: .string (txt 9) :: iN .i64 0 :: pt q117 :: .bool true :: .slice (some ⟨kb128, 0, none⟩) 10 10 :: zx9 :: zx10 :: un :: un :: un :: un :: un :: un :: un :: un :: un :: un :: un :: un :: un :: un :: un :: un :: un :: un :: un :: un :: un :: un :: un :: un :: un :: un :: un :: un :: un :: pt tb.q :: pt tb.q :: .bool false :: pt tb.q :: .string (txt 0) :: pt tb.q :: .string (txt 1) :: pt tb.q :: .string (txt 0) :: .slice (some ⟨q16, 0, none⟩) 1 1 :: .tuple #[.string (txt 2), iN .i64 0] :: pt tb.q :: .string (txt 1) :: .slice (some ⟨q32, 0, none⟩) 1 1 :: .tuple #[.string (txt 3), iN .i64 0] :: pt tb.q :: .string (txt 0) :: .string (txt 3) :: .slice (some ⟨q51, 0, none⟩) 2 2 :: .tuple #[.string (txt 4), iN .i64 0] :: .tuple #[.string (txt 5), iN .i64 0] :: pt tb.q :: .string (txt 4) :: .slice (some ⟨q67, 0, none⟩) 1 1 :: .tuple #[.string (txt 5), iN .i64 0] :: .string (txt 5) :: iN .i64 0 :: .tuple #[.string (txt 9), iN .i64 0] :: pt tb.q :: .string (txt 5) :: .string (txt 0) :: .string xS :: .slice (some ⟨q86, 0, none⟩) 4 4 :: .tuple #[.string (txt 9), iN .i64 0] :: .string (txt 9) :: iN .i64 0 :: iN .i64 0 :: .bool false :: .bool false :: .string (txt 5) :: .string (txt 5) :: .bool false :: .bool false :: .bool false :: iN .i64 0 :: .bool false :: .bool false :: .bool false :: .string (txt 9) :: .string (txt 9) :: .bool false :: .bool false :: .tuple #[.agg #[iN .i64 4, iN .i64 0, .string ({ data := #[] }), .slice (some ⟨(unp mm108).1, 0, none⟩) 2 (unp mm108).2], .bool true] :: pt tb.q :: .string (txt 4) :: .tuple #[.agg #[iN .i64 4, iN .i64 0, .string ({ data := #[] }), .slice (some ⟨(unp mm108).1, 0, none⟩) 2 (unp mm108).2], .bool true] :: .agg #[iN .i64 4, iN .i64 0, .string ({ data := #[] }), .slice (some ⟨(unp mm108).1, 0, none⟩) 2 (unp mm108).2] :: .bool true :: pt tb.q :: .string (txt 0) :: .slice (some ⟨q125, 0, none⟩) 1 1 :: .slice (some ⟨kb128, 0, none⟩) 10 10 :: .slice (some ⟨kb128, 0, none⟩) 10 10 :: iN .i64 10 :: .bool false :: .bool false :: .slice (some ⟨kb128, 0, none⟩) 10 10 :: pt kb128 :: .bool true :: .bool false :: .bool false :: .bool false :: .slice (some ⟨kb128, 0, none⟩) 10 10 :: .pointer (some ⟨kb128, 3, none⟩) :: .bool false :: .bool false :: .bool false :: .slice (some ⟨kb128, 0, none⟩) 10 10 :: .pointer (some ⟨kb128, 4, none⟩) :: .bool false :: .bool false :: zt : List Value)
set_option maxRecDepth 100000 in
def zT23_4 (tb : Tb) q117 kb128 kb137 kb155 q16 q32 q51 q67 q86 mm108 q125 q152 (zx11 : Value) (zt : List Value) := (.bool false :: pt tb.q :: .string (txt 5) :: iN .i64 0 :: .string (txt 9) :: iN .i64 0 :: pt q117 :: .bool true :: .slice (some ⟨kb128, 0, none⟩) 10 10 :: .slice (some ⟨kb137, 0, none⟩) 10 10 :: .slice (some ⟨kb155, 0, none⟩) 10 10 :: zx11 :: un :: un :: un :: un :: un :: un :: un :: un :: un :: un :: un :: un :: un :: un :: un :: un :: un :: un :: un :: un :: un :: un :: un :: un :: un :: un :: un :: un :: pt tb.q :: pt tb.q :: .bool false :: pt tb.q :: .string (txt 0) :: pt tb.q :: .string (txt 1) :: pt tb.q :: .string (txt 0) :: .slice (some ⟨q16, 0, none⟩) 1 1 :: .tuple #[.string (txt 2), iN .i64 0] :: pt tb.q :: .string (txt 1) :: .slice (some ⟨q32, 0, none⟩) 1 1 :: .tuple #[.string (txt 3), iN .i64 0] :: pt tb.q :: .string (txt 0) :: .string (txt 3) :: .slice (some ⟨q51, 0, none⟩) 2 2 :: .tuple #[.string (txt 4), iN .i64 0] :: .tuple #[.string (txt 5), iN .i64 0] :: pt tb.q :: .string (txt 4) :: .slice (some ⟨q67, 0, none⟩) 1 1 :: .tuple #[.string (txt 5), iN .i64 0] :: .string (txt 5) :: iN .i64 0 :: .tuple #[.string (txt 9), iN .i64 0] :: pt tb.q :: .string (txt 5) :: .string (txt 0) :: .string xS :: .slice (some ⟨q86, 0, none⟩) 4 4 :: .tuple #[.string (txt 9), iN .i64 0] :: .string (txt 9) :: iN .i64 0 :: iN .i64 0 :: .bool false :: .bool false :: .string (txt 5) :: .string (txt 5) :: .bool false :: .bool false :: .bool false :: iN .i64 0 :: .bool false :: .bool false :: .bool false :: .string (txt 9) :: .string (txt 9) :: .bool false :: .bool false :: .tuple #[.agg #[iN .i64 4, iN .i64 0, .string ({ data := #[] }), .slice (some ⟨(unp mm108).1, 0, none⟩) 2 (unp mm108).2], .bool true] :: pt tb.q :: .string (txt 4) :: .tuple #[.agg #[iN .i64 4, iN .i64 0, .string ({ data := #[] }), .slice (some ⟨(unp mm108).1, 0, none⟩) 2 (unp mm108).2], .bool true] :: .agg #[iN .i64 4, iN .i64 0, .string ({ data := #[] }), .slice (some ⟨(unp mm108).1, 0, none⟩) 2 (unp mm108).2] :: .bool true :: pt tb.q :: .string (txt 0) :: .slice (some ⟨q125, 0, none⟩) 1 1 :: .slice (some ⟨kb128, 0, none⟩) 10 10 :: .slice (some ⟨kb128, 0, none⟩) 10 10 :: iN .i64 10 :: .bool false :: .bool false :: .slice (some ⟨kb128, 0, none⟩) 10 10 :: pt kb128 :: .bool true :: .bool false :: .bool false :: .bool false :: .slice (some ⟨kb128, 0, none⟩) 10 10 :: .pointer (some ⟨kb128, 3, none⟩) :: .bool false :: .bool false :: .bool false :: .slice (some ⟨kb128, 0, none⟩) 10 10 :: .pointer (some ⟨kb128, 4, none⟩) :: .bool false :: .bool false :: pt tb.q :: .slice (some ⟨kb137, 0, none⟩) 10 10 :: pt tb.q :: .string (txt 0) :: .string (txt 3) :: .string cS :: .slice (some ⟨q152, 0, none⟩) 1 1 :: .slice (some ⟨kb155, 0, none⟩) 10 10 :: .bool true :: .bool false :: .bool false :: pt q117 :: iN .i64 4 :: .bool false :: .bool false :: .bool false :: .pointer (some ⟨q117, 1, none⟩) :: iN .i64 0 :: .bool false :: .bool false :: .bool false :: .pointer (some ⟨q117, 3, none⟩) :: .slice (some ⟨(unp mm108).1, 0, none⟩) 2 (unp mm108).2 :: iN .i64 2 :: .bool false :: .bool false :: .bool false :: .pointer (some ⟨q117, 3, none⟩) :: .slice (some ⟨(unp mm108).1, 0, none⟩) 2 (unp mm108).2 :: pt ((unp mm108).1) :: iN .i64 0 :: .bool false :: .bool false :: .bool false :: .pointer (some ⟨q117, 3, none⟩) :: .slice (some ⟨(unp mm108).1, 0, none⟩) 2 (unp mm108).2 :: .pointer (some ⟨(unp mm108).1, 1, none⟩) :: iN .i64 1 :: .bool false :: .bool false :: .bool false :: .slice (some ⟨kb137, 0, none⟩) 10 10 :: iN .i64 10 :: .bool false :: .bool false :: .bool false :: .slice (some ⟨kb155, 0, none⟩) 10 10 :: iN .i64 10 :: .bool false :: .bool false :: zt : List Value)
set_option maxRecDepth 100000 in
def zT23_5 (tb : Tb) q117 kb128 kb137 kb155 q16 q32 q51 q67 q86 mm108 q125 q152 (zx11 zx171 zx173 zx174 zx176 zx177 zx179 zx182 zx188 zx189 zx190 zx191 zx192 : Value) (zt : List Value) := (.bool false :: pt tb.q :: .string (txt 5) :: iN .i64 0 :: .string (txt 9) :: iN .i64 0 :: pt q117 :: .bool true :: .slice (some ⟨kb128, 0, none⟩) 10 10 :: .slice (some ⟨kb137, 0, none⟩) 10 10 :: .slice (some ⟨kb155, 0, none⟩) 10 10 :: zx11 :: un :: un :: un :: un :: un :: un :: un :: un :: un :: un :: un :: un :: un :: un :: un :: un :: un :: un :: un :: un :: un :: un :: un :: un :: un :: un :: un :: un :: pt tb.q :: pt tb.q :: .bool false :: pt tb.q :: .string (txt 0) :: pt tb.q :: .string (txt 1) :: pt tb.q :: .string (txt 0) :: .slice (some ⟨q16, 0, none⟩) 1 1 :: .tuple #[.string (txt 2), iN .i64 0] :: pt tb.q :: .string (txt 1) :: .slice (some ⟨q32, 0, none⟩) 1 1 :: .tuple #[.string (txt 3), iN .i64 0] :: pt tb.q :: .string (txt 0) :: .string (txt 3) :: .slice (some ⟨q51, 0, none⟩) 2 2 :: .tuple #[.string (txt 4), iN .i64 0] :: .tuple #[.string (txt 5), iN .i64 0] :: pt tb.q :: .string (txt 4) :: .slice (some ⟨q67, 0, none⟩) 1 1 :: .tuple #[.string (txt 5), iN .i64 0] :: .string (txt 5) :: iN .i64 0 :: .tuple #[.string (txt 9), iN .i64 0] :: pt tb.q :: .string (txt 5) :: .string (txt 0) :: .string xS :: .slice (some ⟨q86, 0, none⟩) 4 4 :: .tuple #[.string (txt 9), iN .i64 0] :: .string (txt 9) :: iN .i64 0 :: iN .i64 0 :: .bool false :: .bool false :: .string (txt 5) :: .string (txt 5) :: .bool false :: .bool false :: .bool false :: iN .i64 0 :: .bool false :: .bool false :: .bool false :: .string (txt 9) :: .string (txt 9) :: .bool false :: .bool false :: .tuple #[.agg #[iN .i64 4, iN .i64 0, .string ({ data := #[] }), .slice (some ⟨(unp mm108).1, 0, none⟩) 2 (unp mm108).2], .bool true] :: pt tb.q :: .string (txt 4) :: .tuple #[.agg #[iN .i64 4, iN .i64 0, .string ({ data := #[] }), .slice (some ⟨(unp mm108).1, 0, none⟩) 2 (unp mm108).2], .bool true] :: .agg #[iN .i64 4, iN .i64 0, .string ({ data := #[] }), .slice (some ⟨(unp mm108).1, 0, none⟩) 2 (unp mm108).2] :: .bool true :: pt tb.q :: .string (txt 0) :: .slice (some ⟨q125, 0, none⟩) 1 1 :: .slice (some ⟨kb128, 0, none⟩) 10 10 :: .slice (some ⟨kb128, 0, none⟩) 10 10 :: iN .i64 10 :: .bool false :: .bool false :: .slice (some ⟨kb128, 0, none⟩) 10 10 :: pt kb128 :: .bool true :: .bool false :: .bool false :: .bool false :: .slice (some ⟨kb128, 0, none⟩) 10 10 :: .pointer (some ⟨kb128, 3, none⟩) :: .bool false :: .bool false :: .bool false :: .slice (some ⟨kb128, 0, none⟩) 10 10 :: .pointer (some ⟨kb128, 4, none⟩) :: .bool false :: .bool false :: pt tb.q :: .slice (some ⟨kb137, 0, none⟩) 10 10 :: pt tb.q :: .string (txt 0) :: .string (txt 3) :: .string cS :: .slice (some ⟨q152, 0, none⟩) 1 1 :: .slice (some ⟨kb155, 0, none⟩) 10 10 :: .bool true :: .bool false :: .bool false :: pt q117 :: iN .i64 4 :: .bool false :: .bool false :: .bool false :: .pointer (some ⟨q117, 1, none⟩) :: iN .i64 0 :: .bool false :: .bool false :: .bool false :: .pointer (some ⟨q117, 3, none⟩) :: .slice (some ⟨(unp mm108).1, 0, none⟩) 2 (unp mm108).2 :: iN .i64 2 :: .bool false :: .bool false :: .bool false :: .pointer (some ⟨q117, 3, none⟩) :: .slice (some ⟨(unp mm108).1, 0, none⟩) 2 (unp mm108).2 :: pt ((unp mm108).1) :: iN .i64 0 :: .bool false :: .bool false :: .bool false :: .pointer (some ⟨q117, 3, none⟩) :: .slice (some ⟨(unp mm108).1, 0, none⟩) 2 (unp mm108).2 :: .pointer (some ⟨(unp mm108).1, 1, none⟩) :: iN .i64 1 :: .bool false :: .bool false :: .bool false :: .slice (some ⟨kb137, 0, none⟩) 10 10 :: iN .i64 10 :: .bool false :: .bool false :: .bool false :: .slice (some ⟨kb155, 0, none⟩) 10 10 :: iN .i64 10 :: .bool false :: .bool false :: zx171 :: .bool true :: zx173 :: zx174 :: .slice (some ⟨kb137, 0, none⟩) 10 10 :: zx176 :: zx177 :: .bool false :: zx179 :: .bool false :: .bool false :: zx182 :: .bool false :: .bool false :: .bool false :: .bool false :: .slice (some ⟨kb155, 0, none⟩) 10 10 :: zx188 :: zx189 :: zx190 :: zx191 :: zx192 :: .bool false :: .bool false :: zt : List Value)
set_option maxRecDepth 100000 in
def zT23_6 (tb : Tb) q117 kb128 kb137 kb155 q16 q32 q51 q67 q86 mm108 q125 q152 (zx11 zx171 zx173 zx174 zx176 zx177 zx179 zx182 zx188 zx189 zx191 : Value) (zt : List Value) := (.bool false :: pt tb.q :: .string (txt 5) :: iN .i64 0 :: .string (txt 9) :: iN .i64 0 :: pt q117 :: .bool true :: .slice (some ⟨kb128, 0, none⟩) 10 10 :: .slice (some ⟨kb137, 0, none⟩) 10 10 :: .slice (some ⟨kb155, 0, none⟩) 10 10 :: zx11 :: un :: un :: un :: un :: un :: un :: un :: un :: un :: un :: un :: un :: un :: un :: un :: un :: un :: un :: un :: un :: un :: un :: un :: un :: un :: un :: un :: un :: pt tb.q :: pt tb.q :: .bool false :: pt tb.q :: .string (txt 0) :: pt tb.q :: .string (txt 1) :: pt tb.q :: .string (txt 0) :: .slice (some ⟨q16, 0, none⟩) 1 1 :: .tuple #[.string (txt 2), iN .i64 0] :: pt tb.q :: .string (txt 1) :: .slice (some ⟨q32, 0, none⟩) 1 1 :: .tuple #[.string (txt 3), iN .i64 0] :: pt tb.q :: .string (txt 0) :: .string (txt 3) :: .slice (some ⟨q51, 0, none⟩) 2 2 :: .tuple #[.string (txt 4), iN .i64 0] :: .tuple #[.string (txt 5), iN .i64 0] :: pt tb.q :: .string (txt 4) :: .slice (some ⟨q67, 0, none⟩) 1 1 :: .tuple #[.string (txt 5), iN .i64 0] :: .string (txt 5) :: iN .i64 0 :: .tuple #[.string (txt 9), iN .i64 0] :: pt tb.q :: .string (txt 5) :: .string (txt 0) :: .string xS :: .slice (some ⟨q86, 0, none⟩) 4 4 :: .tuple #[.string (txt 9), iN .i64 0] :: .string (txt 9) :: iN .i64 0 :: iN .i64 0 :: .bool false :: .bool false :: .string (txt 5) :: .string (txt 5) :: .bool false :: .bool false :: .bool false :: iN .i64 0 :: .bool false :: .bool false :: .bool false :: .string (txt 9) :: .string (txt 9) :: .bool false :: .bool false :: .tuple #[.agg #[iN .i64 4, iN .i64 0, .string ({ data := #[] }), .slice (some ⟨(unp mm108).1, 0, none⟩) 2 (unp mm108).2], .bool true] :: pt tb.q :: .string (txt 4) :: .tuple #[.agg #[iN .i64 4, iN .i64 0, .string ({ data := #[] }), .slice (some ⟨(unp mm108).1, 0, none⟩) 2 (unp mm108).2], .bool true] :: .agg #[iN .i64 4, iN .i64 0, .string ({ data := #[] }), .slice (some ⟨(unp mm108).1, 0, none⟩) 2 (unp mm108).2] :: .bool true :: pt tb.q :: .string (txt 0) :: .slice (some ⟨q125, 0, none⟩) 1 1 :: .slice (some ⟨kb128, 0, none⟩) 10 10 :: .slice (some ⟨kb128, 0, none⟩) 10 10 :: iN .i64 10 :: .bool false :: .bool false :: .slice (some ⟨kb128, 0, none⟩) 10 10 :: pt kb128 :: .bool true :: .bool false :: .bool false :: .bool false :: .slice (some ⟨kb128, 0, none⟩) 10 10 :: .pointer (some ⟨kb128, 3, none⟩) :: .bool false :: .bool false :: .bool false :: .slice (some ⟨kb128, 0, none⟩) 10 10 :: .pointer (some ⟨kb128, 4, none⟩) :: .bool false :: .bool false :: pt tb.q :: .slice (some ⟨kb137, 0, none⟩) 10 10 :: pt tb.q :: .string (txt 0) :: .string (txt 3) :: .string cS :: .slice (some ⟨q152, 0, none⟩) 1 1 :: .slice (some ⟨kb155, 0, none⟩) 10 10 :: .bool true :: .bool false :: .bool false :: pt q117 :: iN .i64 4 :: .bool false :: .bool false :: .bool false :: .pointer (some ⟨q117, 1, none⟩) :: iN .i64 0 :: .bool false :: .bool false :: .bool false :: .pointer (some ⟨q117, 3, none⟩) :: .slice (some ⟨(unp mm108).1, 0, none⟩) 2 (unp mm108).2 :: iN .i64 2 :: .bool false :: .bool false :: .bool false :: .pointer (some ⟨q117, 3, none⟩) :: .slice (some ⟨(unp mm108).1, 0, none⟩) 2 (unp mm108).2 :: pt ((unp mm108).1) :: iN .i64 0 :: .bool false :: .bool false :: .bool false :: .pointer (some ⟨q117, 3, none⟩) :: .slice (some ⟨(unp mm108).1, 0, none⟩) 2 (unp mm108).2 :: .pointer (some ⟨(unp mm108).1, 1, none⟩) :: iN .i64 1 :: .bool false :: .bool false :: .bool false :: .slice (some ⟨kb137, 0, none⟩) 10 10 :: iN .i64 10 :: .bool false :: .bool false :: .bool false :: .slice (some ⟨kb155, 0, none⟩) 10 10 :: iN .i64 10 :: .bool false :: .bool false :: zx171 :: .bool true :: zx173 :: zx174 :: .slice (some ⟨kb137, 0, none⟩) 10 10 :: zx176 :: zx177 :: .bool false :: zx179 :: .bool false :: .bool false :: zx182 :: .bool false :: .bool false :: .bool false :: .bool false :: .slice (some ⟨kb155, 0, none⟩) 10 10 :: zx188 :: zx189 :: .bool true :: zx191 :: .bool true :: .bool false :: .bool false :: zt : List Value)
set_option maxRecDepth 100000 in
def zT23_7 (tb : Tb) q117 kb128 kb137 kb155 q16 q32 q51 q67 q86 mm108 q125 q152 (zx11 zx171 zx173 zx174 zx176 zx177 zx178 zx179 zx180 zx181 zx182 zx183 zx184 zx188 zx189 zx191 : Value) (zt : List Value) := (.bool false :: pt tb.q :: .string (txt 5) :: iN .i64 0 :: .string (txt 9) :: iN .i64 0 :: pt q117 :: .bool true :: .slice (some ⟨kb128, 0, none⟩) 10 10 :: .slice (some ⟨kb137, 0, none⟩) 10 10 :: .slice (some ⟨kb155, 0, none⟩) 10 10 :: zx11 :: un :: un :: un :: un :: un :: un :: un :: un :: un :: un :: un :: un :: un :: un :: un :: un :: un :: un :: un :: un :: un :: un :: un :: un :: un :: un :: un :: un :: pt tb.q :: pt tb.q :: .bool false :: pt tb.q :: .string (txt 0) :: pt tb.q :: .string (txt 1) :: pt tb.q :: .string (txt 0) :: .slice (some ⟨q16, 0, none⟩) 1 1 :: .tuple #[.string (txt 2), iN .i64 0] :: pt tb.q :: .string (txt 1) :: .slice (some ⟨q32, 0, none⟩) 1 1 :: .tuple #[.string (txt 3), iN .i64 0] :: pt tb.q :: .string (txt 0) :: .string (txt 3) :: .slice (some ⟨q51, 0, none⟩) 2 2 :: .tuple #[.string (txt 4), iN .i64 0] :: .tuple #[.string (txt 5), iN .i64 0] :: pt tb.q :: .string (txt 4) :: .slice (some ⟨q67, 0, none⟩) 1 1 :: .tuple #[.string (txt 5), iN .i64 0] :: .string (txt 5) :: iN .i64 0 :: .tuple #[.string (txt 9), iN .i64 0] :: pt tb.q :: .string (txt 5) :: .string (txt 0) :: .string xS :: .slice (some ⟨q86, 0, none⟩) 4 4 :: .tuple #[.string (txt 9), iN .i64 0] :: .string (txt 9) :: iN .i64 0 :: iN .i64 0 :: .bool false :: .bool false :: .string (txt 5) :: .string (txt 5) :: .bool false :: .bool false :: .bool false :: iN .i64 0 :: .bool false :: .bool false :: .bool false :: .string (txt 9) :: .string (txt 9) :: .bool false :: .bool false :: .tuple #[.agg #[iN .i64 4, iN .i64 0, .string ({ data := #[] }), .slice (some ⟨(unp mm108).1, 0, none⟩) 2 (unp mm108).2], .bool true] :: pt tb.q :: .string (txt 4) :: .tuple #[.agg #[iN .i64 4, iN .i64 0, .string ({ data := #[] }), .slice (some ⟨(unp mm108).1, 0, none⟩) 2 (unp mm108).2], .bool true] :: .agg #[iN .i64 4, iN .i64 0, .string ({ data := #[] }), .slice (some ⟨(unp mm108).1, 0, none⟩) 2 (unp mm108).2] :: .bool true :: pt tb.q :: .string (txt 0) :: .slice (some ⟨q125, 0, none⟩) 1 1 :: .slice (some ⟨kb128, 0, none⟩) 10 10 :: .slice (some ⟨kb128, 0, none⟩) 10 10 :: iN .i64 10 :: .bool false :: .bool false :: .slice (some ⟨kb128, 0, none⟩) 10 10 :: pt kb128 :: .bool true :: .bool false :: .bool false :: .bool false :: .slice (some ⟨kb128, 0, none⟩) 10 10 :: .pointer (some ⟨kb128, 3, none⟩) :: .bool false :: .bool false :: .bool false :: .slice (some ⟨kb128, 0, none⟩) 10 10 :: .pointer (some ⟨kb128, 4, none⟩) :: .bool false :: .bool false :: pt tb.q :: .slice (some ⟨kb137, 0, none⟩) 10 10 :: pt tb.q :: .string (txt 0) :: .string (txt 3) :: .string cS :: .slice (some ⟨q152, 0, none⟩) 1 1 :: .slice (some ⟨kb155, 0, none⟩) 10 10 :: .bool true :: .bool false :: .bool false :: pt q117 :: iN .i64 4 :: .bool false :: .bool false :: .bool false :: .pointer (some ⟨q117, 1, none⟩) :: iN .i64 0 :: .bool false :: .bool false :: .bool false :: .pointer (some ⟨q117, 3, none⟩) :: .slice (some ⟨(unp mm108).1, 0, none⟩) 2 (unp mm108).2 :: iN .i64 2 :: .bool false :: .bool false :: .bool false :: .pointer (some ⟨q117, 3, none⟩) :: .slice (some ⟨(unp mm108).1, 0, none⟩) 2 (unp mm108).2 :: pt ((unp mm108).1) :: iN .i64 0 :: .bool false :: .bool false :: .bool false :: .pointer (some ⟨q117, 3, none⟩) :: .slice (some ⟨(unp mm108).1, 0, none⟩) 2 (unp mm108).2 :: .pointer (some ⟨(unp mm108).1, 1, none⟩) :: iN .i64 1 :: .bool false :: .bool false :: .bool false :: .slice (some ⟨kb137, 0, none⟩) 10 10 :: iN .i64 10 :: .bool false :: .bool false :: .bool false :: .slice (some ⟨kb155, 0, none⟩) 10 10 :: iN .i64 10 :: .bool false :: .bool false :: zx171 :: .bool true :: zx173 :: zx174 :: .slice (some ⟨kb137, 0, none⟩) 10 10 :: zx176 :: zx177 :: zx178 :: zx179 :: zx180 :: zx181 :: zx182 :: zx183 :: zx184 :: .bool false :: .bool false :: .slice (some ⟨kb155, 0, none⟩) 10 10 :: zx188 :: zx189 :: .bool true :: zx191 :: .bool true :: .bool false :: .bool false :: zt : List Value)
set_option maxRecDepth 100000 in
def zT23_8 (tb : Tb) q117 kb128 kb137 kb155 q16 q32 q51 q67 q86 mm108 q125 q152 (zx11 zx12 zx13 zx171 zx172 zx173 zx174 : Value) (zt : List Value) := (.bool false :: pt tb.q :: .string (txt 5) :: iN .i64 0 :: .string (txt 9) :: iN .i64 0 :: pt q117 :: .bool true :: .slice (some ⟨kb128, 0, none⟩) 10 10 :: .slice (some ⟨kb137, 0, none⟩) 10 10 :: .slice (some ⟨kb155, 0, none⟩) 10 10 :: zx11 :: zx12 :: zx13 :: un :: un :: un :: un :: un :: un :: un :: un :: un :: un :: un :: un :: un :: un :: un :: un :: un :: un :: un :: un :: un :: un :: un :: un :: un :: un :: pt tb.q :: pt tb.q :: .bool false :: pt tb.q :: .string (txt 0) :: pt tb.q :: .string (txt 1) :: pt tb.q :: .string (txt 0) :: .slice (some ⟨q16, 0, none⟩) 1 1 :: .tuple #[.string (txt 2), iN .i64 0] :: pt tb.q :: .string (txt 1) :: .slice (some ⟨q32, 0, none⟩) 1 1 :: .tuple #[.string (txt 3), iN .i64 0] :: pt tb.q :: .string (txt 0) :: .string (txt 3) :: .slice (some ⟨q51, 0, none⟩) 2 2 :: .tuple #[.string (txt 4), iN .i64 0] :: .tuple #[.string (txt 5), iN .i64 0] :: pt tb.q :: .string (txt 4) :: .slice (some ⟨q67, 0, none⟩) 1 1 :: .tuple #[.string (txt 5), iN .i64 0] :: .string (txt 5) :: iN .i64 0 :: .tuple #[.string (txt 9), iN .i64 0] :: pt tb.q :: .string (txt 5) :: .string (txt 0) :: .string xS :: .slice (some ⟨q86, 0, none⟩) 4 4 :: .tuple #[.string (txt 9), iN .i64 0] :: .string (txt 9) :: iN .i64 0 :: iN .i64 0 :: .bool false :: .bool false :: .string (txt 5) :: .string (txt 5) :: .bool false :: .bool false :: .bool false :: iN .i64 0 :: .bool false :: .bool false :: .bool false :: .string (txt 9) :: .string (txt 9) :: .bool false :: .bool false :: .tuple #[.agg #[iN .i64 4, iN .i64 0, .string ({ data := #[] }), .slice (some ⟨(unp mm108).1, 0, none⟩) 2 (unp mm108).2], .bool true] :: pt tb.q :: .string (txt 4) :: .tuple #[.agg #[iN .i64 4, iN .i64 0, .string ({ data := #[] }), .slice (some ⟨(unp mm108).1, 0, none⟩) 2 (unp mm108).2], .bool true] :: .agg #[iN .i64 4, iN .i64 0, .string ({ data := #[] }), .slice (some ⟨(unp mm108).1, 0, none⟩) 2 (unp mm108).2] :: .bool true :: pt tb.q :: .string (txt 0) :: .slice (some ⟨q125, 0, none⟩) 1 1 :: .slice (some ⟨kb128, 0, none⟩) 10 10 :: .slice (some ⟨kb128, 0, none⟩) 10 10 :: iN .i64 10 :: .bool false :: .bool false :: .slice (some ⟨kb128, 0, none⟩) 10 10 :: pt kb128 :: .bool true :: .bool false :: .bool false :: .bool false :: .slice (some ⟨kb128, 0, none⟩) 10 10 :: .pointer (some ⟨kb128, 3, none⟩) :: .bool false :: .bool false :: .bool false :: .slice (some ⟨kb128, 0, none⟩) 10 10 :: .pointer (some ⟨kb128, 4, none⟩) :: .bool false :: .bool false :: pt tb.q :: .slice (some ⟨kb137, 0, none⟩) 10 10 :: pt tb.q :: .string (txt 0) :: .string (txt 3) :: .string cS :: .slice (some ⟨q152, 0, none⟩) 1 1 :: .slice (some ⟨kb155, 0, none⟩) 10 10 :: .bool true :: .bool false :: .bool false :: pt q117 :: iN .i64 4 :: .bool false :: .bool false :: .bool false :: .pointer (some ⟨q117, 1, none⟩) :: iN .i64 0 :: .bool false :: .bool false :: .bool false :: .pointer (some ⟨q117, 3, none⟩) :: .slice (some ⟨(unp mm108).1, 0, none⟩) 2 (unp mm108).2 :: iN .i64 2 :: .bool false :: .bool false :: .bool false :: .pointer (some ⟨q117, 3, none⟩) :: .slice (some ⟨(unp mm108).1, 0, none⟩) 2 (unp mm108).2 :: pt ((unp mm108).1) :: iN .i64 0 :: .bool false :: .bool false :: .bool false :: .pointer (some ⟨q117, 3, none⟩) :: .slice (some ⟨(unp mm108).1, 0, none⟩) 2 (unp mm108).2 :: .pointer (some ⟨(unp mm108).1, 1, none⟩) :: iN .i64 1 :: .bool false :: .bool false :: .bool false :: .slice (some ⟨kb137, 0, none⟩) 10 10 :: iN .i64 10 :: .bool false :: .bool false :: .bool false :: .slice (some ⟨kb155, 0, none⟩) 10 10 :: iN .i64 10 :: .bool false :: .bool false :: zx171 :: zx172 :: zx173 :: zx174 :: .slice (some ⟨kb137, 0, none⟩) 10 10 :: iN .i64 (((((((((0 + 1) + 1) + 1) + 1) + 1) + 1) + 1) + 1) + 1) :: .pointer (some ⟨kb137, ((((((((0 + 1) + 1) + 1) + 1) + 1) + 1) + 1) + 1) + 1, none⟩) :: .bool false :: iN .i64 (((((((((0 + 1) + 1) + 1) + 1) + 1) + 1) + 1) + 1) + 1) :: .bool false :: .bool false :: iN .i64 (((((((((0 + 1) + 1) + 1) + 1) + 1) + 1) + 1) + 1) + 1) :: .bool false :: .bool false :: .bool false :: .bool false :: .slice (some ⟨kb155, 0, none⟩) 10 10 :: iN .i64 (((((((((0 + 1) + 1) + 1) + 1) + 1) + 1) + 1) + 1) + 1) :: .pointer (some ⟨kb155, ((((((((0 + 1) + 1) + 1) + 1) + 1) + 1) + 1) + 1) + 1, none⟩) :: .bool true :: iN .i64 (((((((((0 + 1) + 1) + 1) + 1) + 1) + 1) + 1) + 1) + 1) :: .bool true :: .bool false :: .bool false :: zt : List Value)
set_option maxRecDepth 100000 in
def zT23_9 (tb : Tb) q117 kb128 kb137 kb155 q189 q16 q32 q51 q67 q86 mm108 q125 q152 q167 mm180 (zx14 zx15 zx16 zx17 zx18 zx19 zx20 zx21 zx22 zx23 zx24 zx25 zx26 zx27 : Value) (zt : List Value) := (.bool false :: pt tb.q :: .string (txt 5) :: iN .i64 0 :: .string (txt 9) :: iN .i64 0 :: pt q117 :: .bool true :: .slice (some ⟨kb128, 0, none⟩) 10 10 :: .slice (some ⟨kb137, 0, none⟩) 10 10 :: .slice (some ⟨kb155, 0, none⟩) 10 10 :: iN .i64 ((((((((((0 + 1) + 1) + 1) + 1) + 1) + 1) + 1) + 1) + 1) + 1) :: .string (txt 11) :: pt q189 :: zx14 :: zx15 :: zx16 :: zx17 :: zx18 :: zx19 :: zx20 :: zx21 :: zx22 :: zx23 :: zx24 :: zx25 :: zx26 :: zx27 :: un :: un :: un :: un :: un :: un :: un :: un :: un :: un :: un :: un :: pt tb.q :: pt tb.q :: .bool false :: pt tb.q :: .string (txt 0) :: pt tb.q :: .string (txt 1) :: pt tb.q :: .string (txt 0) :: .slice (some ⟨q16, 0, none⟩) 1 1 :: .tuple #[.string (txt 2), iN .i64 0] :: pt tb.q :: .string (txt 1) :: .slice (some ⟨q32, 0, none⟩) 1 1 :: .tuple #[.string (txt 3), iN .i64 0] :: pt tb.q :: .string (txt 0) :: .string (txt 3) :: .slice (some ⟨q51, 0, none⟩) 2 2 :: .tuple #[.string (txt 4), iN .i64 0] :: .tuple #[.string (txt 5), iN .i64 0] :: pt tb.q :: .string (txt 4) :: .slice (some ⟨q67, 0, none⟩) 1 1 :: .tuple #[.string (txt 5), iN .i64 0] :: .string (txt 5) :: iN .i64 0 :: .tuple #[.string (txt 9), iN .i64 0] :: pt tb.q :: .string (txt 5) :: .string (txt 0) :: .string xS :: .slice (some ⟨q86, 0, none⟩) 4 4 :: .tuple #[.string (txt 9), iN .i64 0] :: .string (txt 9) :: iN .i64 0 :: iN .i64 0 :: .bool false :: .bool false :: .string (txt 5) :: .string (txt 5) :: .bool false :: .bool false :: .bool false :: iN .i64 0 :: .bool false :: .bool false :: .bool false :: .string (txt 9) :: .string (txt 9) :: .bool false :: .bool false :: .tuple #[.agg #[iN .i64 4, iN .i64 0, .string ({ data := #[] }), .slice (some ⟨(unp mm108).1, 0, none⟩) 2 (unp mm108).2], .bool true] :: pt tb.q :: .string (txt 4) :: .tuple #[.agg #[iN .i64 4, iN .i64 0, .string ({ data := #[] }), .slice (some ⟨(unp mm108).1, 0, none⟩) 2 (unp mm108).2], .bool true] :: .agg #[iN .i64 4, iN .i64 0, .string ({ data := #[] }), .slice (some ⟨(unp mm108).1, 0, none⟩) 2 (unp mm108).2] :: .bool true :: pt tb.q :: .string (txt 0) :: .slice (some ⟨q125, 0, none⟩) 1 1 :: .slice (some ⟨kb128, 0, none⟩) 10 10 :: .slice (some ⟨kb128, 0, none⟩) 10 10 :: iN .i64 10 :: .bool false :: .bool false :: .slice (some ⟨kb128, 0, none⟩) 10 10 :: pt kb128 :: .bool true :: .bool false :: .bool false :: .bool false :: .slice (some ⟨kb128, 0, none⟩) 10 10 :: .pointer (some ⟨kb128, 3, none⟩) :: .bool false :: .bool false :: .bool false :: .slice (some ⟨kb128, 0, none⟩) 10 10 :: .pointer (some ⟨kb128, 4, none⟩) :: .bool false :: .bool false :: pt tb.q :: .slice (some ⟨kb137, 0, none⟩) 10 10 :: pt tb.q :: .string (txt 0) :: .string (txt 3) :: .string cS :: .slice (some ⟨q152, 0, none⟩) 1 1 :: .slice (some ⟨kb155, 0, none⟩) 10 10 :: .bool true :: .bool false :: .bool false :: pt q117 :: iN .i64 4 :: .bool false :: .bool false :: .bool false :: .pointer (some ⟨q117, 1, none⟩) :: iN .i64 0 :: .bool false :: .bool false :: .bool false :: .pointer (some ⟨q117, 3, none⟩) :: .slice (some ⟨(unp mm108).1, 0, none⟩) 2 (unp mm108).2 :: iN .i64 2 :: .bool false :: .bool false :: .bool false :: .pointer (some ⟨q117, 3, none⟩) :: .slice (some ⟨(unp mm108).1, 0, none⟩) 2 (unp mm108).2 :: pt ((unp mm108).1) :: iN .i64 0 :: .bool false :: .bool false :: .bool false :: .pointer (some ⟨q117, 3, none⟩) :: .slice (some ⟨(unp mm108).1, 0, none⟩) 2 (unp mm108).2 :: .pointer (some ⟨(unp mm108).1, 1, none⟩) :: iN .i64 1 :: .bool false :: .bool false :: .bool false :: .slice (some ⟨kb137, 0, none⟩) 10 10 :: iN .i64 10 :: .bool false :: .bool false :: .bool false :: .slice (some ⟨kb155, 0, none⟩) 10 10 :: iN .i64 10 :: .bool false :: .bool false :: iN .i64 ((((((((((0 + 1) + 1) + 1) + 1) + 1) + 1) + 1) + 1) + 1) + 1) :: .bool false :: iN .i64 (((((((((0 + 1) + 1) + 1) + 1) + 1) + 1) + 1) + 1) + 1) :: iN .i64 ((((((((((0 + 1) + 1) + 1) + 1) + 1) + 1) + 1) + 1) + 1) + 1) :: .slice (some ⟨kb137, 0, none⟩) 10 10 :: iN .i64 (((((((((0 + 1) + 1) + 1) + 1) + 1) + 1) + 1) + 1) + 1) :: .pointer (some ⟨kb137, ((((((((0 + 1) + 1) + 1) + 1) + 1) + 1) + 1) + 1) + 1, none⟩) :: .bool false :: iN .i64 (((((((((0 + 1) + 1) + 1) + 1) + 1) + 1) + 1) + 1) + 1) :: .bool false :: .bool false :: iN .i64 (((((((((0 + 1) + 1) + 1) + 1) + 1) + 1) + 1) + 1) + 1) :: .bool false :: .bool false :: .bool false :: .bool false :: .slice (some ⟨kb155, 0, none⟩) 10 10 :: iN .i64 (((((((((0 + 1) + 1) + 1) + 1) + 1) + 1) + 1) + 1) + 1) :: .pointer (some ⟨kb155, ((((((((0 + 1) + 1) + 1) + 1) + 1) + 1) + 1) + 1) + 1, none⟩) :: .bool true :: iN .i64 (((((((((0 + 1) + 1) + 1) + 1) + 1) + 1) + 1) + 1) + 1) :: .bool true :: .bool false :: .bool false :: .tuple #[.string (txt 11), iN .i64 0] :: pt tb.q :: .string (txt 0) :: .slice (some ⟨q167, 0, none⟩) 2 2 :: .tuple #[.string (txt 11), iN .i64 0] :: .string (txt 11) :: iN .i64 0 :: .tuple #[.agg #[iN .i64 4, iN .i64 1, .string ({ data := #[] }), .slice (some ⟨(unp mm180).1, 0, none⟩) 2 (unp mm180).2], .bool true] :: pt tb.q :: .string (txt 11) :: .tuple #[.agg #[iN .i64 4, iN .i64 1, .string ({ data := #[] }), .slice (some ⟨(unp mm180).1, 0, none⟩) 2 (unp mm180).2], .bool true] :: .agg #[iN .i64 4, iN .i64 1, .string ({ data := #[] }), .slice (some ⟨(unp mm180).1, 0, none⟩) 2 (unp mm180).2] :: .bool true :: iN .i64 0 :: .bool false :: .bool false :: .bool true :: .bool false :: .bool false :: .bool false :: .pointer (some ⟨q189, 1, none⟩) :: iN .i64 1 :: .bool false :: .bool false :: .bool false :: .pointer (some ⟨q189, 3, none⟩) :: .slice (some ⟨(unp mm180).1, 0, none⟩) 2 (unp mm180).2 :: iN .i64 2 :: .bool false :: .bool false :: .bool false :: .pointer (some ⟨q189, 3, none⟩) :: .slice (some ⟨(unp mm180).1, 0, none⟩) 2 (unp mm180).2 :: pt ((unp mm180).1) :: iN .i64 0 :: .bool false :: .bool false :: zt : List Value)
set_option maxRecDepth 100000 in
def zT23_10 (tb : Tb) q117 kb128 kb137 kb155 q189 q16 q32 q51 q67 q86 mm108 q125 q152 q167 mm180 q197 q206 q215 q221 q227 q230 q236 (zx0 zx30 zx31 zx32 zx33 zx34 zx35 zx36 zx37 zx38 zx39 : Value) (zt : List Value) := (zx0 :: pt tb.q :: .string (txt 5) :: iN .i64 0 :: .string (txt 9) :: iN .i64 0 :: pt q117 :: .bool true :: .slice (some ⟨kb128, 0, none⟩) 10 10 :: .slice (some ⟨kb137, 0, none⟩) 10 10 :: .slice (some ⟨kb155, 0, none⟩) 10 10 :: iN .i64 ((((((((((0 + 1) + 1) + 1) + 1) + 1) + 1) + 1) + 1) + 1) + 1) :: .string (txt 11) :: pt q189 :: .string ({ data := #[] }) :: iN .i64 2 :: .string ({ data := #[] }) :: iN .i64 2 :: .string ({ data := #[] }) :: iN .i64 2 :: .string ({ data := #[] }) :: iN .i64 2 :: .string ({ data := #[] }) :: iN .i64 2 :: .string ({ data := #[] }) :: iN .i64 2 :: .string ({ data := #[] }) :: iN .i64 3 :: .string ({ data := #[] }) :: iN .i64 2 :: zx30 :: zx31 :: zx32 :: zx33 :: zx34 :: zx35 :: zx36 :: zx37 :: zx38 :: zx39 :: pt tb.q :: pt tb.q :: .bool false :: pt tb.q :: .string (txt 0) :: pt tb.q :: .string (txt 1) :: pt tb.q :: .string (txt 0) :: .slice (some ⟨q16, 0, none⟩) 1 1 :: .tuple #[.string (txt 2), iN .i64 0] :: pt tb.q :: .string (txt 1) :: .slice (some ⟨q32, 0, none⟩) 1 1 :: .tuple #[.string (txt 3), iN .i64 0] :: pt tb.q :: .string (txt 0) :: .string (txt 3) :: .slice (some ⟨q51, 0, none⟩) 2 2 :: .tuple #[.string (txt 4), iN .i64 0] :: .tuple #[.string (txt 5), iN .i64 0] :: pt tb.q :: .string (txt 4) :: .slice (some ⟨q67, 0, none⟩) 1 1 :: .tuple #[.string (txt 5), iN .i64 0] :: .string (txt 5) :: iN .i64 0 :: .tuple #[.string (txt 9), iN .i64 0] :: pt tb.q :: .string (txt 5) :: .string (txt 0) :: .string xS :: .slice (some ⟨q86, 0, none⟩) 4 4 :: .tuple #[.string (txt 9), iN .i64 0] :: .string (txt 9) :: iN .i64 0 :: iN .i64 0 :: .bool false :: .bool false :: .string (txt 5) :: .string (txt 5) :: .bool false :: .bool false :: .bool false :: iN .i64 0 :: .bool false :: .bool false :: .bool false :: .string (txt 9) :: .string (txt 9) :: .bool false :: .bool false :: .tuple #[.agg #[iN .i64 4, iN .i64 0, .string ({ data := #[] }), .slice (some ⟨(unp mm108).1, 0, none⟩) 2 (unp mm108).2], .bool true] :: pt tb.q :: .string (txt 4) :: .tuple #[.agg #[iN .i64 4, iN .i64 0, .string ({ data := #[] }), .slice (some ⟨(unp mm108).1, 0, none⟩) 2 (unp mm108).2], .bool true] :: .agg #[iN .i64 4, iN .i64 0, .string ({ data := #[] }), .slice (some ⟨(unp mm108).1, 0, none⟩) 2 (unp mm108).2] :: .bool true :: pt tb.q :: .string (txt 0) :: .slice (some ⟨q125, 0, none⟩) 1 1 :: .slice (some ⟨kb128, 0, none⟩) 10 10 :: .slice (some ⟨kb128, 0, none⟩) 10 10 :: iN .i64 10 :: .bool false :: .bool false :: .slice (some ⟨kb128, 0, none⟩) 10 10 :: pt kb128 :: .bool true :: .bool false :: .bool false :: .bool false :: .slice (some ⟨kb128, 0, none⟩) 10 10 :: .pointer (some ⟨kb128, 3, none⟩) :: .bool false :: .bool false :: .bool false :: .slice (some ⟨kb128, 0, none⟩) 10 10 :: .pointer (some ⟨kb128, 4, none⟩) :: .bool false :: .bool false :: pt tb.q :: .slice (some ⟨kb137, 0, none⟩) 10 10 :: pt tb.q :: .string (txt 0) :: .string (txt 3) :: .string cS :: .slice (some ⟨q152, 0, none⟩) 1 1 :: .slice (some ⟨kb155, 0, none⟩) 10 10 :: .bool true :: .bool false :: .bool false :: pt q117 :: iN .i64 4 :: .bool false :: .bool false :: .bool false :: .pointer (some ⟨q117, 1, none⟩) :: iN .i64 0 :: .bool false :: .bool false :: .bool false :: .pointer (some ⟨q117, 3, none⟩) :: .slice (some ⟨(unp mm108).1, 0, none⟩) 2 (unp mm108).2 :: iN .i64 2 :: .bool false :: .bool false :: .bool false :: .pointer (some ⟨q117, 3, none⟩) :: .slice (some ⟨(unp mm108).1, 0, none⟩) 2 (unp mm108).2 :: pt ((unp mm108).1) :: iN .i64 0 :: .bool false :: .bool false :: .bool false :: .pointer (some ⟨q117, 3, none⟩) :: .slice (some ⟨(unp mm108).1, 0, none⟩) 2 (unp mm108).2 :: .pointer (some ⟨(unp mm108).1, 1, none⟩) :: iN .i64 1 :: .bool false :: .bool false :: .bool false :: .slice (some ⟨kb137, 0, none⟩) 10 10 :: iN .i64 10 :: .bool false :: .bool false :: .bool false :: .slice (some ⟨kb155, 0, none⟩) 10 10 :: iN .i64 10 :: .bool false :: .bool false :: iN .i64 ((((((((((0 + 1) + 1) + 1) + 1) + 1) + 1) + 1) + 1) + 1) + 1) :: .bool false :: iN .i64 (((((((((0 + 1) + 1) + 1) + 1) + 1) + 1) + 1) + 1) + 1) :: iN .i64 ((((((((((0 + 1) + 1) + 1) + 1) + 1) + 1) + 1) + 1) + 1) + 1) :: .slice (some ⟨kb137, 0, none⟩) 10 10 :: iN .i64 (((((((((0 + 1) + 1) + 1) + 1) + 1) + 1) + 1) + 1) + 1) :: .pointer (some ⟨kb137, ((((((((0 + 1) + 1) + 1) + 1) + 1) + 1) + 1) + 1) + 1, none⟩) :: .bool false :: iN .i64 (((((((((0 + 1) + 1) + 1) + 1) + 1) + 1) + 1) + 1) + 1) :: .bool false :: .bool false :: iN .i64 (((((((((0 + 1) + 1) + 1) + 1) + 1) + 1) + 1) + 1) + 1) :: .bool false :: .bool false :: .bool false :: .bool false :: .slice (some ⟨kb155, 0, none⟩) 10 10 :: iN .i64 (((((((((0 + 1) + 1) + 1) + 1) + 1) + 1) + 1) + 1) + 1) :: .pointer (some ⟨kb155, ((((((((0 + 1) + 1) + 1) + 1) + 1) + 1) + 1) + 1) + 1, none⟩) :: .bool true :: iN .i64 (((((((((0 + 1) + 1) + 1) + 1) + 1) + 1) + 1) + 1) + 1) :: .bool true :: .bool false :: .bool false :: .tuple #[.string (txt 11), iN .i64 0] :: pt tb.q :: .string (txt 0) :: .slice (some ⟨q167, 0, none⟩) 2 2 :: .tuple #[.string (txt 11), iN .i64 0] :: .string (txt 11) :: iN .i64 0 :: .tuple #[.agg #[iN .i64 4, iN .i64 1, .string ({ data := #[] }), .slice (some ⟨(unp mm180).1, 0, none⟩) 2 (unp mm180).2], .bool true] :: pt tb.q :: .string (txt 11) :: .tuple #[.agg #[iN .i64 4, iN .i64 1, .string ({ data := #[] }), .slice (some ⟨(unp mm180).1, 0, none⟩) 2 (unp mm180).2], .bool true] :: .agg #[iN .i64 4, iN .i64 1, .string ({ data := #[] }), .slice (some ⟨(unp mm180).1, 0, none⟩) 2 (unp mm180).2] :: .bool true :: iN .i64 0 :: .bool false :: .bool false :: .bool true :: .bool false :: .bool false :: .bool false :: .pointer (some ⟨q189, 1, none⟩) :: iN .i64 1 :: .bool false :: .bool false :: .bool false :: .pointer (some ⟨q189, 3, none⟩) :: .slice (some ⟨(unp mm180).1, 0, none⟩) 2 (unp mm180).2 :: iN .i64 2 :: .bool false :: .bool false :: .bool false :: .pointer (some ⟨q189, 3, none⟩) :: .slice (some ⟨(unp mm180).1, 0, none⟩) 2 (unp mm180).2 :: pt ((unp mm180).1) :: iN .i64 0 :: .bool false :: .bool false :: .tuple #[.string ({ data := #[] }), iN .i64 2] :: pt tb.q :: .tuple #[.string ({ data := #[] }), iN .i64 2] :: .string ({ data := #[] }) :: iN .i64 2 :: .tuple #[.string ({ data := #[] }), iN .i64 2] :: pt tb.q :: .slice (some ⟨q197, 0, none⟩) 1 1 :: .tuple #[.string ({ data := #[] }), iN .i64 2] :: .string ({ data := #[] }) :: iN .i64 2 :: .tuple #[.string ({ data := #[] }), iN .i64 2] :: pt tb.q :: .string (txt 0) :: .slice (some ⟨q206, 0, none⟩) 1 1 :: .tuple #[.string ({ data := #[] }), iN .i64 2] :: .string ({ data := #[] }) :: iN .i64 2 :: .tuple #[.string ({ data := #[] }), iN .i64 2] :: pt tb.q :: .tuple #[.string ({ data := #[] }), iN .i64 2] :: .string ({ data := #[] }) :: iN .i64 2 :: .tuple #[.string ({ data := #[] }), iN .i64 2] :: pt tb.q :: .slice (some ⟨q215, 0, none⟩) 3 3 :: .tuple #[.string ({ data := #[] }), iN .i64 2] :: .string ({ data := #[] }) :: iN .i64 2 :: .tuple #[.string ({ data := #[] }), iN .i64 2] :: pt tb.q :: .slice (some ⟨q221, 0, none⟩) 101 101 :: .tuple #[.string ({ data := #[] }), iN .i64 2] :: .string ({ data := #[] }) :: iN .i64 2 :: .tuple #[.string ({ data := #[] }), iN .i64 3] :: pt tb.q :: .slice (some ⟨q227, 0, none⟩) 65537 65537 :: .string zS :: .slice (some ⟨q230, 0, none⟩) 1 1 :: .tuple #[.string ({ data := #[] }), iN .i64 3] :: .string ({ data := #[] }) :: iN .i64 3 :: .tuple #[.string ({ data := #[] }), iN .i64 2] :: pt tb.q :: .slice (some ⟨q236, 0, none⟩) 2 2 :: .tuple #[.string ({ data := #[] }), iN .i64 2] :: .string ({ data := #[] }) :: iN .i64 2 :: zt : List Value)
set_option linter.unusedVariables false in
set_option maxRecDepth 100000 in
set_option maxHeartbeats 8000000 in
theorem known_law {m0 : Int} {w : World} (hv : w.cell? ⟨0, 0, none⟩ = some (.int .i64 m0)) :
    Calls Try.prog 7 #[] w fun e w' => e = .returned (.bool true) ∧ Below w.heap.size w w' := by
  have H0 := HA.start w
  go_enter Try.func7, Try.ntmps7
  refine wp_seq ?_
  -- region 0
  refine wl_region ?_
  refine wl_val (.bool false) (by kernel_rfl) (by kernel_rfl) ?_
  refine wl_nil ?_
  refine then_at (F := ⟨(.bool false :: List.replicate 413 un).toArray, []⟩) (by kernel_rfl) ?_
  refine wp_seq ?_
  -- region 1
  refine wl_region ?_
  refine wl_callx (by kernel_rfl) enter16 #[] (by kernel_rfl) (New_ok (w0 := w) (M := []) (L := ([])) H0) ?_
  rintro _ w1 ⟨tb, rfl, hN0⟩
  refine ⟨_, rfl, ?_⟩
  have hT2 : TH w [] tb [] ([]) w1 := hN0
  have hw0 := Wf.nil
  have hg0 := Wg.nil
  refine wl_val (.pointer (some ⟨tb.q, 0, none⟩)) (by kernel_rfl) (by kernel_rfl) ?_
  refine wl_nil ?_
  refine then_at (F := ⟨(zT23_0 tb (List.replicate 373 un)).toArray, []⟩) (by kernel_rfl) ?_
  refine wp_seq ?_
  refine wp_seq ?_
  -- region 2
  refine wl_region ?_
  refine wl_val (.pointer (some ⟨tb.q, 0, none⟩)) (by kernel_rfl) (by kernel_rfl) ?_
  refine wl_val (.bool false) (by kernel_rfl) (by kernel_rfl) ?_
  refine wl_nil ?_
  refine then_at (F := ⟨(zT23_0 tb (pt tb.q :: .bool false :: List.replicate 371 un)).toArray, []⟩) (by kernel_rfl) ?_
  refine wp_cond_false (by kernel_rfl) ?_
  refine wp_skip ?_
  refine then_at (F := ⟨(zT23_0 tb (pt tb.q :: .bool false :: List.replicate 371 un)).toArray, []⟩) (by kernel_rfl) ?_
  refine wp_seq ?_
  -- region 4
  refine wl_region ?_
  refine wl_val (.pointer (some ⟨tb.q, 0, none⟩)) (by kernel_rfl) (by kernel_rfl) ?_
  refine wl_callx (by kernel_rfl) enter17 #[.pointer (some ⟨tb.q, 0, none⟩)] (by kernel_rfl) (Fresh_any hT2 (by simp)) ?_
  rintro _ w4 ⟨rfl, hF3⟩
  refine ⟨_, rfl, ?_⟩
  have hT5 : TH w [] tb [.nm 0] ([]) w4 := hF3
  have hw6 : Wf [.nm 0] := Wf.nm hw0 0 (by simp)
  have hg7 : Wg [.nm 0] := Wg.nm hg0 0
  refine wl_nil ?_
  refine then_at (F := ⟨(zT23_0 tb (pt tb.q :: .bool false :: pt tb.q :: .string (txt 0) :: List.replicate 369 un)).toArray, []⟩) (by kernel_rfl) ?_
  refine wp_seq ?_
  -- region 5
  refine wl_region ?_
  refine wl_val (.pointer (some ⟨tb.q, 0, none⟩)) (by kernel_rfl) (by kernel_rfl) ?_
  refine wl_callx (by kernel_rfl) enter17 #[.pointer (some ⟨tb.q, 0, none⟩)] (by kernel_rfl) (Fresh_any hT5 (by simp)) ?_
  rintro _ w9 ⟨rfl, hF8⟩
  refine ⟨_, rfl, ?_⟩
  have hT10 : TH w [] tb [.nm 0, .nm 1] ([]) w9 := hF8
  have hw11 : Wf [.nm 0, .nm 1] := Wf.nm hw6 1 (by simp)
  have hg12 : Wg [.nm 0, .nm 1] := Wg.nm hg7 1
  refine wl_nil ?_
  refine then_at (F := ⟨(zT23_0 tb (pt tb.q :: .bool false :: pt tb.q :: .string (txt 0) :: pt tb.q :: .string (txt 1) :: List.replicate 367 un)).toArray, []⟩) (by kernel_rfl) ?_
  refine wp_seq ?_
  -- region 6
  refine wl_region ?_
  refine wl_val (.pointer (some ⟨tb.q, 0, none⟩)) (by kernel_rfl) (by kernel_rfl) ?_
  refine wl_callx (by kernel_rfl) enter22 #[iN .i64 0] (by kernel_rfl) (name_any 0 (by decide) w9) ?_
  rintro _ w14 ⟨rfl, hb13⟩
  refine ⟨_, rfl, ?_⟩
  have hT15 : TH w [] tb [.nm 0, .nm 1] ([]) w14 := TH.keep hT10 hb13
  refine wl_mksT (n := 1) (m := 1) (c := strc [txt 0]) hT15 9 (by kernel_rfl) (by kernel_rfl) ?_
  intro q16 w17 (hT18 : TH w [] tb [.nm 0, .nm 1] ((q16, 9, strc [txt 0]) :: []) w17)
  have hmk24 := Make_ok hT18 hw11 3 ({ data := #[] }) [txt 0] (some ⟨q16, 0, none⟩) 1 (.inr ⟨q16, rfl, List.mem_cons_self ..⟩) (by simp) (by kernel_rfl) (by decide) (strs_le (fun y hy => by
      simp only [List.mem_cons, List.not_mem_nil, or_false] at hy
      rcases hy with rfl
      · exact (by rw [txt_size]; decide)
      )) (by simp) (by simp)
  refine wl_callx (by kernel_rfl) enter18 #[.pointer (some ⟨tb.q, 0, none⟩), iN .i64 3, .string ({ data := #[] }), .slice (some ⟨q16, 0, none⟩) 1 1] (by kernel_rfl) (hmk24) ?_
  rintro _ w25 ⟨x20, es21, hJ22, rfl, hT19⟩
  refine ⟨_, rfl, ?_⟩
  have hw26 := JO.wf hw11 hJ22 (by simp) (by simp) (by simp)
  have hg27 := JO.wg hg12 hw11 hJ22 (by simp) (by simp) (by simp) (by simp)
  obtain ⟨rfl, b23, rfl⟩ := JO.newL [.nm 0, .nm 1] 2 0 ({ data := #[] }) [0] hJ22 (by kernel_rfl) (by kernel_rfl) (by kernel_rfl) (by kernel_rfl) (by kernel_rfl) (by kernel_rfl)
  clear hJ22
  have hT28 : TH w [] tb [.nm 0, .nm 1, .mk 3 0 ({ data := #[] }) [0] b23] ([]) w25 := TH.sub hT19 (List.sublist_cons_self _ _)
  have hw26 : Wf [.nm 0, .nm 1, .mk 3 0 ({ data := #[] }) [0] b23] := hw26
  have hg27 : Wg [.nm 0, .nm 1, .mk 3 0 ({ data := #[] }) [0] b23] := hg27
  refine wl_nil ?_
  refine then_at (F := ⟨(zT23_0 tb (pt tb.q :: .bool false :: pt tb.q :: .string (txt 0) :: pt tb.q :: .string (txt 1) :: pt tb.q :: .string (txt 0) :: .slice (some ⟨q16, 0, none⟩) 1 1 :: .tuple #[.string (txt 2), iN .i64 0] :: List.replicate 363 un)).toArray, []⟩) (by kernel_rfl) ?_
  refine wp_seq ?_
  -- region 7
  refine wl_region ?_
  refine wl_val (.pointer (some ⟨tb.q, 0, none⟩)) (by kernel_rfl) (by kernel_rfl) ?_
  refine wl_callx (by kernel_rfl) enter22 #[iN .i64 1] (by kernel_rfl) (name_any 1 (by decide) w25) ?_
  rintro _ w30 ⟨rfl, hb29⟩
  refine ⟨_, rfl, ?_⟩
  have hT31 : TH w [] tb [.nm 0, .nm 1, .mk 3 0 ({ data := #[] }) [0] b23] ([]) w30 := TH.keep hT28 hb29
  refine wl_mksT (n := 1) (m := 1) (c := strc [txt 1]) hT31 9 (by kernel_rfl) (by kernel_rfl) ?_
  intro q32 w33 (hT34 : TH w [] tb [.nm 0, .nm 1, .mk 3 0 ({ data := #[] }) [0] b23] ((q32, 9, strc [txt 1]) :: []) w33)
  have hmk40 := Make_ok hT34 hw26 3 ({ data := #[] }) [txt 1] (some ⟨q32, 0, none⟩) 1 (.inr ⟨q32, rfl, List.mem_cons_self ..⟩) (by simp) (by kernel_rfl) (by decide) (strs_le (fun y hy => by
      simp only [List.mem_cons, List.not_mem_nil, or_false] at hy
      rcases hy with rfl
      · exact (by rw [txt_size]; decide)
      )) (by simp) (by simp)
  refine wl_callx (by kernel_rfl) enter18 #[.pointer (some ⟨tb.q, 0, none⟩), iN .i64 3, .string ({ data := #[] }), .slice (some ⟨q32, 0, none⟩) 1 1] (by kernel_rfl) (hmk40) ?_
  rintro _ w41 ⟨x36, es37, hJ38, rfl, hT35⟩
  refine ⟨_, rfl, ?_⟩
  have hw42 := JO.wf hw26 hJ38 (by simp) (by simp) (by simp)
  have hg43 := JO.wg hg27 hw26 hJ38 (by simp) (by simp) (by simp) (by simp)
  obtain ⟨rfl, b39, rfl⟩ := JO.newL [.nm 0, .nm 1, .mk 3 0 ({ data := #[] }) [0] b23] 3 0 ({ data := #[] }) [1] hJ38 (by kernel_rfl) (by kernel_rfl) (by kernel_rfl) (by kernel_rfl) (by kernel_rfl) (by kernel_rfl)
  clear hJ38
  have hT44 : TH w [] tb [.nm 0, .nm 1, .mk 3 0 ({ data := #[] }) [0] b23, .mk 3 0 ({ data := #[] }) [1] b39] ([]) w41 := TH.sub hT35 (List.sublist_cons_self _ _)
  have hw42 : Wf [.nm 0, .nm 1, .mk 3 0 ({ data := #[] }) [0] b23, .mk 3 0 ({ data := #[] }) [1] b39] := hw42
  have hg43 : Wg [.nm 0, .nm 1, .mk 3 0 ({ data := #[] }) [0] b23, .mk 3 0 ({ data := #[] }) [1] b39] := hg43
  refine wl_nil ?_
  refine then_at (F := ⟨(zT23_1 tb q16 q32 un un un un (List.replicate 359 un)).toArray, []⟩) (by kernel_rfl) ?_
  refine wp_seq ?_
  -- region 8
  refine wl_region ?_
  refine wl_val (.pointer (some ⟨tb.q, 0, none⟩)) (by kernel_rfl) (by kernel_rfl) ?_
  refine wl_callx (by kernel_rfl) enter22 #[iN .i64 0] (by kernel_rfl) (name_any 0 (by decide) w41) ?_
  rintro _ w46 ⟨rfl, hb45⟩
  refine ⟨_, rfl, ?_⟩
  have hT47 : TH w [] tb [.nm 0, .nm 1, .mk 3 0 ({ data := #[] }) [0] b23, .mk 3 0 ({ data := #[] }) [1] b39] ([]) w46 := TH.keep hT44 hb45
  refine wl_callx (by kernel_rfl) enter22 #[iN .i64 3] (by kernel_rfl) (name_any 3 (by decide) w46) ?_
  rintro _ w49 ⟨rfl, hb48⟩
  refine ⟨_, rfl, ?_⟩
  have hT50 : TH w [] tb [.nm 0, .nm 1, .mk 3 0 ({ data := #[] }) [0] b23, .mk 3 0 ({ data := #[] }) [1] b39] ([]) w49 := TH.keep hT47 hb48
  refine wl_mksT (n := 2) (m := 2) (c := strc [txt 0, txt 3]) hT50 9 (by kernel_rfl) (by kernel_rfl) ?_
  intro q51 w52 (hT53 : TH w [] tb [.nm 0, .nm 1, .mk 3 0 ({ data := #[] }) [0] b23, .mk 3 0 ({ data := #[] }) [1] b39] ((q51, 9, strc [txt 0, txt 3]) :: []) w52)
  have hmk59 := Make_ok hT53 hw42 4 ({ data := #[] }) [txt 0, txt 3] (some ⟨q51, 0, none⟩) 2 (.inr ⟨q51, rfl, List.mem_cons_self ..⟩) (by simp) (by kernel_rfl) (by decide) (strs_le (fun y hy => by
      simp only [List.mem_cons, List.not_mem_nil, or_false] at hy
      rcases hy with rfl | rfl
      · exact (by rw [txt_size]; decide)
      · exact (by rw [txt_size]; decide)
      )) (by simp) (by simp)
  refine wl_callx (by kernel_rfl) enter18 #[.pointer (some ⟨tb.q, 0, none⟩), iN .i64 4, .string ({ data := #[] }), .slice (some ⟨q51, 0, none⟩) 2 2] (by kernel_rfl) (hmk59) ?_
  rintro _ w60 ⟨x55, es56, hJ57, rfl, hT54⟩
  refine ⟨_, rfl, ?_⟩
  have hw61 := JO.wf hw42 hJ57 (by simp) (by simp) (by simp)
  have hg62 := JO.wg hg43 hw42 hJ57 (by simp) (by simp) (by simp) (by simp)
  obtain ⟨rfl, b58, rfl⟩ := JO.newL [.nm 0, .nm 1, .mk 3 0 ({ data := #[] }) [0] b23, .mk 3 0 ({ data := #[] }) [1] b39] 4 0 ({ data := #[] }) [0, 1] hJ57 (by kernel_rfl) (by kernel_rfl) (by kernel_rfl) (by kernel_rfl) (by kernel_rfl) (by kernel_rfl)
  clear hJ57
  have hT63 : TH w [] tb [.nm 0, .nm 1, .mk 3 0 ({ data := #[] }) [0] b23, .mk 3 0 ({ data := #[] }) [1] b39, .mk 4 0 ({ data := #[] }) [0, 1] b58] ([]) w60 := TH.sub hT54 (List.sublist_cons_self _ _)
  have hw61 : Wf [.nm 0, .nm 1, .mk 3 0 ({ data := #[] }) [0] b23, .mk 3 0 ({ data := #[] }) [1] b39, .mk 4 0 ({ data := #[] }) [0, 1] b58] := hw61
  have hg62 : Wg [.nm 0, .nm 1, .mk 3 0 ({ data := #[] }) [0] b23, .mk 3 0 ({ data := #[] }) [1] b39, .mk 4 0 ({ data := #[] }) [0, 1] b58] := hg62
  refine wl_nil ?_
  refine then_at (F := ⟨(zT23_1 tb q16 q32 un un un un (pt tb.q :: .string (txt 0) :: .string (txt 3) :: .slice (some ⟨q51, 0, none⟩) 2 2 :: .tuple #[.string (txt 4), iN .i64 0] :: List.replicate 354 un)).toArray, []⟩) (by kernel_rfl) ?_
  refine wp_seq ?_
  -- region 9
  refine wl_region ?_
  refine wl_val (.pointer (some ⟨tb.q, 0, none⟩)) (by kernel_rfl) (by kernel_rfl) ?_
  refine wl_callx (by kernel_rfl) enter22 #[iN .i64 4] (by kernel_rfl) (name_any 4 (by decide) w60) ?_
  rintro _ w65 ⟨rfl, hb64⟩
  refine ⟨_, rfl, ?_⟩
  have hT66 : TH w [] tb [.nm 0, .nm 1, .mk 3 0 ({ data := #[] }) [0] b23, .mk 3 0 ({ data := #[] }) [1] b39, .mk 4 0 ({ data := #[] }) [0, 1] b58] ([]) w65 := TH.keep hT63 hb64
  refine wl_mksT (n := 1) (m := 1) (c := strc [txt 4]) hT66 9 (by kernel_rfl) (by kernel_rfl) ?_
  intro q67 w68 (hT69 : TH w [] tb [.nm 0, .nm 1, .mk 3 0 ({ data := #[] }) [0] b23, .mk 3 0 ({ data := #[] }) [1] b39, .mk 4 0 ({ data := #[] }) [0, 1] b58] ((q67, 9, strc [txt 4]) :: []) w68)
  have hmk75 := Make_ok hT69 hw61 5 ({ data := #[107] }) [txt 4] (some ⟨q67, 0, none⟩) 1 (.inr ⟨q67, rfl, List.mem_cons_self ..⟩) (by simp) (by kernel_rfl) (by decide) (strs_le (fun y hy => by
      simp only [List.mem_cons, List.not_mem_nil, or_false] at hy
      rcases hy with rfl
      · exact (by rw [txt_size]; decide)
      )) (by simp) (by simp)
  refine wl_callx (by kernel_rfl) enter18 #[.pointer (some ⟨tb.q, 0, none⟩), iN .i64 5, .string ({ data := #[107] }), .slice (some ⟨q67, 0, none⟩) 1 1] (by kernel_rfl) (hmk75) ?_
  rintro _ w76 ⟨x71, es72, hJ73, rfl, hT70⟩
  refine ⟨_, rfl, ?_⟩
  have hw77 := JO.wf hw61 hJ73 (by simp) (by simp) (by simp)
  have hg78 := JO.wg hg62 hw61 hJ73 (by simp) (by simp) (by simp) (by simp)
  obtain ⟨rfl, b74, rfl⟩ := JO.newL [.nm 0, .nm 1, .mk 3 0 ({ data := #[] }) [0] b23, .mk 3 0 ({ data := #[] }) [1] b39, .mk 4 0 ({ data := #[] }) [0, 1] b58] 5 0 ({ data := #[107] }) [4] hJ73 (by kernel_rfl) (by kernel_rfl) (by kernel_rfl) (by kernel_rfl) (by kernel_rfl) (by kernel_rfl)
  clear hJ73
  have hT79 : TH w [] tb [.nm 0, .nm 1, .mk 3 0 ({ data := #[] }) [0] b23, .mk 3 0 ({ data := #[] }) [1] b39, .mk 4 0 ({ data := #[] }) [0, 1] b58, .mk 5 0 ({ data := #[107] }) [4] b74] ([]) w76 := TH.sub hT70 (List.sublist_cons_self _ _)
  have hw77 : Wf [.nm 0, .nm 1, .mk 3 0 ({ data := #[] }) [0] b23, .mk 3 0 ({ data := #[] }) [1] b39, .mk 4 0 ({ data := #[] }) [0, 1] b58, .mk 5 0 ({ data := #[107] }) [4] b74] := hw77
  have hg78 : Wg [.nm 0, .nm 1, .mk 3 0 ({ data := #[] }) [0] b23, .mk 3 0 ({ data := #[] }) [1] b39, .mk 4 0 ({ data := #[] }) [0, 1] b58, .mk 5 0 ({ data := #[107] }) [4] b74] := hg78
  refine wl_val (.tuple #[.string (txt 5), iN .i64 0]) (by kernel_rfl) (by kernel_rfl) ?_
  refine wl_val (.string (txt 5)) (by kernel_rfl) (by kernel_rfl) ?_
  refine wl_val (iN .i64 0) (by kernel_rfl) (by kernel_rfl) ?_
  refine wl_val (.string (txt 5)) (by kernel_rfl) (by kernel_rfl) ?_
  refine wl_val (iN .i64 0) (by kernel_rfl) (by kernel_rfl) ?_
  refine wl_nil ?_
  refine then_at (F := ⟨(zT23_1 tb q16 q32 (.string (txt 5)) (iN .i64 0) un un (pt tb.q :: .string (txt 0) :: .string (txt 3) :: .slice (some ⟨q51, 0, none⟩) 2 2 :: .tuple #[.string (txt 4), iN .i64 0] :: .tuple #[.string (txt 5), iN .i64 0] :: pt tb.q :: .string (txt 4) :: .slice (some ⟨q67, 0, none⟩) 1 1 :: .tuple #[.string (txt 5), iN .i64 0] :: .string (txt 5) :: iN .i64 0 :: List.replicate 347 un)).toArray, []⟩) (by kernel_rfl) ?_
  refine wp_seq ?_
  -- region 10
  refine wl_region ?_
  refine wl_val (.pointer (some ⟨tb.q, 0, none⟩)) (by kernel_rfl) (by kernel_rfl) ?_
  refine wl_callx (by kernel_rfl) enter22 #[iN .i64 5] (by kernel_rfl) (name_any 5 (by decide) w76) ?_
  rintro _ w81 ⟨rfl, hb80⟩
  refine ⟨_, rfl, ?_⟩
  have hT82 : TH w [] tb [.nm 0, .nm 1, .mk 3 0 ({ data := #[] }) [0] b23, .mk 3 0 ({ data := #[] }) [1] b39, .mk 4 0 ({ data := #[] }) [0, 1] b58, .mk 5 0 ({ data := #[107] }) [4] b74] ([]) w81 := TH.keep hT79 hb80
  refine wl_callx (by kernel_rfl) enter22 #[iN .i64 0] (by kernel_rfl) (name_any 0 (by decide) w81) ?_
  rintro _ w84 ⟨rfl, hb83⟩
  refine ⟨_, rfl, ?_⟩
  have hT85 : TH w [] tb [.nm 0, .nm 1, .mk 3 0 ({ data := #[] }) [0] b23, .mk 3 0 ({ data := #[] }) [1] b39, .mk 4 0 ({ data := #[] }) [0, 1] b58, .mk 5 0 ({ data := #[107] }) [4] b74] ([]) w84 := TH.keep hT82 hb83
  refine wl_val (.string xS) (by kernel_rfl) (run_cat (s := { data := #[120] }) (t := txt 0) (by kernel_rfl) (by kernel_rfl) (by rw [txt_size]; decide)) ?_
  refine wl_mksT (n := 4) (m := 4) (c := strc [txt 5, nS, { data := #[] }, xS]) hT85 9 (by kernel_rfl) (by kernel_rfl) ?_
  intro q86 w87 (hT88 : TH w [] tb [.nm 0, .nm 1, .mk 3 0 ({ data := #[] }) [0] b23, .mk 3 0 ({ data := #[] }) [1] b39, .mk 4 0 ({ data := #[] }) [0, 1] b58, .mk 5 0 ({ data := #[107] }) [4] b74] ((q86, 9, strc [txt 5, nS, { data := #[] }, xS]) :: []) w87)
  have hmk94 := Make_ok hT88 hw77 6 ({ data := #[] }) [txt 5, nS, { data := #[] }, xS] (some ⟨q86, 0, none⟩) 4 (.inr ⟨q86, rfl, List.mem_cons_self ..⟩) (by simp) (by kernel_rfl) (by decide) (strs_le (fun y hy => by
      simp only [List.mem_cons, List.not_mem_nil, or_false] at hy
      rcases hy with rfl | rfl | rfl | rfl
      · exact (by rw [txt_size]; decide)
      · exact (by decide)
      · exact (by decide)
      · exact (by rw [xS_size]; decide)
      )) (by simp) (by simp)
  refine wl_callx (by kernel_rfl) enter18 #[.pointer (some ⟨tb.q, 0, none⟩), iN .i64 6, .string ({ data := #[] }), .slice (some ⟨q86, 0, none⟩) 4 4] (by kernel_rfl) (hmk94) ?_
  rintro _ w95 ⟨x90, es91, hJ92, rfl, hT89⟩
  refine ⟨_, rfl, ?_⟩
  have hw96 := JO.wf hw77 hJ92 (by simp) (by simp) (by simp)
  have hg97 := JO.wg hg78 hw77 hJ92 (by simp) (by simp) (by simp) (by simp)
  obtain ⟨rfl, b93, rfl⟩ := JO.newL [.nm 0, .nm 1, .mk 3 0 ({ data := #[] }) [0] b23, .mk 3 0 ({ data := #[] }) [1] b39, .mk 4 0 ({ data := #[] }) [0, 1] b58, .mk 5 0 ({ data := #[107] }) [4] b74, .dt nS, .dt { data := #[] }, .dt xS] 9 0 ({ data := #[] }) [5, 6, 7, 8] hJ92 (by kernel_rfl) (by kernel_rfl) (by kernel_rfl) (by kernel_rfl) (by kernel_rfl) (by kernel_rfl)
  clear hJ92
  have hT98 : TH w [] tb [.nm 0, .nm 1, .mk 3 0 ({ data := #[] }) [0] b23, .mk 3 0 ({ data := #[] }) [1] b39, .mk 4 0 ({ data := #[] }) [0, 1] b58, .mk 5 0 ({ data := #[107] }) [4] b74, .dt nS, .dt { data := #[] }, .dt xS, .mk 6 0 ({ data := #[] }) [5, 6, 7, 8] b93] ([]) w95 := TH.sub hT89 (List.sublist_cons_self _ _)
  have hw96 : Wf [.nm 0, .nm 1, .mk 3 0 ({ data := #[] }) [0] b23, .mk 3 0 ({ data := #[] }) [1] b39, .mk 4 0 ({ data := #[] }) [0, 1] b58, .mk 5 0 ({ data := #[107] }) [4] b74, .dt nS, .dt { data := #[] }, .dt xS, .mk 6 0 ({ data := #[] }) [5, 6, 7, 8] b93] := hw96
  have hg97 : Wg [.nm 0, .nm 1, .mk 3 0 ({ data := #[] }) [0] b23, .mk 3 0 ({ data := #[] }) [1] b39, .mk 4 0 ({ data := #[] }) [0, 1] b58, .mk 5 0 ({ data := #[107] }) [4] b74, .dt nS, .dt { data := #[] }, .dt xS, .mk 6 0 ({ data := #[] }) [5, 6, 7, 8] b93] := hg97
  refine wl_val (.tuple #[.string (txt 9), iN .i64 0]) (by kernel_rfl) (by kernel_rfl) ?_
  refine wl_val (.string (txt 9)) (by kernel_rfl) (by kernel_rfl) ?_
  refine wl_val (iN .i64 0) (by kernel_rfl) (by kernel_rfl) ?_
  refine wl_val (.string (txt 9)) (by kernel_rfl) (by kernel_rfl) ?_
  refine wl_val (iN .i64 0) (by kernel_rfl) (by kernel_rfl) ?_
  refine wl_nil ?_
  refine then_at (F := ⟨(zT23_1 tb q16 q32 (.string (txt 5)) (iN .i64 0) (.string (txt 9)) (iN .i64 0) (pt tb.q :: .string (txt 0) :: .string (txt 3) :: .slice (some ⟨q51, 0, none⟩) 2 2 :: .tuple #[.string (txt 4), iN .i64 0] :: .tuple #[.string (txt 5), iN .i64 0] :: pt tb.q :: .string (txt 4) :: .slice (some ⟨q67, 0, none⟩) 1 1 :: .tuple #[.string (txt 5), iN .i64 0] :: .string (txt 5) :: iN .i64 0 :: .tuple #[.string (txt 9), iN .i64 0] :: pt tb.q :: .string (txt 5) :: .string (txt 0) :: .string xS :: .slice (some ⟨q86, 0, none⟩) 4 4 :: .tuple #[.string (txt 9), iN .i64 0] :: .string (txt 9) :: iN .i64 0 :: List.replicate 338 un)).toArray, []⟩) (by kernel_rfl) ?_
  refine wp_seq ?_
  refine wp_seq ?_
  -- region 11
  refine wl_region ?_
  refine wl_val (iN .i64 0) (by kernel_rfl) (by kernel_rfl) ?_
  refine wl_val (.bool false) (by kernel_rfl) (run_nei (k := .i64) (a := 0) (b := 0) (by kernel_rfl) (by kernel_rfl) false (by decide)) ?_
  refine wl_val (.bool false) (by kernel_rfl) (by kernel_rfl) ?_
  refine wl_val (.string (txt 5)) (by kernel_rfl) (by kernel_rfl) ?_
  refine wl_callx (by kernel_rfl) enter22 #[iN .i64 5] (by kernel_rfl) (name_any 5 (by decide) w95) ?_
  rintro _ w100 ⟨rfl, hb99⟩
  refine ⟨_, rfl, ?_⟩
  have hT101 : TH w [] tb [.nm 0, .nm 1, .mk 3 0 ({ data := #[] }) [0] b23, .mk 3 0 ({ data := #[] }) [1] b39, .mk 4 0 ({ data := #[] }) [0, 1] b58, .mk 5 0 ({ data := #[107] }) [4] b74, .dt nS, .dt { data := #[] }, .dt xS, .mk 6 0 ({ data := #[] }) [5, 6, 7, 8] b93] ([]) w100 := TH.keep hT98 hb99
  refine wl_val (.bool false) (by kernel_rfl) (run_nes (s := txt 5) (t := txt 5) (by kernel_rfl) (by kernel_rfl) false (decide_eq_true rfl)) ?_
  refine wl_val (.bool false) (by kernel_rfl) (by kernel_rfl) ?_
  refine wl_val (.bool false) (by kernel_rfl) (by kernel_rfl) ?_
  refine wl_val (iN .i64 0) (by kernel_rfl) (by kernel_rfl) ?_
  refine wl_val (.bool false) (by kernel_rfl) (run_nei (k := .i64) (a := 0) (b := 0) (by kernel_rfl) (by kernel_rfl) false (by decide)) ?_
  refine wl_val (.bool false) (by kernel_rfl) (by kernel_rfl) ?_
  refine wl_val (.bool false) (by kernel_rfl) (by kernel_rfl) ?_
  refine wl_val (.string (txt 9)) (by kernel_rfl) (by kernel_rfl) ?_
  refine wl_callx (by kernel_rfl) enter22 #[iN .i64 9] (by kernel_rfl) (name_any 9 (by decide) w100) ?_
  rintro _ w103 ⟨rfl, hb102⟩
  refine ⟨_, rfl, ?_⟩
  have hT104 : TH w [] tb [.nm 0, .nm 1, .mk 3 0 ({ data := #[] }) [0] b23, .mk 3 0 ({ data := #[] }) [1] b39, .mk 4 0 ({ data := #[] }) [0, 1] b58, .mk 5 0 ({ data := #[107] }) [4] b74, .dt nS, .dt { data := #[] }, .dt xS, .mk 6 0 ({ data := #[] }) [5, 6, 7, 8] b93] ([]) w103 := TH.keep hT101 hb102
  refine wl_val (.bool false) (by kernel_rfl) (run_nes (s := txt 9) (t := txt 9) (by kernel_rfl) (by kernel_rfl) false (decide_eq_true rfl)) ?_
  refine wl_val (.bool false) (by kernel_rfl) (by kernel_rfl) ?_
  refine wl_nil ?_
  refine then_at (F := ⟨(zT23_2 tb q16 q32 q51 q67 q86 un un un (List.replicate 322 un)).toArray, []⟩) (by kernel_rfl) ?_
  refine wp_cond_false (by kernel_rfl) ?_
  refine wp_skip ?_
  refine then_at (F := ⟨(zT23_2 tb q16 q32 q51 q67 q86 un un un (List.replicate 322 un)).toArray, []⟩) (by kernel_rfl) ?_
  refine wp_seq ?_
  -- region 13
  refine wl_region ?_
  refine wl_val (.pointer (some ⟨tb.q, 0, none⟩)) (by kernel_rfl) (by kernel_rfl) ?_
  refine wl_callx (by kernel_rfl) enter22 #[iN .i64 4] (by kernel_rfl) (name_any 4 (by decide) w103) ?_
  rintro _ w106 ⟨rfl, hb105⟩
  refine ⟨_, rfl, ?_⟩
  have hT107 : TH w [] tb [.nm 0, .nm 1, .mk 3 0 ({ data := #[] }) [0] b23, .mk 3 0 ({ data := #[] }) [1] b39, .mk 4 0 ({ data := #[] }) [0, 1] b58, .mk 5 0 ({ data := #[107] }) [4] b74, .dt nS, .dt { data := #[] }, .dt xS, .mk 6 0 ({ data := #[] }) [5, 6, 7, 8] b93] ([]) w106 := TH.keep hT104 hb105
  have ho114 := Of_made (TH.view hT107) hw96 (sx := txt 4) (x := 4) (by kernel_rfl) (k := 4) (n := 0) (b := b58) (s := { data := #[] }) (ps := [0, 1]) rfl (by decide)
  refine wl_callx (by kernel_rfl) enter9 #[.pointer (some ⟨tb.q, 0, none⟩), .string (txt 4)] (by kernel_rfl) (ho114) ?_
  rintro _ w115 ⟨mm108, cc109, rfl, hr110, hr111, hr112, hb113⟩
  refine ⟨_, rfl, ?_⟩
  have hT116 : TH w [] tb [.nm 0, .nm 1, .mk 3 0 ({ data := #[] }) [0] b23, .mk 3 0 ({ data := #[] }) [1] b39, .mk 4 0 ({ data := #[] }) [0, 1] b58, .mk 5 0 ({ data := #[107] }) [4] b74, .dt nS, .dt { data := #[] }, .dt xS, .mk 6 0 ({ data := #[] }) [5, 6, 7, 8] b93] (((unp mm108).1, 3, cc109) :: []) w115 := TH.add hT107 hb113 hr110 hr111
  refine wl_val (.tuple #[.agg #[iN .i64 4, iN .i64 0, .string ({ data := #[] }), .slice (some ⟨(unp mm108).1, 0, none⟩) 2 (unp mm108).2], .bool true]) (by kernel_rfl) (by kernel_rfl) ?_
  refine wl_val (.agg #[iN .i64 4, iN .i64 0, .string ({ data := #[] }), .slice (some ⟨(unp mm108).1, 0, none⟩) 2 (unp mm108).2]) (by kernel_rfl) (by kernel_rfl) ?_
  refine wl_val (.bool true) (by kernel_rfl) (by kernel_rfl) ?_
  refine wl_makeT (c := #[iN .i64 0, iN .i64 0, .string ({ data := #[] }), .slice none 0 0]) hT116 31 (by kernel_rfl) (by kernel_rfl) ?_
  intro q117 w118 (hT119 : TH w [] tb [.nm 0, .nm 1, .mk 3 0 ({ data := #[] }) [0] b23, .mk 3 0 ({ data := #[] }) [1] b39, .mk 4 0 ({ data := #[] }) [0, 1] b58, .mk 5 0 ({ data := #[107] }) [4] b74, .dt nS, .dt { data := #[] }, .dt xS, .mk 6 0 ({ data := #[] }) [5, 6, 7, 8] b93] ((q117, 31, #[iN .i64 0, iN .i64 0, .string ({ data := #[] }), .slice none 0 0]) :: ((unp mm108).1, 3, cc109) :: []) w118)
  refine wl_fillT (c' := #[iN .i64 4, iN .i64 0, .string ({ data := #[] }), .slice (some ⟨(unp mm108).1, 0, none⟩) 2 (unp mm108).2]) hT119 (by kernel_rfl) (by kernel_rfl) (by kernel_rfl) rfl (by kernel_rfl) (by kernel_rfl) ?_
  intro w120 (hT121 : TH w [] tb [.nm 0, .nm 1, .mk 3 0 ({ data := #[] }) [0] b23, .mk 3 0 ({ data := #[] }) [1] b39, .mk 4 0 ({ data := #[] }) [0, 1] b58, .mk 5 0 ({ data := #[107] }) [4] b74, .dt nS, .dt { data := #[] }, .dt xS, .mk 6 0 ({ data := #[] }) [5, 6, 7, 8] b93] ((q117, 31, #[iN .i64 4, iN .i64 0, .string ({ data := #[] }), .slice (some ⟨(unp mm108).1, 0, none⟩) 2 (unp mm108).2]) :: ((unp mm108).1, 3, cc109) :: []) w120)
  refine wl_val (.bool true) (by kernel_rfl) (by kernel_rfl) ?_
  refine wl_nil ?_
  refine then_at (F := ⟨(zT23_2 tb q16 q32 q51 q67 q86 (pt q117) (.bool true) un (.tuple #[.agg #[iN .i64 4, iN .i64 0, .string ({ data := #[] }), .slice (some ⟨(unp mm108).1, 0, none⟩) 2 (unp mm108).2], .bool true] :: pt tb.q :: .string (txt 4) :: .tuple #[.agg #[iN .i64 4, iN .i64 0, .string ({ data := #[] }), .slice (some ⟨(unp mm108).1, 0, none⟩) 2 (unp mm108).2], .bool true] :: .agg #[iN .i64 4, iN .i64 0, .string ({ data := #[] }), .slice (some ⟨(unp mm108).1, 0, none⟩) 2 (unp mm108).2] :: .bool true :: List.replicate 316 un)).toArray, []⟩) (by kernel_rfl) ?_
  refine wp_seq ?_
  refine wp_seq ?_
  -- region 14
  refine wl_region ?_
  refine wl_val (.pointer (some ⟨tb.q, 0, none⟩)) (by kernel_rfl) (by kernel_rfl) ?_
  refine wl_callx (by kernel_rfl) enter22 #[iN .i64 0] (by kernel_rfl) (name_any 0 (by decide) w120) ?_
  rintro _ w123 ⟨rfl, hb122⟩
  refine ⟨_, rfl, ?_⟩
  have hT124 : TH w [] tb [.nm 0, .nm 1, .mk 3 0 ({ data := #[] }) [0] b23, .mk 3 0 ({ data := #[] }) [1] b39, .mk 4 0 ({ data := #[] }) [0, 1] b58, .mk 5 0 ({ data := #[107] }) [4] b74, .dt nS, .dt { data := #[] }, .dt xS, .mk 6 0 ({ data := #[] }) [5, 6, 7, 8] b93] ((q117, 31, #[iN .i64 4, iN .i64 0, .string ({ data := #[] }), .slice (some ⟨(unp mm108).1, 0, none⟩) 2 (unp mm108).2]) :: ((unp mm108).1, 3, cc109) :: []) w123 := TH.keep hT121 hb122
  refine wl_mksT (n := 1) (m := 1) (c := strc [txt 0]) hT124 9 (by kernel_rfl) (by kernel_rfl) ?_
  intro q125 w126 (hT127 : TH w [] tb [.nm 0, .nm 1, .mk 3 0 ({ data := #[] }) [0] b23, .mk 3 0 ({ data := #[] }) [1] b39, .mk 4 0 ({ data := #[] }) [0, 1] b58, .mk 5 0 ({ data := #[107] }) [4] b74, .dt nS, .dt { data := #[] }, .dt xS, .mk 6 0 ({ data := #[] }) [5, 6, 7, 8] b93] ((q125, 9, strc [txt 0]) :: (q117, 31, #[iN .i64 4, iN .i64 0, .string ({ data := #[] }), .slice (some ⟨(unp mm108).1, 0, none⟩) 2 (unp mm108).2]) :: ((unp mm108).1, 3, cc109) :: []) w126)
  have hkn132 := Known_any (TH.view hT127) hw96 hg97 (by simp) (fun i u hu => by
      have hmm := List.mem_of_getElem? hu
      simp only [List.mem_cons, List.not_mem_nil, or_false, false_or, reduceCtorEq, Ent.dt.injEq] at hmm
      rcases hmm with rfl | rfl | rfl
      · exact (by decide)
      · exact (by decide)
      · exact (by rw [xS_size]; decide)
      ) (cell_below (TH.below hT127) hv) [txt 0] (some ⟨q125, 0, none⟩) 1 (.inr ⟨q125, rfl, TH.blk hT127 (x := (q125, 9, strc [txt 0])) (List.mem_cons_self ..)⟩) (strs_le (fun y hy => by
      simp only [List.mem_cons, List.not_mem_nil, or_false] at hy
      rcases hy with rfl
      · exact (by rw [txt_size]; decide)
      )) (by simp)
  refine wl_callx (by kernel_rfl) enter19 #[.pointer (some ⟨tb.q, 0, none⟩), .slice (some ⟨q125, 0, none⟩) 1 1] (by kernel_rfl) (hkn132) ?_
  rintro _ w133 ⟨kb128, rfl, hl129, hB130, hb131⟩
  refine ⟨_, rfl, ?_⟩
  have hk134 : knownF [.nm 0, .nm 1, .mk 3 0 ({ data := #[] }) [0] b23, .mk 3 0 ({ data := #[] }) [1] b39, .mk 4 0 ({ data := #[] }) [0, 1] b58, .mk 5 0 ({ data := #[107] }) [4] b74, .dt nS, .dt { data := #[] }, .dt xS, .mk 6 0 ({ data := #[] }) [5, 6, 7, 8] b93] [txt 0] = [true, false, true, false, false, false, true, true, true, false] := knownL (m := 10) (l := [.n, .n, .m 3 0 [0], .m 3 0 [1], .m 4 0 [0, 1], .m 5 0 [4], .d [], .d [], .d [0], .m 6 0 [5, 6, 7, 8]]) (q := [[0]]) rfl (by kernel_rfl) (by kernel_rfl) (by kernel_rfl)
  rw [hk134] at hB130
  have hT135 := TH.add hT127 hb131 hl129 hB130
  have hT136 : TH w [] tb [.nm 0, .nm 1, .mk 3 0 ({ data := #[] }) [0] b23, .mk 3 0 ({ data := #[] }) [1] b39, .mk 4 0 ({ data := #[] }) [0, 1] b58, .mk 5 0 ({ data := #[107] }) [4] b74, .dt nS, .dt { data := #[] }, .dt xS, .mk 6 0 ({ data := #[] }) [5, 6, 7, 8] b93] ((kb128, 4, boc [true, false, true, false, false, false, true, true, true, false]) :: (q117, 31, #[iN .i64 4, iN .i64 0, .string ({ data := #[] }), .slice (some ⟨(unp mm108).1, 0, none⟩) 2 (unp mm108).2]) :: ((unp mm108).1, 3, cc109) :: []) w133 := TH.sub hT135 (List.Sublist.cons_cons _ (List.sublist_cons_self _ _))
  refine wl_val (.slice (some ⟨kb128, 0, none⟩) 10 10) (by kernel_rfl) (by kernel_rfl) ?_
  refine wl_nil ?_
  refine then_at (F := ⟨(zT23_2 tb q16 q32 q51 q67 q86 (pt q117) (.bool true) (.slice (some ⟨kb128, 0, none⟩) 10 10) (.tuple #[.agg #[iN .i64 4, iN .i64 0, .string ({ data := #[] }), .slice (some ⟨(unp mm108).1, 0, none⟩) 2 (unp mm108).2], .bool true] :: pt tb.q :: .string (txt 4) :: .tuple #[.agg #[iN .i64 4, iN .i64 0, .string ({ data := #[] }), .slice (some ⟨(unp mm108).1, 0, none⟩) 2 (unp mm108).2], .bool true] :: .agg #[iN .i64 4, iN .i64 0, .string ({ data := #[] }), .slice (some ⟨(unp mm108).1, 0, none⟩) 2 (unp mm108).2] :: .bool true :: pt tb.q :: .string (txt 0) :: .slice (some ⟨q125, 0, none⟩) 1 1 :: .slice (some ⟨kb128, 0, none⟩) 10 10 :: List.replicate 312 un)).toArray, []⟩) (by kernel_rfl) ?_
  refine wp_seq ?_
  -- region 15
  refine wl_region ?_
  refine wl_val (.slice (some ⟨kb128, 0, none⟩) 10 10) (by kernel_rfl) (by kernel_rfl) ?_
  refine wl_val (iN .i64 10) (by kernel_rfl) (by kernel_rfl) ?_
  refine wl_val (.bool false) (by kernel_rfl) (run_nei (k := .i64) (a := 10) (b := 10) (by kernel_rfl) (by kernel_rfl) false (by decide)) ?_
  refine wl_val (.bool false) (by kernel_rfl) (by kernel_rfl) ?_
  refine wl_val (.slice (some ⟨kb128, 0, none⟩) 10 10) (by kernel_rfl) (by kernel_rfl) ?_
  refine wl_val (.pointer (some ⟨kb128, 0, none⟩)) (by kernel_rfl) (run_addr_slice (q := kb128) (n := 10) (m := 10) (a := 0) Try.underlying46 (fun w => Try.sizeOf4 w) (by kernel_rfl) (by kernel_rfl) (by decide)) ?_
  refine wl_val (.bool true) (by kernel_rfl) (run_load1 (fun w => Try.isAgg4 w) (by kernel_rfl) (((TH.blk hT136 (x := (kb128, 4, boc [true, false, true, false, false, false, true, true, true, false])) (by simp)).cell 0).trans rfl)) ?_
  refine wl_val (.bool false) (by kernel_rfl) (by kernel_rfl) ?_
  refine wl_val (.bool false) (by kernel_rfl) (by kernel_rfl) ?_
  refine wl_val (.bool false) (by kernel_rfl) (by kernel_rfl) ?_
  refine wl_val (.slice (some ⟨kb128, 0, none⟩) 10 10) (by kernel_rfl) (by kernel_rfl) ?_
  refine wl_val (.pointer (some ⟨kb128, 3, none⟩)) (by kernel_rfl) (run_addr_slice (q := kb128) (n := 10) (m := 10) (a := 3) Try.underlying46 (fun w => Try.sizeOf4 w) (by kernel_rfl) (by kernel_rfl) (by decide)) ?_
  refine wl_val (.bool false) (by kernel_rfl) (run_load1 (fun w => Try.isAgg4 w) (by kernel_rfl) (((TH.blk hT136 (x := (kb128, 4, boc [true, false, true, false, false, false, true, true, true, false])) (by simp)).cell 3).trans rfl)) ?_
  refine wl_val (.bool false) (by kernel_rfl) (by kernel_rfl) ?_
  refine wl_val (.bool false) (by kernel_rfl) (by kernel_rfl) ?_
  refine wl_val (.slice (some ⟨kb128, 0, none⟩) 10 10) (by kernel_rfl) (by kernel_rfl) ?_
  refine wl_val (.pointer (some ⟨kb128, 4, none⟩)) (by kernel_rfl) (run_addr_slice (q := kb128) (n := 10) (m := 10) (a := 4) Try.underlying46 (fun w => Try.sizeOf4 w) (by kernel_rfl) (by kernel_rfl) (by decide)) ?_
  refine wl_val (.bool false) (by kernel_rfl) (run_load1 (fun w => Try.isAgg4 w) (by kernel_rfl) (((TH.blk hT136 (x := (kb128, 4, boc [true, false, true, false, false, false, true, true, true, false])) (by simp)).cell 4).trans rfl)) ?_
  refine wl_val (.bool false) (by kernel_rfl) (by kernel_rfl) ?_
  refine wl_nil ?_
  refine then_at (F := ⟨(zT23_3 tb q117 kb128 q16 q32 q51 q67 q86 mm108 q125 un un (List.replicate 293 un)).toArray, []⟩) (by kernel_rfl) ?_
  refine wp_cond_false (by kernel_rfl) ?_
  refine wp_skip ?_
  refine then_at (F := ⟨(zT23_3 tb q117 kb128 q16 q32 q51 q67 q86 mm108 q125 un un (List.replicate 293 un)).toArray, []⟩) (by kernel_rfl) ?_
  refine wp_seq ?_
  -- region 17
  refine wl_region ?_
  refine wl_val (.pointer (some ⟨tb.q, 0, none⟩)) (by kernel_rfl) (by kernel_rfl) ?_
  have hkn141 := Known_any (TH.view hT136) hw96 hg97 (by simp) (fun i u hu => by
      have hmm := List.mem_of_getElem? hu
      simp only [List.mem_cons, List.not_mem_nil, or_false, false_or, reduceCtorEq, Ent.dt.injEq] at hmm
      rcases hmm with rfl | rfl | rfl
      · exact (by decide)
      · exact (by decide)
      · exact (by rw [xS_size]; decide)
      ) (cell_below (TH.below hT136) hv) [] none 0 (.inl rfl) (strs_le (fun y hy => by cases hy)) (by simp)
  refine wl_callx (by kernel_rfl) enter19 #[.pointer (some ⟨tb.q, 0, none⟩), .slice none 0 0] (by kernel_rfl) (hkn141) ?_
  rintro _ w142 ⟨kb137, rfl, hl138, hB139, hb140⟩
  refine ⟨_, rfl, ?_⟩
  have hk143 : knownF [.nm 0, .nm 1, .mk 3 0 ({ data := #[] }) [0] b23, .mk 3 0 ({ data := #[] }) [1] b39, .mk 4 0 ({ data := #[] }) [0, 1] b58, .mk 5 0 ({ data := #[107] }) [4] b74, .dt nS, .dt { data := #[] }, .dt xS, .mk 6 0 ({ data := #[] }) [5, 6, 7, 8] b93] [] = [false, false, false, false, false, false, true, true, false, false] := knownL (m := 10) (l := [.n, .n, .m 3 0 [0], .m 3 0 [1], .m 4 0 [0, 1], .m 5 0 [4], .d [], .d [], .d [0], .m 6 0 [5, 6, 7, 8]]) (q := []) rfl (by kernel_rfl) (by kernel_rfl) (by kernel_rfl)
  rw [hk143] at hB139
  have hT144 := TH.add hT136 hb140 hl138 hB139
  have hT145 : TH w [] tb [.nm 0, .nm 1, .mk 3 0 ({ data := #[] }) [0] b23, .mk 3 0 ({ data := #[] }) [1] b39, .mk 4 0 ({ data := #[] }) [0, 1] b58, .mk 5 0 ({ data := #[107] }) [4] b74, .dt nS, .dt { data := #[] }, .dt xS, .mk 6 0 ({ data := #[] }) [5, 6, 7, 8] b93] ((kb137, 4, boc [false, false, false, false, false, false, true, true, false, false]) :: (kb128, 4, boc [true, false, true, false, false, false, true, true, true, false]) :: (q117, 31, #[iN .i64 4, iN .i64 0, .string ({ data := #[] }), .slice (some ⟨(unp mm108).1, 0, none⟩) 2 (unp mm108).2]) :: ((unp mm108).1, 3, cc109) :: []) w142 := hT144
  refine wl_val (.slice (some ⟨kb137, 0, none⟩) 10 10) (by kernel_rfl) (by kernel_rfl) ?_
  refine wl_nil ?_
  refine then_at (F := ⟨(zT23_3 tb q117 kb128 q16 q32 q51 q67 q86 mm108 q125 (.slice (some ⟨kb137, 0, none⟩) 10 10) un (pt tb.q :: .slice (some ⟨kb137, 0, none⟩) 10 10 :: List.replicate 291 un)).toArray, []⟩) (by kernel_rfl) ?_
  refine wp_seq ?_
  -- region 18
  refine wl_region ?_
  refine wl_val (.pointer (some ⟨tb.q, 0, none⟩)) (by kernel_rfl) (by kernel_rfl) ?_
  refine wl_callx (by kernel_rfl) enter22 #[iN .i64 0] (by kernel_rfl) (name_any 0 (by decide) w142) ?_
  rintro _ w147 ⟨rfl, hb146⟩
  refine ⟨_, rfl, ?_⟩
  have hT148 : TH w [] tb [.nm 0, .nm 1, .mk 3 0 ({ data := #[] }) [0] b23, .mk 3 0 ({ data := #[] }) [1] b39, .mk 4 0 ({ data := #[] }) [0, 1] b58, .mk 5 0 ({ data := #[107] }) [4] b74, .dt nS, .dt { data := #[] }, .dt xS, .mk 6 0 ({ data := #[] }) [5, 6, 7, 8] b93] ((kb137, 4, boc [false, false, false, false, false, false, true, true, false, false]) :: (kb128, 4, boc [true, false, true, false, false, false, true, true, true, false]) :: (q117, 31, #[iN .i64 4, iN .i64 0, .string ({ data := #[] }), .slice (some ⟨(unp mm108).1, 0, none⟩) 2 (unp mm108).2]) :: ((unp mm108).1, 3, cc109) :: []) w147 := TH.keep hT145 hb146
  refine wl_callx (by kernel_rfl) enter22 #[iN .i64 3] (by kernel_rfl) (name_any 3 (by decide) w147) ?_
  rintro _ w150 ⟨rfl, hb149⟩
  refine ⟨_, rfl, ?_⟩
  have hT151 : TH w [] tb [.nm 0, .nm 1, .mk 3 0 ({ data := #[] }) [0] b23, .mk 3 0 ({ data := #[] }) [1] b39, .mk 4 0 ({ data := #[] }) [0, 1] b58, .mk 5 0 ({ data := #[107] }) [4] b74, .dt nS, .dt { data := #[] }, .dt xS, .mk 6 0 ({ data := #[] }) [5, 6, 7, 8] b93] ((kb137, 4, boc [false, false, false, false, false, false, true, true, false, false]) :: (kb128, 4, boc [true, false, true, false, false, false, true, true, true, false]) :: (q117, 31, #[iN .i64 4, iN .i64 0, .string ({ data := #[] }), .slice (some ⟨(unp mm108).1, 0, none⟩) 2 (unp mm108).2]) :: ((unp mm108).1, 3, cc109) :: []) w150 := TH.keep hT148 hb149
  refine wl_val (.string cS) (by kernel_rfl) (run_cat (s := txt 0) (t := txt 3) (by kernel_rfl) (by kernel_rfl) (by simp only [txt_size]; decide)) ?_
  refine wl_mksT (n := 1) (m := 1) (c := strc [cS]) hT151 9 (by kernel_rfl) (by kernel_rfl) ?_
  intro q152 w153 (hT154 : TH w [] tb [.nm 0, .nm 1, .mk 3 0 ({ data := #[] }) [0] b23, .mk 3 0 ({ data := #[] }) [1] b39, .mk 4 0 ({ data := #[] }) [0, 1] b58, .mk 5 0 ({ data := #[107] }) [4] b74, .dt nS, .dt { data := #[] }, .dt xS, .mk 6 0 ({ data := #[] }) [5, 6, 7, 8] b93] ((q152, 9, strc [cS]) :: (kb137, 4, boc [false, false, false, false, false, false, true, true, false, false]) :: (kb128, 4, boc [true, false, true, false, false, false, true, true, true, false]) :: (q117, 31, #[iN .i64 4, iN .i64 0, .string ({ data := #[] }), .slice (some ⟨(unp mm108).1, 0, none⟩) 2 (unp mm108).2]) :: ((unp mm108).1, 3, cc109) :: []) w153)
  have hkn159 := Known_any (TH.view hT154) hw96 hg97 (by simp) (fun i u hu => by
      have hmm := List.mem_of_getElem? hu
      simp only [List.mem_cons, List.not_mem_nil, or_false, false_or, reduceCtorEq, Ent.dt.injEq] at hmm
      rcases hmm with rfl | rfl | rfl
      · exact (by decide)
      · exact (by decide)
      · exact (by rw [xS_size]; decide)
      ) (cell_below (TH.below hT154) hv) [cS] (some ⟨q152, 0, none⟩) 1 (.inr ⟨q152, rfl, TH.blk hT154 (x := (q152, 9, strc [cS])) (List.mem_cons_self ..)⟩) (strs_le (fun y hy => by
      simp only [List.mem_cons, List.not_mem_nil, or_false] at hy
      rcases hy with rfl
      · exact (by rw [cS_size]; decide)
      )) (by simp)
  refine wl_callx (by kernel_rfl) enter19 #[.pointer (some ⟨tb.q, 0, none⟩), .slice (some ⟨q152, 0, none⟩) 1 1] (by kernel_rfl) (hkn159) ?_
  rintro _ w160 ⟨kb155, rfl, hl156, hB157, hb158⟩
  refine ⟨_, rfl, ?_⟩
  have hk161 : knownF [.nm 0, .nm 1, .mk 3 0 ({ data := #[] }) [0] b23, .mk 3 0 ({ data := #[] }) [1] b39, .mk 4 0 ({ data := #[] }) [0, 1] b58, .mk 5 0 ({ data := #[107] }) [4] b74, .dt nS, .dt { data := #[] }, .dt xS, .mk 6 0 ({ data := #[] }) [5, 6, 7, 8] b93] [cS] = [true, false, true, true, true, true, true, true, true, true] := knownL (m := 10) (l := [.n, .n, .m 3 0 [0], .m 3 0 [1], .m 4 0 [0, 1], .m 5 0 [4], .d [], .d [], .d [0], .m 6 0 [5, 6, 7, 8]]) (q := [[0, 3]]) rfl (by kernel_rfl) (by kernel_rfl) (by kernel_rfl)
  rw [hk161] at hB157
  have hT162 := TH.add hT154 hb158 hl156 hB157
  have hT163 : TH w [] tb [.nm 0, .nm 1, .mk 3 0 ({ data := #[] }) [0] b23, .mk 3 0 ({ data := #[] }) [1] b39, .mk 4 0 ({ data := #[] }) [0, 1] b58, .mk 5 0 ({ data := #[107] }) [4] b74, .dt nS, .dt { data := #[] }, .dt xS, .mk 6 0 ({ data := #[] }) [5, 6, 7, 8] b93] ((kb155, 4, boc [true, false, true, true, true, true, true, true, true, true]) :: (kb137, 4, boc [false, false, false, false, false, false, true, true, false, false]) :: (kb128, 4, boc [true, false, true, false, false, false, true, true, true, false]) :: (q117, 31, #[iN .i64 4, iN .i64 0, .string ({ data := #[] }), .slice (some ⟨(unp mm108).1, 0, none⟩) 2 (unp mm108).2]) :: ((unp mm108).1, 3, cc109) :: []) w160 := TH.sub hT162 (List.Sublist.cons_cons _ (List.sublist_cons_self _ _))
  refine wl_val (.slice (some ⟨kb155, 0, none⟩) 10 10) (by kernel_rfl) (by kernel_rfl) ?_
  refine wl_nil ?_
  refine then_at (F := ⟨(zT23_3 tb q117 kb128 q16 q32 q51 q67 q86 mm108 q125 (.slice (some ⟨kb137, 0, none⟩) 10 10) (.slice (some ⟨kb155, 0, none⟩) 10 10) (pt tb.q :: .slice (some ⟨kb137, 0, none⟩) 10 10 :: pt tb.q :: .string (txt 0) :: .string (txt 3) :: .string cS :: .slice (some ⟨q152, 0, none⟩) 1 1 :: .slice (some ⟨kb155, 0, none⟩) 10 10 :: List.replicate 285 un)).toArray, []⟩) (by kernel_rfl) ?_
  refine wp_seq ?_
  refine wp_seq ?_
  -- region 19
  refine wl_region ?_
  refine wl_val (.bool true) (by kernel_rfl) (by kernel_rfl) ?_
  refine wl_val (.bool false) (by kernel_rfl) (by kernel_rfl) ?_
  refine wl_val (.bool false) (by kernel_rfl) (by kernel_rfl) ?_
  refine wl_val (.pointer (some ⟨q117, 0, none⟩)) (by kernel_rfl) (by kernel_rfl) ?_
  refine wl_val (iN .i64 4) (by kernel_rfl) (run_load1 (fun w => Try.isAgg3 w) (by kernel_rfl) (((TH.blk hT163 (x := (q117, 31, #[iN .i64 4, iN .i64 0, .string ({ data := #[] }), .slice (some ⟨(unp mm108).1, 0, none⟩) 2 (unp mm108).2])) (by simp)).cell 0).trans rfl)) ?_
  refine wl_val (.bool false) (by kernel_rfl) (run_nei (k := .i64) (a := 4) (b := 4) (by kernel_rfl) (by kernel_rfl) false (by decide)) ?_
  refine wl_val (.bool false) (by kernel_rfl) (by kernel_rfl) ?_
  refine wl_val (.bool false) (by kernel_rfl) (by kernel_rfl) ?_
  refine wl_val (.pointer (some ⟨q117, 1, none⟩)) (by kernel_rfl) (by kernel_rfl) ?_
  refine wl_val (iN .i64 0) (by kernel_rfl) (run_load1 (fun w => Try.isAgg3 w) (by kernel_rfl) (((TH.blk hT163 (x := (q117, 31, #[iN .i64 4, iN .i64 0, .string ({ data := #[] }), .slice (some ⟨(unp mm108).1, 0, none⟩) 2 (unp mm108).2])) (by simp)).cell 1).trans rfl)) ?_
  refine wl_val (.bool false) (by kernel_rfl) (run_nei (k := .i64) (a := 0) (b := 0) (by kernel_rfl) (by kernel_rfl) false (by decide)) ?_
  refine wl_val (.bool false) (by kernel_rfl) (by kernel_rfl) ?_
  refine wl_val (.bool false) (by kernel_rfl) (by kernel_rfl) ?_
  refine wl_val (.pointer (some ⟨q117, 3, none⟩)) (by kernel_rfl) (by kernel_rfl) ?_
  refine wl_val (.slice (some ⟨(unp mm108).1, 0, none⟩) 2 (unp mm108).2) (by kernel_rfl) (run_load1 (fun w => Try.isAgg29 w) (by kernel_rfl) (((TH.blk hT163 (x := (q117, 31, #[iN .i64 4, iN .i64 0, .string ({ data := #[] }), .slice (some ⟨(unp mm108).1, 0, none⟩) 2 (unp mm108).2])) (by simp)).cell 3).trans rfl)) ?_
  refine wl_val (iN .i64 2) (by kernel_rfl) (by kernel_rfl) ?_
  refine wl_val (.bool false) (by kernel_rfl) (run_nei (k := .i64) (a := 2) (b := 2) (by kernel_rfl) (by kernel_rfl) false (by decide)) ?_
  refine wl_val (.bool false) (by kernel_rfl) (by kernel_rfl) ?_
  refine wl_val (.bool false) (by kernel_rfl) (by kernel_rfl) ?_
  refine wl_val (.pointer (some ⟨q117, 3, none⟩)) (by kernel_rfl) (by kernel_rfl) ?_
  refine wl_val (.slice (some ⟨(unp mm108).1, 0, none⟩) 2 (unp mm108).2) (by kernel_rfl) (run_load1 (fun w => Try.isAgg29 w) (by kernel_rfl) (((TH.blk hT163 (x := (q117, 31, #[iN .i64 4, iN .i64 0, .string ({ data := #[] }), .slice (some ⟨(unp mm108).1, 0, none⟩) 2 (unp mm108).2])) (by simp)).cell 3).trans rfl)) ?_
  refine wl_val (.pointer (some ⟨(unp mm108).1, 0, none⟩)) (by kernel_rfl) (run_addr_slice (q := (unp mm108).1) (n := 2) (m := (unp mm108).2) (a := 0) Try.underlying29 (fun w => Try.sizeOf3 w) (by kernel_rfl) (by kernel_rfl) (by decide)) ?_
  refine wl_val (iN .i64 0) (by kernel_rfl) (run_load1 (fun w => Try.isAgg3 w) (by kernel_rfl) (((TH.blk hT163 (x := ((unp mm108).1, 3, cc109)) (by simp)).cell 0).trans (hr112 0 (by decide)))) ?_
  refine wl_val (.bool false) (by kernel_rfl) (run_nei (k := .i64) (a := 0) (b := 0) (by kernel_rfl) (by kernel_rfl) false (by decide)) ?_
  refine wl_val (.bool false) (by kernel_rfl) (by kernel_rfl) ?_
  refine wl_val (.bool false) (by kernel_rfl) (by kernel_rfl) ?_
  refine wl_val (.pointer (some ⟨q117, 3, none⟩)) (by kernel_rfl) (by kernel_rfl) ?_
  refine wl_val (.slice (some ⟨(unp mm108).1, 0, none⟩) 2 (unp mm108).2) (by kernel_rfl) (run_load1 (fun w => Try.isAgg29 w) (by kernel_rfl) (((TH.blk hT163 (x := (q117, 31, #[iN .i64 4, iN .i64 0, .string ({ data := #[] }), .slice (some ⟨(unp mm108).1, 0, none⟩) 2 (unp mm108).2])) (by simp)).cell 3).trans rfl)) ?_
  refine wl_val (.pointer (some ⟨(unp mm108).1, 1, none⟩)) (by kernel_rfl) (run_addr_slice (q := (unp mm108).1) (n := 2) (m := (unp mm108).2) (a := 1) Try.underlying29 (fun w => Try.sizeOf3 w) (by kernel_rfl) (by kernel_rfl) (by decide)) ?_
  refine wl_val (iN .i64 1) (by kernel_rfl) (run_load1 (fun w => Try.isAgg3 w) (by kernel_rfl) (((TH.blk hT163 (x := ((unp mm108).1, 3, cc109)) (by simp)).cell 1).trans (hr112 1 (by decide)))) ?_
  refine wl_val (.bool false) (by kernel_rfl) (run_nei (k := .i64) (a := 1) (b := 1) (by kernel_rfl) (by kernel_rfl) false (by decide)) ?_
  refine wl_val (.bool false) (by kernel_rfl) (by kernel_rfl) ?_
  refine wl_val (.bool false) (by kernel_rfl) (by kernel_rfl) ?_
  refine wl_val (.slice (some ⟨kb137, 0, none⟩) 10 10) (by kernel_rfl) (by kernel_rfl) ?_
  refine wl_val (iN .i64 10) (by kernel_rfl) (by kernel_rfl) ?_
  refine wl_val (.bool false) (by kernel_rfl) (run_nei (k := .i64) (a := 10) (b := 10) (by kernel_rfl) (by kernel_rfl) false (by decide)) ?_
  refine wl_val (.bool false) (by kernel_rfl) (by kernel_rfl) ?_
  refine wl_val (.bool false) (by kernel_rfl) (by kernel_rfl) ?_
  refine wl_val (.slice (some ⟨kb155, 0, none⟩) 10 10) (by kernel_rfl) (by kernel_rfl) ?_
  refine wl_val (iN .i64 10) (by kernel_rfl) (by kernel_rfl) ?_
  refine wl_val (.bool false) (by kernel_rfl) (run_nei (k := .i64) (a := 10) (b := 10) (by kernel_rfl) (by kernel_rfl) false (by decide)) ?_
  refine wl_val (.bool false) (by kernel_rfl) (by kernel_rfl) ?_
  refine wl_nil ?_
  refine then_at (F := ⟨(zT23_4 tb q117 kb128 kb137 kb155 q16 q32 q51 q67 q86 mm108 q125 q152 un (List.replicate 243 un)).toArray, []⟩) (by kernel_rfl) ?_
  refine wp_cond_false (by kernel_rfl) ?_
  refine wp_skip ?_
  refine then_at (F := ⟨(zT23_4 tb q117 kb128 kb137 kb155 q16 q32 q51 q67 q86 mm108 q125 q152 un (List.replicate 243 un)).toArray, []⟩) (by kernel_rfl) ?_
  refine wp_seq ?_
  refine wp_seq ?_
  -- region 21
  refine wl_region ?_
  refine wl_val (iN .i64 0) (by kernel_rfl) (by kernel_rfl) ?_
  refine wl_nil ?_
  refine then_at (F := ⟨(zT23_4 tb q117 kb128 kb137 kb155 q16 q32 q51 q67 q86 mm108 q125 q152 (iN .i64 0) (List.replicate 243 un)).toArray, []⟩) (by kernel_rfl) ?_
  refine wp_block ?_
  refine wp_loop_rounds 11 ?_
  try rw [rounds_succ]
  refine wp_seq ?_
  refine wp_seq ?_
  -- region 22
  refine wl_region ?_
  refine wl_val (iN .i64 0) (by kernel_rfl) (by kernel_rfl) ?_
  refine wl_val (.bool true) (by kernel_rfl) (run_lss (k := .i64) (a := 0) (b := 10) (by kernel_rfl) (by kernel_rfl) true (by decide)) ?_
  refine wl_nil ?_
  refine then_at (F := ⟨(zT23_4 tb q117 kb128 kb137 kb155 q16 q32 q51 q67 q86 mm108 q125 q152 (iN .i64 0) (iN .i64 0 :: .bool true :: List.replicate 241 un)).toArray, []⟩) (by kernel_rfl) ?_
  refine wp_cond_true (by kernel_rfl) ?_
  refine wp_skip ?_
  refine then_at (F := ⟨(zT23_4 tb q117 kb128 kb137 kb155 q16 q32 q51 q67 q86 mm108 q125 q152 (iN .i64 0) (iN .i64 0 :: .bool true :: List.replicate 241 un)).toArray, []⟩) (by kernel_rfl) ?_
  refine wp_seq ?_
  refine wp_block ?_
  refine wp_seq ?_
  -- region 24
  refine wl_region ?_
  refine wl_val (.slice (some ⟨kb137, 0, none⟩) 10 10) (by kernel_rfl) (by kernel_rfl) ?_
  refine wl_val (iN .i64 0) (by kernel_rfl) (by kernel_rfl) ?_
  refine wl_val (.pointer (some ⟨kb137, 0, none⟩)) (by kernel_rfl) (run_addr_slice (q := kb137) (n := 10) (m := 10) (a := 0) Try.underlying46 (fun w => Try.sizeOf4 w) (by kernel_rfl) (by kernel_rfl) (by decide)) ?_
  refine wl_val (.bool false) (by kernel_rfl) (run_load1 (fun w => Try.isAgg4 w) (by kernel_rfl) (((TH.blk hT163 (x := (kb137, 4, boc [false, false, false, false, false, false, true, true, false, false])) (by simp)).cell 0).trans rfl)) ?_
  refine wl_val (iN .i64 0) (by kernel_rfl) (by kernel_rfl) ?_
  refine wl_val (.bool false) (by kernel_rfl) (run_eqi (k := .i64) (a := 0) (b := 6) (by kernel_rfl) (by kernel_rfl) false (by decide)) ?_
  refine wl_val (.bool false) (by kernel_rfl) (by kernel_rfl) ?_
  refine wl_val (iN .i64 0) (by kernel_rfl) (by kernel_rfl) ?_
  refine wl_val (.bool false) (by kernel_rfl) (run_eqi (k := .i64) (a := 0) (b := 7) (by kernel_rfl) (by kernel_rfl) false (by decide)) ?_
  refine wl_val (.bool false) (by kernel_rfl) (by kernel_rfl) ?_
  refine wl_val (.bool false) (by kernel_rfl) (by kernel_rfl) ?_
  refine wl_val (.bool false) (by kernel_rfl) (by kernel_rfl) ?_
  refine wl_val (.slice (some ⟨kb155, 0, none⟩) 10 10) (by kernel_rfl) (by kernel_rfl) ?_
  refine wl_val (iN .i64 0) (by kernel_rfl) (by kernel_rfl) ?_
  refine wl_val (.pointer (some ⟨kb155, 0, none⟩)) (by kernel_rfl) (run_addr_slice (q := kb155) (n := 10) (m := 10) (a := 0) Try.underlying46 (fun w => Try.sizeOf4 w) (by kernel_rfl) (by kernel_rfl) (by decide)) ?_
  refine wl_val (.bool true) (by kernel_rfl) (run_load1 (fun w => Try.isAgg4 w) (by kernel_rfl) (((TH.blk hT163 (x := (kb155, 4, boc [true, false, true, true, true, true, true, true, true, true])) (by simp)).cell 0).trans rfl)) ?_
  refine wl_val (iN .i64 0) (by kernel_rfl) (by kernel_rfl) ?_
  refine wl_val (.bool true) (by kernel_rfl) (run_nei (k := .i64) (a := 0) (b := 1) (by kernel_rfl) (by kernel_rfl) true (by decide)) ?_
  refine wl_val (.bool false) (by kernel_rfl) (by kernel_rfl) ?_
  refine wl_val (.bool false) (by kernel_rfl) (by kernel_rfl) ?_
  refine wl_nil ?_
  refine then_at (F := ⟨(zT23_5 tb q117 kb128 kb137 kb155 q16 q32 q51 q67 q86 mm108 q125 q152 (iN .i64 0) (iN .i64 0) un un (iN .i64 0) (pt kb137) (iN .i64 0) (iN .i64 0) (iN .i64 0) (pt kb155) (.bool true) (iN .i64 0) (.bool true) (List.replicate 219 un)).toArray, []⟩) (by kernel_rfl) ?_
  refine wp_cond_false (by kernel_rfl) ?_
  refine wp_skip ?_
  refine block_normal ?_
  refine then_at (F := ⟨(zT23_5 tb q117 kb128 kb137 kb155 q16 q32 q51 q67 q86 mm108 q125 q152 (iN .i64 0) (iN .i64 0) un un (iN .i64 0) (pt kb137) (iN .i64 0) (iN .i64 0) (iN .i64 0) (pt kb155) (.bool true) (iN .i64 0) (.bool true) (List.replicate 219 un)).toArray, []⟩) (by kernel_rfl) ?_
  -- region 23
  refine wl_region ?_
  refine wl_val (iN .i64 0) (by kernel_rfl) (by kernel_rfl) ?_
  refine wl_val (iN .i64 (0 + 1)) (by kernel_rfl) (run_add (k := .i64) (a := 0) (b := 1) (by kernel_rfl) (by kernel_rfl) (by decide)) ?_
  refine wl_val (iN .i64 (0 + 1)) (by kernel_rfl) (by kernel_rfl) ?_
  refine wl_nil ?_
  refine then_at (F := ⟨(zT23_5 tb q117 kb128 kb137 kb155 q16 q32 q51 q67 q86 mm108 q125 q152 (iN .i64 (0 + 1)) (iN .i64 0) (iN .i64 0) (iN .i64 (0 + 1)) (iN .i64 0) (pt kb137) (iN .i64 0) (iN .i64 0) (iN .i64 0) (pt kb155) (.bool true) (iN .i64 0) (.bool true) (List.replicate 219 un)).toArray, []⟩) (by kernel_rfl) ?_
  try rw [rounds_succ]
  refine wp_seq ?_
  refine wp_seq ?_
  -- region 22
  refine wl_region ?_
  refine wl_val (iN .i64 (0 + 1)) (by kernel_rfl) (by kernel_rfl) ?_
  refine wl_val (.bool true) (by kernel_rfl) (run_lss (k := .i64) (a := 0 + 1) (b := 10) (by kernel_rfl) (by kernel_rfl) true (by decide)) ?_
  refine wl_nil ?_
  refine then_at (F := ⟨(zT23_5 tb q117 kb128 kb137 kb155 q16 q32 q51 q67 q86 mm108 q125 q152 (iN .i64 (0 + 1)) (iN .i64 (0 + 1)) (iN .i64 0) (iN .i64 (0 + 1)) (iN .i64 0) (pt kb137) (iN .i64 0) (iN .i64 0) (iN .i64 0) (pt kb155) (.bool true) (iN .i64 0) (.bool true) (List.replicate 219 un)).toArray, []⟩) (by kernel_rfl) ?_
  refine wp_cond_true (by kernel_rfl) ?_
  refine wp_skip ?_
  refine then_at (F := ⟨(zT23_5 tb q117 kb128 kb137 kb155 q16 q32 q51 q67 q86 mm108 q125 q152 (iN .i64 (0 + 1)) (iN .i64 (0 + 1)) (iN .i64 0) (iN .i64 (0 + 1)) (iN .i64 0) (pt kb137) (iN .i64 0) (iN .i64 0) (iN .i64 0) (pt kb155) (.bool true) (iN .i64 0) (.bool true) (List.replicate 219 un)).toArray, []⟩) (by kernel_rfl) ?_
  refine wp_seq ?_
  refine wp_block ?_
  refine wp_seq ?_
  -- region 24
  refine wl_region ?_
  refine wl_val (.slice (some ⟨kb137, 0, none⟩) 10 10) (by kernel_rfl) (by kernel_rfl) ?_
  refine wl_val (iN .i64 (0 + 1)) (by kernel_rfl) (by kernel_rfl) ?_
  refine wl_val (.pointer (some ⟨kb137, 0 + 1, none⟩)) (by kernel_rfl) (run_addr_slice (q := kb137) (n := 10) (m := 10) (a := 0 + 1) Try.underlying46 (fun w => Try.sizeOf4 w) (by kernel_rfl) (by kernel_rfl) (by decide)) ?_
  refine wl_val (.bool false) (by kernel_rfl) (run_load1 (fun w => Try.isAgg4 w) (by kernel_rfl) (((TH.blk hT163 (x := (kb137, 4, boc [false, false, false, false, false, false, true, true, false, false])) (by simp)).cell (0 + 1)).trans rfl)) ?_
  refine wl_val (iN .i64 (0 + 1)) (by kernel_rfl) (by kernel_rfl) ?_
  refine wl_val (.bool false) (by kernel_rfl) (run_eqi (k := .i64) (a := 0 + 1) (b := 6) (by kernel_rfl) (by kernel_rfl) false (by decide)) ?_
  refine wl_val (.bool false) (by kernel_rfl) (by kernel_rfl) ?_
  refine wl_val (iN .i64 (0 + 1)) (by kernel_rfl) (by kernel_rfl) ?_
  refine wl_val (.bool false) (by kernel_rfl) (run_eqi (k := .i64) (a := 0 + 1) (b := 7) (by kernel_rfl) (by kernel_rfl) false (by decide)) ?_
  refine wl_val (.bool false) (by kernel_rfl) (by kernel_rfl) ?_
  refine wl_val (.bool false) (by kernel_rfl) (by kernel_rfl) ?_
  refine wl_val (.bool false) (by kernel_rfl) (by kernel_rfl) ?_
  refine wl_val (.slice (some ⟨kb155, 0, none⟩) 10 10) (by kernel_rfl) (by kernel_rfl) ?_
  refine wl_val (iN .i64 (0 + 1)) (by kernel_rfl) (by kernel_rfl) ?_
  refine wl_val (.pointer (some ⟨kb155, 0 + 1, none⟩)) (by kernel_rfl) (run_addr_slice (q := kb155) (n := 10) (m := 10) (a := 0 + 1) Try.underlying46 (fun w => Try.sizeOf4 w) (by kernel_rfl) (by kernel_rfl) (by decide)) ?_
  refine wl_val (.bool false) (by kernel_rfl) (run_load1 (fun w => Try.isAgg4 w) (by kernel_rfl) (((TH.blk hT163 (x := (kb155, 4, boc [true, false, true, true, true, true, true, true, true, true])) (by simp)).cell (0 + 1)).trans rfl)) ?_
  refine wl_val (iN .i64 (0 + 1)) (by kernel_rfl) (by kernel_rfl) ?_
  refine wl_val (.bool false) (by kernel_rfl) (run_nei (k := .i64) (a := 0 + 1) (b := 1) (by kernel_rfl) (by kernel_rfl) false (by decide)) ?_
  refine wl_val (.bool false) (by kernel_rfl) (by kernel_rfl) ?_
  refine wl_val (.bool false) (by kernel_rfl) (by kernel_rfl) ?_
  refine wl_nil ?_
  refine then_at (F := ⟨(zT23_5 tb q117 kb128 kb137 kb155 q16 q32 q51 q67 q86 mm108 q125 q152 (iN .i64 (0 + 1)) (iN .i64 (0 + 1)) (iN .i64 0) (iN .i64 (0 + 1)) (iN .i64 (0 + 1)) (.pointer (some ⟨kb137, 0 + 1, none⟩)) (iN .i64 (0 + 1)) (iN .i64 (0 + 1)) (iN .i64 (0 + 1)) (.pointer (some ⟨kb155, 0 + 1, none⟩)) (.bool false) (iN .i64 (0 + 1)) (.bool false) (List.replicate 219 un)).toArray, []⟩) (by kernel_rfl) ?_
  refine wp_cond_false (by kernel_rfl) ?_
  refine wp_skip ?_
  refine block_normal ?_
  refine then_at (F := ⟨(zT23_5 tb q117 kb128 kb137 kb155 q16 q32 q51 q67 q86 mm108 q125 q152 (iN .i64 (0 + 1)) (iN .i64 (0 + 1)) (iN .i64 0) (iN .i64 (0 + 1)) (iN .i64 (0 + 1)) (.pointer (some ⟨kb137, 0 + 1, none⟩)) (iN .i64 (0 + 1)) (iN .i64 (0 + 1)) (iN .i64 (0 + 1)) (.pointer (some ⟨kb155, 0 + 1, none⟩)) (.bool false) (iN .i64 (0 + 1)) (.bool false) (List.replicate 219 un)).toArray, []⟩) (by kernel_rfl) ?_
  -- region 23
  refine wl_region ?_
  refine wl_val (iN .i64 (0 + 1)) (by kernel_rfl) (by kernel_rfl) ?_
  refine wl_val (iN .i64 ((0 + 1) + 1)) (by kernel_rfl) (run_add (k := .i64) (a := 0 + 1) (b := 1) (by kernel_rfl) (by kernel_rfl) (by decide)) ?_
  refine wl_val (iN .i64 ((0 + 1) + 1)) (by kernel_rfl) (by kernel_rfl) ?_
  refine wl_nil ?_
  refine then_at (F := ⟨(zT23_5 tb q117 kb128 kb137 kb155 q16 q32 q51 q67 q86 mm108 q125 q152 (iN .i64 ((0 + 1) + 1)) (iN .i64 (0 + 1)) (iN .i64 (0 + 1)) (iN .i64 ((0 + 1) + 1)) (iN .i64 (0 + 1)) (.pointer (some ⟨kb137, 0 + 1, none⟩)) (iN .i64 (0 + 1)) (iN .i64 (0 + 1)) (iN .i64 (0 + 1)) (.pointer (some ⟨kb155, 0 + 1, none⟩)) (.bool false) (iN .i64 (0 + 1)) (.bool false) (List.replicate 219 un)).toArray, []⟩) (by kernel_rfl) ?_
  try rw [rounds_succ]
  refine wp_seq ?_
  refine wp_seq ?_
  -- region 22
  refine wl_region ?_
  refine wl_val (iN .i64 ((0 + 1) + 1)) (by kernel_rfl) (by kernel_rfl) ?_
  refine wl_val (.bool true) (by kernel_rfl) (run_lss (k := .i64) (a := (0 + 1) + 1) (b := 10) (by kernel_rfl) (by kernel_rfl) true (by decide)) ?_
  refine wl_nil ?_
  refine then_at (F := ⟨(zT23_5 tb q117 kb128 kb137 kb155 q16 q32 q51 q67 q86 mm108 q125 q152 (iN .i64 ((0 + 1) + 1)) (iN .i64 ((0 + 1) + 1)) (iN .i64 (0 + 1)) (iN .i64 ((0 + 1) + 1)) (iN .i64 (0 + 1)) (.pointer (some ⟨kb137, 0 + 1, none⟩)) (iN .i64 (0 + 1)) (iN .i64 (0 + 1)) (iN .i64 (0 + 1)) (.pointer (some ⟨kb155, 0 + 1, none⟩)) (.bool false) (iN .i64 (0 + 1)) (.bool false) (List.replicate 219 un)).toArray, []⟩) (by kernel_rfl) ?_
  refine wp_cond_true (by kernel_rfl) ?_
  refine wp_skip ?_
  refine then_at (F := ⟨(zT23_5 tb q117 kb128 kb137 kb155 q16 q32 q51 q67 q86 mm108 q125 q152 (iN .i64 ((0 + 1) + 1)) (iN .i64 ((0 + 1) + 1)) (iN .i64 (0 + 1)) (iN .i64 ((0 + 1) + 1)) (iN .i64 (0 + 1)) (.pointer (some ⟨kb137, 0 + 1, none⟩)) (iN .i64 (0 + 1)) (iN .i64 (0 + 1)) (iN .i64 (0 + 1)) (.pointer (some ⟨kb155, 0 + 1, none⟩)) (.bool false) (iN .i64 (0 + 1)) (.bool false) (List.replicate 219 un)).toArray, []⟩) (by kernel_rfl) ?_
  refine wp_seq ?_
  refine wp_block ?_
  refine wp_seq ?_
  -- region 24
  refine wl_region ?_
  refine wl_val (.slice (some ⟨kb137, 0, none⟩) 10 10) (by kernel_rfl) (by kernel_rfl) ?_
  refine wl_val (iN .i64 ((0 + 1) + 1)) (by kernel_rfl) (by kernel_rfl) ?_
  refine wl_val (.pointer (some ⟨kb137, (0 + 1) + 1, none⟩)) (by kernel_rfl) (run_addr_slice (q := kb137) (n := 10) (m := 10) (a := (0 + 1) + 1) Try.underlying46 (fun w => Try.sizeOf4 w) (by kernel_rfl) (by kernel_rfl) (by decide)) ?_
  refine wl_val (.bool false) (by kernel_rfl) (run_load1 (fun w => Try.isAgg4 w) (by kernel_rfl) (((TH.blk hT163 (x := (kb137, 4, boc [false, false, false, false, false, false, true, true, false, false])) (by simp)).cell ((0 + 1) + 1)).trans rfl)) ?_
  refine wl_val (iN .i64 ((0 + 1) + 1)) (by kernel_rfl) (by kernel_rfl) ?_
  refine wl_val (.bool false) (by kernel_rfl) (run_eqi (k := .i64) (a := (0 + 1) + 1) (b := 6) (by kernel_rfl) (by kernel_rfl) false (by decide)) ?_
  refine wl_val (.bool false) (by kernel_rfl) (by kernel_rfl) ?_
  refine wl_val (iN .i64 ((0 + 1) + 1)) (by kernel_rfl) (by kernel_rfl) ?_
  refine wl_val (.bool false) (by kernel_rfl) (run_eqi (k := .i64) (a := (0 + 1) + 1) (b := 7) (by kernel_rfl) (by kernel_rfl) false (by decide)) ?_
  refine wl_val (.bool false) (by kernel_rfl) (by kernel_rfl) ?_
  refine wl_val (.bool false) (by kernel_rfl) (by kernel_rfl) ?_
  refine wl_val (.bool false) (by kernel_rfl) (by kernel_rfl) ?_
  refine wl_val (.slice (some ⟨kb155, 0, none⟩) 10 10) (by kernel_rfl) (by kernel_rfl) ?_
  refine wl_val (iN .i64 ((0 + 1) + 1)) (by kernel_rfl) (by kernel_rfl) ?_
  refine wl_val (.pointer (some ⟨kb155, (0 + 1) + 1, none⟩)) (by kernel_rfl) (run_addr_slice (q := kb155) (n := 10) (m := 10) (a := (0 + 1) + 1) Try.underlying46 (fun w => Try.sizeOf4 w) (by kernel_rfl) (by kernel_rfl) (by decide)) ?_
  refine wl_val (.bool true) (by kernel_rfl) (run_load1 (fun w => Try.isAgg4 w) (by kernel_rfl) (((TH.blk hT163 (x := (kb155, 4, boc [true, false, true, true, true, true, true, true, true, true])) (by simp)).cell ((0 + 1) + 1)).trans rfl)) ?_
  refine wl_val (iN .i64 ((0 + 1) + 1)) (by kernel_rfl) (by kernel_rfl) ?_
  refine wl_val (.bool true) (by kernel_rfl) (run_nei (k := .i64) (a := (0 + 1) + 1) (b := 1) (by kernel_rfl) (by kernel_rfl) true (by decide)) ?_
  refine wl_val (.bool false) (by kernel_rfl) (by kernel_rfl) ?_
  refine wl_val (.bool false) (by kernel_rfl) (by kernel_rfl) ?_
  refine wl_nil ?_
  refine then_at (F := ⟨(zT23_5 tb q117 kb128 kb137 kb155 q16 q32 q51 q67 q86 mm108 q125 q152 (iN .i64 ((0 + 1) + 1)) (iN .i64 ((0 + 1) + 1)) (iN .i64 (0 + 1)) (iN .i64 ((0 + 1) + 1)) (iN .i64 ((0 + 1) + 1)) (.pointer (some ⟨kb137, (0 + 1) + 1, none⟩)) (iN .i64 ((0 + 1) + 1)) (iN .i64 ((0 + 1) + 1)) (iN .i64 ((0 + 1) + 1)) (.pointer (some ⟨kb155, (0 + 1) + 1, none⟩)) (.bool true) (iN .i64 ((0 + 1) + 1)) (.bool true) (List.replicate 219 un)).toArray, []⟩) (by kernel_rfl) ?_
  refine wp_cond_false (by kernel_rfl) ?_
  refine wp_skip ?_
  refine block_normal ?_
  refine then_at (F := ⟨(zT23_5 tb q117 kb128 kb137 kb155 q16 q32 q51 q67 q86 mm108 q125 q152 (iN .i64 ((0 + 1) + 1)) (iN .i64 ((0 + 1) + 1)) (iN .i64 (0 + 1)) (iN .i64 ((0 + 1) + 1)) (iN .i64 ((0 + 1) + 1)) (.pointer (some ⟨kb137, (0 + 1) + 1, none⟩)) (iN .i64 ((0 + 1) + 1)) (iN .i64 ((0 + 1) + 1)) (iN .i64 ((0 + 1) + 1)) (.pointer (some ⟨kb155, (0 + 1) + 1, none⟩)) (.bool true) (iN .i64 ((0 + 1) + 1)) (.bool true) (List.replicate 219 un)).toArray, []⟩) (by kernel_rfl) ?_
  -- region 23
  refine wl_region ?_
  refine wl_val (iN .i64 ((0 + 1) + 1)) (by kernel_rfl) (by kernel_rfl) ?_
  refine wl_val (iN .i64 (((0 + 1) + 1) + 1)) (by kernel_rfl) (run_add (k := .i64) (a := (0 + 1) + 1) (b := 1) (by kernel_rfl) (by kernel_rfl) (by decide)) ?_
  refine wl_val (iN .i64 (((0 + 1) + 1) + 1)) (by kernel_rfl) (by kernel_rfl) ?_
  refine wl_nil ?_
  refine then_at (F := ⟨(zT23_5 tb q117 kb128 kb137 kb155 q16 q32 q51 q67 q86 mm108 q125 q152 (iN .i64 (((0 + 1) + 1) + 1)) (iN .i64 ((0 + 1) + 1)) (iN .i64 ((0 + 1) + 1)) (iN .i64 (((0 + 1) + 1) + 1)) (iN .i64 ((0 + 1) + 1)) (.pointer (some ⟨kb137, (0 + 1) + 1, none⟩)) (iN .i64 ((0 + 1) + 1)) (iN .i64 ((0 + 1) + 1)) (iN .i64 ((0 + 1) + 1)) (.pointer (some ⟨kb155, (0 + 1) + 1, none⟩)) (.bool true) (iN .i64 ((0 + 1) + 1)) (.bool true) (List.replicate 219 un)).toArray, []⟩) (by kernel_rfl) ?_
  try rw [rounds_succ]
  refine wp_seq ?_
  refine wp_seq ?_
  -- region 22
  refine wl_region ?_
  refine wl_val (iN .i64 (((0 + 1) + 1) + 1)) (by kernel_rfl) (by kernel_rfl) ?_
  refine wl_val (.bool true) (by kernel_rfl) (run_lss (k := .i64) (a := ((0 + 1) + 1) + 1) (b := 10) (by kernel_rfl) (by kernel_rfl) true (by decide)) ?_
  refine wl_nil ?_
  refine then_at (F := ⟨(zT23_5 tb q117 kb128 kb137 kb155 q16 q32 q51 q67 q86 mm108 q125 q152 (iN .i64 (((0 + 1) + 1) + 1)) (iN .i64 (((0 + 1) + 1) + 1)) (iN .i64 ((0 + 1) + 1)) (iN .i64 (((0 + 1) + 1) + 1)) (iN .i64 ((0 + 1) + 1)) (.pointer (some ⟨kb137, (0 + 1) + 1, none⟩)) (iN .i64 ((0 + 1) + 1)) (iN .i64 ((0 + 1) + 1)) (iN .i64 ((0 + 1) + 1)) (.pointer (some ⟨kb155, (0 + 1) + 1, none⟩)) (.bool true) (iN .i64 ((0 + 1) + 1)) (.bool true) (List.replicate 219 un)).toArray, []⟩) (by kernel_rfl) ?_
  refine wp_cond_true (by kernel_rfl) ?_
  refine wp_skip ?_
  refine then_at (F := ⟨(zT23_6 tb q117 kb128 kb137 kb155 q16 q32 q51 q67 q86 mm108 q125 q152 (iN .i64 (((0 + 1) + 1) + 1)) (iN .i64 (((0 + 1) + 1) + 1)) (iN .i64 ((0 + 1) + 1)) (iN .i64 (((0 + 1) + 1) + 1)) (iN .i64 ((0 + 1) + 1)) (.pointer (some ⟨kb137, (0 + 1) + 1, none⟩)) (iN .i64 ((0 + 1) + 1)) (iN .i64 ((0 + 1) + 1)) (iN .i64 ((0 + 1) + 1)) (.pointer (some ⟨kb155, (0 + 1) + 1, none⟩)) (iN .i64 ((0 + 1) + 1)) (List.replicate 219 un)).toArray, []⟩) (by kernel_rfl) ?_
  refine wp_seq ?_
  refine wp_block ?_
  refine wp_seq ?_
  -- region 24
  refine wl_region ?_
  refine wl_val (.slice (some ⟨kb137, 0, none⟩) 10 10) (by kernel_rfl) (by kernel_rfl) ?_
  refine wl_val (iN .i64 (((0 + 1) + 1) + 1)) (by kernel_rfl) (by kernel_rfl) ?_
  refine wl_val (.pointer (some ⟨kb137, ((0 + 1) + 1) + 1, none⟩)) (by kernel_rfl) (run_addr_slice (q := kb137) (n := 10) (m := 10) (a := ((0 + 1) + 1) + 1) Try.underlying46 (fun w => Try.sizeOf4 w) (by kernel_rfl) (by kernel_rfl) (by decide)) ?_
  refine wl_val (.bool false) (by kernel_rfl) (run_load1 (fun w => Try.isAgg4 w) (by kernel_rfl) (((TH.blk hT163 (x := (kb137, 4, boc [false, false, false, false, false, false, true, true, false, false])) (by simp)).cell (((0 + 1) + 1) + 1)).trans rfl)) ?_
  refine wl_val (iN .i64 (((0 + 1) + 1) + 1)) (by kernel_rfl) (by kernel_rfl) ?_
  refine wl_val (.bool false) (by kernel_rfl) (run_eqi (k := .i64) (a := ((0 + 1) + 1) + 1) (b := 6) (by kernel_rfl) (by kernel_rfl) false (by decide)) ?_
  refine wl_val (.bool false) (by kernel_rfl) (by kernel_rfl) ?_
  refine wl_val (iN .i64 (((0 + 1) + 1) + 1)) (by kernel_rfl) (by kernel_rfl) ?_
  refine wl_val (.bool false) (by kernel_rfl) (run_eqi (k := .i64) (a := ((0 + 1) + 1) + 1) (b := 7) (by kernel_rfl) (by kernel_rfl) false (by decide)) ?_
  refine wl_val (.bool false) (by kernel_rfl) (by kernel_rfl) ?_
  refine wl_val (.bool false) (by kernel_rfl) (by kernel_rfl) ?_
  refine wl_val (.bool false) (by kernel_rfl) (by kernel_rfl) ?_
  refine wl_val (.slice (some ⟨kb155, 0, none⟩) 10 10) (by kernel_rfl) (by kernel_rfl) ?_
  refine wl_val (iN .i64 (((0 + 1) + 1) + 1)) (by kernel_rfl) (by kernel_rfl) ?_
  refine wl_val (.pointer (some ⟨kb155, ((0 + 1) + 1) + 1, none⟩)) (by kernel_rfl) (run_addr_slice (q := kb155) (n := 10) (m := 10) (a := ((0 + 1) + 1) + 1) Try.underlying46 (fun w => Try.sizeOf4 w) (by kernel_rfl) (by kernel_rfl) (by decide)) ?_
  refine wl_val (.bool true) (by kernel_rfl) (run_load1 (fun w => Try.isAgg4 w) (by kernel_rfl) (((TH.blk hT163 (x := (kb155, 4, boc [true, false, true, true, true, true, true, true, true, true])) (by simp)).cell (((0 + 1) + 1) + 1)).trans rfl)) ?_
  refine wl_val (iN .i64 (((0 + 1) + 1) + 1)) (by kernel_rfl) (by kernel_rfl) ?_
  refine wl_val (.bool true) (by kernel_rfl) (run_nei (k := .i64) (a := ((0 + 1) + 1) + 1) (b := 1) (by kernel_rfl) (by kernel_rfl) true (by decide)) ?_
  refine wl_val (.bool false) (by kernel_rfl) (by kernel_rfl) ?_
  refine wl_val (.bool false) (by kernel_rfl) (by kernel_rfl) ?_
  refine wl_nil ?_
  refine then_at (F := ⟨(zT23_6 tb q117 kb128 kb137 kb155 q16 q32 q51 q67 q86 mm108 q125 q152 (iN .i64 (((0 + 1) + 1) + 1)) (iN .i64 (((0 + 1) + 1) + 1)) (iN .i64 ((0 + 1) + 1)) (iN .i64 (((0 + 1) + 1) + 1)) (iN .i64 (((0 + 1) + 1) + 1)) (.pointer (some ⟨kb137, ((0 + 1) + 1) + 1, none⟩)) (iN .i64 (((0 + 1) + 1) + 1)) (iN .i64 (((0 + 1) + 1) + 1)) (iN .i64 (((0 + 1) + 1) + 1)) (.pointer (some ⟨kb155, ((0 + 1) + 1) + 1, none⟩)) (iN .i64 (((0 + 1) + 1) + 1)) (List.replicate 219 un)).toArray, []⟩) (by kernel_rfl) ?_
  refine wp_cond_false (by kernel_rfl) ?_
  refine wp_skip ?_
  refine block_normal ?_
  refine then_at (F := ⟨(zT23_6 tb q117 kb128 kb137 kb155 q16 q32 q51 q67 q86 mm108 q125 q152 (iN .i64 (((0 + 1) + 1) + 1)) (iN .i64 (((0 + 1) + 1) + 1)) (iN .i64 ((0 + 1) + 1)) (iN .i64 (((0 + 1) + 1) + 1)) (iN .i64 (((0 + 1) + 1) + 1)) (.pointer (some ⟨kb137, ((0 + 1) + 1) + 1, none⟩)) (iN .i64 (((0 + 1) + 1) + 1)) (iN .i64 (((0 + 1) + 1) + 1)) (iN .i64 (((0 + 1) + 1) + 1)) (.pointer (some ⟨kb155, ((0 + 1) + 1) + 1, none⟩)) (iN .i64 (((0 + 1) + 1) + 1)) (List.replicate 219 un)).toArray, []⟩) (by kernel_rfl) ?_
  -- region 23
  refine wl_region ?_
  refine wl_val (iN .i64 (((0 + 1) + 1) + 1)) (by kernel_rfl) (by kernel_rfl) ?_
  refine wl_val (iN .i64 ((((0 + 1) + 1) + 1) + 1)) (by kernel_rfl) (run_add (k := .i64) (a := ((0 + 1) + 1) + 1) (b := 1) (by kernel_rfl) (by kernel_rfl) (by decide)) ?_
  refine wl_val (iN .i64 ((((0 + 1) + 1) + 1) + 1)) (by kernel_rfl) (by kernel_rfl) ?_
  refine wl_nil ?_
  refine then_at (F := ⟨(zT23_6 tb q117 kb128 kb137 kb155 q16 q32 q51 q67 q86 mm108 q125 q152 (iN .i64 ((((0 + 1) + 1) + 1) + 1)) (iN .i64 (((0 + 1) + 1) + 1)) (iN .i64 (((0 + 1) + 1) + 1)) (iN .i64 ((((0 + 1) + 1) + 1) + 1)) (iN .i64 (((0 + 1) + 1) + 1)) (.pointer (some ⟨kb137, ((0 + 1) + 1) + 1, none⟩)) (iN .i64 (((0 + 1) + 1) + 1)) (iN .i64 (((0 + 1) + 1) + 1)) (iN .i64 (((0 + 1) + 1) + 1)) (.pointer (some ⟨kb155, ((0 + 1) + 1) + 1, none⟩)) (iN .i64 (((0 + 1) + 1) + 1)) (List.replicate 219 un)).toArray, []⟩) (by kernel_rfl) ?_
  try rw [rounds_succ]
  refine wp_seq ?_
  refine wp_seq ?_
  -- region 22
  refine wl_region ?_
  refine wl_val (iN .i64 ((((0 + 1) + 1) + 1) + 1)) (by kernel_rfl) (by kernel_rfl) ?_
  refine wl_val (.bool true) (by kernel_rfl) (run_lss (k := .i64) (a := (((0 + 1) + 1) + 1) + 1) (b := 10) (by kernel_rfl) (by kernel_rfl) true (by decide)) ?_
  refine wl_nil ?_
  refine then_at (F := ⟨(zT23_6 tb q117 kb128 kb137 kb155 q16 q32 q51 q67 q86 mm108 q125 q152 (iN .i64 ((((0 + 1) + 1) + 1) + 1)) (iN .i64 ((((0 + 1) + 1) + 1) + 1)) (iN .i64 (((0 + 1) + 1) + 1)) (iN .i64 ((((0 + 1) + 1) + 1) + 1)) (iN .i64 (((0 + 1) + 1) + 1)) (.pointer (some ⟨kb137, ((0 + 1) + 1) + 1, none⟩)) (iN .i64 (((0 + 1) + 1) + 1)) (iN .i64 (((0 + 1) + 1) + 1)) (iN .i64 (((0 + 1) + 1) + 1)) (.pointer (some ⟨kb155, ((0 + 1) + 1) + 1, none⟩)) (iN .i64 (((0 + 1) + 1) + 1)) (List.replicate 219 un)).toArray, []⟩) (by kernel_rfl) ?_
  refine wp_cond_true (by kernel_rfl) ?_
  refine wp_skip ?_
  refine then_at (F := ⟨(zT23_6 tb q117 kb128 kb137 kb155 q16 q32 q51 q67 q86 mm108 q125 q152 (iN .i64 ((((0 + 1) + 1) + 1) + 1)) (iN .i64 ((((0 + 1) + 1) + 1) + 1)) (iN .i64 (((0 + 1) + 1) + 1)) (iN .i64 ((((0 + 1) + 1) + 1) + 1)) (iN .i64 (((0 + 1) + 1) + 1)) (.pointer (some ⟨kb137, ((0 + 1) + 1) + 1, none⟩)) (iN .i64 (((0 + 1) + 1) + 1)) (iN .i64 (((0 + 1) + 1) + 1)) (iN .i64 (((0 + 1) + 1) + 1)) (.pointer (some ⟨kb155, ((0 + 1) + 1) + 1, none⟩)) (iN .i64 (((0 + 1) + 1) + 1)) (List.replicate 219 un)).toArray, []⟩) (by kernel_rfl) ?_
  refine wp_seq ?_
  refine wp_block ?_
  refine wp_seq ?_
  -- region 24
  refine wl_region ?_
  refine wl_val (.slice (some ⟨kb137, 0, none⟩) 10 10) (by kernel_rfl) (by kernel_rfl) ?_
  refine wl_val (iN .i64 ((((0 + 1) + 1) + 1) + 1)) (by kernel_rfl) (by kernel_rfl) ?_
  refine wl_val (.pointer (some ⟨kb137, (((0 + 1) + 1) + 1) + 1, none⟩)) (by kernel_rfl) (run_addr_slice (q := kb137) (n := 10) (m := 10) (a := (((0 + 1) + 1) + 1) + 1) Try.underlying46 (fun w => Try.sizeOf4 w) (by kernel_rfl) (by kernel_rfl) (by decide)) ?_
  refine wl_val (.bool false) (by kernel_rfl) (run_load1 (fun w => Try.isAgg4 w) (by kernel_rfl) (((TH.blk hT163 (x := (kb137, 4, boc [false, false, false, false, false, false, true, true, false, false])) (by simp)).cell ((((0 + 1) + 1) + 1) + 1)).trans rfl)) ?_
  refine wl_val (iN .i64 ((((0 + 1) + 1) + 1) + 1)) (by kernel_rfl) (by kernel_rfl) ?_
  refine wl_val (.bool false) (by kernel_rfl) (run_eqi (k := .i64) (a := (((0 + 1) + 1) + 1) + 1) (b := 6) (by kernel_rfl) (by kernel_rfl) false (by decide)) ?_
  refine wl_val (.bool false) (by kernel_rfl) (by kernel_rfl) ?_
  refine wl_val (iN .i64 ((((0 + 1) + 1) + 1) + 1)) (by kernel_rfl) (by kernel_rfl) ?_
  refine wl_val (.bool false) (by kernel_rfl) (run_eqi (k := .i64) (a := (((0 + 1) + 1) + 1) + 1) (b := 7) (by kernel_rfl) (by kernel_rfl) false (by decide)) ?_
  refine wl_val (.bool false) (by kernel_rfl) (by kernel_rfl) ?_
  refine wl_val (.bool false) (by kernel_rfl) (by kernel_rfl) ?_
  refine wl_val (.bool false) (by kernel_rfl) (by kernel_rfl) ?_
  refine wl_val (.slice (some ⟨kb155, 0, none⟩) 10 10) (by kernel_rfl) (by kernel_rfl) ?_
  refine wl_val (iN .i64 ((((0 + 1) + 1) + 1) + 1)) (by kernel_rfl) (by kernel_rfl) ?_
  refine wl_val (.pointer (some ⟨kb155, (((0 + 1) + 1) + 1) + 1, none⟩)) (by kernel_rfl) (run_addr_slice (q := kb155) (n := 10) (m := 10) (a := (((0 + 1) + 1) + 1) + 1) Try.underlying46 (fun w => Try.sizeOf4 w) (by kernel_rfl) (by kernel_rfl) (by decide)) ?_
  refine wl_val (.bool true) (by kernel_rfl) (run_load1 (fun w => Try.isAgg4 w) (by kernel_rfl) (((TH.blk hT163 (x := (kb155, 4, boc [true, false, true, true, true, true, true, true, true, true])) (by simp)).cell ((((0 + 1) + 1) + 1) + 1)).trans rfl)) ?_
  refine wl_val (iN .i64 ((((0 + 1) + 1) + 1) + 1)) (by kernel_rfl) (by kernel_rfl) ?_
  refine wl_val (.bool true) (by kernel_rfl) (run_nei (k := .i64) (a := (((0 + 1) + 1) + 1) + 1) (b := 1) (by kernel_rfl) (by kernel_rfl) true (by decide)) ?_
  refine wl_val (.bool false) (by kernel_rfl) (by kernel_rfl) ?_
  refine wl_val (.bool false) (by kernel_rfl) (by kernel_rfl) ?_
  refine wl_nil ?_
  refine then_at (F := ⟨(zT23_6 tb q117 kb128 kb137 kb155 q16 q32 q51 q67 q86 mm108 q125 q152 (iN .i64 ((((0 + 1) + 1) + 1) + 1)) (iN .i64 ((((0 + 1) + 1) + 1) + 1)) (iN .i64 (((0 + 1) + 1) + 1)) (iN .i64 ((((0 + 1) + 1) + 1) + 1)) (iN .i64 ((((0 + 1) + 1) + 1) + 1)) (.pointer (some ⟨kb137, (((0 + 1) + 1) + 1) + 1, none⟩)) (iN .i64 ((((0 + 1) + 1) + 1) + 1)) (iN .i64 ((((0 + 1) + 1) + 1) + 1)) (iN .i64 ((((0 + 1) + 1) + 1) + 1)) (.pointer (some ⟨kb155, (((0 + 1) + 1) + 1) + 1, none⟩)) (iN .i64 ((((0 + 1) + 1) + 1) + 1)) (List.replicate 219 un)).toArray, []⟩) (by kernel_rfl) ?_
  refine wp_cond_false (by kernel_rfl) ?_
  refine wp_skip ?_
  refine block_normal ?_
  refine then_at (F := ⟨(zT23_6 tb q117 kb128 kb137 kb155 q16 q32 q51 q67 q86 mm108 q125 q152 (iN .i64 ((((0 + 1) + 1) + 1) + 1)) (iN .i64 ((((0 + 1) + 1) + 1) + 1)) (iN .i64 (((0 + 1) + 1) + 1)) (iN .i64 ((((0 + 1) + 1) + 1) + 1)) (iN .i64 ((((0 + 1) + 1) + 1) + 1)) (.pointer (some ⟨kb137, (((0 + 1) + 1) + 1) + 1, none⟩)) (iN .i64 ((((0 + 1) + 1) + 1) + 1)) (iN .i64 ((((0 + 1) + 1) + 1) + 1)) (iN .i64 ((((0 + 1) + 1) + 1) + 1)) (.pointer (some ⟨kb155, (((0 + 1) + 1) + 1) + 1, none⟩)) (iN .i64 ((((0 + 1) + 1) + 1) + 1)) (List.replicate 219 un)).toArray, []⟩) (by kernel_rfl) ?_
  -- region 23
  refine wl_region ?_
  refine wl_val (iN .i64 ((((0 + 1) + 1) + 1) + 1)) (by kernel_rfl) (by kernel_rfl) ?_
  refine wl_val (iN .i64 (((((0 + 1) + 1) + 1) + 1) + 1)) (by kernel_rfl) (run_add (k := .i64) (a := (((0 + 1) + 1) + 1) + 1) (b := 1) (by kernel_rfl) (by kernel_rfl) (by decide)) ?_
  refine wl_val (iN .i64 (((((0 + 1) + 1) + 1) + 1) + 1)) (by kernel_rfl) (by kernel_rfl) ?_
  refine wl_nil ?_
  refine then_at (F := ⟨(zT23_6 tb q117 kb128 kb137 kb155 q16 q32 q51 q67 q86 mm108 q125 q152 (iN .i64 (((((0 + 1) + 1) + 1) + 1) + 1)) (iN .i64 ((((0 + 1) + 1) + 1) + 1)) (iN .i64 ((((0 + 1) + 1) + 1) + 1)) (iN .i64 (((((0 + 1) + 1) + 1) + 1) + 1)) (iN .i64 ((((0 + 1) + 1) + 1) + 1)) (.pointer (some ⟨kb137, (((0 + 1) + 1) + 1) + 1, none⟩)) (iN .i64 ((((0 + 1) + 1) + 1) + 1)) (iN .i64 ((((0 + 1) + 1) + 1) + 1)) (iN .i64 ((((0 + 1) + 1) + 1) + 1)) (.pointer (some ⟨kb155, (((0 + 1) + 1) + 1) + 1, none⟩)) (iN .i64 ((((0 + 1) + 1) + 1) + 1)) (List.replicate 219 un)).toArray, []⟩) (by kernel_rfl) ?_
  try rw [rounds_succ]
  refine wp_seq ?_
  refine wp_seq ?_
  -- region 22
  refine wl_region ?_
  refine wl_val (iN .i64 (((((0 + 1) + 1) + 1) + 1) + 1)) (by kernel_rfl) (by kernel_rfl) ?_
  refine wl_val (.bool true) (by kernel_rfl) (run_lss (k := .i64) (a := ((((0 + 1) + 1) + 1) + 1) + 1) (b := 10) (by kernel_rfl) (by kernel_rfl) true (by decide)) ?_
  refine wl_nil ?_
  refine then_at (F := ⟨(zT23_6 tb q117 kb128 kb137 kb155 q16 q32 q51 q67 q86 mm108 q125 q152 (iN .i64 (((((0 + 1) + 1) + 1) + 1) + 1)) (iN .i64 (((((0 + 1) + 1) + 1) + 1) + 1)) (iN .i64 ((((0 + 1) + 1) + 1) + 1)) (iN .i64 (((((0 + 1) + 1) + 1) + 1) + 1)) (iN .i64 ((((0 + 1) + 1) + 1) + 1)) (.pointer (some ⟨kb137, (((0 + 1) + 1) + 1) + 1, none⟩)) (iN .i64 ((((0 + 1) + 1) + 1) + 1)) (iN .i64 ((((0 + 1) + 1) + 1) + 1)) (iN .i64 ((((0 + 1) + 1) + 1) + 1)) (.pointer (some ⟨kb155, (((0 + 1) + 1) + 1) + 1, none⟩)) (iN .i64 ((((0 + 1) + 1) + 1) + 1)) (List.replicate 219 un)).toArray, []⟩) (by kernel_rfl) ?_
  refine wp_cond_true (by kernel_rfl) ?_
  refine wp_skip ?_
  refine then_at (F := ⟨(zT23_6 tb q117 kb128 kb137 kb155 q16 q32 q51 q67 q86 mm108 q125 q152 (iN .i64 (((((0 + 1) + 1) + 1) + 1) + 1)) (iN .i64 (((((0 + 1) + 1) + 1) + 1) + 1)) (iN .i64 ((((0 + 1) + 1) + 1) + 1)) (iN .i64 (((((0 + 1) + 1) + 1) + 1) + 1)) (iN .i64 ((((0 + 1) + 1) + 1) + 1)) (.pointer (some ⟨kb137, (((0 + 1) + 1) + 1) + 1, none⟩)) (iN .i64 ((((0 + 1) + 1) + 1) + 1)) (iN .i64 ((((0 + 1) + 1) + 1) + 1)) (iN .i64 ((((0 + 1) + 1) + 1) + 1)) (.pointer (some ⟨kb155, (((0 + 1) + 1) + 1) + 1, none⟩)) (iN .i64 ((((0 + 1) + 1) + 1) + 1)) (List.replicate 219 un)).toArray, []⟩) (by kernel_rfl) ?_
  refine wp_seq ?_
  refine wp_block ?_
  refine wp_seq ?_
  -- region 24
  refine wl_region ?_
  refine wl_val (.slice (some ⟨kb137, 0, none⟩) 10 10) (by kernel_rfl) (by kernel_rfl) ?_
  refine wl_val (iN .i64 (((((0 + 1) + 1) + 1) + 1) + 1)) (by kernel_rfl) (by kernel_rfl) ?_
  refine wl_val (.pointer (some ⟨kb137, ((((0 + 1) + 1) + 1) + 1) + 1, none⟩)) (by kernel_rfl) (run_addr_slice (q := kb137) (n := 10) (m := 10) (a := ((((0 + 1) + 1) + 1) + 1) + 1) Try.underlying46 (fun w => Try.sizeOf4 w) (by kernel_rfl) (by kernel_rfl) (by decide)) ?_
  refine wl_val (.bool false) (by kernel_rfl) (run_load1 (fun w => Try.isAgg4 w) (by kernel_rfl) (((TH.blk hT163 (x := (kb137, 4, boc [false, false, false, false, false, false, true, true, false, false])) (by simp)).cell (((((0 + 1) + 1) + 1) + 1) + 1)).trans rfl)) ?_
  refine wl_val (iN .i64 (((((0 + 1) + 1) + 1) + 1) + 1)) (by kernel_rfl) (by kernel_rfl) ?_
  refine wl_val (.bool false) (by kernel_rfl) (run_eqi (k := .i64) (a := ((((0 + 1) + 1) + 1) + 1) + 1) (b := 6) (by kernel_rfl) (by kernel_rfl) false (by decide)) ?_
  refine wl_val (.bool false) (by kernel_rfl) (by kernel_rfl) ?_
  refine wl_val (iN .i64 (((((0 + 1) + 1) + 1) + 1) + 1)) (by kernel_rfl) (by kernel_rfl) ?_
  refine wl_val (.bool false) (by kernel_rfl) (run_eqi (k := .i64) (a := ((((0 + 1) + 1) + 1) + 1) + 1) (b := 7) (by kernel_rfl) (by kernel_rfl) false (by decide)) ?_
  refine wl_val (.bool false) (by kernel_rfl) (by kernel_rfl) ?_
  refine wl_val (.bool false) (by kernel_rfl) (by kernel_rfl) ?_
  refine wl_val (.bool false) (by kernel_rfl) (by kernel_rfl) ?_
  refine wl_val (.slice (some ⟨kb155, 0, none⟩) 10 10) (by kernel_rfl) (by kernel_rfl) ?_
  refine wl_val (iN .i64 (((((0 + 1) + 1) + 1) + 1) + 1)) (by kernel_rfl) (by kernel_rfl) ?_
  refine wl_val (.pointer (some ⟨kb155, ((((0 + 1) + 1) + 1) + 1) + 1, none⟩)) (by kernel_rfl) (run_addr_slice (q := kb155) (n := 10) (m := 10) (a := ((((0 + 1) + 1) + 1) + 1) + 1) Try.underlying46 (fun w => Try.sizeOf4 w) (by kernel_rfl) (by kernel_rfl) (by decide)) ?_
  refine wl_val (.bool true) (by kernel_rfl) (run_load1 (fun w => Try.isAgg4 w) (by kernel_rfl) (((TH.blk hT163 (x := (kb155, 4, boc [true, false, true, true, true, true, true, true, true, true])) (by simp)).cell (((((0 + 1) + 1) + 1) + 1) + 1)).trans rfl)) ?_
  refine wl_val (iN .i64 (((((0 + 1) + 1) + 1) + 1) + 1)) (by kernel_rfl) (by kernel_rfl) ?_
  refine wl_val (.bool true) (by kernel_rfl) (run_nei (k := .i64) (a := ((((0 + 1) + 1) + 1) + 1) + 1) (b := 1) (by kernel_rfl) (by kernel_rfl) true (by decide)) ?_
  refine wl_val (.bool false) (by kernel_rfl) (by kernel_rfl) ?_
  refine wl_val (.bool false) (by kernel_rfl) (by kernel_rfl) ?_
  refine wl_nil ?_
  refine then_at (F := ⟨(zT23_6 tb q117 kb128 kb137 kb155 q16 q32 q51 q67 q86 mm108 q125 q152 (iN .i64 (((((0 + 1) + 1) + 1) + 1) + 1)) (iN .i64 (((((0 + 1) + 1) + 1) + 1) + 1)) (iN .i64 ((((0 + 1) + 1) + 1) + 1)) (iN .i64 (((((0 + 1) + 1) + 1) + 1) + 1)) (iN .i64 (((((0 + 1) + 1) + 1) + 1) + 1)) (.pointer (some ⟨kb137, ((((0 + 1) + 1) + 1) + 1) + 1, none⟩)) (iN .i64 (((((0 + 1) + 1) + 1) + 1) + 1)) (iN .i64 (((((0 + 1) + 1) + 1) + 1) + 1)) (iN .i64 (((((0 + 1) + 1) + 1) + 1) + 1)) (.pointer (some ⟨kb155, ((((0 + 1) + 1) + 1) + 1) + 1, none⟩)) (iN .i64 (((((0 + 1) + 1) + 1) + 1) + 1)) (List.replicate 219 un)).toArray, []⟩) (by kernel_rfl) ?_
  refine wp_cond_false (by kernel_rfl) ?_
  refine wp_skip ?_
  refine block_normal ?_
  refine then_at (F := ⟨(zT23_6 tb q117 kb128 kb137 kb155 q16 q32 q51 q67 q86 mm108 q125 q152 (iN .i64 (((((0 + 1) + 1) + 1) + 1) + 1)) (iN .i64 (((((0 + 1) + 1) + 1) + 1) + 1)) (iN .i64 ((((0 + 1) + 1) + 1) + 1)) (iN .i64 (((((0 + 1) + 1) + 1) + 1) + 1)) (iN .i64 (((((0 + 1) + 1) + 1) + 1) + 1)) (.pointer (some ⟨kb137, ((((0 + 1) + 1) + 1) + 1) + 1, none⟩)) (iN .i64 (((((0 + 1) + 1) + 1) + 1) + 1)) (iN .i64 (((((0 + 1) + 1) + 1) + 1) + 1)) (iN .i64 (((((0 + 1) + 1) + 1) + 1) + 1)) (.pointer (some ⟨kb155, ((((0 + 1) + 1) + 1) + 1) + 1, none⟩)) (iN .i64 (((((0 + 1) + 1) + 1) + 1) + 1)) (List.replicate 219 un)).toArray, []⟩) (by kernel_rfl) ?_
  -- region 23
  refine wl_region ?_
  refine wl_val (iN .i64 (((((0 + 1) + 1) + 1) + 1) + 1)) (by kernel_rfl) (by kernel_rfl) ?_
  refine wl_val (iN .i64 ((((((0 + 1) + 1) + 1) + 1) + 1) + 1)) (by kernel_rfl) (run_add (k := .i64) (a := ((((0 + 1) + 1) + 1) + 1) + 1) (b := 1) (by kernel_rfl) (by kernel_rfl) (by decide)) ?_
  refine wl_val (iN .i64 ((((((0 + 1) + 1) + 1) + 1) + 1) + 1)) (by kernel_rfl) (by kernel_rfl) ?_
  refine wl_nil ?_
  refine then_at (F := ⟨(zT23_6 tb q117 kb128 kb137 kb155 q16 q32 q51 q67 q86 mm108 q125 q152 (iN .i64 ((((((0 + 1) + 1) + 1) + 1) + 1) + 1)) (iN .i64 (((((0 + 1) + 1) + 1) + 1) + 1)) (iN .i64 (((((0 + 1) + 1) + 1) + 1) + 1)) (iN .i64 ((((((0 + 1) + 1) + 1) + 1) + 1) + 1)) (iN .i64 (((((0 + 1) + 1) + 1) + 1) + 1)) (.pointer (some ⟨kb137, ((((0 + 1) + 1) + 1) + 1) + 1, none⟩)) (iN .i64 (((((0 + 1) + 1) + 1) + 1) + 1)) (iN .i64 (((((0 + 1) + 1) + 1) + 1) + 1)) (iN .i64 (((((0 + 1) + 1) + 1) + 1) + 1)) (.pointer (some ⟨kb155, ((((0 + 1) + 1) + 1) + 1) + 1, none⟩)) (iN .i64 (((((0 + 1) + 1) + 1) + 1) + 1)) (List.replicate 219 un)).toArray, []⟩) (by kernel_rfl) ?_
  try rw [rounds_succ]
  refine wp_seq ?_
  refine wp_seq ?_
  -- region 22
  refine wl_region ?_
  refine wl_val (iN .i64 ((((((0 + 1) + 1) + 1) + 1) + 1) + 1)) (by kernel_rfl) (by kernel_rfl) ?_
  refine wl_val (.bool true) (by kernel_rfl) (run_lss (k := .i64) (a := (((((0 + 1) + 1) + 1) + 1) + 1) + 1) (b := 10) (by kernel_rfl) (by kernel_rfl) true (by decide)) ?_
  refine wl_nil ?_
  refine then_at (F := ⟨(zT23_6 tb q117 kb128 kb137 kb155 q16 q32 q51 q67 q86 mm108 q125 q152 (iN .i64 ((((((0 + 1) + 1) + 1) + 1) + 1) + 1)) (iN .i64 ((((((0 + 1) + 1) + 1) + 1) + 1) + 1)) (iN .i64 (((((0 + 1) + 1) + 1) + 1) + 1)) (iN .i64 ((((((0 + 1) + 1) + 1) + 1) + 1) + 1)) (iN .i64 (((((0 + 1) + 1) + 1) + 1) + 1)) (.pointer (some ⟨kb137, ((((0 + 1) + 1) + 1) + 1) + 1, none⟩)) (iN .i64 (((((0 + 1) + 1) + 1) + 1) + 1)) (iN .i64 (((((0 + 1) + 1) + 1) + 1) + 1)) (iN .i64 (((((0 + 1) + 1) + 1) + 1) + 1)) (.pointer (some ⟨kb155, ((((0 + 1) + 1) + 1) + 1) + 1, none⟩)) (iN .i64 (((((0 + 1) + 1) + 1) + 1) + 1)) (List.replicate 219 un)).toArray, []⟩) (by kernel_rfl) ?_
  refine wp_cond_true (by kernel_rfl) ?_
  refine wp_skip ?_
  refine then_at (F := ⟨(zT23_6 tb q117 kb128 kb137 kb155 q16 q32 q51 q67 q86 mm108 q125 q152 (iN .i64 ((((((0 + 1) + 1) + 1) + 1) + 1) + 1)) (iN .i64 ((((((0 + 1) + 1) + 1) + 1) + 1) + 1)) (iN .i64 (((((0 + 1) + 1) + 1) + 1) + 1)) (iN .i64 ((((((0 + 1) + 1) + 1) + 1) + 1) + 1)) (iN .i64 (((((0 + 1) + 1) + 1) + 1) + 1)) (.pointer (some ⟨kb137, ((((0 + 1) + 1) + 1) + 1) + 1, none⟩)) (iN .i64 (((((0 + 1) + 1) + 1) + 1) + 1)) (iN .i64 (((((0 + 1) + 1) + 1) + 1) + 1)) (iN .i64 (((((0 + 1) + 1) + 1) + 1) + 1)) (.pointer (some ⟨kb155, ((((0 + 1) + 1) + 1) + 1) + 1, none⟩)) (iN .i64 (((((0 + 1) + 1) + 1) + 1) + 1)) (List.replicate 219 un)).toArray, []⟩) (by kernel_rfl) ?_
  refine wp_seq ?_
  refine wp_block ?_
  refine wp_seq ?_
  -- region 24
  refine wl_region ?_
  refine wl_val (.slice (some ⟨kb137, 0, none⟩) 10 10) (by kernel_rfl) (by kernel_rfl) ?_
  refine wl_val (iN .i64 ((((((0 + 1) + 1) + 1) + 1) + 1) + 1)) (by kernel_rfl) (by kernel_rfl) ?_
  refine wl_val (.pointer (some ⟨kb137, (((((0 + 1) + 1) + 1) + 1) + 1) + 1, none⟩)) (by kernel_rfl) (run_addr_slice (q := kb137) (n := 10) (m := 10) (a := (((((0 + 1) + 1) + 1) + 1) + 1) + 1) Try.underlying46 (fun w => Try.sizeOf4 w) (by kernel_rfl) (by kernel_rfl) (by decide)) ?_
  refine wl_val (.bool true) (by kernel_rfl) (run_load1 (fun w => Try.isAgg4 w) (by kernel_rfl) (((TH.blk hT163 (x := (kb137, 4, boc [false, false, false, false, false, false, true, true, false, false])) (by simp)).cell ((((((0 + 1) + 1) + 1) + 1) + 1) + 1)).trans rfl)) ?_
  refine wl_val (iN .i64 ((((((0 + 1) + 1) + 1) + 1) + 1) + 1)) (by kernel_rfl) (by kernel_rfl) ?_
  refine wl_val (.bool true) (by kernel_rfl) (run_eqi (k := .i64) (a := (((((0 + 1) + 1) + 1) + 1) + 1) + 1) (b := 6) (by kernel_rfl) (by kernel_rfl) true (by decide)) ?_
  refine wl_val (.bool true) (by kernel_rfl) (by kernel_rfl) ?_
  refine wl_skip (by kernel_rfl) ?_
  refine wl_skip (by kernel_rfl) ?_
  refine wl_val (.bool true) (by kernel_rfl) (by kernel_rfl) ?_
  refine wl_val (.bool false) (by kernel_rfl) (by kernel_rfl) ?_
  refine wl_val (.bool false) (by kernel_rfl) (by kernel_rfl) ?_
  refine wl_val (.slice (some ⟨kb155, 0, none⟩) 10 10) (by kernel_rfl) (by kernel_rfl) ?_
  refine wl_val (iN .i64 ((((((0 + 1) + 1) + 1) + 1) + 1) + 1)) (by kernel_rfl) (by kernel_rfl) ?_
  refine wl_val (.pointer (some ⟨kb155, (((((0 + 1) + 1) + 1) + 1) + 1) + 1, none⟩)) (by kernel_rfl) (run_addr_slice (q := kb155) (n := 10) (m := 10) (a := (((((0 + 1) + 1) + 1) + 1) + 1) + 1) Try.underlying46 (fun w => Try.sizeOf4 w) (by kernel_rfl) (by kernel_rfl) (by decide)) ?_
  refine wl_val (.bool true) (by kernel_rfl) (run_load1 (fun w => Try.isAgg4 w) (by kernel_rfl) (((TH.blk hT163 (x := (kb155, 4, boc [true, false, true, true, true, true, true, true, true, true])) (by simp)).cell ((((((0 + 1) + 1) + 1) + 1) + 1) + 1)).trans rfl)) ?_
  refine wl_val (iN .i64 ((((((0 + 1) + 1) + 1) + 1) + 1) + 1)) (by kernel_rfl) (by kernel_rfl) ?_
  refine wl_val (.bool true) (by kernel_rfl) (run_nei (k := .i64) (a := (((((0 + 1) + 1) + 1) + 1) + 1) + 1) (b := 1) (by kernel_rfl) (by kernel_rfl) true (by decide)) ?_
  refine wl_val (.bool false) (by kernel_rfl) (by kernel_rfl) ?_
  refine wl_val (.bool false) (by kernel_rfl) (by kernel_rfl) ?_
  refine wl_nil ?_
  refine then_at (F := ⟨(zT23_7 tb q117 kb128 kb137 kb155 q16 q32 q51 q67 q86 mm108 q125 q152 (iN .i64 ((((((0 + 1) + 1) + 1) + 1) + 1) + 1)) (iN .i64 ((((((0 + 1) + 1) + 1) + 1) + 1) + 1)) (iN .i64 (((((0 + 1) + 1) + 1) + 1) + 1)) (iN .i64 ((((((0 + 1) + 1) + 1) + 1) + 1) + 1)) (iN .i64 ((((((0 + 1) + 1) + 1) + 1) + 1) + 1)) (.pointer (some ⟨kb137, (((((0 + 1) + 1) + 1) + 1) + 1) + 1, none⟩)) (.bool true) (iN .i64 ((((((0 + 1) + 1) + 1) + 1) + 1) + 1)) (.bool true) (.bool true) un un (.bool true) (iN .i64 ((((((0 + 1) + 1) + 1) + 1) + 1) + 1)) (.pointer (some ⟨kb155, (((((0 + 1) + 1) + 1) + 1) + 1) + 1, none⟩)) (iN .i64 ((((((0 + 1) + 1) + 1) + 1) + 1) + 1)) (List.replicate 219 un)).toArray, []⟩) (by kernel_rfl) ?_
  refine wp_cond_false (by kernel_rfl) ?_
  refine wp_skip ?_
  refine block_normal ?_
  refine then_at (F := ⟨(zT23_7 tb q117 kb128 kb137 kb155 q16 q32 q51 q67 q86 mm108 q125 q152 (iN .i64 ((((((0 + 1) + 1) + 1) + 1) + 1) + 1)) (iN .i64 ((((((0 + 1) + 1) + 1) + 1) + 1) + 1)) (iN .i64 (((((0 + 1) + 1) + 1) + 1) + 1)) (iN .i64 ((((((0 + 1) + 1) + 1) + 1) + 1) + 1)) (iN .i64 ((((((0 + 1) + 1) + 1) + 1) + 1) + 1)) (.pointer (some ⟨kb137, (((((0 + 1) + 1) + 1) + 1) + 1) + 1, none⟩)) (.bool true) (iN .i64 ((((((0 + 1) + 1) + 1) + 1) + 1) + 1)) (.bool true) (.bool true) un un (.bool true) (iN .i64 ((((((0 + 1) + 1) + 1) + 1) + 1) + 1)) (.pointer (some ⟨kb155, (((((0 + 1) + 1) + 1) + 1) + 1) + 1, none⟩)) (iN .i64 ((((((0 + 1) + 1) + 1) + 1) + 1) + 1)) (List.replicate 219 un)).toArray, []⟩) (by kernel_rfl) ?_
  -- region 23
  refine wl_region ?_
  refine wl_val (iN .i64 ((((((0 + 1) + 1) + 1) + 1) + 1) + 1)) (by kernel_rfl) (by kernel_rfl) ?_
  refine wl_val (iN .i64 (((((((0 + 1) + 1) + 1) + 1) + 1) + 1) + 1)) (by kernel_rfl) (run_add (k := .i64) (a := (((((0 + 1) + 1) + 1) + 1) + 1) + 1) (b := 1) (by kernel_rfl) (by kernel_rfl) (by decide)) ?_
  refine wl_val (iN .i64 (((((((0 + 1) + 1) + 1) + 1) + 1) + 1) + 1)) (by kernel_rfl) (by kernel_rfl) ?_
  refine wl_nil ?_
  refine then_at (F := ⟨(zT23_7 tb q117 kb128 kb137 kb155 q16 q32 q51 q67 q86 mm108 q125 q152 (iN .i64 (((((((0 + 1) + 1) + 1) + 1) + 1) + 1) + 1)) (iN .i64 ((((((0 + 1) + 1) + 1) + 1) + 1) + 1)) (iN .i64 ((((((0 + 1) + 1) + 1) + 1) + 1) + 1)) (iN .i64 (((((((0 + 1) + 1) + 1) + 1) + 1) + 1) + 1)) (iN .i64 ((((((0 + 1) + 1) + 1) + 1) + 1) + 1)) (.pointer (some ⟨kb137, (((((0 + 1) + 1) + 1) + 1) + 1) + 1, none⟩)) (.bool true) (iN .i64 ((((((0 + 1) + 1) + 1) + 1) + 1) + 1)) (.bool true) (.bool true) un un (.bool true) (iN .i64 ((((((0 + 1) + 1) + 1) + 1) + 1) + 1)) (.pointer (some ⟨kb155, (((((0 + 1) + 1) + 1) + 1) + 1) + 1, none⟩)) (iN .i64 ((((((0 + 1) + 1) + 1) + 1) + 1) + 1)) (List.replicate 219 un)).toArray, []⟩) (by kernel_rfl) ?_
  try rw [rounds_succ]
  refine wp_seq ?_
  refine wp_seq ?_
  -- region 22
  refine wl_region ?_
  refine wl_val (iN .i64 (((((((0 + 1) + 1) + 1) + 1) + 1) + 1) + 1)) (by kernel_rfl) (by kernel_rfl) ?_
  refine wl_val (.bool true) (by kernel_rfl) (run_lss (k := .i64) (a := ((((((0 + 1) + 1) + 1) + 1) + 1) + 1) + 1) (b := 10) (by kernel_rfl) (by kernel_rfl) true (by decide)) ?_
  refine wl_nil ?_
  refine then_at (F := ⟨(zT23_7 tb q117 kb128 kb137 kb155 q16 q32 q51 q67 q86 mm108 q125 q152 (iN .i64 (((((((0 + 1) + 1) + 1) + 1) + 1) + 1) + 1)) (iN .i64 (((((((0 + 1) + 1) + 1) + 1) + 1) + 1) + 1)) (iN .i64 ((((((0 + 1) + 1) + 1) + 1) + 1) + 1)) (iN .i64 (((((((0 + 1) + 1) + 1) + 1) + 1) + 1) + 1)) (iN .i64 ((((((0 + 1) + 1) + 1) + 1) + 1) + 1)) (.pointer (some ⟨kb137, (((((0 + 1) + 1) + 1) + 1) + 1) + 1, none⟩)) (.bool true) (iN .i64 ((((((0 + 1) + 1) + 1) + 1) + 1) + 1)) (.bool true) (.bool true) un un (.bool true) (iN .i64 ((((((0 + 1) + 1) + 1) + 1) + 1) + 1)) (.pointer (some ⟨kb155, (((((0 + 1) + 1) + 1) + 1) + 1) + 1, none⟩)) (iN .i64 ((((((0 + 1) + 1) + 1) + 1) + 1) + 1)) (List.replicate 219 un)).toArray, []⟩) (by kernel_rfl) ?_
  refine wp_cond_true (by kernel_rfl) ?_
  refine wp_skip ?_
  refine then_at (F := ⟨(zT23_7 tb q117 kb128 kb137 kb155 q16 q32 q51 q67 q86 mm108 q125 q152 (iN .i64 (((((((0 + 1) + 1) + 1) + 1) + 1) + 1) + 1)) (iN .i64 (((((((0 + 1) + 1) + 1) + 1) + 1) + 1) + 1)) (iN .i64 ((((((0 + 1) + 1) + 1) + 1) + 1) + 1)) (iN .i64 (((((((0 + 1) + 1) + 1) + 1) + 1) + 1) + 1)) (iN .i64 ((((((0 + 1) + 1) + 1) + 1) + 1) + 1)) (.pointer (some ⟨kb137, (((((0 + 1) + 1) + 1) + 1) + 1) + 1, none⟩)) (.bool true) (iN .i64 ((((((0 + 1) + 1) + 1) + 1) + 1) + 1)) (.bool true) (.bool true) un un (.bool true) (iN .i64 ((((((0 + 1) + 1) + 1) + 1) + 1) + 1)) (.pointer (some ⟨kb155, (((((0 + 1) + 1) + 1) + 1) + 1) + 1, none⟩)) (iN .i64 ((((((0 + 1) + 1) + 1) + 1) + 1) + 1)) (List.replicate 219 un)).toArray, []⟩) (by kernel_rfl) ?_
  refine wp_seq ?_
  refine wp_block ?_
  refine wp_seq ?_
  -- region 24
  refine wl_region ?_
  refine wl_val (.slice (some ⟨kb137, 0, none⟩) 10 10) (by kernel_rfl) (by kernel_rfl) ?_
  refine wl_val (iN .i64 (((((((0 + 1) + 1) + 1) + 1) + 1) + 1) + 1)) (by kernel_rfl) (by kernel_rfl) ?_
  refine wl_val (.pointer (some ⟨kb137, ((((((0 + 1) + 1) + 1) + 1) + 1) + 1) + 1, none⟩)) (by kernel_rfl) (run_addr_slice (q := kb137) (n := 10) (m := 10) (a := ((((((0 + 1) + 1) + 1) + 1) + 1) + 1) + 1) Try.underlying46 (fun w => Try.sizeOf4 w) (by kernel_rfl) (by kernel_rfl) (by decide)) ?_
  refine wl_val (.bool true) (by kernel_rfl) (run_load1 (fun w => Try.isAgg4 w) (by kernel_rfl) (((TH.blk hT163 (x := (kb137, 4, boc [false, false, false, false, false, false, true, true, false, false])) (by simp)).cell (((((((0 + 1) + 1) + 1) + 1) + 1) + 1) + 1)).trans rfl)) ?_
  refine wl_val (iN .i64 (((((((0 + 1) + 1) + 1) + 1) + 1) + 1) + 1)) (by kernel_rfl) (by kernel_rfl) ?_
  refine wl_val (.bool false) (by kernel_rfl) (run_eqi (k := .i64) (a := ((((((0 + 1) + 1) + 1) + 1) + 1) + 1) + 1) (b := 6) (by kernel_rfl) (by kernel_rfl) false (by decide)) ?_
  refine wl_val (.bool false) (by kernel_rfl) (by kernel_rfl) ?_
  refine wl_val (iN .i64 (((((((0 + 1) + 1) + 1) + 1) + 1) + 1) + 1)) (by kernel_rfl) (by kernel_rfl) ?_
  refine wl_val (.bool true) (by kernel_rfl) (run_eqi (k := .i64) (a := ((((((0 + 1) + 1) + 1) + 1) + 1) + 1) + 1) (b := 7) (by kernel_rfl) (by kernel_rfl) true (by decide)) ?_
  refine wl_val (.bool true) (by kernel_rfl) (by kernel_rfl) ?_
  refine wl_val (.bool false) (by kernel_rfl) (by kernel_rfl) ?_
  refine wl_val (.bool false) (by kernel_rfl) (by kernel_rfl) ?_
  refine wl_val (.slice (some ⟨kb155, 0, none⟩) 10 10) (by kernel_rfl) (by kernel_rfl) ?_
  refine wl_val (iN .i64 (((((((0 + 1) + 1) + 1) + 1) + 1) + 1) + 1)) (by kernel_rfl) (by kernel_rfl) ?_
  refine wl_val (.pointer (some ⟨kb155, ((((((0 + 1) + 1) + 1) + 1) + 1) + 1) + 1, none⟩)) (by kernel_rfl) (run_addr_slice (q := kb155) (n := 10) (m := 10) (a := ((((((0 + 1) + 1) + 1) + 1) + 1) + 1) + 1) Try.underlying46 (fun w => Try.sizeOf4 w) (by kernel_rfl) (by kernel_rfl) (by decide)) ?_
  refine wl_val (.bool true) (by kernel_rfl) (run_load1 (fun w => Try.isAgg4 w) (by kernel_rfl) (((TH.blk hT163 (x := (kb155, 4, boc [true, false, true, true, true, true, true, true, true, true])) (by simp)).cell (((((((0 + 1) + 1) + 1) + 1) + 1) + 1) + 1)).trans rfl)) ?_
  refine wl_val (iN .i64 (((((((0 + 1) + 1) + 1) + 1) + 1) + 1) + 1)) (by kernel_rfl) (by kernel_rfl) ?_
  refine wl_val (.bool true) (by kernel_rfl) (run_nei (k := .i64) (a := ((((((0 + 1) + 1) + 1) + 1) + 1) + 1) + 1) (b := 1) (by kernel_rfl) (by kernel_rfl) true (by decide)) ?_
  refine wl_val (.bool false) (by kernel_rfl) (by kernel_rfl) ?_
  refine wl_val (.bool false) (by kernel_rfl) (by kernel_rfl) ?_
  refine wl_nil ?_
  refine then_at (F := ⟨(zT23_7 tb q117 kb128 kb137 kb155 q16 q32 q51 q67 q86 mm108 q125 q152 (iN .i64 (((((((0 + 1) + 1) + 1) + 1) + 1) + 1) + 1)) (iN .i64 (((((((0 + 1) + 1) + 1) + 1) + 1) + 1) + 1)) (iN .i64 ((((((0 + 1) + 1) + 1) + 1) + 1) + 1)) (iN .i64 (((((((0 + 1) + 1) + 1) + 1) + 1) + 1) + 1)) (iN .i64 (((((((0 + 1) + 1) + 1) + 1) + 1) + 1) + 1)) (.pointer (some ⟨kb137, ((((((0 + 1) + 1) + 1) + 1) + 1) + 1) + 1, none⟩)) (.bool true) (iN .i64 (((((((0 + 1) + 1) + 1) + 1) + 1) + 1) + 1)) (.bool false) (.bool false) (iN .i64 (((((((0 + 1) + 1) + 1) + 1) + 1) + 1) + 1)) (.bool true) (.bool true) (iN .i64 (((((((0 + 1) + 1) + 1) + 1) + 1) + 1) + 1)) (.pointer (some ⟨kb155, ((((((0 + 1) + 1) + 1) + 1) + 1) + 1) + 1, none⟩)) (iN .i64 (((((((0 + 1) + 1) + 1) + 1) + 1) + 1) + 1)) (List.replicate 219 un)).toArray, []⟩) (by kernel_rfl) ?_
  refine wp_cond_false (by kernel_rfl) ?_
  refine wp_skip ?_
  refine block_normal ?_
  refine then_at (F := ⟨(zT23_7 tb q117 kb128 kb137 kb155 q16 q32 q51 q67 q86 mm108 q125 q152 (iN .i64 (((((((0 + 1) + 1) + 1) + 1) + 1) + 1) + 1)) (iN .i64 (((((((0 + 1) + 1) + 1) + 1) + 1) + 1) + 1)) (iN .i64 ((((((0 + 1) + 1) + 1) + 1) + 1) + 1)) (iN .i64 (((((((0 + 1) + 1) + 1) + 1) + 1) + 1) + 1)) (iN .i64 (((((((0 + 1) + 1) + 1) + 1) + 1) + 1) + 1)) (.pointer (some ⟨kb137, ((((((0 + 1) + 1) + 1) + 1) + 1) + 1) + 1, none⟩)) (.bool true) (iN .i64 (((((((0 + 1) + 1) + 1) + 1) + 1) + 1) + 1)) (.bool false) (.bool false) (iN .i64 (((((((0 + 1) + 1) + 1) + 1) + 1) + 1) + 1)) (.bool true) (.bool true) (iN .i64 (((((((0 + 1) + 1) + 1) + 1) + 1) + 1) + 1)) (.pointer (some ⟨kb155, ((((((0 + 1) + 1) + 1) + 1) + 1) + 1) + 1, none⟩)) (iN .i64 (((((((0 + 1) + 1) + 1) + 1) + 1) + 1) + 1)) (List.replicate 219 un)).toArray, []⟩) (by kernel_rfl) ?_
  -- region 23
  refine wl_region ?_
  refine wl_val (iN .i64 (((((((0 + 1) + 1) + 1) + 1) + 1) + 1) + 1)) (by kernel_rfl) (by kernel_rfl) ?_
  refine wl_val (iN .i64 ((((((((0 + 1) + 1) + 1) + 1) + 1) + 1) + 1) + 1)) (by kernel_rfl) (run_add (k := .i64) (a := ((((((0 + 1) + 1) + 1) + 1) + 1) + 1) + 1) (b := 1) (by kernel_rfl) (by kernel_rfl) (by decide)) ?_
  refine wl_val (iN .i64 ((((((((0 + 1) + 1) + 1) + 1) + 1) + 1) + 1) + 1)) (by kernel_rfl) (by kernel_rfl) ?_
  refine wl_nil ?_
  refine then_at (F := ⟨(zT23_7 tb q117 kb128 kb137 kb155 q16 q32 q51 q67 q86 mm108 q125 q152 (iN .i64 ((((((((0 + 1) + 1) + 1) + 1) + 1) + 1) + 1) + 1)) (iN .i64 (((((((0 + 1) + 1) + 1) + 1) + 1) + 1) + 1)) (iN .i64 (((((((0 + 1) + 1) + 1) + 1) + 1) + 1) + 1)) (iN .i64 ((((((((0 + 1) + 1) + 1) + 1) + 1) + 1) + 1) + 1)) (iN .i64 (((((((0 + 1) + 1) + 1) + 1) + 1) + 1) + 1)) (.pointer (some ⟨kb137, ((((((0 + 1) + 1) + 1) + 1) + 1) + 1) + 1, none⟩)) (.bool true) (iN .i64 (((((((0 + 1) + 1) + 1) + 1) + 1) + 1) + 1)) (.bool false) (.bool false) (iN .i64 (((((((0 + 1) + 1) + 1) + 1) + 1) + 1) + 1)) (.bool true) (.bool true) (iN .i64 (((((((0 + 1) + 1) + 1) + 1) + 1) + 1) + 1)) (.pointer (some ⟨kb155, ((((((0 + 1) + 1) + 1) + 1) + 1) + 1) + 1, none⟩)) (iN .i64 (((((((0 + 1) + 1) + 1) + 1) + 1) + 1) + 1)) (List.replicate 219 un)).toArray, []⟩) (by kernel_rfl) ?_
  try rw [rounds_succ]
  refine wp_seq ?_
  refine wp_seq ?_
  -- region 22
  refine wl_region ?_
  refine wl_val (iN .i64 ((((((((0 + 1) + 1) + 1) + 1) + 1) + 1) + 1) + 1)) (by kernel_rfl) (by kernel_rfl) ?_
  refine wl_val (.bool true) (by kernel_rfl) (run_lss (k := .i64) (a := (((((((0 + 1) + 1) + 1) + 1) + 1) + 1) + 1) + 1) (b := 10) (by kernel_rfl) (by kernel_rfl) true (by decide)) ?_
  refine wl_nil ?_
  refine then_at (F := ⟨(zT23_7 tb q117 kb128 kb137 kb155 q16 q32 q51 q67 q86 mm108 q125 q152 (iN .i64 ((((((((0 + 1) + 1) + 1) + 1) + 1) + 1) + 1) + 1)) (iN .i64 ((((((((0 + 1) + 1) + 1) + 1) + 1) + 1) + 1) + 1)) (iN .i64 (((((((0 + 1) + 1) + 1) + 1) + 1) + 1) + 1)) (iN .i64 ((((((((0 + 1) + 1) + 1) + 1) + 1) + 1) + 1) + 1)) (iN .i64 (((((((0 + 1) + 1) + 1) + 1) + 1) + 1) + 1)) (.pointer (some ⟨kb137, ((((((0 + 1) + 1) + 1) + 1) + 1) + 1) + 1, none⟩)) (.bool true) (iN .i64 (((((((0 + 1) + 1) + 1) + 1) + 1) + 1) + 1)) (.bool false) (.bool false) (iN .i64 (((((((0 + 1) + 1) + 1) + 1) + 1) + 1) + 1)) (.bool true) (.bool true) (iN .i64 (((((((0 + 1) + 1) + 1) + 1) + 1) + 1) + 1)) (.pointer (some ⟨kb155, ((((((0 + 1) + 1) + 1) + 1) + 1) + 1) + 1, none⟩)) (iN .i64 (((((((0 + 1) + 1) + 1) + 1) + 1) + 1) + 1)) (List.replicate 219 un)).toArray, []⟩) (by kernel_rfl) ?_
  refine wp_cond_true (by kernel_rfl) ?_
  refine wp_skip ?_
  refine then_at (F := ⟨(zT23_7 tb q117 kb128 kb137 kb155 q16 q32 q51 q67 q86 mm108 q125 q152 (iN .i64 ((((((((0 + 1) + 1) + 1) + 1) + 1) + 1) + 1) + 1)) (iN .i64 ((((((((0 + 1) + 1) + 1) + 1) + 1) + 1) + 1) + 1)) (iN .i64 (((((((0 + 1) + 1) + 1) + 1) + 1) + 1) + 1)) (iN .i64 ((((((((0 + 1) + 1) + 1) + 1) + 1) + 1) + 1) + 1)) (iN .i64 (((((((0 + 1) + 1) + 1) + 1) + 1) + 1) + 1)) (.pointer (some ⟨kb137, ((((((0 + 1) + 1) + 1) + 1) + 1) + 1) + 1, none⟩)) (.bool true) (iN .i64 (((((((0 + 1) + 1) + 1) + 1) + 1) + 1) + 1)) (.bool false) (.bool false) (iN .i64 (((((((0 + 1) + 1) + 1) + 1) + 1) + 1) + 1)) (.bool true) (.bool true) (iN .i64 (((((((0 + 1) + 1) + 1) + 1) + 1) + 1) + 1)) (.pointer (some ⟨kb155, ((((((0 + 1) + 1) + 1) + 1) + 1) + 1) + 1, none⟩)) (iN .i64 (((((((0 + 1) + 1) + 1) + 1) + 1) + 1) + 1)) (List.replicate 219 un)).toArray, []⟩) (by kernel_rfl) ?_
  refine wp_seq ?_
  refine wp_block ?_
  refine wp_seq ?_
  -- region 24
  refine wl_region ?_
  refine wl_val (.slice (some ⟨kb137, 0, none⟩) 10 10) (by kernel_rfl) (by kernel_rfl) ?_
  refine wl_val (iN .i64 ((((((((0 + 1) + 1) + 1) + 1) + 1) + 1) + 1) + 1)) (by kernel_rfl) (by kernel_rfl) ?_
  refine wl_val (.pointer (some ⟨kb137, (((((((0 + 1) + 1) + 1) + 1) + 1) + 1) + 1) + 1, none⟩)) (by kernel_rfl) (run_addr_slice (q := kb137) (n := 10) (m := 10) (a := (((((((0 + 1) + 1) + 1) + 1) + 1) + 1) + 1) + 1) Try.underlying46 (fun w => Try.sizeOf4 w) (by kernel_rfl) (by kernel_rfl) (by decide)) ?_
  refine wl_val (.bool false) (by kernel_rfl) (run_load1 (fun w => Try.isAgg4 w) (by kernel_rfl) (((TH.blk hT163 (x := (kb137, 4, boc [false, false, false, false, false, false, true, true, false, false])) (by simp)).cell ((((((((0 + 1) + 1) + 1) + 1) + 1) + 1) + 1) + 1)).trans rfl)) ?_
  refine wl_val (iN .i64 ((((((((0 + 1) + 1) + 1) + 1) + 1) + 1) + 1) + 1)) (by kernel_rfl) (by kernel_rfl) ?_
  refine wl_val (.bool false) (by kernel_rfl) (run_eqi (k := .i64) (a := (((((((0 + 1) + 1) + 1) + 1) + 1) + 1) + 1) + 1) (b := 6) (by kernel_rfl) (by kernel_rfl) false (by decide)) ?_
  refine wl_val (.bool false) (by kernel_rfl) (by kernel_rfl) ?_
  refine wl_val (iN .i64 ((((((((0 + 1) + 1) + 1) + 1) + 1) + 1) + 1) + 1)) (by kernel_rfl) (by kernel_rfl) ?_
  refine wl_val (.bool false) (by kernel_rfl) (run_eqi (k := .i64) (a := (((((((0 + 1) + 1) + 1) + 1) + 1) + 1) + 1) + 1) (b := 7) (by kernel_rfl) (by kernel_rfl) false (by decide)) ?_
  refine wl_val (.bool false) (by kernel_rfl) (by kernel_rfl) ?_
  refine wl_val (.bool false) (by kernel_rfl) (by kernel_rfl) ?_
  refine wl_val (.bool false) (by kernel_rfl) (by kernel_rfl) ?_
  refine wl_val (.slice (some ⟨kb155, 0, none⟩) 10 10) (by kernel_rfl) (by kernel_rfl) ?_
  refine wl_val (iN .i64 ((((((((0 + 1) + 1) + 1) + 1) + 1) + 1) + 1) + 1)) (by kernel_rfl) (by kernel_rfl) ?_
  refine wl_val (.pointer (some ⟨kb155, (((((((0 + 1) + 1) + 1) + 1) + 1) + 1) + 1) + 1, none⟩)) (by kernel_rfl) (run_addr_slice (q := kb155) (n := 10) (m := 10) (a := (((((((0 + 1) + 1) + 1) + 1) + 1) + 1) + 1) + 1) Try.underlying46 (fun w => Try.sizeOf4 w) (by kernel_rfl) (by kernel_rfl) (by decide)) ?_
  refine wl_val (.bool true) (by kernel_rfl) (run_load1 (fun w => Try.isAgg4 w) (by kernel_rfl) (((TH.blk hT163 (x := (kb155, 4, boc [true, false, true, true, true, true, true, true, true, true])) (by simp)).cell ((((((((0 + 1) + 1) + 1) + 1) + 1) + 1) + 1) + 1)).trans rfl)) ?_
  refine wl_val (iN .i64 ((((((((0 + 1) + 1) + 1) + 1) + 1) + 1) + 1) + 1)) (by kernel_rfl) (by kernel_rfl) ?_
  refine wl_val (.bool true) (by kernel_rfl) (run_nei (k := .i64) (a := (((((((0 + 1) + 1) + 1) + 1) + 1) + 1) + 1) + 1) (b := 1) (by kernel_rfl) (by kernel_rfl) true (by decide)) ?_
  refine wl_val (.bool false) (by kernel_rfl) (by kernel_rfl) ?_
  refine wl_val (.bool false) (by kernel_rfl) (by kernel_rfl) ?_
  refine wl_nil ?_
  refine then_at (F := ⟨(zT23_7 tb q117 kb128 kb137 kb155 q16 q32 q51 q67 q86 mm108 q125 q152 (iN .i64 ((((((((0 + 1) + 1) + 1) + 1) + 1) + 1) + 1) + 1)) (iN .i64 ((((((((0 + 1) + 1) + 1) + 1) + 1) + 1) + 1) + 1)) (iN .i64 (((((((0 + 1) + 1) + 1) + 1) + 1) + 1) + 1)) (iN .i64 ((((((((0 + 1) + 1) + 1) + 1) + 1) + 1) + 1) + 1)) (iN .i64 ((((((((0 + 1) + 1) + 1) + 1) + 1) + 1) + 1) + 1)) (.pointer (some ⟨kb137, (((((((0 + 1) + 1) + 1) + 1) + 1) + 1) + 1) + 1, none⟩)) (.bool false) (iN .i64 ((((((((0 + 1) + 1) + 1) + 1) + 1) + 1) + 1) + 1)) (.bool false) (.bool false) (iN .i64 ((((((((0 + 1) + 1) + 1) + 1) + 1) + 1) + 1) + 1)) (.bool false) (.bool false) (iN .i64 ((((((((0 + 1) + 1) + 1) + 1) + 1) + 1) + 1) + 1)) (.pointer (some ⟨kb155, (((((((0 + 1) + 1) + 1) + 1) + 1) + 1) + 1) + 1, none⟩)) (iN .i64 ((((((((0 + 1) + 1) + 1) + 1) + 1) + 1) + 1) + 1)) (List.replicate 219 un)).toArray, []⟩) (by kernel_rfl) ?_
  refine wp_cond_false (by kernel_rfl) ?_
  refine wp_skip ?_
  refine block_normal ?_
  refine then_at (F := ⟨(zT23_7 tb q117 kb128 kb137 kb155 q16 q32 q51 q67 q86 mm108 q125 q152 (iN .i64 ((((((((0 + 1) + 1) + 1) + 1) + 1) + 1) + 1) + 1)) (iN .i64 ((((((((0 + 1) + 1) + 1) + 1) + 1) + 1) + 1) + 1)) (iN .i64 (((((((0 + 1) + 1) + 1) + 1) + 1) + 1) + 1)) (iN .i64 ((((((((0 + 1) + 1) + 1) + 1) + 1) + 1) + 1) + 1)) (iN .i64 ((((((((0 + 1) + 1) + 1) + 1) + 1) + 1) + 1) + 1)) (.pointer (some ⟨kb137, (((((((0 + 1) + 1) + 1) + 1) + 1) + 1) + 1) + 1, none⟩)) (.bool false) (iN .i64 ((((((((0 + 1) + 1) + 1) + 1) + 1) + 1) + 1) + 1)) (.bool false) (.bool false) (iN .i64 ((((((((0 + 1) + 1) + 1) + 1) + 1) + 1) + 1) + 1)) (.bool false) (.bool false) (iN .i64 ((((((((0 + 1) + 1) + 1) + 1) + 1) + 1) + 1) + 1)) (.pointer (some ⟨kb155, (((((((0 + 1) + 1) + 1) + 1) + 1) + 1) + 1) + 1, none⟩)) (iN .i64 ((((((((0 + 1) + 1) + 1) + 1) + 1) + 1) + 1) + 1)) (List.replicate 219 un)).toArray, []⟩) (by kernel_rfl) ?_
  -- region 23
  refine wl_region ?_
  refine wl_val (iN .i64 ((((((((0 + 1) + 1) + 1) + 1) + 1) + 1) + 1) + 1)) (by kernel_rfl) (by kernel_rfl) ?_
  refine wl_val (iN .i64 (((((((((0 + 1) + 1) + 1) + 1) + 1) + 1) + 1) + 1) + 1)) (by kernel_rfl) (run_add (k := .i64) (a := (((((((0 + 1) + 1) + 1) + 1) + 1) + 1) + 1) + 1) (b := 1) (by kernel_rfl) (by kernel_rfl) (by decide)) ?_
  refine wl_val (iN .i64 (((((((((0 + 1) + 1) + 1) + 1) + 1) + 1) + 1) + 1) + 1)) (by kernel_rfl) (by kernel_rfl) ?_
  refine wl_nil ?_
  refine then_at (F := ⟨(zT23_7 tb q117 kb128 kb137 kb155 q16 q32 q51 q67 q86 mm108 q125 q152 (iN .i64 (((((((((0 + 1) + 1) + 1) + 1) + 1) + 1) + 1) + 1) + 1)) (iN .i64 ((((((((0 + 1) + 1) + 1) + 1) + 1) + 1) + 1) + 1)) (iN .i64 ((((((((0 + 1) + 1) + 1) + 1) + 1) + 1) + 1) + 1)) (iN .i64 (((((((((0 + 1) + 1) + 1) + 1) + 1) + 1) + 1) + 1) + 1)) (iN .i64 ((((((((0 + 1) + 1) + 1) + 1) + 1) + 1) + 1) + 1)) (.pointer (some ⟨kb137, (((((((0 + 1) + 1) + 1) + 1) + 1) + 1) + 1) + 1, none⟩)) (.bool false) (iN .i64 ((((((((0 + 1) + 1) + 1) + 1) + 1) + 1) + 1) + 1)) (.bool false) (.bool false) (iN .i64 ((((((((0 + 1) + 1) + 1) + 1) + 1) + 1) + 1) + 1)) (.bool false) (.bool false) (iN .i64 ((((((((0 + 1) + 1) + 1) + 1) + 1) + 1) + 1) + 1)) (.pointer (some ⟨kb155, (((((((0 + 1) + 1) + 1) + 1) + 1) + 1) + 1) + 1, none⟩)) (iN .i64 ((((((((0 + 1) + 1) + 1) + 1) + 1) + 1) + 1) + 1)) (List.replicate 219 un)).toArray, []⟩) (by kernel_rfl) ?_
  try rw [rounds_succ]
  refine wp_seq ?_
  refine wp_seq ?_
  -- region 22
  refine wl_region ?_
  refine wl_val (iN .i64 (((((((((0 + 1) + 1) + 1) + 1) + 1) + 1) + 1) + 1) + 1)) (by kernel_rfl) (by kernel_rfl) ?_
  refine wl_val (.bool true) (by kernel_rfl) (run_lss (k := .i64) (a := ((((((((0 + 1) + 1) + 1) + 1) + 1) + 1) + 1) + 1) + 1) (b := 10) (by kernel_rfl) (by kernel_rfl) true (by decide)) ?_
  refine wl_nil ?_
  refine then_at (F := ⟨(zT23_7 tb q117 kb128 kb137 kb155 q16 q32 q51 q67 q86 mm108 q125 q152 (iN .i64 (((((((((0 + 1) + 1) + 1) + 1) + 1) + 1) + 1) + 1) + 1)) (iN .i64 (((((((((0 + 1) + 1) + 1) + 1) + 1) + 1) + 1) + 1) + 1)) (iN .i64 ((((((((0 + 1) + 1) + 1) + 1) + 1) + 1) + 1) + 1)) (iN .i64 (((((((((0 + 1) + 1) + 1) + 1) + 1) + 1) + 1) + 1) + 1)) (iN .i64 ((((((((0 + 1) + 1) + 1) + 1) + 1) + 1) + 1) + 1)) (.pointer (some ⟨kb137, (((((((0 + 1) + 1) + 1) + 1) + 1) + 1) + 1) + 1, none⟩)) (.bool false) (iN .i64 ((((((((0 + 1) + 1) + 1) + 1) + 1) + 1) + 1) + 1)) (.bool false) (.bool false) (iN .i64 ((((((((0 + 1) + 1) + 1) + 1) + 1) + 1) + 1) + 1)) (.bool false) (.bool false) (iN .i64 ((((((((0 + 1) + 1) + 1) + 1) + 1) + 1) + 1) + 1)) (.pointer (some ⟨kb155, (((((((0 + 1) + 1) + 1) + 1) + 1) + 1) + 1) + 1, none⟩)) (iN .i64 ((((((((0 + 1) + 1) + 1) + 1) + 1) + 1) + 1) + 1)) (List.replicate 219 un)).toArray, []⟩) (by kernel_rfl) ?_
  refine wp_cond_true (by kernel_rfl) ?_
  refine wp_skip ?_
  refine then_at (F := ⟨(zT23_7 tb q117 kb128 kb137 kb155 q16 q32 q51 q67 q86 mm108 q125 q152 (iN .i64 (((((((((0 + 1) + 1) + 1) + 1) + 1) + 1) + 1) + 1) + 1)) (iN .i64 (((((((((0 + 1) + 1) + 1) + 1) + 1) + 1) + 1) + 1) + 1)) (iN .i64 ((((((((0 + 1) + 1) + 1) + 1) + 1) + 1) + 1) + 1)) (iN .i64 (((((((((0 + 1) + 1) + 1) + 1) + 1) + 1) + 1) + 1) + 1)) (iN .i64 ((((((((0 + 1) + 1) + 1) + 1) + 1) + 1) + 1) + 1)) (.pointer (some ⟨kb137, (((((((0 + 1) + 1) + 1) + 1) + 1) + 1) + 1) + 1, none⟩)) (.bool false) (iN .i64 ((((((((0 + 1) + 1) + 1) + 1) + 1) + 1) + 1) + 1)) (.bool false) (.bool false) (iN .i64 ((((((((0 + 1) + 1) + 1) + 1) + 1) + 1) + 1) + 1)) (.bool false) (.bool false) (iN .i64 ((((((((0 + 1) + 1) + 1) + 1) + 1) + 1) + 1) + 1)) (.pointer (some ⟨kb155, (((((((0 + 1) + 1) + 1) + 1) + 1) + 1) + 1) + 1, none⟩)) (iN .i64 ((((((((0 + 1) + 1) + 1) + 1) + 1) + 1) + 1) + 1)) (List.replicate 219 un)).toArray, []⟩) (by kernel_rfl) ?_
  refine wp_seq ?_
  refine wp_block ?_
  refine wp_seq ?_
  -- region 24
  refine wl_region ?_
  refine wl_val (.slice (some ⟨kb137, 0, none⟩) 10 10) (by kernel_rfl) (by kernel_rfl) ?_
  refine wl_val (iN .i64 (((((((((0 + 1) + 1) + 1) + 1) + 1) + 1) + 1) + 1) + 1)) (by kernel_rfl) (by kernel_rfl) ?_
  refine wl_val (.pointer (some ⟨kb137, ((((((((0 + 1) + 1) + 1) + 1) + 1) + 1) + 1) + 1) + 1, none⟩)) (by kernel_rfl) (run_addr_slice (q := kb137) (n := 10) (m := 10) (a := ((((((((0 + 1) + 1) + 1) + 1) + 1) + 1) + 1) + 1) + 1) Try.underlying46 (fun w => Try.sizeOf4 w) (by kernel_rfl) (by kernel_rfl) (by decide)) ?_
  refine wl_val (.bool false) (by kernel_rfl) (run_load1 (fun w => Try.isAgg4 w) (by kernel_rfl) (((TH.blk hT163 (x := (kb137, 4, boc [false, false, false, false, false, false, true, true, false, false])) (by simp)).cell (((((((((0 + 1) + 1) + 1) + 1) + 1) + 1) + 1) + 1) + 1)).trans rfl)) ?_
  refine wl_val (iN .i64 (((((((((0 + 1) + 1) + 1) + 1) + 1) + 1) + 1) + 1) + 1)) (by kernel_rfl) (by kernel_rfl) ?_
  refine wl_val (.bool false) (by kernel_rfl) (run_eqi (k := .i64) (a := ((((((((0 + 1) + 1) + 1) + 1) + 1) + 1) + 1) + 1) + 1) (b := 6) (by kernel_rfl) (by kernel_rfl) false (by decide)) ?_
  refine wl_val (.bool false) (by kernel_rfl) (by kernel_rfl) ?_
  refine wl_val (iN .i64 (((((((((0 + 1) + 1) + 1) + 1) + 1) + 1) + 1) + 1) + 1)) (by kernel_rfl) (by kernel_rfl) ?_
  refine wl_val (.bool false) (by kernel_rfl) (run_eqi (k := .i64) (a := ((((((((0 + 1) + 1) + 1) + 1) + 1) + 1) + 1) + 1) + 1) (b := 7) (by kernel_rfl) (by kernel_rfl) false (by decide)) ?_
  refine wl_val (.bool false) (by kernel_rfl) (by kernel_rfl) ?_
  refine wl_val (.bool false) (by kernel_rfl) (by kernel_rfl) ?_
  refine wl_val (.bool false) (by kernel_rfl) (by kernel_rfl) ?_
  refine wl_val (.slice (some ⟨kb155, 0, none⟩) 10 10) (by kernel_rfl) (by kernel_rfl) ?_
  refine wl_val (iN .i64 (((((((((0 + 1) + 1) + 1) + 1) + 1) + 1) + 1) + 1) + 1)) (by kernel_rfl) (by kernel_rfl) ?_
  refine wl_val (.pointer (some ⟨kb155, ((((((((0 + 1) + 1) + 1) + 1) + 1) + 1) + 1) + 1) + 1, none⟩)) (by kernel_rfl) (run_addr_slice (q := kb155) (n := 10) (m := 10) (a := ((((((((0 + 1) + 1) + 1) + 1) + 1) + 1) + 1) + 1) + 1) Try.underlying46 (fun w => Try.sizeOf4 w) (by kernel_rfl) (by kernel_rfl) (by decide)) ?_
  refine wl_val (.bool true) (by kernel_rfl) (run_load1 (fun w => Try.isAgg4 w) (by kernel_rfl) (((TH.blk hT163 (x := (kb155, 4, boc [true, false, true, true, true, true, true, true, true, true])) (by simp)).cell (((((((((0 + 1) + 1) + 1) + 1) + 1) + 1) + 1) + 1) + 1)).trans rfl)) ?_
  refine wl_val (iN .i64 (((((((((0 + 1) + 1) + 1) + 1) + 1) + 1) + 1) + 1) + 1)) (by kernel_rfl) (by kernel_rfl) ?_
  refine wl_val (.bool true) (by kernel_rfl) (run_nei (k := .i64) (a := ((((((((0 + 1) + 1) + 1) + 1) + 1) + 1) + 1) + 1) + 1) (b := 1) (by kernel_rfl) (by kernel_rfl) true (by decide)) ?_
  refine wl_val (.bool false) (by kernel_rfl) (by kernel_rfl) ?_
  refine wl_val (.bool false) (by kernel_rfl) (by kernel_rfl) ?_
  refine wl_nil ?_
  refine then_at (F := ⟨(zT23_8 tb q117 kb128 kb137 kb155 q16 q32 q51 q67 q86 mm108 q125 q152 (iN .i64 (((((((((0 + 1) + 1) + 1) + 1) + 1) + 1) + 1) + 1) + 1)) un un (iN .i64 (((((((((0 + 1) + 1) + 1) + 1) + 1) + 1) + 1) + 1) + 1)) (.bool true) (iN .i64 ((((((((0 + 1) + 1) + 1) + 1) + 1) + 1) + 1) + 1)) (iN .i64 (((((((((0 + 1) + 1) + 1) + 1) + 1) + 1) + 1) + 1) + 1)) (List.replicate 219 un)).toArray, []⟩) (by kernel_rfl) ?_
  refine wp_cond_false (by kernel_rfl) ?_
  refine wp_skip ?_
  refine block_normal ?_
  refine then_at (F := ⟨(zT23_8 tb q117 kb128 kb137 kb155 q16 q32 q51 q67 q86 mm108 q125 q152 (iN .i64 (((((((((0 + 1) + 1) + 1) + 1) + 1) + 1) + 1) + 1) + 1)) un un (iN .i64 (((((((((0 + 1) + 1) + 1) + 1) + 1) + 1) + 1) + 1) + 1)) (.bool true) (iN .i64 ((((((((0 + 1) + 1) + 1) + 1) + 1) + 1) + 1) + 1)) (iN .i64 (((((((((0 + 1) + 1) + 1) + 1) + 1) + 1) + 1) + 1) + 1)) (List.replicate 219 un)).toArray, []⟩) (by kernel_rfl) ?_
  -- region 23
  refine wl_region ?_
  refine wl_val (iN .i64 (((((((((0 + 1) + 1) + 1) + 1) + 1) + 1) + 1) + 1) + 1)) (by kernel_rfl) (by kernel_rfl) ?_
  refine wl_val (iN .i64 ((((((((((0 + 1) + 1) + 1) + 1) + 1) + 1) + 1) + 1) + 1) + 1)) (by kernel_rfl) (run_add (k := .i64) (a := ((((((((0 + 1) + 1) + 1) + 1) + 1) + 1) + 1) + 1) + 1) (b := 1) (by kernel_rfl) (by kernel_rfl) (by decide)) ?_
  refine wl_val (iN .i64 ((((((((((0 + 1) + 1) + 1) + 1) + 1) + 1) + 1) + 1) + 1) + 1)) (by kernel_rfl) (by kernel_rfl) ?_
  refine wl_nil ?_
  refine then_at (F := ⟨(zT23_8 tb q117 kb128 kb137 kb155 q16 q32 q51 q67 q86 mm108 q125 q152 (iN .i64 ((((((((((0 + 1) + 1) + 1) + 1) + 1) + 1) + 1) + 1) + 1) + 1)) un un (iN .i64 (((((((((0 + 1) + 1) + 1) + 1) + 1) + 1) + 1) + 1) + 1)) (.bool true) (iN .i64 (((((((((0 + 1) + 1) + 1) + 1) + 1) + 1) + 1) + 1) + 1)) (iN .i64 ((((((((((0 + 1) + 1) + 1) + 1) + 1) + 1) + 1) + 1) + 1) + 1)) (List.replicate 219 un)).toArray, []⟩) (by kernel_rfl) ?_
  try rw [rounds_succ]
  refine wp_seq ?_
  refine wp_seq ?_
  -- region 22
  refine wl_region ?_
  refine wl_val (iN .i64 ((((((((((0 + 1) + 1) + 1) + 1) + 1) + 1) + 1) + 1) + 1) + 1)) (by kernel_rfl) (by kernel_rfl) ?_
  refine wl_val (.bool false) (by kernel_rfl) (run_lss (k := .i64) (a := (((((((((0 + 1) + 1) + 1) + 1) + 1) + 1) + 1) + 1) + 1) + 1) (b := 10) (by kernel_rfl) (by kernel_rfl) false (by decide)) ?_
  refine wl_nil ?_
  refine then_at (F := ⟨(zT23_8 tb q117 kb128 kb137 kb155 q16 q32 q51 q67 q86 mm108 q125 q152 (iN .i64 ((((((((((0 + 1) + 1) + 1) + 1) + 1) + 1) + 1) + 1) + 1) + 1)) un un (iN .i64 ((((((((((0 + 1) + 1) + 1) + 1) + 1) + 1) + 1) + 1) + 1) + 1)) (.bool false) (iN .i64 (((((((((0 + 1) + 1) + 1) + 1) + 1) + 1) + 1) + 1) + 1)) (iN .i64 ((((((((((0 + 1) + 1) + 1) + 1) + 1) + 1) + 1) + 1) + 1) + 1)) (List.replicate 219 un)).toArray, []⟩) (by kernel_rfl) ?_
  refine wp_cond_false (by kernel_rfl) ?_
  refine wp_exit ?_
  repeat first | refine then_exit ?_ | refine block_exit ?_ | refine block_exit_ne (by decide) ?_
  refine then_at (F := ⟨(zT23_8 tb q117 kb128 kb137 kb155 q16 q32 q51 q67 q86 mm108 q125 q152 (iN .i64 ((((((((((0 + 1) + 1) + 1) + 1) + 1) + 1) + 1) + 1) + 1) + 1)) un un (iN .i64 ((((((((((0 + 1) + 1) + 1) + 1) + 1) + 1) + 1) + 1) + 1) + 1)) (.bool false) (iN .i64 (((((((((0 + 1) + 1) + 1) + 1) + 1) + 1) + 1) + 1) + 1)) (iN .i64 ((((((((((0 + 1) + 1) + 1) + 1) + 1) + 1) + 1) + 1) + 1) + 1)) (List.replicate 219 un)).toArray, []⟩) (by kernel_rfl) ?_
  refine wp_seq ?_
  -- region 26
  refine wl_region ?_
  refine wl_val (.pointer (some ⟨tb.q, 0, none⟩)) (by kernel_rfl) (by kernel_rfl) ?_
  refine wl_callx (by kernel_rfl) enter22 #[iN .i64 0] (by kernel_rfl) (name_any 0 (by decide) w160) ?_
  rintro _ w165 ⟨rfl, hb164⟩
  refine ⟨_, rfl, ?_⟩
  have hT166 : TH w [] tb [.nm 0, .nm 1, .mk 3 0 ({ data := #[] }) [0] b23, .mk 3 0 ({ data := #[] }) [1] b39, .mk 4 0 ({ data := #[] }) [0, 1] b58, .mk 5 0 ({ data := #[107] }) [4] b74, .dt nS, .dt { data := #[] }, .dt xS, .mk 6 0 ({ data := #[] }) [5, 6, 7, 8] b93] ((kb155, 4, boc [true, false, true, true, true, true, true, true, true, true]) :: (kb137, 4, boc [false, false, false, false, false, false, true, true, false, false]) :: (kb128, 4, boc [true, false, true, false, false, false, true, true, true, false]) :: (q117, 31, #[iN .i64 4, iN .i64 0, .string ({ data := #[] }), .slice (some ⟨(unp mm108).1, 0, none⟩) 2 (unp mm108).2]) :: ((unp mm108).1, 3, cc109) :: []) w165 := TH.keep hT163 hb164
  refine wl_mksT (n := 2) (m := 2) (c := strc [txt 0, yS]) hT166 9 (by kernel_rfl) (by kernel_rfl) ?_
  intro q167 w168 (hT169 : TH w [] tb [.nm 0, .nm 1, .mk 3 0 ({ data := #[] }) [0] b23, .mk 3 0 ({ data := #[] }) [1] b39, .mk 4 0 ({ data := #[] }) [0, 1] b58, .mk 5 0 ({ data := #[107] }) [4] b74, .dt nS, .dt { data := #[] }, .dt xS, .mk 6 0 ({ data := #[] }) [5, 6, 7, 8] b93] ((q167, 9, strc [txt 0, yS]) :: (kb155, 4, boc [true, false, true, true, true, true, true, true, true, true]) :: (kb137, 4, boc [false, false, false, false, false, false, true, true, false, false]) :: (kb128, 4, boc [true, false, true, false, false, false, true, true, true, false]) :: (q117, 31, #[iN .i64 4, iN .i64 0, .string ({ data := #[] }), .slice (some ⟨(unp mm108).1, 0, none⟩) 2 (unp mm108).2]) :: ((unp mm108).1, 3, cc109) :: []) w168)
  have hmk175 := Make_ok hT169 hw96 4 ({ data := #[] }) [txt 0, yS] (some ⟨q167, 0, none⟩) 2 (.inr ⟨q167, rfl, List.mem_cons_self ..⟩) (by simp) (by kernel_rfl) (by decide) (strs_le (fun y hy => by
      simp only [List.mem_cons, List.not_mem_nil, or_false] at hy
      rcases hy with rfl | rfl
      · exact (by rw [txt_size]; decide)
      · exact (by decide)
      )) (by simp) (by simp)
  refine wl_callx (by kernel_rfl) enter18 #[.pointer (some ⟨tb.q, 0, none⟩), iN .i64 4, .string ({ data := #[] }), .slice (some ⟨q167, 0, none⟩) 2 2] (by kernel_rfl) (hmk175) ?_
  rintro _ w176 ⟨x171, es172, hJ173, rfl, hT170⟩
  refine ⟨_, rfl, ?_⟩
  have hw177 := JO.wf hw96 hJ173 (by simp) (by simp) (by simp)
  have hg178 := JO.wg hg97 hw96 hJ173 (by simp) (by simp) (by simp) (by simp)
  obtain ⟨rfl, b174, rfl⟩ := JO.newL [.nm 0, .nm 1, .mk 3 0 ({ data := #[] }) [0] b23, .mk 3 0 ({ data := #[] }) [1] b39, .mk 4 0 ({ data := #[] }) [0, 1] b58, .mk 5 0 ({ data := #[107] }) [4] b74, .dt nS, .dt { data := #[] }, .dt xS, .mk 6 0 ({ data := #[] }) [5, 6, 7, 8] b93, .dt yS] 11 1 ({ data := #[] }) [0, 10] hJ173 (by kernel_rfl) (by kernel_rfl) (by kernel_rfl) (by kernel_rfl) (by kernel_rfl) (by kernel_rfl)
  clear hJ173
  have hT179 : TH w [] tb [.nm 0, .nm 1, .mk 3 0 ({ data := #[] }) [0] b23, .mk 3 0 ({ data := #[] }) [1] b39, .mk 4 0 ({ data := #[] }) [0, 1] b58, .mk 5 0 ({ data := #[107] }) [4] b74, .dt nS, .dt { data := #[] }, .dt xS, .mk 6 0 ({ data := #[] }) [5, 6, 7, 8] b93, .dt yS, .mk 4 1 ({ data := #[] }) [0, 10] b174] ((kb155, 4, boc [true, false, true, true, true, true, true, true, true, true]) :: (kb137, 4, boc [false, false, false, false, false, false, true, true, false, false]) :: (kb128, 4, boc [true, false, true, false, false, false, true, true, true, false]) :: (q117, 31, #[iN .i64 4, iN .i64 0, .string ({ data := #[] }), .slice (some ⟨(unp mm108).1, 0, none⟩) 2 (unp mm108).2]) :: ((unp mm108).1, 3, cc109) :: []) w176 := TH.sub hT170 (List.sublist_cons_self _ _)
  have hw177 : Wf [.nm 0, .nm 1, .mk 3 0 ({ data := #[] }) [0] b23, .mk 3 0 ({ data := #[] }) [1] b39, .mk 4 0 ({ data := #[] }) [0, 1] b58, .mk 5 0 ({ data := #[107] }) [4] b74, .dt nS, .dt { data := #[] }, .dt xS, .mk 6 0 ({ data := #[] }) [5, 6, 7, 8] b93, .dt yS, .mk 4 1 ({ data := #[] }) [0, 10] b174] := hw177
  have hg178 : Wg [.nm 0, .nm 1, .mk 3 0 ({ data := #[] }) [0] b23, .mk 3 0 ({ data := #[] }) [1] b39, .mk 4 0 ({ data := #[] }) [0, 1] b58, .mk 5 0 ({ data := #[107] }) [4] b74, .dt nS, .dt { data := #[] }, .dt xS, .mk 6 0 ({ data := #[] }) [5, 6, 7, 8] b93, .dt yS, .mk 4 1 ({ data := #[] }) [0, 10] b174] := hg178
  refine wl_val (.tuple #[.string (txt 11), iN .i64 0]) (by kernel_rfl) (by kernel_rfl) ?_
  refine wl_val (.string (txt 11)) (by kernel_rfl) (by kernel_rfl) ?_
  refine wl_val (iN .i64 0) (by kernel_rfl) (by kernel_rfl) ?_
  refine wl_val (.string (txt 11)) (by kernel_rfl) (by kernel_rfl) ?_
  refine wl_val (iN .i64 0) (by kernel_rfl) (by kernel_rfl) ?_
  refine wl_nil ?_
  refine then_at (F := ⟨(zT23_8 tb q117 kb128 kb137 kb155 q16 q32 q51 q67 q86 mm108 q125 q152 (iN .i64 ((((((((((0 + 1) + 1) + 1) + 1) + 1) + 1) + 1) + 1) + 1) + 1)) (.string (txt 11)) un (iN .i64 ((((((((((0 + 1) + 1) + 1) + 1) + 1) + 1) + 1) + 1) + 1) + 1)) (.bool false) (iN .i64 (((((((((0 + 1) + 1) + 1) + 1) + 1) + 1) + 1) + 1) + 1)) (iN .i64 ((((((((((0 + 1) + 1) + 1) + 1) + 1) + 1) + 1) + 1) + 1) + 1)) (.tuple #[.string (txt 11), iN .i64 0] :: pt tb.q :: .string (txt 0) :: .slice (some ⟨q167, 0, none⟩) 2 2 :: .tuple #[.string (txt 11), iN .i64 0] :: .string (txt 11) :: iN .i64 0 :: List.replicate 212 un)).toArray, []⟩) (by kernel_rfl) ?_
  refine wp_seq ?_
  -- region 27
  refine wl_region ?_
  refine wl_val (.pointer (some ⟨tb.q, 0, none⟩)) (by kernel_rfl) (by kernel_rfl) ?_
  refine wl_val (.string (txt 11)) (by kernel_rfl) (by kernel_rfl) ?_
  have ho186 := Of_made (TH.view hT179) hw177 (sx := txt 11) (x := 11) (by kernel_rfl) (k := 4) (n := 1) (b := b174) (s := { data := #[] }) (ps := [0, 10]) rfl (by decide)
  refine wl_callx (by kernel_rfl) enter9 #[.pointer (some ⟨tb.q, 0, none⟩), .string (txt 11)] (by kernel_rfl) (ho186) ?_
  rintro _ w187 ⟨mm180, cc181, rfl, hr182, hr183, hr184, hb185⟩
  refine ⟨_, rfl, ?_⟩
  have hT188 : TH w [] tb [.nm 0, .nm 1, .mk 3 0 ({ data := #[] }) [0] b23, .mk 3 0 ({ data := #[] }) [1] b39, .mk 4 0 ({ data := #[] }) [0, 1] b58, .mk 5 0 ({ data := #[107] }) [4] b74, .dt nS, .dt { data := #[] }, .dt xS, .mk 6 0 ({ data := #[] }) [5, 6, 7, 8] b93, .dt yS, .mk 4 1 ({ data := #[] }) [0, 10] b174] (((unp mm180).1, 3, cc181) :: (kb155, 4, boc [true, false, true, true, true, true, true, true, true, true]) :: (kb137, 4, boc [false, false, false, false, false, false, true, true, false, false]) :: (kb128, 4, boc [true, false, true, false, false, false, true, true, true, false]) :: (q117, 31, #[iN .i64 4, iN .i64 0, .string ({ data := #[] }), .slice (some ⟨(unp mm108).1, 0, none⟩) 2 (unp mm108).2]) :: ((unp mm108).1, 3, cc109) :: []) w187 := TH.add hT179 hb185 hr182 hr183
  refine wl_val (.tuple #[.agg #[iN .i64 4, iN .i64 1, .string ({ data := #[] }), .slice (some ⟨(unp mm180).1, 0, none⟩) 2 (unp mm180).2], .bool true]) (by kernel_rfl) (by kernel_rfl) ?_
  refine wl_val (.agg #[iN .i64 4, iN .i64 1, .string ({ data := #[] }), .slice (some ⟨(unp mm180).1, 0, none⟩) 2 (unp mm180).2]) (by kernel_rfl) (by kernel_rfl) ?_
  refine wl_val (.bool true) (by kernel_rfl) (by kernel_rfl) ?_
  refine wl_makeT (c := #[iN .i64 0, iN .i64 0, .string ({ data := #[] }), .slice none 0 0]) hT188 31 (by kernel_rfl) (by kernel_rfl) ?_
  intro q189 w190 (hT191 : TH w [] tb [.nm 0, .nm 1, .mk 3 0 ({ data := #[] }) [0] b23, .mk 3 0 ({ data := #[] }) [1] b39, .mk 4 0 ({ data := #[] }) [0, 1] b58, .mk 5 0 ({ data := #[107] }) [4] b74, .dt nS, .dt { data := #[] }, .dt xS, .mk 6 0 ({ data := #[] }) [5, 6, 7, 8] b93, .dt yS, .mk 4 1 ({ data := #[] }) [0, 10] b174] ((q189, 31, #[iN .i64 0, iN .i64 0, .string ({ data := #[] }), .slice none 0 0]) :: ((unp mm180).1, 3, cc181) :: (kb155, 4, boc [true, false, true, true, true, true, true, true, true, true]) :: (kb137, 4, boc [false, false, false, false, false, false, true, true, false, false]) :: (kb128, 4, boc [true, false, true, false, false, false, true, true, true, false]) :: (q117, 31, #[iN .i64 4, iN .i64 0, .string ({ data := #[] }), .slice (some ⟨(unp mm108).1, 0, none⟩) 2 (unp mm108).2]) :: ((unp mm108).1, 3, cc109) :: []) w190)
  refine wl_fillT (c' := #[iN .i64 4, iN .i64 1, .string ({ data := #[] }), .slice (some ⟨(unp mm180).1, 0, none⟩) 2 (unp mm180).2]) hT191 (by kernel_rfl) (by kernel_rfl) (by kernel_rfl) rfl (by kernel_rfl) (by kernel_rfl) ?_
  intro w192 (hT193 : TH w [] tb [.nm 0, .nm 1, .mk 3 0 ({ data := #[] }) [0] b23, .mk 3 0 ({ data := #[] }) [1] b39, .mk 4 0 ({ data := #[] }) [0, 1] b58, .mk 5 0 ({ data := #[107] }) [4] b74, .dt nS, .dt { data := #[] }, .dt xS, .mk 6 0 ({ data := #[] }) [5, 6, 7, 8] b93, .dt yS, .mk 4 1 ({ data := #[] }) [0, 10] b174] ((q189, 31, #[iN .i64 4, iN .i64 1, .string ({ data := #[] }), .slice (some ⟨(unp mm180).1, 0, none⟩) 2 (unp mm180).2]) :: ((unp mm180).1, 3, cc181) :: (kb155, 4, boc [true, false, true, true, true, true, true, true, true, true]) :: (kb137, 4, boc [false, false, false, false, false, false, true, true, false, false]) :: (kb128, 4, boc [true, false, true, false, false, false, true, true, true, false]) :: (q117, 31, #[iN .i64 4, iN .i64 0, .string ({ data := #[] }), .slice (some ⟨(unp mm108).1, 0, none⟩) 2 (unp mm108).2]) :: ((unp mm108).1, 3, cc109) :: []) w192)
  refine wl_val (.bool true) (by kernel_rfl) (by kernel_rfl) ?_
  refine wl_nil ?_
  refine then_at (F := ⟨(zT23_8 tb q117 kb128 kb137 kb155 q16 q32 q51 q67 q86 mm108 q125 q152 (iN .i64 ((((((((((0 + 1) + 1) + 1) + 1) + 1) + 1) + 1) + 1) + 1) + 1)) (.string (txt 11)) (pt q189) (iN .i64 ((((((((((0 + 1) + 1) + 1) + 1) + 1) + 1) + 1) + 1) + 1) + 1)) (.bool false) (iN .i64 (((((((((0 + 1) + 1) + 1) + 1) + 1) + 1) + 1) + 1) + 1)) (iN .i64 ((((((((((0 + 1) + 1) + 1) + 1) + 1) + 1) + 1) + 1) + 1) + 1)) (.tuple #[.string (txt 11), iN .i64 0] :: pt tb.q :: .string (txt 0) :: .slice (some ⟨q167, 0, none⟩) 2 2 :: .tuple #[.string (txt 11), iN .i64 0] :: .string (txt 11) :: iN .i64 0 :: .tuple #[.agg #[iN .i64 4, iN .i64 1, .string ({ data := #[] }), .slice (some ⟨(unp mm180).1, 0, none⟩) 2 (unp mm180).2], .bool true] :: pt tb.q :: .string (txt 11) :: .tuple #[.agg #[iN .i64 4, iN .i64 1, .string ({ data := #[] }), .slice (some ⟨(unp mm180).1, 0, none⟩) 2 (unp mm180).2], .bool true] :: .agg #[iN .i64 4, iN .i64 1, .string ({ data := #[] }), .slice (some ⟨(unp mm180).1, 0, none⟩) 2 (unp mm180).2] :: .bool true :: List.replicate 206 un)).toArray, []⟩) (by kernel_rfl) ?_
  refine wp_seq ?_
  refine wp_seq ?_
  -- region 28
  refine wl_region ?_
  refine wl_val (iN .i64 0) (by kernel_rfl) (by kernel_rfl) ?_
  refine wl_val (.bool false) (by kernel_rfl) (run_nei (k := .i64) (a := 0) (b := 0) (by kernel_rfl) (by kernel_rfl) false (by decide)) ?_
  refine wl_val (.bool false) (by kernel_rfl) (by kernel_rfl) ?_
  refine wl_val (.bool true) (by kernel_rfl) (by kernel_rfl) ?_
  refine wl_val (.bool false) (by kernel_rfl) (by kernel_rfl) ?_
  refine wl_val (.bool false) (by kernel_rfl) (by kernel_rfl) ?_
  refine wl_val (.bool false) (by kernel_rfl) (by kernel_rfl) ?_
  refine wl_val (.pointer (some ⟨q189, 1, none⟩)) (by kernel_rfl) (by kernel_rfl) ?_
  refine wl_val (iN .i64 1) (by kernel_rfl) (run_load1 (fun w => Try.isAgg3 w) (by kernel_rfl) (((TH.blk hT193 (x := (q189, 31, #[iN .i64 4, iN .i64 1, .string ({ data := #[] }), .slice (some ⟨(unp mm180).1, 0, none⟩) 2 (unp mm180).2])) (by simp)).cell 1).trans rfl)) ?_
  refine wl_val (.bool false) (by kernel_rfl) (run_nei (k := .i64) (a := 1) (b := 1) (by kernel_rfl) (by kernel_rfl) false (by decide)) ?_
  refine wl_val (.bool false) (by kernel_rfl) (by kernel_rfl) ?_
  refine wl_val (.bool false) (by kernel_rfl) (by kernel_rfl) ?_
  refine wl_val (.pointer (some ⟨q189, 3, none⟩)) (by kernel_rfl) (by kernel_rfl) ?_
  refine wl_val (.slice (some ⟨(unp mm180).1, 0, none⟩) 2 (unp mm180).2) (by kernel_rfl) (run_load1 (fun w => Try.isAgg29 w) (by kernel_rfl) (((TH.blk hT193 (x := (q189, 31, #[iN .i64 4, iN .i64 1, .string ({ data := #[] }), .slice (some ⟨(unp mm180).1, 0, none⟩) 2 (unp mm180).2])) (by simp)).cell 3).trans rfl)) ?_
  refine wl_val (iN .i64 2) (by kernel_rfl) (by kernel_rfl) ?_
  refine wl_val (.bool false) (by kernel_rfl) (run_nei (k := .i64) (a := 2) (b := 2) (by kernel_rfl) (by kernel_rfl) false (by decide)) ?_
  refine wl_val (.bool false) (by kernel_rfl) (by kernel_rfl) ?_
  refine wl_val (.bool false) (by kernel_rfl) (by kernel_rfl) ?_
  refine wl_val (.pointer (some ⟨q189, 3, none⟩)) (by kernel_rfl) (by kernel_rfl) ?_
  refine wl_val (.slice (some ⟨(unp mm180).1, 0, none⟩) 2 (unp mm180).2) (by kernel_rfl) (run_load1 (fun w => Try.isAgg29 w) (by kernel_rfl) (((TH.blk hT193 (x := (q189, 31, #[iN .i64 4, iN .i64 1, .string ({ data := #[] }), .slice (some ⟨(unp mm180).1, 0, none⟩) 2 (unp mm180).2])) (by simp)).cell 3).trans rfl)) ?_
  refine wl_val (.pointer (some ⟨(unp mm180).1, 0, none⟩)) (by kernel_rfl) (run_addr_slice (q := (unp mm180).1) (n := 2) (m := (unp mm180).2) (a := 0) Try.underlying29 (fun w => Try.sizeOf3 w) (by kernel_rfl) (by kernel_rfl) (by decide)) ?_
  refine wl_val (iN .i64 0) (by kernel_rfl) (run_load1 (fun w => Try.isAgg3 w) (by kernel_rfl) (((TH.blk hT193 (x := ((unp mm180).1, 3, cc181)) (by simp)).cell 0).trans (hr184 0 (by decide)))) ?_
  refine wl_val (.bool false) (by kernel_rfl) (run_nei (k := .i64) (a := 0) (b := 0) (by kernel_rfl) (by kernel_rfl) false (by decide)) ?_
  refine wl_val (.bool false) (by kernel_rfl) (by kernel_rfl) ?_
  refine wl_nil ?_
  refine then_at (F := ⟨(zT23_9 tb q117 kb128 kb137 kb155 q189 q16 q32 q51 q67 q86 mm108 q125 q152 q167 mm180 un un un un un un un un un un un un un un (List.replicate 182 un)).toArray, []⟩) (by kernel_rfl) ?_
  refine wp_cond_false (by kernel_rfl) ?_
  refine wp_skip ?_
  refine then_at (F := ⟨(zT23_9 tb q117 kb128 kb137 kb155 q189 q16 q32 q51 q67 q86 mm108 q125 q152 q167 mm180 un un un un un un un un un un un un un un (List.replicate 182 un)).toArray, []⟩) (by kernel_rfl) ?_
  refine wp_seq ?_
  -- region 30
  refine wl_region ?_
  refine wl_val (.pointer (some ⟨tb.q, 0, none⟩)) (by kernel_rfl) (by kernel_rfl) ?_
  refine wl_callx (by kernel_rfl) enter18 #[.pointer (some ⟨tb.q, 0, none⟩), iN .i64 1, .string ({ data := #[] }), .slice none 0 0] (by kernel_rfl) (Make_argN hT193 1 ({ data := #[] }) 0 none 0 (by kernel_rfl)) ?_
  rintro _ w195 ⟨rfl, hT194⟩
  refine ⟨_, rfl, ?_⟩
  have hT196 : TH w [] tb [.nm 0, .nm 1, .mk 3 0 ({ data := #[] }) [0] b23, .mk 3 0 ({ data := #[] }) [1] b39, .mk 4 0 ({ data := #[] }) [0, 1] b58, .mk 5 0 ({ data := #[107] }) [4] b74, .dt nS, .dt { data := #[] }, .dt xS, .mk 6 0 ({ data := #[] }) [5, 6, 7, 8] b93, .dt yS, .mk 4 1 ({ data := #[] }) [0, 10] b174] ((q189, 31, #[iN .i64 4, iN .i64 1, .string ({ data := #[] }), .slice (some ⟨(unp mm180).1, 0, none⟩) 2 (unp mm180).2]) :: ((unp mm180).1, 3, cc181) :: (kb155, 4, boc [true, false, true, true, true, true, true, true, true, true]) :: (kb137, 4, boc [false, false, false, false, false, false, true, true, false, false]) :: (kb128, 4, boc [true, false, true, false, false, false, true, true, true, false]) :: (q117, 31, #[iN .i64 4, iN .i64 0, .string ({ data := #[] }), .slice (some ⟨(unp mm108).1, 0, none⟩) 2 (unp mm108).2]) :: ((unp mm108).1, 3, cc109) :: []) w195 := hT194
  refine wl_val (.tuple #[.string ({ data := #[] }), iN .i64 2]) (by kernel_rfl) (by kernel_rfl) ?_
  refine wl_val (.string ({ data := #[] })) (by kernel_rfl) (by kernel_rfl) ?_
  refine wl_val (iN .i64 2) (by kernel_rfl) (by kernel_rfl) ?_
  refine wl_val (.string ({ data := #[] })) (by kernel_rfl) (by kernel_rfl) ?_
  refine wl_val (iN .i64 2) (by kernel_rfl) (by kernel_rfl) ?_
  refine wl_nil ?_
  refine then_at (F := ⟨(zT23_9 tb q117 kb128 kb137 kb155 q189 q16 q32 q51 q67 q86 mm108 q125 q152 q167 mm180 (.string ({ data := #[] })) (iN .i64 2) un un un un un un un un un un un un (.tuple #[.string ({ data := #[] }), iN .i64 2] :: pt tb.q :: .tuple #[.string ({ data := #[] }), iN .i64 2] :: .string ({ data := #[] }) :: iN .i64 2 :: List.replicate 177 un)).toArray, []⟩) (by kernel_rfl) ?_
  refine wp_seq ?_
  -- region 31
  refine wl_region ?_
  refine wl_val (.pointer (some ⟨tb.q, 0, none⟩)) (by kernel_rfl) (by kernel_rfl) ?_
  refine wl_mksT (n := 1) (m := 1) (c := strc [xxS]) hT196 9 (by kernel_rfl) (by kernel_rfl) ?_
  intro q197 w198 (hT199 : TH w [] tb [.nm 0, .nm 1, .mk 3 0 ({ data := #[] }) [0] b23, .mk 3 0 ({ data := #[] }) [1] b39, .mk 4 0 ({ data := #[] }) [0, 1] b58, .mk 5 0 ({ data := #[107] }) [4] b74, .dt nS, .dt { data := #[] }, .dt xS, .mk 6 0 ({ data := #[] }) [5, 6, 7, 8] b93, .dt yS, .mk 4 1 ({ data := #[] }) [0, 10] b174] ((q197, 9, strc [xxS]) :: (q189, 31, #[iN .i64 4, iN .i64 1, .string ({ data := #[] }), .slice (some ⟨(unp mm180).1, 0, none⟩) 2 (unp mm180).2]) :: ((unp mm180).1, 3, cc181) :: (kb155, 4, boc [true, false, true, true, true, true, true, true, true, true]) :: (kb137, 4, boc [false, false, false, false, false, false, true, true, false, false]) :: (kb128, 4, boc [true, false, true, false, false, false, true, true, true, false]) :: (q117, 31, #[iN .i64 4, iN .i64 0, .string ({ data := #[] }), .slice (some ⟨(unp mm108).1, 0, none⟩) 2 (unp mm108).2]) :: ((unp mm108).1, 3, cc109) :: []) w198)
  refine wl_callx (by kernel_rfl) enter18 #[.pointer (some ⟨tb.q, 0, none⟩), iN .i64 2, .string ({ data := #[] }), .slice (some ⟨q197, 0, none⟩) 1 1] (by kernel_rfl) (Make_argN hT199 2 ({ data := #[] }) 1 (some ⟨q197, 0, none⟩) 1 (by kernel_rfl)) ?_
  rintro _ w201 ⟨rfl, hT200⟩
  refine ⟨_, rfl, ?_⟩
  have hT202 : TH w [] tb [.nm 0, .nm 1, .mk 3 0 ({ data := #[] }) [0] b23, .mk 3 0 ({ data := #[] }) [1] b39, .mk 4 0 ({ data := #[] }) [0, 1] b58, .mk 5 0 ({ data := #[107] }) [4] b74, .dt nS, .dt { data := #[] }, .dt xS, .mk 6 0 ({ data := #[] }) [5, 6, 7, 8] b93, .dt yS, .mk 4 1 ({ data := #[] }) [0, 10] b174] ((q189, 31, #[iN .i64 4, iN .i64 1, .string ({ data := #[] }), .slice (some ⟨(unp mm180).1, 0, none⟩) 2 (unp mm180).2]) :: ((unp mm180).1, 3, cc181) :: (kb155, 4, boc [true, false, true, true, true, true, true, true, true, true]) :: (kb137, 4, boc [false, false, false, false, false, false, true, true, false, false]) :: (kb128, 4, boc [true, false, true, false, false, false, true, true, true, false]) :: (q117, 31, #[iN .i64 4, iN .i64 0, .string ({ data := #[] }), .slice (some ⟨(unp mm108).1, 0, none⟩) 2 (unp mm108).2]) :: ((unp mm108).1, 3, cc109) :: []) w201 := TH.sub hT200 (List.sublist_cons_self _ _)
  refine wl_val (.tuple #[.string ({ data := #[] }), iN .i64 2]) (by kernel_rfl) (by kernel_rfl) ?_
  refine wl_val (.string ({ data := #[] })) (by kernel_rfl) (by kernel_rfl) ?_
  refine wl_val (iN .i64 2) (by kernel_rfl) (by kernel_rfl) ?_
  refine wl_val (.string ({ data := #[] })) (by kernel_rfl) (by kernel_rfl) ?_
  refine wl_val (iN .i64 2) (by kernel_rfl) (by kernel_rfl) ?_
  refine wl_nil ?_
  refine then_at (F := ⟨(zT23_9 tb q117 kb128 kb137 kb155 q189 q16 q32 q51 q67 q86 mm108 q125 q152 q167 mm180 (.string ({ data := #[] })) (iN .i64 2) (.string ({ data := #[] })) (iN .i64 2) un un un un un un un un un un (.tuple #[.string ({ data := #[] }), iN .i64 2] :: pt tb.q :: .tuple #[.string ({ data := #[] }), iN .i64 2] :: .string ({ data := #[] }) :: iN .i64 2 :: .tuple #[.string ({ data := #[] }), iN .i64 2] :: pt tb.q :: .slice (some ⟨q197, 0, none⟩) 1 1 :: .tuple #[.string ({ data := #[] }), iN .i64 2] :: .string ({ data := #[] }) :: iN .i64 2 :: List.replicate 171 un)).toArray, []⟩) (by kernel_rfl) ?_
  refine wp_seq ?_
  -- region 32
  refine wl_region ?_
  refine wl_val (.pointer (some ⟨tb.q, 0, none⟩)) (by kernel_rfl) (by kernel_rfl) ?_
  refine wl_callx (by kernel_rfl) enter22 #[iN .i64 0] (by kernel_rfl) (name_any 0 (by decide) w201) ?_
  rintro _ w204 ⟨rfl, hb203⟩
  refine ⟨_, rfl, ?_⟩
  have hT205 : TH w [] tb [.nm 0, .nm 1, .mk 3 0 ({ data := #[] }) [0] b23, .mk 3 0 ({ data := #[] }) [1] b39, .mk 4 0 ({ data := #[] }) [0, 1] b58, .mk 5 0 ({ data := #[107] }) [4] b74, .dt nS, .dt { data := #[] }, .dt xS, .mk 6 0 ({ data := #[] }) [5, 6, 7, 8] b93, .dt yS, .mk 4 1 ({ data := #[] }) [0, 10] b174] ((q189, 31, #[iN .i64 4, iN .i64 1, .string ({ data := #[] }), .slice (some ⟨(unp mm180).1, 0, none⟩) 2 (unp mm180).2]) :: ((unp mm180).1, 3, cc181) :: (kb155, 4, boc [true, false, true, true, true, true, true, true, true, true]) :: (kb137, 4, boc [false, false, false, false, false, false, true, true, false, false]) :: (kb128, 4, boc [true, false, true, false, false, false, true, true, true, false]) :: (q117, 31, #[iN .i64 4, iN .i64 0, .string ({ data := #[] }), .slice (some ⟨(unp mm108).1, 0, none⟩) 2 (unp mm108).2]) :: ((unp mm108).1, 3, cc109) :: []) w204 := TH.keep hT202 hb203
  refine wl_mksT (n := 1) (m := 1) (c := strc [txt 0]) hT205 9 (by kernel_rfl) (by kernel_rfl) ?_
  intro q206 w207 (hT208 : TH w [] tb [.nm 0, .nm 1, .mk 3 0 ({ data := #[] }) [0] b23, .mk 3 0 ({ data := #[] }) [1] b39, .mk 4 0 ({ data := #[] }) [0, 1] b58, .mk 5 0 ({ data := #[107] }) [4] b74, .dt nS, .dt { data := #[] }, .dt xS, .mk 6 0 ({ data := #[] }) [5, 6, 7, 8] b93, .dt yS, .mk 4 1 ({ data := #[] }) [0, 10] b174] ((q206, 9, strc [txt 0]) :: (q189, 31, #[iN .i64 4, iN .i64 1, .string ({ data := #[] }), .slice (some ⟨(unp mm180).1, 0, none⟩) 2 (unp mm180).2]) :: ((unp mm180).1, 3, cc181) :: (kb155, 4, boc [true, false, true, true, true, true, true, true, true, true]) :: (kb137, 4, boc [false, false, false, false, false, false, true, true, false, false]) :: (kb128, 4, boc [true, false, true, false, false, false, true, true, true, false]) :: (q117, 31, #[iN .i64 4, iN .i64 0, .string ({ data := #[] }), .slice (some ⟨(unp mm108).1, 0, none⟩) 2 (unp mm108).2]) :: ((unp mm108).1, 3, cc109) :: []) w207)
  refine wl_callx (by kernel_rfl) enter18 #[.pointer (some ⟨tb.q, 0, none⟩), iN .i64 3, .string xxS, .slice (some ⟨q206, 0, none⟩) 1 1] (by kernel_rfl) (Make_argN hT208 3 xxS 1 (some ⟨q206, 0, none⟩) 1 (by kernel_rfl)) ?_
  rintro _ w210 ⟨rfl, hT209⟩
  refine ⟨_, rfl, ?_⟩
  have hT211 : TH w [] tb [.nm 0, .nm 1, .mk 3 0 ({ data := #[] }) [0] b23, .mk 3 0 ({ data := #[] }) [1] b39, .mk 4 0 ({ data := #[] }) [0, 1] b58, .mk 5 0 ({ data := #[107] }) [4] b74, .dt nS, .dt { data := #[] }, .dt xS, .mk 6 0 ({ data := #[] }) [5, 6, 7, 8] b93, .dt yS, .mk 4 1 ({ data := #[] }) [0, 10] b174] ((q189, 31, #[iN .i64 4, iN .i64 1, .string ({ data := #[] }), .slice (some ⟨(unp mm180).1, 0, none⟩) 2 (unp mm180).2]) :: ((unp mm180).1, 3, cc181) :: (kb155, 4, boc [true, false, true, true, true, true, true, true, true, true]) :: (kb137, 4, boc [false, false, false, false, false, false, true, true, false, false]) :: (kb128, 4, boc [true, false, true, false, false, false, true, true, true, false]) :: (q117, 31, #[iN .i64 4, iN .i64 0, .string ({ data := #[] }), .slice (some ⟨(unp mm108).1, 0, none⟩) 2 (unp mm108).2]) :: ((unp mm108).1, 3, cc109) :: []) w210 := TH.sub hT209 (List.sublist_cons_self _ _)
  refine wl_val (.tuple #[.string ({ data := #[] }), iN .i64 2]) (by kernel_rfl) (by kernel_rfl) ?_
  refine wl_val (.string ({ data := #[] })) (by kernel_rfl) (by kernel_rfl) ?_
  refine wl_val (iN .i64 2) (by kernel_rfl) (by kernel_rfl) ?_
  refine wl_val (.string ({ data := #[] })) (by kernel_rfl) (by kernel_rfl) ?_
  refine wl_val (iN .i64 2) (by kernel_rfl) (by kernel_rfl) ?_
  refine wl_nil ?_
  refine then_at (F := ⟨(zT23_9 tb q117 kb128 kb137 kb155 q189 q16 q32 q51 q67 q86 mm108 q125 q152 q167 mm180 (.string ({ data := #[] })) (iN .i64 2) (.string ({ data := #[] })) (iN .i64 2) (.string ({ data := #[] })) (iN .i64 2) un un un un un un un un (.tuple #[.string ({ data := #[] }), iN .i64 2] :: pt tb.q :: .tuple #[.string ({ data := #[] }), iN .i64 2] :: .string ({ data := #[] }) :: iN .i64 2 :: .tuple #[.string ({ data := #[] }), iN .i64 2] :: pt tb.q :: .slice (some ⟨q197, 0, none⟩) 1 1 :: .tuple #[.string ({ data := #[] }), iN .i64 2] :: .string ({ data := #[] }) :: iN .i64 2 :: .tuple #[.string ({ data := #[] }), iN .i64 2] :: pt tb.q :: .string (txt 0) :: .slice (some ⟨q206, 0, none⟩) 1 1 :: .tuple #[.string ({ data := #[] }), iN .i64 2] :: .string ({ data := #[] }) :: iN .i64 2 :: List.replicate 164 un)).toArray, []⟩) (by kernel_rfl) ?_
  refine wp_seq ?_
  -- region 33
  refine wl_region ?_
  refine wl_val (.pointer (some ⟨tb.q, 0, none⟩)) (by kernel_rfl) (by kernel_rfl) ?_
  refine wl_callx (by kernel_rfl) enter18 #[.pointer (some ⟨tb.q, 0, none⟩), iN .i64 3, .string ({ data := #[] }), .slice none 0 0] (by kernel_rfl) (Make_argN hT211 3 ({ data := #[] }) 0 none 0 (by kernel_rfl)) ?_
  rintro _ w213 ⟨rfl, hT212⟩
  refine ⟨_, rfl, ?_⟩
  have hT214 : TH w [] tb [.nm 0, .nm 1, .mk 3 0 ({ data := #[] }) [0] b23, .mk 3 0 ({ data := #[] }) [1] b39, .mk 4 0 ({ data := #[] }) [0, 1] b58, .mk 5 0 ({ data := #[107] }) [4] b74, .dt nS, .dt { data := #[] }, .dt xS, .mk 6 0 ({ data := #[] }) [5, 6, 7, 8] b93, .dt yS, .mk 4 1 ({ data := #[] }) [0, 10] b174] ((q189, 31, #[iN .i64 4, iN .i64 1, .string ({ data := #[] }), .slice (some ⟨(unp mm180).1, 0, none⟩) 2 (unp mm180).2]) :: ((unp mm180).1, 3, cc181) :: (kb155, 4, boc [true, false, true, true, true, true, true, true, true, true]) :: (kb137, 4, boc [false, false, false, false, false, false, true, true, false, false]) :: (kb128, 4, boc [true, false, true, false, false, false, true, true, true, false]) :: (q117, 31, #[iN .i64 4, iN .i64 0, .string ({ data := #[] }), .slice (some ⟨(unp mm108).1, 0, none⟩) 2 (unp mm108).2]) :: ((unp mm108).1, 3, cc109) :: []) w213 := hT212
  refine wl_val (.tuple #[.string ({ data := #[] }), iN .i64 2]) (by kernel_rfl) (by kernel_rfl) ?_
  refine wl_val (.string ({ data := #[] })) (by kernel_rfl) (by kernel_rfl) ?_
  refine wl_val (iN .i64 2) (by kernel_rfl) (by kernel_rfl) ?_
  refine wl_val (.string ({ data := #[] })) (by kernel_rfl) (by kernel_rfl) ?_
  refine wl_val (iN .i64 2) (by kernel_rfl) (by kernel_rfl) ?_
  refine wl_nil ?_
  refine then_at (F := ⟨(zT23_9 tb q117 kb128 kb137 kb155 q189 q16 q32 q51 q67 q86 mm108 q125 q152 q167 mm180 (.string ({ data := #[] })) (iN .i64 2) (.string ({ data := #[] })) (iN .i64 2) (.string ({ data := #[] })) (iN .i64 2) (.string ({ data := #[] })) (iN .i64 2) un un un un un un (.tuple #[.string ({ data := #[] }), iN .i64 2] :: pt tb.q :: .tuple #[.string ({ data := #[] }), iN .i64 2] :: .string ({ data := #[] }) :: iN .i64 2 :: .tuple #[.string ({ data := #[] }), iN .i64 2] :: pt tb.q :: .slice (some ⟨q197, 0, none⟩) 1 1 :: .tuple #[.string ({ data := #[] }), iN .i64 2] :: .string ({ data := #[] }) :: iN .i64 2 :: .tuple #[.string ({ data := #[] }), iN .i64 2] :: pt tb.q :: .string (txt 0) :: .slice (some ⟨q206, 0, none⟩) 1 1 :: .tuple #[.string ({ data := #[] }), iN .i64 2] :: .string ({ data := #[] }) :: iN .i64 2 :: .tuple #[.string ({ data := #[] }), iN .i64 2] :: pt tb.q :: .tuple #[.string ({ data := #[] }), iN .i64 2] :: .string ({ data := #[] }) :: iN .i64 2 :: List.replicate 159 un)).toArray, []⟩) (by kernel_rfl) ?_
  refine wp_seq ?_
  -- region 34
  refine wl_region ?_
  refine wl_val (.pointer (some ⟨tb.q, 0, none⟩)) (by kernel_rfl) (by kernel_rfl) ?_
  refine wl_mksT (n := 3) (m := 3) (c := strc [{ data := #[] }, { data := #[] }, { data := #[] }]) hT214 9 (by kernel_rfl) (by kernel_rfl) ?_
  intro q215 w216 (hT217 : TH w [] tb [.nm 0, .nm 1, .mk 3 0 ({ data := #[] }) [0] b23, .mk 3 0 ({ data := #[] }) [1] b39, .mk 4 0 ({ data := #[] }) [0, 1] b58, .mk 5 0 ({ data := #[107] }) [4] b74, .dt nS, .dt { data := #[] }, .dt xS, .mk 6 0 ({ data := #[] }) [5, 6, 7, 8] b93, .dt yS, .mk 4 1 ({ data := #[] }) [0, 10] b174] ((q215, 9, strc [{ data := #[] }, { data := #[] }, { data := #[] }]) :: (q189, 31, #[iN .i64 4, iN .i64 1, .string ({ data := #[] }), .slice (some ⟨(unp mm180).1, 0, none⟩) 2 (unp mm180).2]) :: ((unp mm180).1, 3, cc181) :: (kb155, 4, boc [true, false, true, true, true, true, true, true, true, true]) :: (kb137, 4, boc [false, false, false, false, false, false, true, true, false, false]) :: (kb128, 4, boc [true, false, true, false, false, false, true, true, true, false]) :: (q117, 31, #[iN .i64 4, iN .i64 0, .string ({ data := #[] }), .slice (some ⟨(unp mm108).1, 0, none⟩) 2 (unp mm108).2]) :: ((unp mm108).1, 3, cc109) :: []) w216)
  refine wl_callx (by kernel_rfl) enter18 #[.pointer (some ⟨tb.q, 0, none⟩), iN .i64 6, .string ({ data := #[] }), .slice (some ⟨q215, 0, none⟩) 3 3] (by kernel_rfl) (Make_argN hT217 6 ({ data := #[] }) 3 (some ⟨q215, 0, none⟩) 3 (by kernel_rfl)) ?_
  rintro _ w219 ⟨rfl, hT218⟩
  refine ⟨_, rfl, ?_⟩
  have hT220 : TH w [] tb [.nm 0, .nm 1, .mk 3 0 ({ data := #[] }) [0] b23, .mk 3 0 ({ data := #[] }) [1] b39, .mk 4 0 ({ data := #[] }) [0, 1] b58, .mk 5 0 ({ data := #[107] }) [4] b74, .dt nS, .dt { data := #[] }, .dt xS, .mk 6 0 ({ data := #[] }) [5, 6, 7, 8] b93, .dt yS, .mk 4 1 ({ data := #[] }) [0, 10] b174] ((q189, 31, #[iN .i64 4, iN .i64 1, .string ({ data := #[] }), .slice (some ⟨(unp mm180).1, 0, none⟩) 2 (unp mm180).2]) :: ((unp mm180).1, 3, cc181) :: (kb155, 4, boc [true, false, true, true, true, true, true, true, true, true]) :: (kb137, 4, boc [false, false, false, false, false, false, true, true, false, false]) :: (kb128, 4, boc [true, false, true, false, false, false, true, true, true, false]) :: (q117, 31, #[iN .i64 4, iN .i64 0, .string ({ data := #[] }), .slice (some ⟨(unp mm108).1, 0, none⟩) 2 (unp mm108).2]) :: ((unp mm108).1, 3, cc109) :: []) w219 := TH.sub hT218 (List.sublist_cons_self _ _)
  refine wl_val (.tuple #[.string ({ data := #[] }), iN .i64 2]) (by kernel_rfl) (by kernel_rfl) ?_
  refine wl_val (.string ({ data := #[] })) (by kernel_rfl) (by kernel_rfl) ?_
  refine wl_val (iN .i64 2) (by kernel_rfl) (by kernel_rfl) ?_
  refine wl_val (.string ({ data := #[] })) (by kernel_rfl) (by kernel_rfl) ?_
  refine wl_val (iN .i64 2) (by kernel_rfl) (by kernel_rfl) ?_
  refine wl_nil ?_
  refine then_at (F := ⟨(zT23_9 tb q117 kb128 kb137 kb155 q189 q16 q32 q51 q67 q86 mm108 q125 q152 q167 mm180 (.string ({ data := #[] })) (iN .i64 2) (.string ({ data := #[] })) (iN .i64 2) (.string ({ data := #[] })) (iN .i64 2) (.string ({ data := #[] })) (iN .i64 2) (.string ({ data := #[] })) (iN .i64 2) un un un un (.tuple #[.string ({ data := #[] }), iN .i64 2] :: pt tb.q :: .tuple #[.string ({ data := #[] }), iN .i64 2] :: .string ({ data := #[] }) :: iN .i64 2 :: .tuple #[.string ({ data := #[] }), iN .i64 2] :: pt tb.q :: .slice (some ⟨q197, 0, none⟩) 1 1 :: .tuple #[.string ({ data := #[] }), iN .i64 2] :: .string ({ data := #[] }) :: iN .i64 2 :: .tuple #[.string ({ data := #[] }), iN .i64 2] :: pt tb.q :: .string (txt 0) :: .slice (some ⟨q206, 0, none⟩) 1 1 :: .tuple #[.string ({ data := #[] }), iN .i64 2] :: .string ({ data := #[] }) :: iN .i64 2 :: .tuple #[.string ({ data := #[] }), iN .i64 2] :: pt tb.q :: .tuple #[.string ({ data := #[] }), iN .i64 2] :: .string ({ data := #[] }) :: iN .i64 2 :: .tuple #[.string ({ data := #[] }), iN .i64 2] :: pt tb.q :: .slice (some ⟨q215, 0, none⟩) 3 3 :: .tuple #[.string ({ data := #[] }), iN .i64 2] :: .string ({ data := #[] }) :: iN .i64 2 :: List.replicate 153 un)).toArray, []⟩) (by kernel_rfl) ?_
  refine wp_seq ?_
  -- region 35
  refine wl_region ?_
  refine wl_val (.pointer (some ⟨tb.q, 0, none⟩)) (by kernel_rfl) (by kernel_rfl) ?_
  refine wl_mksT (n := 101) (m := 101) (c := (List.replicate 101 (Value.string { data := #[] })).toArray) hT220 9 (by kernel_rfl) (by kernel_rfl) ?_
  intro q221 w222 (hT223 : TH w [] tb [.nm 0, .nm 1, .mk 3 0 ({ data := #[] }) [0] b23, .mk 3 0 ({ data := #[] }) [1] b39, .mk 4 0 ({ data := #[] }) [0, 1] b58, .mk 5 0 ({ data := #[107] }) [4] b74, .dt nS, .dt { data := #[] }, .dt xS, .mk 6 0 ({ data := #[] }) [5, 6, 7, 8] b93, .dt yS, .mk 4 1 ({ data := #[] }) [0, 10] b174] ((q221, 9, (List.replicate 101 (Value.string { data := #[] })).toArray) :: (q189, 31, #[iN .i64 4, iN .i64 1, .string ({ data := #[] }), .slice (some ⟨(unp mm180).1, 0, none⟩) 2 (unp mm180).2]) :: ((unp mm180).1, 3, cc181) :: (kb155, 4, boc [true, false, true, true, true, true, true, true, true, true]) :: (kb137, 4, boc [false, false, false, false, false, false, true, true, false, false]) :: (kb128, 4, boc [true, false, true, false, false, false, true, true, true, false]) :: (q117, 31, #[iN .i64 4, iN .i64 0, .string ({ data := #[] }), .slice (some ⟨(unp mm108).1, 0, none⟩) 2 (unp mm108).2]) :: ((unp mm108).1, 3, cc109) :: []) w222)
  refine wl_callx (by kernel_rfl) enter18 #[.pointer (some ⟨tb.q, 0, none⟩), iN .i64 5, .string ({ data := #[] }), .slice (some ⟨q221, 0, none⟩) 101 101] (by kernel_rfl) (Make_argN hT223 5 ({ data := #[] }) 101 (some ⟨q221, 0, none⟩) 101 (by kernel_rfl)) ?_
  rintro _ w225 ⟨rfl, hT224⟩
  refine ⟨_, rfl, ?_⟩
  have hT226 : TH w [] tb [.nm 0, .nm 1, .mk 3 0 ({ data := #[] }) [0] b23, .mk 3 0 ({ data := #[] }) [1] b39, .mk 4 0 ({ data := #[] }) [0, 1] b58, .mk 5 0 ({ data := #[107] }) [4] b74, .dt nS, .dt { data := #[] }, .dt xS, .mk 6 0 ({ data := #[] }) [5, 6, 7, 8] b93, .dt yS, .mk 4 1 ({ data := #[] }) [0, 10] b174] ((q189, 31, #[iN .i64 4, iN .i64 1, .string ({ data := #[] }), .slice (some ⟨(unp mm180).1, 0, none⟩) 2 (unp mm180).2]) :: ((unp mm180).1, 3, cc181) :: (kb155, 4, boc [true, false, true, true, true, true, true, true, true, true]) :: (kb137, 4, boc [false, false, false, false, false, false, true, true, false, false]) :: (kb128, 4, boc [true, false, true, false, false, false, true, true, true, false]) :: (q117, 31, #[iN .i64 4, iN .i64 0, .string ({ data := #[] }), .slice (some ⟨(unp mm108).1, 0, none⟩) 2 (unp mm108).2]) :: ((unp mm108).1, 3, cc109) :: []) w225 := TH.sub hT224 (List.sublist_cons_self _ _)
  refine wl_val (.tuple #[.string ({ data := #[] }), iN .i64 2]) (by kernel_rfl) (by kernel_rfl) ?_
  refine wl_val (.string ({ data := #[] })) (by kernel_rfl) (by kernel_rfl) ?_
  refine wl_val (iN .i64 2) (by kernel_rfl) (by kernel_rfl) ?_
  refine wl_val (.string ({ data := #[] })) (by kernel_rfl) (by kernel_rfl) ?_
  refine wl_val (iN .i64 2) (by kernel_rfl) (by kernel_rfl) ?_
  refine wl_nil ?_
  refine then_at (F := ⟨(zT23_9 tb q117 kb128 kb137 kb155 q189 q16 q32 q51 q67 q86 mm108 q125 q152 q167 mm180 (.string ({ data := #[] })) (iN .i64 2) (.string ({ data := #[] })) (iN .i64 2) (.string ({ data := #[] })) (iN .i64 2) (.string ({ data := #[] })) (iN .i64 2) (.string ({ data := #[] })) (iN .i64 2) (.string ({ data := #[] })) (iN .i64 2) un un (.tuple #[.string ({ data := #[] }), iN .i64 2] :: pt tb.q :: .tuple #[.string ({ data := #[] }), iN .i64 2] :: .string ({ data := #[] }) :: iN .i64 2 :: .tuple #[.string ({ data := #[] }), iN .i64 2] :: pt tb.q :: .slice (some ⟨q197, 0, none⟩) 1 1 :: .tuple #[.string ({ data := #[] }), iN .i64 2] :: .string ({ data := #[] }) :: iN .i64 2 :: .tuple #[.string ({ data := #[] }), iN .i64 2] :: pt tb.q :: .string (txt 0) :: .slice (some ⟨q206, 0, none⟩) 1 1 :: .tuple #[.string ({ data := #[] }), iN .i64 2] :: .string ({ data := #[] }) :: iN .i64 2 :: .tuple #[.string ({ data := #[] }), iN .i64 2] :: pt tb.q :: .tuple #[.string ({ data := #[] }), iN .i64 2] :: .string ({ data := #[] }) :: iN .i64 2 :: .tuple #[.string ({ data := #[] }), iN .i64 2] :: pt tb.q :: .slice (some ⟨q215, 0, none⟩) 3 3 :: .tuple #[.string ({ data := #[] }), iN .i64 2] :: .string ({ data := #[] }) :: iN .i64 2 :: .tuple #[.string ({ data := #[] }), iN .i64 2] :: pt tb.q :: .slice (some ⟨q221, 0, none⟩) 101 101 :: .tuple #[.string ({ data := #[] }), iN .i64 2] :: .string ({ data := #[] }) :: iN .i64 2 :: List.replicate 147 un)).toArray, []⟩) (by kernel_rfl) ?_
  refine wp_seq ?_
  -- region 36
  refine wl_region ?_
  refine wl_val (.pointer (some ⟨tb.q, 0, none⟩)) (by kernel_rfl) (by kernel_rfl) ?_
  refine wl_mksT (n := 65537) (m := 65537) (c := zC) hT226 5 (by kernel_rfl) (run_mkz (by kernel_rfl) (by kernel_rfl)) ?_
  intro q227 w228 (hT229 : TH w [] tb [.nm 0, .nm 1, .mk 3 0 ({ data := #[] }) [0] b23, .mk 3 0 ({ data := #[] }) [1] b39, .mk 4 0 ({ data := #[] }) [0, 1] b58, .mk 5 0 ({ data := #[107] }) [4] b74, .dt nS, .dt { data := #[] }, .dt xS, .mk 6 0 ({ data := #[] }) [5, 6, 7, 8] b93, .dt yS, .mk 4 1 ({ data := #[] }) [0, 10] b174] ((q227, 5, zC) :: (q189, 31, #[iN .i64 4, iN .i64 1, .string ({ data := #[] }), .slice (some ⟨(unp mm180).1, 0, none⟩) 2 (unp mm180).2]) :: ((unp mm180).1, 3, cc181) :: (kb155, 4, boc [true, false, true, true, true, true, true, true, true, true]) :: (kb137, 4, boc [false, false, false, false, false, false, true, true, false, false]) :: (kb128, 4, boc [true, false, true, false, false, false, true, true, true, false]) :: (q117, 31, #[iN .i64 4, iN .i64 0, .string ({ data := #[] }), .slice (some ⟨(unp mm108).1, 0, none⟩) 2 (unp mm108).2]) :: ((unp mm108).1, 3, cc109) :: []) w228)
  refine wl_val (.string zS) (by kernel_rfl) (run_textz (c := 65537) (q := q227) (by kernel_rfl) (TH.blk hT229 (x := (q227, 5, zC)) (List.mem_cons_self ..))) ?_
  refine wl_mksT (n := 1) (m := 1) (c := strc [zS]) hT229 9 (by kernel_rfl) (by kernel_rfl) ?_
  intro q230 w231 (hT232 : TH w [] tb [.nm 0, .nm 1, .mk 3 0 ({ data := #[] }) [0] b23, .mk 3 0 ({ data := #[] }) [1] b39, .mk 4 0 ({ data := #[] }) [0, 1] b58, .mk 5 0 ({ data := #[107] }) [4] b74, .dt nS, .dt { data := #[] }, .dt xS, .mk 6 0 ({ data := #[] }) [5, 6, 7, 8] b93, .dt yS, .mk 4 1 ({ data := #[] }) [0, 10] b174] ((q230, 9, strc [zS]) :: (q227, 5, zC) :: (q189, 31, #[iN .i64 4, iN .i64 1, .string ({ data := #[] }), .slice (some ⟨(unp mm180).1, 0, none⟩) 2 (unp mm180).2]) :: ((unp mm180).1, 3, cc181) :: (kb155, 4, boc [true, false, true, true, true, true, true, true, true, true]) :: (kb137, 4, boc [false, false, false, false, false, false, true, true, false, false]) :: (kb128, 4, boc [true, false, true, false, false, false, true, true, true, false]) :: (q117, 31, #[iN .i64 4, iN .i64 0, .string ({ data := #[] }), .slice (some ⟨(unp mm108).1, 0, none⟩) 2 (unp mm108).2]) :: ((unp mm108).1, 3, cc109) :: []) w231)
  refine wl_callx (by kernel_rfl) enter18 #[.pointer (some ⟨tb.q, 0, none⟩), iN .i64 5, .string ({ data := #[] }), .slice (some ⟨q230, 0, none⟩) 1 1] (by kernel_rfl) (Make_long hT232 5 ({ data := #[] }) zS zS_size q230 1 (List.mem_cons_self ..) (by kernel_rfl) (by decide)) ?_
  rintro _ w234 ⟨rfl, hT233⟩
  refine ⟨_, rfl, ?_⟩
  have hT235 : TH w [] tb [.nm 0, .nm 1, .mk 3 0 ({ data := #[] }) [0] b23, .mk 3 0 ({ data := #[] }) [1] b39, .mk 4 0 ({ data := #[] }) [0, 1] b58, .mk 5 0 ({ data := #[107] }) [4] b74, .dt nS, .dt { data := #[] }, .dt xS, .mk 6 0 ({ data := #[] }) [5, 6, 7, 8] b93, .dt yS, .mk 4 1 ({ data := #[] }) [0, 10] b174] ((q227, 5, zC) :: (q189, 31, #[iN .i64 4, iN .i64 1, .string ({ data := #[] }), .slice (some ⟨(unp mm180).1, 0, none⟩) 2 (unp mm180).2]) :: ((unp mm180).1, 3, cc181) :: (kb155, 4, boc [true, false, true, true, true, true, true, true, true, true]) :: (kb137, 4, boc [false, false, false, false, false, false, true, true, false, false]) :: (kb128, 4, boc [true, false, true, false, false, false, true, true, true, false]) :: (q117, 31, #[iN .i64 4, iN .i64 0, .string ({ data := #[] }), .slice (some ⟨(unp mm108).1, 0, none⟩) 2 (unp mm108).2]) :: ((unp mm108).1, 3, cc109) :: []) w234 := TH.sub hT233 (List.sublist_cons_self _ _)
  refine wl_val (.tuple #[.string ({ data := #[] }), iN .i64 3]) (by kernel_rfl) (by kernel_rfl) ?_
  refine wl_val (.string ({ data := #[] })) (by kernel_rfl) (by kernel_rfl) ?_
  refine wl_val (iN .i64 3) (by kernel_rfl) (by kernel_rfl) ?_
  refine wl_val (.string ({ data := #[] })) (by kernel_rfl) (by kernel_rfl) ?_
  refine wl_val (iN .i64 3) (by kernel_rfl) (by kernel_rfl) ?_
  refine wl_nil ?_
  refine then_at (F := ⟨(zT23_9 tb q117 kb128 kb137 kb155 q189 q16 q32 q51 q67 q86 mm108 q125 q152 q167 mm180 (.string ({ data := #[] })) (iN .i64 2) (.string ({ data := #[] })) (iN .i64 2) (.string ({ data := #[] })) (iN .i64 2) (.string ({ data := #[] })) (iN .i64 2) (.string ({ data := #[] })) (iN .i64 2) (.string ({ data := #[] })) (iN .i64 2) (.string ({ data := #[] })) (iN .i64 3) (.tuple #[.string ({ data := #[] }), iN .i64 2] :: pt tb.q :: .tuple #[.string ({ data := #[] }), iN .i64 2] :: .string ({ data := #[] }) :: iN .i64 2 :: .tuple #[.string ({ data := #[] }), iN .i64 2] :: pt tb.q :: .slice (some ⟨q197, 0, none⟩) 1 1 :: .tuple #[.string ({ data := #[] }), iN .i64 2] :: .string ({ data := #[] }) :: iN .i64 2 :: .tuple #[.string ({ data := #[] }), iN .i64 2] :: pt tb.q :: .string (txt 0) :: .slice (some ⟨q206, 0, none⟩) 1 1 :: .tuple #[.string ({ data := #[] }), iN .i64 2] :: .string ({ data := #[] }) :: iN .i64 2 :: .tuple #[.string ({ data := #[] }), iN .i64 2] :: pt tb.q :: .tuple #[.string ({ data := #[] }), iN .i64 2] :: .string ({ data := #[] }) :: iN .i64 2 :: .tuple #[.string ({ data := #[] }), iN .i64 2] :: pt tb.q :: .slice (some ⟨q215, 0, none⟩) 3 3 :: .tuple #[.string ({ data := #[] }), iN .i64 2] :: .string ({ data := #[] }) :: iN .i64 2 :: .tuple #[.string ({ data := #[] }), iN .i64 2] :: pt tb.q :: .slice (some ⟨q221, 0, none⟩) 101 101 :: .tuple #[.string ({ data := #[] }), iN .i64 2] :: .string ({ data := #[] }) :: iN .i64 2 :: .tuple #[.string ({ data := #[] }), iN .i64 3] :: pt tb.q :: .slice (some ⟨q227, 0, none⟩) 65537 65537 :: .string zS :: .slice (some ⟨q230, 0, none⟩) 1 1 :: .tuple #[.string ({ data := #[] }), iN .i64 3] :: .string ({ data := #[] }) :: iN .i64 3 :: List.replicate 139 un)).toArray, []⟩) (by kernel_rfl) ?_
  refine wp_seq ?_
  -- region 37
  refine wl_region ?_
  refine wl_val (.pointer (some ⟨tb.q, 0, none⟩)) (by kernel_rfl) (by kernel_rfl) ?_
  refine wl_mksT (n := 2) (m := 2) (c := strc [{ data := #[] }, { data := #[] }]) hT235 9 (by kernel_rfl) (by kernel_rfl) ?_
  intro q236 w237 (hT238 : TH w [] tb [.nm 0, .nm 1, .mk 3 0 ({ data := #[] }) [0] b23, .mk 3 0 ({ data := #[] }) [1] b39, .mk 4 0 ({ data := #[] }) [0, 1] b58, .mk 5 0 ({ data := #[107] }) [4] b74, .dt nS, .dt { data := #[] }, .dt xS, .mk 6 0 ({ data := #[] }) [5, 6, 7, 8] b93, .dt yS, .mk 4 1 ({ data := #[] }) [0, 10] b174] ((q236, 9, strc [{ data := #[] }, { data := #[] }]) :: (q227, 5, zC) :: (q189, 31, #[iN .i64 4, iN .i64 1, .string ({ data := #[] }), .slice (some ⟨(unp mm180).1, 0, none⟩) 2 (unp mm180).2]) :: ((unp mm180).1, 3, cc181) :: (kb155, 4, boc [true, false, true, true, true, true, true, true, true, true]) :: (kb137, 4, boc [false, false, false, false, false, false, true, true, false, false]) :: (kb128, 4, boc [true, false, true, false, false, false, true, true, true, false]) :: (q117, 31, #[iN .i64 4, iN .i64 0, .string ({ data := #[] }), .slice (some ⟨(unp mm108).1, 0, none⟩) 2 (unp mm108).2]) :: ((unp mm108).1, 3, cc109) :: []) w237)
  refine wl_callx (by kernel_rfl) enter18 #[.pointer (some ⟨tb.q, 0, none⟩), iN .i64 8, .string ({ data := #[] }), .slice (some ⟨q236, 0, none⟩) 2 2] (by kernel_rfl) (Make_argN hT238 8 ({ data := #[] }) 2 (some ⟨q236, 0, none⟩) 2 (by kernel_rfl)) ?_
  rintro _ w240 ⟨rfl, hT239⟩
  refine ⟨_, rfl, ?_⟩
  have hT241 : TH w [] tb [.nm 0, .nm 1, .mk 3 0 ({ data := #[] }) [0] b23, .mk 3 0 ({ data := #[] }) [1] b39, .mk 4 0 ({ data := #[] }) [0, 1] b58, .mk 5 0 ({ data := #[107] }) [4] b74, .dt nS, .dt { data := #[] }, .dt xS, .mk 6 0 ({ data := #[] }) [5, 6, 7, 8] b93, .dt yS, .mk 4 1 ({ data := #[] }) [0, 10] b174] ((q227, 5, zC) :: (q189, 31, #[iN .i64 4, iN .i64 1, .string ({ data := #[] }), .slice (some ⟨(unp mm180).1, 0, none⟩) 2 (unp mm180).2]) :: ((unp mm180).1, 3, cc181) :: (kb155, 4, boc [true, false, true, true, true, true, true, true, true, true]) :: (kb137, 4, boc [false, false, false, false, false, false, true, true, false, false]) :: (kb128, 4, boc [true, false, true, false, false, false, true, true, true, false]) :: (q117, 31, #[iN .i64 4, iN .i64 0, .string ({ data := #[] }), .slice (some ⟨(unp mm108).1, 0, none⟩) 2 (unp mm108).2]) :: ((unp mm108).1, 3, cc109) :: []) w240 := TH.sub hT239 (List.sublist_cons_self _ _)
  refine wl_val (.tuple #[.string ({ data := #[] }), iN .i64 2]) (by kernel_rfl) (by kernel_rfl) ?_
  refine wl_val (.string ({ data := #[] })) (by kernel_rfl) (by kernel_rfl) ?_
  refine wl_val (iN .i64 2) (by kernel_rfl) (by kernel_rfl) ?_
  refine wl_val (.string ({ data := #[] })) (by kernel_rfl) (by kernel_rfl) ?_
  refine wl_val (iN .i64 2) (by kernel_rfl) (by kernel_rfl) ?_
  refine wl_nil ?_
  refine then_at (F := ⟨(zT23_10 tb q117 kb128 kb137 kb155 q189 q16 q32 q51 q67 q86 mm108 q125 q152 q167 mm180 q197 q206 q215 q221 q227 q230 q236 (.bool false) un un un un un un un un un un (List.replicate 133 un)).toArray, []⟩) (by kernel_rfl) ?_
  refine wp_seq ?_
  -- region 38
  refine wl_region ?_
  refine wl_val (.pointer (some ⟨tb.q, 0, none⟩)) (by kernel_rfl) (by kernel_rfl) ?_
  have hmk247 := Make_ok hT241 hw177 5 ({ data := #[] }) [] none 0 (.inl rfl) (by simp) (by kernel_rfl) (by decide) (strs_le (fun y hy => by cases hy)) (by simp) (by simp)
  refine wl_callx (by kernel_rfl) enter18 #[.pointer (some ⟨tb.q, 0, none⟩), iN .i64 5, .string ({ data := #[] }), .slice none 0 0] (by kernel_rfl) (hmk247) ?_
  rintro _ w248 ⟨x243, es244, hJ245, rfl, hT242⟩
  refine ⟨_, rfl, ?_⟩
  have hw249 := JO.wf hw177 hJ245 (by simp) (by simp) (by simp)
  have hg250 := JO.wg hg178 hw177 hJ245 (by simp) (by simp) (by simp) (by simp)
  obtain ⟨rfl, b246, rfl⟩ := JO.newL [.nm 0, .nm 1, .mk 3 0 ({ data := #[] }) [0] b23, .mk 3 0 ({ data := #[] }) [1] b39, .mk 4 0 ({ data := #[] }) [0, 1] b58, .mk 5 0 ({ data := #[107] }) [4] b74, .dt nS, .dt { data := #[] }, .dt xS, .mk 6 0 ({ data := #[] }) [5, 6, 7, 8] b93, .dt yS, .mk 4 1 ({ data := #[] }) [0, 10] b174] 12 0 ({ data := #[] }) [] hJ245 (by kernel_rfl) (by kernel_rfl) (by kernel_rfl) (by kernel_rfl) (by kernel_rfl) (by kernel_rfl)
  clear hJ245
  have hT251 : TH w [] tb [.nm 0, .nm 1, .mk 3 0 ({ data := #[] }) [0] b23, .mk 3 0 ({ data := #[] }) [1] b39, .mk 4 0 ({ data := #[] }) [0, 1] b58, .mk 5 0 ({ data := #[107] }) [4] b74, .dt nS, .dt { data := #[] }, .dt xS, .mk 6 0 ({ data := #[] }) [5, 6, 7, 8] b93, .dt yS, .mk 4 1 ({ data := #[] }) [0, 10] b174, .mk 5 0 ({ data := #[] }) [] b246] ((q227, 5, zC) :: (q189, 31, #[iN .i64 4, iN .i64 1, .string ({ data := #[] }), .slice (some ⟨(unp mm180).1, 0, none⟩) 2 (unp mm180).2]) :: ((unp mm180).1, 3, cc181) :: (kb155, 4, boc [true, false, true, true, true, true, true, true, true, true]) :: (kb137, 4, boc [false, false, false, false, false, false, true, true, false, false]) :: (kb128, 4, boc [true, false, true, false, false, false, true, true, true, false]) :: (q117, 31, #[iN .i64 4, iN .i64 0, .string ({ data := #[] }), .slice (some ⟨(unp mm108).1, 0, none⟩) 2 (unp mm108).2]) :: ((unp mm108).1, 3, cc109) :: []) w248 := hT242
  have hw249 : Wf [.nm 0, .nm 1, .mk 3 0 ({ data := #[] }) [0] b23, .mk 3 0 ({ data := #[] }) [1] b39, .mk 4 0 ({ data := #[] }) [0, 1] b58, .mk 5 0 ({ data := #[107] }) [4] b74, .dt nS, .dt { data := #[] }, .dt xS, .mk 6 0 ({ data := #[] }) [5, 6, 7, 8] b93, .dt yS, .mk 4 1 ({ data := #[] }) [0, 10] b174, .mk 5 0 ({ data := #[] }) [] b246] := hw249
  have hg250 : Wg [.nm 0, .nm 1, .mk 3 0 ({ data := #[] }) [0] b23, .mk 3 0 ({ data := #[] }) [1] b39, .mk 4 0 ({ data := #[] }) [0, 1] b58, .mk 5 0 ({ data := #[107] }) [4] b74, .dt nS, .dt { data := #[] }, .dt xS, .mk 6 0 ({ data := #[] }) [5, 6, 7, 8] b93, .dt yS, .mk 4 1 ({ data := #[] }) [0, 10] b174, .mk 5 0 ({ data := #[] }) [] b246] := hg250
  refine wl_val (.tuple #[.string (txt 12), iN .i64 0]) (by kernel_rfl) (by kernel_rfl) ?_
  refine wl_val (.string (txt 12)) (by kernel_rfl) (by kernel_rfl) ?_
  refine wl_val (iN .i64 0) (by kernel_rfl) (by kernel_rfl) ?_
  refine wl_val (.string (txt 12)) (by kernel_rfl) (by kernel_rfl) ?_
  refine wl_val (iN .i64 0) (by kernel_rfl) (by kernel_rfl) ?_
  refine wl_nil ?_
  refine then_at (F := ⟨(zT23_10 tb q117 kb128 kb137 kb155 q189 q16 q32 q51 q67 q86 mm108 q125 q152 q167 mm180 q197 q206 q215 q221 q227 q230 q236 (.bool false) (.string (txt 12)) (iN .i64 0) un un un un un un un un (.tuple #[.string (txt 12), iN .i64 0] :: pt tb.q :: .tuple #[.string (txt 12), iN .i64 0] :: .string (txt 12) :: iN .i64 0 :: List.replicate 128 un)).toArray, []⟩) (by kernel_rfl) ?_
  refine wp_seq ?_
  -- region 39
  have hdrew : TH w [] tb [.nm 0, .nm 1, .mk 3 0 ({ data := #[] }) [0] b23, .mk 3 0 ({ data := #[] }) [1] b39, .mk 4 0 ({ data := #[] }) [0, 1] b58, .mk 5 0 ({ data := #[107] }) [4] b74, .dt nS, .dt { data := #[] }, .dt xS, .mk 6 0 ({ data := #[] }) [5, 6, 7, 8] b93, .dt yS, .mk 4 1 ({ data := #[] }) [0, 10] b174, .mk 5 0 ({ data := #[] }) [] b246] ((q227, 5, zC) :: (q189, 31, #[iN .i64 4, iN .i64 1, .string ({ data := #[] }), .slice (some ⟨(unp mm180).1, 0, none⟩) 2 (unp mm180).2]) :: ((unp mm180).1, 3, cc181) :: (kb155, 4, boc [true, false, true, true, true, true, true, true, true, true]) :: (kb137, 4, boc [false, false, false, false, false, false, true, true, false, false]) :: (kb128, 4, boc [true, false, true, false, false, false, true, true, true, false]) :: (q117, 31, #[iN .i64 4, iN .i64 0, .string ({ data := #[] }), .slice (some ⟨(unp mm108).1, 0, none⟩) 2 (unp mm108).2]) :: ((unp mm108).1, 3, cc109) :: []) w248.drew := TH.drew hT251
  refine wp_region_ghost (fun g : Nat → Nat => (⟨(zT23_10 tb q117 kb128 kb137 kb155 q189 q16 q32 q51 q67 q86 mm108 q125 q152 q167 mm180 q197 q206 q215 q221 q227 q230 q236 (.bool false) (.string (txt 12)) (iN .i64 0) (.slice (some ⟨(unp (g 11)).1, 0, none⟩) 2 (unp (g 11)).2) un un un un un un un (.tuple #[.string (txt 12), iN .i64 0] :: pt tb.q :: .tuple #[.string (txt 12), iN .i64 0] :: .string (txt 12) :: iN .i64 0 :: pt tb.q :: .string (txt 3) :: .string wS1 :: .string (txt 99) :: .string wS2 :: .string (txt 1) :: .string wS0 :: .string wS3 :: .string (txt 1) :: .string wS4 :: .slice (some ⟨(unp (g 10)).1, 0, none⟩) 2 (unp (g 10)).2 :: List.replicate 117 un)).toArray, []⟩ : Act)) (GA (fun w' => TH w [] tb [.nm 0, .nm 1, .mk 3 0 ({ data := #[] }) [0] b23, .mk 3 0 ({ data := #[] }) [1] b39, .mk 4 0 ({ data := #[] }) [0, 1] b58, .mk 5 0 ({ data := #[107] }) [4] b74, .dt nS, .dt { data := #[] }, .dt xS, .mk 6 0 ({ data := #[] }) [5, 6, 7, 8] b93, .dt yS, .mk 4 1 ({ data := #[] }) [0, 10] b174, .mk 5 0 ({ data := #[] }) [] b246] ((q227, 5, zC) :: (q189, 31, #[iN .i64 4, iN .i64 1, .string ({ data := #[] }), .slice (some ⟨(unp mm180).1, 0, none⟩) 2 (unp mm180).2]) :: ((unp mm180).1, 3, cc181) :: (kb155, 4, boc [true, false, true, true, true, true, true, true, true, true]) :: (kb137, 4, boc [false, false, false, false, false, false, true, true, false, false]) :: (kb128, 4, boc [true, false, true, false, false, false, true, true, true, false]) :: (q117, 31, #[iN .i64 4, iN .i64 0, .string ({ data := #[] }), .slice (some ⟨(unp mm108).1, 0, none⟩) 2 (unp mm108).2]) :: ((unp mm108).1, 3, cc109) :: []) w') (fun w' => TH w [] tb [.nm 0, .nm 1, .mk 3 0 ({ data := #[] }) [0] b23, .mk 3 0 ({ data := #[] }) [1] b39, .mk 4 0 ({ data := #[] }) [0, 1] b58, .mk 5 0 ({ data := #[107] }) [4] b74, .dt nS, .dt { data := #[] }, .dt xS, .mk 6 0 ({ data := #[] }) [5, 6, 7, 8] b93, .dt yS, .mk 4 1 ({ data := #[] }) [0, 10] b174, .mk 5 0 ({ data := #[] }) [] b246] ((q227, 5, zC) :: (q189, 31, #[iN .i64 4, iN .i64 1, .string ({ data := #[] }), .slice (some ⟨(unp mm180).1, 0, none⟩) 2 (unp mm180).2]) :: ((unp mm180).1, 3, cc181) :: (kb155, 4, boc [true, false, true, true, true, true, true, true, true, true]) :: (kb137, 4, boc [false, false, false, false, false, false, true, true, false, false]) :: (kb128, 4, boc [true, false, true, false, false, false, true, true, true, false]) :: (q117, 31, #[iN .i64 4, iN .i64 0, .string ({ data := #[] }), .slice (some ⟨(unp mm108).1, 0, none⟩) 2 (unp mm108).2]) :: ((unp mm108).1, 3, cc109) :: []) w') (fun m w' => ∃ c, (∀ j, j < 2 → c[j]? = some (iN .i64 (([1, 3] : List Nat).getD j 0))) ∧ TH w [] tb [.nm 0, .nm 1, .mk 3 0 ({ data := #[] }) [0] b23, .mk 3 0 ({ data := #[] }) [1] b39, .mk 4 0 ({ data := #[] }) [0, 1] b58, .mk 5 0 ({ data := #[107] }) [4] b74, .dt nS, .dt { data := #[] }, .dt xS, .mk 6 0 ({ data := #[] }) [5, 6, 7, 8] b93, .dt yS, .mk 4 1 ({ data := #[] }) [0, 10] b174, .mk 5 0 ({ data := #[] }) [] b246] (((unp m).1, 3, c) :: ((q227, 5, zC) :: (q189, 31, #[iN .i64 4, iN .i64 1, .string ({ data := #[] }), .slice (some ⟨(unp mm180).1, 0, none⟩) 2 (unp mm180).2]) :: ((unp mm180).1, 3, cc181) :: (kb155, 4, boc [true, false, true, true, true, true, true, true, true, true]) :: (kb137, 4, boc [false, false, false, false, false, false, true, true, false, false]) :: (kb128, 4, boc [true, false, true, false, false, false, true, true, true, false]) :: (q117, 31, #[iN .i64 4, iN .i64 0, .string ({ data := #[] }), .slice (some ⟨(unp mm108).1, 0, none⟩) 2 (unp mm108).2]) :: ((unp mm108).1, 3, cc109) :: [])) w') (fun m0 m w' => m0 = m ∧ ∃ c, (∀ j, j < 2 → c[j]? = some (iN .i64 (([1, 3] : List Nat).getD j 0))) ∧ TH w [] tb [.nm 0, .nm 1, .mk 3 0 ({ data := #[] }) [0] b23, .mk 3 0 ({ data := #[] }) [1] b39, .mk 4 0 ({ data := #[] }) [0, 1] b58, .mk 5 0 ({ data := #[107] }) [4] b74, .dt nS, .dt { data := #[] }, .dt xS, .mk 6 0 ({ data := #[] }) [5, 6, 7, 8] b93, .dt yS, .mk 4 1 ({ data := #[] }) [0, 10] b174, .mk 5 0 ({ data := #[] }) [] b246] (((unp m).1, 3, c) :: ((q227, 5, zC) :: (q189, 31, #[iN .i64 4, iN .i64 1, .string ({ data := #[] }), .slice (some ⟨(unp mm180).1, 0, none⟩) 2 (unp mm180).2]) :: ((unp mm180).1, 3, cc181) :: (kb155, 4, boc [true, false, true, true, true, true, true, true, true, true]) :: (kb137, 4, boc [false, false, false, false, false, false, true, true, false, false]) :: (kb128, 4, boc [true, false, true, false, false, false, true, true, true, false]) :: (q117, 31, #[iN .i64 4, iN .i64 0, .string ({ data := #[] }), .slice (some ⟨(unp mm108).1, 0, none⟩) 2 (unp mm108).2]) :: ((unp mm108).1, 3, cc109) :: [])) w') (fun i => ([[], [], [], [], [], [], [], [], [], [], [], [10]] : List (List Nat)).getD i []) 10 11) [.pointer (some ⟨tb.q, 0, none⟩), .string (txt 3), .string wS1, .string (txt 99), .string wS2, .string (txt 1), .string wS0, .string wS3, .string (txt 1), .string wS4, .slice (some ⟨(unp 0).1, 0, none⟩) 2 (unp 0).2, .slice (some ⟨(unp 0).1, 0, none⟩) 2 (unp 0).2] (by kernel_rfl) (by kernel_rfl) (by kernel_rfl) (by kernel_rfl) (fun _ _ _ _ h => h) (fun d hd => GA.start hdrew hdrew (hd 10 (by decide)) (hd 11 (by decide)) (Cl.start (n := 12) hd (by decide))) ?_ ?_
  · refine AllGhost.cons (ga_read (v := fun g => .pointer (some ⟨tb.q, 0, none⟩)) (by decide) (by decide) (by kernel_rfl) (fun _ => by kernel_rfl) (fun _ => by kernel_rfl) (fun g _ _ => (by kernel_rfl))) ?_
    refine AllGhost.cons (ga_call (v := fun g => .string (txt 3)) (args := fun g => #[iN .i64 3]) Stab.th Stab.th (fun _ => (fun _ _ hb ⟨c, h1, h2⟩ => ⟨c, h1, TH.keep h2 hb⟩)) (fun _ _ => (fun _ _ hb ⟨h0, c, h1, h2⟩ => ⟨h0, c, h1, TH.keep h2 hb⟩)) (by decide) (by decide) (by kernel_rfl) (fun _ => by kernel_rfl) (fun _ => by kernel_rfl) enter22 (fun _ => by kernel_rfl) (fun g w' h' => name_any 3 (by decide) w')) ?_
    refine AllGhost.cons (ga_read (v := fun g => .string wS1) (by decide) (by decide) (by kernel_rfl) (fun _ => by kernel_rfl) (fun _ => by kernel_rfl) (fun g _ _ => (run_cat (s := { data := #[240, 84, 82, 77] }) (t := txt 3) (by kernel_rfl) (by kernel_rfl) (by rw [txt_size]; decide)))) ?_
    refine AllGhost.cons (ga_call (v := fun g => .string (txt 99)) (args := fun g => #[iN .i64 99]) Stab.th Stab.th (fun _ => (fun _ _ hb ⟨c, h1, h2⟩ => ⟨c, h1, TH.keep h2 hb⟩)) (fun _ _ => (fun _ _ hb ⟨h0, c, h1, h2⟩ => ⟨h0, c, h1, TH.keep h2 hb⟩)) (by decide) (by decide) (by kernel_rfl) (fun _ => by kernel_rfl) (fun _ => by kernel_rfl) enter22 (fun _ => by kernel_rfl) (fun g w' h' => name_any 99 (by decide) w')) ?_
    refine AllGhost.cons (ga_read (v := fun g => .string wS2) (by decide) (by decide) (by kernel_rfl) (fun _ => by kernel_rfl) (fun _ => by kernel_rfl) (fun g _ _ => (run_cat (s := wS1) (t := txt 99) (by kernel_rfl) (by kernel_rfl) (by rw [wS1_size, txt_size]; decide)))) ?_
    refine AllGhost.cons (ga_call (v := fun g => .string (txt 1)) (args := fun g => #[iN .i64 1]) Stab.th Stab.th (fun _ => (fun _ _ hb ⟨c, h1, h2⟩ => ⟨c, h1, TH.keep h2 hb⟩)) (fun _ _ => (fun _ _ hb ⟨h0, c, h1, h2⟩ => ⟨h0, c, h1, TH.keep h2 hb⟩)) (by decide) (by decide) (by kernel_rfl) (fun _ => by kernel_rfl) (fun _ => by kernel_rfl) enter22 (fun _ => by kernel_rfl) (fun g w' h' => name_any 1 (by decide) w')) ?_
    refine AllGhost.cons (ga_read (v := fun g => .string wS0) (by decide) (by decide) (by kernel_rfl) (fun _ => by kernel_rfl) (fun _ => by kernel_rfl) (fun g _ _ => (run_cut_hi (s := txt 1) (b := 7) (by kernel_rfl) (by kernel_rfl) (by rw [txt_size]; decide)))) ?_
    refine AllGhost.cons (ga_read (v := fun g => .string wS3) (by decide) (by decide) (by kernel_rfl) (fun _ => by kernel_rfl) (fun _ => by kernel_rfl) (fun g _ _ => (run_cat (s := wS2) (t := wS0) (by kernel_rfl) (by kernel_rfl) (by rw [wS2_size, wS0_size]; decide)))) ?_
    refine AllGhost.cons (ga_call (v := fun g => .string (txt 1)) (args := fun g => #[iN .i64 1]) Stab.th Stab.th (fun _ => (fun _ _ hb ⟨c, h1, h2⟩ => ⟨c, h1, TH.keep h2 hb⟩)) (fun _ _ => (fun _ _ hb ⟨h0, c, h1, h2⟩ => ⟨h0, c, h1, TH.keep h2 hb⟩)) (by decide) (by decide) (by kernel_rfl) (fun _ => by kernel_rfl) (fun _ => by kernel_rfl) enter22 (fun _ => by kernel_rfl) (fun g w' h' => name_any 1 (by decide) w')) ?_
    refine AllGhost.cons (ga_read (v := fun g => .string wS4) (by decide) (by decide) (by kernel_rfl) (fun _ => by kernel_rfl) (fun _ => by kernel_rfl) (fun g _ _ => (run_cat (s := wS3) (t := txt 1) (by kernel_rfl) (by kernel_rfl) (by rw [wS3_size, txt_size]; decide)))) ?_
    refine AllGhost.cons (ga_call0 (v := fun m => slu m 2) (args := #[pt tb.q, .string wS4]) (by decide) (by decide) (by kernel_rfl) (fun _ => by kernel_rfl) (fun _ _ => by kernel_rfl) enter13 (fun _ => by kernel_rfl) (fun w' _ h0 => within_row h0 (by simp) hv wS4 (by rw [wS4_size]; decide) [1, 3] wS_wth (by simp))) ?_
    refine AllGhost.cons (ga_act1 (v := fun m => slu m 2) (by decide) (by decide) (by kernel_rfl) (fun _ => by kernel_rfl) (fun _ _ => by kernel_rfl) (fun g w' _ h' => ⟨g 10, (by kernel_rfl), rfl, h'⟩)) ?_
    exact AllGhost.nil
  intro g w252 gg253
  have h254 := gg253.held
  rw [if_pos rfl] at h254
  clear gg253
  obtain ⟨hg10, cw, hcw, hTw⟩ := h254
  generalize g 10 = mw0 at hg10 ⊢
  subst hg10
  generalize g 11 = mw at hcw hTw ⊢
  clear g
  refine then_at (F := ⟨(zT23_10 tb q117 kb128 kb137 kb155 q189 q16 q32 q51 q67 q86 mm108 q125 q152 q167 mm180 q197 q206 q215 q221 q227 q230 q236 (.bool false) (.string (txt 12)) (iN .i64 0) (.slice (some ⟨(unp mw).1, 0, none⟩) 2 (unp mw).2) un un un un un un un (.tuple #[.string (txt 12), iN .i64 0] :: pt tb.q :: .tuple #[.string (txt 12), iN .i64 0] :: .string (txt 12) :: iN .i64 0 :: pt tb.q :: .string (txt 3) :: .string wS1 :: .string (txt 99) :: .string wS2 :: .string (txt 1) :: .string wS0 :: .string wS3 :: .string (txt 1) :: .string wS4 :: .slice (some ⟨(unp mw).1, 0, none⟩) 2 (unp mw).2 :: List.replicate 117 un)).toArray, []⟩) (by kernel_rfl) ?_
  refine wp_seq ?_
  -- region 40
  refine wl_region ?_
  refine wl_val (.pointer none) (by kernel_rfl) (by kernel_rfl) ?_
  refine wl_nil ?_
  refine then_at (F := ⟨(zT23_10 tb q117 kb128 kb137 kb155 q189 q16 q32 q51 q67 q86 mm108 q125 q152 q167 mm180 q197 q206 q215 q221 q227 q230 q236 (.bool false) (.string (txt 12)) (iN .i64 0) (.slice (some ⟨(unp mw).1, 0, none⟩) 2 (unp mw).2) (.pointer none) un un un un un un (.tuple #[.string (txt 12), iN .i64 0] :: pt tb.q :: .tuple #[.string (txt 12), iN .i64 0] :: .string (txt 12) :: iN .i64 0 :: pt tb.q :: .string (txt 3) :: .string wS1 :: .string (txt 99) :: .string wS2 :: .string (txt 1) :: .string wS0 :: .string wS3 :: .string (txt 1) :: .string wS4 :: .slice (some ⟨(unp mw).1, 0, none⟩) 2 (unp mw).2 :: List.replicate 117 un)).toArray, []⟩) (by kernel_rfl) ?_
  refine wp_seq ?_
  -- region 41
  refine wl_region ?_
  refine wl_val (.pointer none) (by kernel_rfl) (by kernel_rfl) ?_
  refine wl_mksT (n := 1) (m := 1) (c := strc [{ data := #[] }]) hTw 9 (by kernel_rfl) (by kernel_rfl) ?_
  intro q255 w256 (hT257 : TH w [] tb [.nm 0, .nm 1, .mk 3 0 ({ data := #[] }) [0] b23, .mk 3 0 ({ data := #[] }) [1] b39, .mk 4 0 ({ data := #[] }) [0, 1] b58, .mk 5 0 ({ data := #[107] }) [4] b74, .dt nS, .dt { data := #[] }, .dt xS, .mk 6 0 ({ data := #[] }) [5, 6, 7, 8] b93, .dt yS, .mk 4 1 ({ data := #[] }) [0, 10] b174, .mk 5 0 ({ data := #[] }) [] b246] ((q255, 9, strc [{ data := #[] }]) :: ((unp mw).1, 3, cw) :: (q227, 5, zC) :: (q189, 31, #[iN .i64 4, iN .i64 1, .string ({ data := #[] }), .slice (some ⟨(unp mm180).1, 0, none⟩) 2 (unp mm180).2]) :: ((unp mm180).1, 3, cc181) :: (kb155, 4, boc [true, false, true, true, true, true, true, true, true, true]) :: (kb137, 4, boc [false, false, false, false, false, false, true, true, false, false]) :: (kb128, 4, boc [true, false, true, false, false, false, true, true, true, false]) :: (q117, 31, #[iN .i64 4, iN .i64 0, .string ({ data := #[] }), .slice (some ⟨(unp mm108).1, 0, none⟩) 2 (unp mm108).2]) :: ((unp mm108).1, 3, cc109) :: []) w256)
  refine wl_callx (by kernel_rfl) enter18 #[.pointer none, iN .i64 3, .string ({ data := #[] }), .slice (some ⟨q255, 0, none⟩) 1 1] (by kernel_rfl) (Make_nil 3 ({ data := #[] }) (.slice (some ⟨q255, 0, none⟩) 1 1) w256) ?_
  rintro _ w259 ⟨rfl, hb258⟩
  refine ⟨_, rfl, ?_⟩
  have hT260 : TH w [] tb [.nm 0, .nm 1, .mk 3 0 ({ data := #[] }) [0] b23, .mk 3 0 ({ data := #[] }) [1] b39, .mk 4 0 ({ data := #[] }) [0, 1] b58, .mk 5 0 ({ data := #[107] }) [4] b74, .dt nS, .dt { data := #[] }, .dt xS, .mk 6 0 ({ data := #[] }) [5, 6, 7, 8] b93, .dt yS, .mk 4 1 ({ data := #[] }) [0, 10] b174, .mk 5 0 ({ data := #[] }) [] b246] ((q255, 9, strc [{ data := #[] }]) :: ((unp mw).1, 3, cw) :: (q227, 5, zC) :: (q189, 31, #[iN .i64 4, iN .i64 1, .string ({ data := #[] }), .slice (some ⟨(unp mm180).1, 0, none⟩) 2 (unp mm180).2]) :: ((unp mm180).1, 3, cc181) :: (kb155, 4, boc [true, false, true, true, true, true, true, true, true, true]) :: (kb137, 4, boc [false, false, false, false, false, false, true, true, false, false]) :: (kb128, 4, boc [true, false, true, false, false, false, true, true, true, false]) :: (q117, 31, #[iN .i64 4, iN .i64 0, .string ({ data := #[] }), .slice (some ⟨(unp mm108).1, 0, none⟩) 2 (unp mm108).2]) :: ((unp mm108).1, 3, cc109) :: []) w259 := TH.keep hT257 hb258
  refine wl_val (.tuple #[.string ({ data := #[] }), iN .i64 1]) (by kernel_rfl) (by kernel_rfl) ?_
  refine wl_val (.string ({ data := #[] })) (by kernel_rfl) (by kernel_rfl) ?_
  refine wl_val (iN .i64 1) (by kernel_rfl) (by kernel_rfl) ?_
  refine wl_val (.string ({ data := #[] })) (by kernel_rfl) (by kernel_rfl) ?_
  refine wl_val (iN .i64 1) (by kernel_rfl) (by kernel_rfl) ?_
  refine wl_nil ?_
  refine then_at (F := ⟨(zT23_10 tb q117 kb128 kb137 kb155 q189 q16 q32 q51 q67 q86 mm108 q125 q152 q167 mm180 q197 q206 q215 q221 q227 q230 q236 (.bool false) (.string (txt 12)) (iN .i64 0) (.slice (some ⟨(unp mw).1, 0, none⟩) 2 (unp mw).2) (.pointer none) (.string ({ data := #[] })) (iN .i64 1) un un un un (.tuple #[.string (txt 12), iN .i64 0] :: pt tb.q :: .tuple #[.string (txt 12), iN .i64 0] :: .string (txt 12) :: iN .i64 0 :: pt tb.q :: .string (txt 3) :: .string wS1 :: .string (txt 99) :: .string wS2 :: .string (txt 1) :: .string wS0 :: .string wS3 :: .string (txt 1) :: .string wS4 :: .slice (some ⟨(unp mw).1, 0, none⟩) 2 (unp mw).2 :: .tuple #[.string ({ data := #[] }), iN .i64 1] :: .pointer none :: .slice (some ⟨q255, 0, none⟩) 1 1 :: .tuple #[.string ({ data := #[] }), iN .i64 1] :: .string ({ data := #[] }) :: iN .i64 1 :: List.replicate 111 un)).toArray, []⟩) (by kernel_rfl) ?_
  refine wp_seq ?_
  -- region 42
  refine wl_region ?_
  refine wl_val (.pointer none) (by kernel_rfl) (by kernel_rfl) ?_
  refine wl_callx (by kernel_rfl) enter22 #[iN .i64 0] (by kernel_rfl) (name_any 0 (by decide) w259) ?_
  rintro _ w262 ⟨rfl, hb261⟩
  refine ⟨_, rfl, ?_⟩
  have hT263 : TH w [] tb [.nm 0, .nm 1, .mk 3 0 ({ data := #[] }) [0] b23, .mk 3 0 ({ data := #[] }) [1] b39, .mk 4 0 ({ data := #[] }) [0, 1] b58, .mk 5 0 ({ data := #[107] }) [4] b74, .dt nS, .dt { data := #[] }, .dt xS, .mk 6 0 ({ data := #[] }) [5, 6, 7, 8] b93, .dt yS, .mk 4 1 ({ data := #[] }) [0, 10] b174, .mk 5 0 ({ data := #[] }) [] b246] ((q255, 9, strc [{ data := #[] }]) :: ((unp mw).1, 3, cw) :: (q227, 5, zC) :: (q189, 31, #[iN .i64 4, iN .i64 1, .string ({ data := #[] }), .slice (some ⟨(unp mm180).1, 0, none⟩) 2 (unp mm180).2]) :: ((unp mm180).1, 3, cc181) :: (kb155, 4, boc [true, false, true, true, true, true, true, true, true, true]) :: (kb137, 4, boc [false, false, false, false, false, false, true, true, false, false]) :: (kb128, 4, boc [true, false, true, false, false, false, true, true, true, false]) :: (q117, 31, #[iN .i64 4, iN .i64 0, .string ({ data := #[] }), .slice (some ⟨(unp mm108).1, 0, none⟩) 2 (unp mm108).2]) :: ((unp mm108).1, 3, cc109) :: []) w262 := TH.keep hT260 hb261
  refine wl_callx (by kernel_rfl) enter9 #[.pointer none, .string (txt 0)] (by kernel_rfl) (Of_nil (txt 0)) ?_
  rintro _ w265 ⟨rfl, hb264⟩
  refine ⟨_, rfl, ?_⟩
  have hT266 : TH w [] tb [.nm 0, .nm 1, .mk 3 0 ({ data := #[] }) [0] b23, .mk 3 0 ({ data := #[] }) [1] b39, .mk 4 0 ({ data := #[] }) [0, 1] b58, .mk 5 0 ({ data := #[107] }) [4] b74, .dt nS, .dt { data := #[] }, .dt xS, .mk 6 0 ({ data := #[] }) [5, 6, 7, 8] b93, .dt yS, .mk 4 1 ({ data := #[] }) [0, 10] b174, .mk 5 0 ({ data := #[] }) [] b246] ((q255, 9, strc [{ data := #[] }]) :: ((unp mw).1, 3, cw) :: (q227, 5, zC) :: (q189, 31, #[iN .i64 4, iN .i64 1, .string ({ data := #[] }), .slice (some ⟨(unp mm180).1, 0, none⟩) 2 (unp mm180).2]) :: ((unp mm180).1, 3, cc181) :: (kb155, 4, boc [true, false, true, true, true, true, true, true, true, true]) :: (kb137, 4, boc [false, false, false, false, false, false, true, true, false, false]) :: (kb128, 4, boc [true, false, true, false, false, false, true, true, true, false]) :: (q117, 31, #[iN .i64 4, iN .i64 0, .string ({ data := #[] }), .slice (some ⟨(unp mm108).1, 0, none⟩) 2 (unp mm108).2]) :: ((unp mm108).1, 3, cc109) :: []) w265 := TH.keep hT263 hb264
  refine wl_val (.tuple #[.agg #[iN .i64 0, iN .i64 0, .string ({ data := #[] }), .slice none 0 0], .bool false]) (by kernel_rfl) (by kernel_rfl) ?_
  refine wl_val (.agg #[iN .i64 0, iN .i64 0, .string ({ data := #[] }), .slice none 0 0]) (by kernel_rfl) (by kernel_rfl) ?_
  refine wl_val (.bool false) (by kernel_rfl) (by kernel_rfl) ?_
  refine wl_makeT (c := #[iN .i64 0, iN .i64 0, .string ({ data := #[] }), .slice none 0 0]) hT266 31 (by kernel_rfl) (by kernel_rfl) ?_
  intro q267 w268 (hT269 : TH w [] tb [.nm 0, .nm 1, .mk 3 0 ({ data := #[] }) [0] b23, .mk 3 0 ({ data := #[] }) [1] b39, .mk 4 0 ({ data := #[] }) [0, 1] b58, .mk 5 0 ({ data := #[107] }) [4] b74, .dt nS, .dt { data := #[] }, .dt xS, .mk 6 0 ({ data := #[] }) [5, 6, 7, 8] b93, .dt yS, .mk 4 1 ({ data := #[] }) [0, 10] b174, .mk 5 0 ({ data := #[] }) [] b246] ((q267, 31, #[iN .i64 0, iN .i64 0, .string ({ data := #[] }), .slice none 0 0]) :: (q255, 9, strc [{ data := #[] }]) :: ((unp mw).1, 3, cw) :: (q227, 5, zC) :: (q189, 31, #[iN .i64 4, iN .i64 1, .string ({ data := #[] }), .slice (some ⟨(unp mm180).1, 0, none⟩) 2 (unp mm180).2]) :: ((unp mm180).1, 3, cc181) :: (kb155, 4, boc [true, false, true, true, true, true, true, true, true, true]) :: (kb137, 4, boc [false, false, false, false, false, false, true, true, false, false]) :: (kb128, 4, boc [true, false, true, false, false, false, true, true, true, false]) :: (q117, 31, #[iN .i64 4, iN .i64 0, .string ({ data := #[] }), .slice (some ⟨(unp mm108).1, 0, none⟩) 2 (unp mm108).2]) :: ((unp mm108).1, 3, cc109) :: []) w268)
  refine wl_fillT (c' := #[iN .i64 0, iN .i64 0, .string ({ data := #[] }), .slice none 0 0]) hT269 (by kernel_rfl) (by kernel_rfl) (by kernel_rfl) rfl (by kernel_rfl) (by kernel_rfl) ?_
  intro w270 (hT271 : TH w [] tb [.nm 0, .nm 1, .mk 3 0 ({ data := #[] }) [0] b23, .mk 3 0 ({ data := #[] }) [1] b39, .mk 4 0 ({ data := #[] }) [0, 1] b58, .mk 5 0 ({ data := #[107] }) [4] b74, .dt nS, .dt { data := #[] }, .dt xS, .mk 6 0 ({ data := #[] }) [5, 6, 7, 8] b93, .dt yS, .mk 4 1 ({ data := #[] }) [0, 10] b174, .mk 5 0 ({ data := #[] }) [] b246] ((q267, 31, #[iN .i64 0, iN .i64 0, .string ({ data := #[] }), .slice none 0 0]) :: (q255, 9, strc [{ data := #[] }]) :: ((unp mw).1, 3, cw) :: (q227, 5, zC) :: (q189, 31, #[iN .i64 4, iN .i64 1, .string ({ data := #[] }), .slice (some ⟨(unp mm180).1, 0, none⟩) 2 (unp mm180).2]) :: ((unp mm180).1, 3, cc181) :: (kb155, 4, boc [true, false, true, true, true, true, true, true, true, true]) :: (kb137, 4, boc [false, false, false, false, false, false, true, true, false, false]) :: (kb128, 4, boc [true, false, true, false, false, false, true, true, true, false]) :: (q117, 31, #[iN .i64 4, iN .i64 0, .string ({ data := #[] }), .slice (some ⟨(unp mm108).1, 0, none⟩) 2 (unp mm108).2]) :: ((unp mm108).1, 3, cc109) :: []) w270)
  refine wl_val (.bool false) (by kernel_rfl) (by kernel_rfl) ?_
  refine wl_nil ?_
  refine then_at (F := ⟨(zT23_10 tb q117 kb128 kb137 kb155 q189 q16 q32 q51 q67 q86 mm108 q125 q152 q167 mm180 q197 q206 q215 q221 q227 q230 q236 (.bool false) (.string (txt 12)) (iN .i64 0) (.slice (some ⟨(unp mw).1, 0, none⟩) 2 (unp mw).2) (.pointer none) (.string ({ data := #[] })) (iN .i64 1) (pt q267) (.bool false) un un (.tuple #[.string (txt 12), iN .i64 0] :: pt tb.q :: .tuple #[.string (txt 12), iN .i64 0] :: .string (txt 12) :: iN .i64 0 :: pt tb.q :: .string (txt 3) :: .string wS1 :: .string (txt 99) :: .string wS2 :: .string (txt 1) :: .string wS0 :: .string wS3 :: .string (txt 1) :: .string wS4 :: .slice (some ⟨(unp mw).1, 0, none⟩) 2 (unp mw).2 :: .tuple #[.string ({ data := #[] }), iN .i64 1] :: .pointer none :: .slice (some ⟨q255, 0, none⟩) 1 1 :: .tuple #[.string ({ data := #[] }), iN .i64 1] :: .string ({ data := #[] }) :: iN .i64 1 :: .tuple #[.agg #[iN .i64 0, iN .i64 0, .string ({ data := #[] }), .slice none 0 0], .bool false] :: .pointer none :: .string (txt 0) :: .tuple #[.agg #[iN .i64 0, iN .i64 0, .string ({ data := #[] }), .slice none 0 0], .bool false] :: .agg #[iN .i64 0, iN .i64 0, .string ({ data := #[] }), .slice none 0 0] :: .bool false :: List.replicate 105 un)).toArray, []⟩) (by kernel_rfl) ?_
  refine wp_seq ?_
  -- region 43
  refine wl_region ?_
  refine wl_val (.pointer (some ⟨tb.q, 0, none⟩)) (by kernel_rfl) (by kernel_rfl) ?_
  refine wl_callx (by kernel_rfl) enter22 #[iN .i64 4000] (by kernel_rfl) (name_any 4000 (by decide) w270) ?_
  rintro _ w273 ⟨rfl, hb272⟩
  refine ⟨_, rfl, ?_⟩
  have hT274 : TH w [] tb [.nm 0, .nm 1, .mk 3 0 ({ data := #[] }) [0] b23, .mk 3 0 ({ data := #[] }) [1] b39, .mk 4 0 ({ data := #[] }) [0, 1] b58, .mk 5 0 ({ data := #[107] }) [4] b74, .dt nS, .dt { data := #[] }, .dt xS, .mk 6 0 ({ data := #[] }) [5, 6, 7, 8] b93, .dt yS, .mk 4 1 ({ data := #[] }) [0, 10] b174, .mk 5 0 ({ data := #[] }) [] b246] ((q267, 31, #[iN .i64 0, iN .i64 0, .string ({ data := #[] }), .slice none 0 0]) :: (q255, 9, strc [{ data := #[] }]) :: ((unp mw).1, 3, cw) :: (q227, 5, zC) :: (q189, 31, #[iN .i64 4, iN .i64 1, .string ({ data := #[] }), .slice (some ⟨(unp mm180).1, 0, none⟩) 2 (unp mm180).2]) :: ((unp mm180).1, 3, cc181) :: (kb155, 4, boc [true, false, true, true, true, true, true, true, true, true]) :: (kb137, 4, boc [false, false, false, false, false, false, true, true, false, false]) :: (kb128, 4, boc [true, false, true, false, false, false, true, true, true, false]) :: (q117, 31, #[iN .i64 4, iN .i64 0, .string ({ data := #[] }), .slice (some ⟨(unp mm108).1, 0, none⟩) 2 (unp mm108).2]) :: ((unp mm108).1, 3, cc109) :: []) w273 := TH.keep hT271 hb272
  refine wl_callx (by kernel_rfl) enter9 #[.pointer (some ⟨tb.q, 0, none⟩), .string (txt 4000)] (by kernel_rfl) (Of_not (TH.view hT274) hw249 (sx := txt 4000) (by kernel_rfl)) ?_
  rintro _ w276 ⟨rfl, hb275⟩
  refine ⟨_, rfl, ?_⟩
  have hT277 : TH w [] tb [.nm 0, .nm 1, .mk 3 0 ({ data := #[] }) [0] b23, .mk 3 0 ({ data := #[] }) [1] b39, .mk 4 0 ({ data := #[] }) [0, 1] b58, .mk 5 0 ({ data := #[107] }) [4] b74, .dt nS, .dt { data := #[] }, .dt xS, .mk 6 0 ({ data := #[] }) [5, 6, 7, 8] b93, .dt yS, .mk 4 1 ({ data := #[] }) [0, 10] b174, .mk 5 0 ({ data := #[] }) [] b246] ((q267, 31, #[iN .i64 0, iN .i64 0, .string ({ data := #[] }), .slice none 0 0]) :: (q255, 9, strc [{ data := #[] }]) :: ((unp mw).1, 3, cw) :: (q227, 5, zC) :: (q189, 31, #[iN .i64 4, iN .i64 1, .string ({ data := #[] }), .slice (some ⟨(unp mm180).1, 0, none⟩) 2 (unp mm180).2]) :: ((unp mm180).1, 3, cc181) :: (kb155, 4, boc [true, false, true, true, true, true, true, true, true, true]) :: (kb137, 4, boc [false, false, false, false, false, false, true, true, false, false]) :: (kb128, 4, boc [true, false, true, false, false, false, true, true, true, false]) :: (q117, 31, #[iN .i64 4, iN .i64 0, .string ({ data := #[] }), .slice (some ⟨(unp mm108).1, 0, none⟩) 2 (unp mm108).2]) :: ((unp mm108).1, 3, cc109) :: []) w276 := TH.keep hT274 hb275
  refine wl_val (.tuple #[.agg #[iN .i64 0, iN .i64 0, .string ({ data := #[] }), .slice none 0 0], .bool false]) (by kernel_rfl) (by kernel_rfl) ?_
  refine wl_val (.agg #[iN .i64 0, iN .i64 0, .string ({ data := #[] }), .slice none 0 0]) (by kernel_rfl) (by kernel_rfl) ?_
  refine wl_val (.bool false) (by kernel_rfl) (by kernel_rfl) ?_
  refine wl_makeT (c := #[iN .i64 0, iN .i64 0, .string ({ data := #[] }), .slice none 0 0]) hT277 31 (by kernel_rfl) (by kernel_rfl) ?_
  intro q278 w279 (hT280 : TH w [] tb [.nm 0, .nm 1, .mk 3 0 ({ data := #[] }) [0] b23, .mk 3 0 ({ data := #[] }) [1] b39, .mk 4 0 ({ data := #[] }) [0, 1] b58, .mk 5 0 ({ data := #[107] }) [4] b74, .dt nS, .dt { data := #[] }, .dt xS, .mk 6 0 ({ data := #[] }) [5, 6, 7, 8] b93, .dt yS, .mk 4 1 ({ data := #[] }) [0, 10] b174, .mk 5 0 ({ data := #[] }) [] b246] ((q278, 31, #[iN .i64 0, iN .i64 0, .string ({ data := #[] }), .slice none 0 0]) :: (q267, 31, #[iN .i64 0, iN .i64 0, .string ({ data := #[] }), .slice none 0 0]) :: (q255, 9, strc [{ data := #[] }]) :: ((unp mw).1, 3, cw) :: (q227, 5, zC) :: (q189, 31, #[iN .i64 4, iN .i64 1, .string ({ data := #[] }), .slice (some ⟨(unp mm180).1, 0, none⟩) 2 (unp mm180).2]) :: ((unp mm180).1, 3, cc181) :: (kb155, 4, boc [true, false, true, true, true, true, true, true, true, true]) :: (kb137, 4, boc [false, false, false, false, false, false, true, true, false, false]) :: (kb128, 4, boc [true, false, true, false, false, false, true, true, true, false]) :: (q117, 31, #[iN .i64 4, iN .i64 0, .string ({ data := #[] }), .slice (some ⟨(unp mm108).1, 0, none⟩) 2 (unp mm108).2]) :: ((unp mm108).1, 3, cc109) :: []) w279)
  refine wl_fillT (c' := #[iN .i64 0, iN .i64 0, .string ({ data := #[] }), .slice none 0 0]) hT280 (by kernel_rfl) (by kernel_rfl) (by kernel_rfl) rfl (by kernel_rfl) (by kernel_rfl) ?_
  intro w281 (hT282 : TH w [] tb [.nm 0, .nm 1, .mk 3 0 ({ data := #[] }) [0] b23, .mk 3 0 ({ data := #[] }) [1] b39, .mk 4 0 ({ data := #[] }) [0, 1] b58, .mk 5 0 ({ data := #[107] }) [4] b74, .dt nS, .dt { data := #[] }, .dt xS, .mk 6 0 ({ data := #[] }) [5, 6, 7, 8] b93, .dt yS, .mk 4 1 ({ data := #[] }) [0, 10] b174, .mk 5 0 ({ data := #[] }) [] b246] ((q278, 31, #[iN .i64 0, iN .i64 0, .string ({ data := #[] }), .slice none 0 0]) :: (q267, 31, #[iN .i64 0, iN .i64 0, .string ({ data := #[] }), .slice none 0 0]) :: (q255, 9, strc [{ data := #[] }]) :: ((unp mw).1, 3, cw) :: (q227, 5, zC) :: (q189, 31, #[iN .i64 4, iN .i64 1, .string ({ data := #[] }), .slice (some ⟨(unp mm180).1, 0, none⟩) 2 (unp mm180).2]) :: ((unp mm180).1, 3, cc181) :: (kb155, 4, boc [true, false, true, true, true, true, true, true, true, true]) :: (kb137, 4, boc [false, false, false, false, false, false, true, true, false, false]) :: (kb128, 4, boc [true, false, true, false, false, false, true, true, true, false]) :: (q117, 31, #[iN .i64 4, iN .i64 0, .string ({ data := #[] }), .slice (some ⟨(unp mm108).1, 0, none⟩) 2 (unp mm108).2]) :: ((unp mm108).1, 3, cc109) :: []) w281)
  refine wl_val (.bool false) (by kernel_rfl) (by kernel_rfl) ?_
  refine wl_nil ?_
  refine then_at (F := ⟨(zT23_10 tb q117 kb128 kb137 kb155 q189 q16 q32 q51 q67 q86 mm108 q125 q152 q167 mm180 q197 q206 q215 q221 q227 q230 q236 (.bool false) (.string (txt 12)) (iN .i64 0) (.slice (some ⟨(unp mw).1, 0, none⟩) 2 (unp mw).2) (.pointer none) (.string ({ data := #[] })) (iN .i64 1) (pt q267) (.bool false) (pt q278) (.bool false) (.tuple #[.string (txt 12), iN .i64 0] :: pt tb.q :: .tuple #[.string (txt 12), iN .i64 0] :: .string (txt 12) :: iN .i64 0 :: pt tb.q :: .string (txt 3) :: .string wS1 :: .string (txt 99) :: .string wS2 :: .string (txt 1) :: .string wS0 :: .string wS3 :: .string (txt 1) :: .string wS4 :: .slice (some ⟨(unp mw).1, 0, none⟩) 2 (unp mw).2 :: .tuple #[.string ({ data := #[] }), iN .i64 1] :: .pointer none :: .slice (some ⟨q255, 0, none⟩) 1 1 :: .tuple #[.string ({ data := #[] }), iN .i64 1] :: .string ({ data := #[] }) :: iN .i64 1 :: .tuple #[.agg #[iN .i64 0, iN .i64 0, .string ({ data := #[] }), .slice none 0 0], .bool false] :: .pointer none :: .string (txt 0) :: .tuple #[.agg #[iN .i64 0, iN .i64 0, .string ({ data := #[] }), .slice none 0 0], .bool false] :: .agg #[iN .i64 0, iN .i64 0, .string ({ data := #[] }), .slice none 0 0] :: .bool false :: .tuple #[.agg #[iN .i64 0, iN .i64 0, .string ({ data := #[] }), .slice none 0 0], .bool false] :: pt tb.q :: .string (txt 4000) :: .tuple #[.agg #[iN .i64 0, iN .i64 0, .string ({ data := #[] }), .slice none 0 0], .bool false] :: .agg #[iN .i64 0, iN .i64 0, .string ({ data := #[] }), .slice none 0 0] :: .bool false :: List.replicate 99 un)).toArray, []⟩) (by kernel_rfl) ?_
  refine wp_seq ?_
  -- region 44
  refine wl_region ?_
  refine wl_val (iN .i64 2) (by kernel_rfl) (by kernel_rfl) ?_
  refine wl_val (.bool true) (by kernel_rfl) (run_eqi (k := .i64) (a := 2) (b := 2) (by kernel_rfl) (by kernel_rfl) true (by decide)) ?_
  refine wl_val (.bool true) (by kernel_rfl) (by kernel_rfl) ?_
  refine wl_val (iN .i64 2) (by kernel_rfl) (by kernel_rfl) ?_
  refine wl_val (.bool true) (by kernel_rfl) (run_eqi (k := .i64) (a := 2) (b := 2) (by kernel_rfl) (by kernel_rfl) true (by decide)) ?_
  refine wl_val (.bool true) (by kernel_rfl) (by kernel_rfl) ?_
  refine wl_val (.bool true) (by kernel_rfl) (by kernel_rfl) ?_
  refine wl_val (iN .i64 2) (by kernel_rfl) (by kernel_rfl) ?_
  refine wl_val (.bool true) (by kernel_rfl) (run_eqi (k := .i64) (a := 2) (b := 2) (by kernel_rfl) (by kernel_rfl) true (by decide)) ?_
  refine wl_val (.bool true) (by kernel_rfl) (by kernel_rfl) ?_
  refine wl_val (.bool true) (by kernel_rfl) (by kernel_rfl) ?_
  refine wl_val (iN .i64 2) (by kernel_rfl) (by kernel_rfl) ?_
  refine wl_val (.bool true) (by kernel_rfl) (run_eqi (k := .i64) (a := 2) (b := 2) (by kernel_rfl) (by kernel_rfl) true (by decide)) ?_
  refine wl_val (.bool true) (by kernel_rfl) (by kernel_rfl) ?_
  refine wl_val (.bool true) (by kernel_rfl) (by kernel_rfl) ?_
  refine wl_val (iN .i64 2) (by kernel_rfl) (by kernel_rfl) ?_
  refine wl_val (.bool true) (by kernel_rfl) (run_eqi (k := .i64) (a := 2) (b := 2) (by kernel_rfl) (by kernel_rfl) true (by decide)) ?_
  refine wl_val (.bool true) (by kernel_rfl) (by kernel_rfl) ?_
  refine wl_val (.bool true) (by kernel_rfl) (by kernel_rfl) ?_
  refine wl_val (iN .i64 2) (by kernel_rfl) (by kernel_rfl) ?_
  refine wl_val (.bool true) (by kernel_rfl) (run_eqi (k := .i64) (a := 2) (b := 2) (by kernel_rfl) (by kernel_rfl) true (by decide)) ?_
  refine wl_val (.bool true) (by kernel_rfl) (by kernel_rfl) ?_
  refine wl_val (.bool true) (by kernel_rfl) (by kernel_rfl) ?_
  refine wl_val (iN .i64 3) (by kernel_rfl) (by kernel_rfl) ?_
  refine wl_val (.bool true) (by kernel_rfl) (run_eqi (k := .i64) (a := 3) (b := 3) (by kernel_rfl) (by kernel_rfl) true (by decide)) ?_
  refine wl_val (.bool true) (by kernel_rfl) (by kernel_rfl) ?_
  refine wl_val (.bool true) (by kernel_rfl) (by kernel_rfl) ?_
  refine wl_val (iN .i64 2) (by kernel_rfl) (by kernel_rfl) ?_
  refine wl_val (.bool true) (by kernel_rfl) (run_eqi (k := .i64) (a := 2) (b := 2) (by kernel_rfl) (by kernel_rfl) true (by decide)) ?_
  refine wl_val (.bool true) (by kernel_rfl) (by kernel_rfl) ?_
  refine wl_val (.bool true) (by kernel_rfl) (by kernel_rfl) ?_
  refine wl_val (iN .i64 0) (by kernel_rfl) (by kernel_rfl) ?_
  refine wl_val (.bool true) (by kernel_rfl) (run_eqi (k := .i64) (a := 0) (b := 0) (by kernel_rfl) (by kernel_rfl) true (by decide)) ?_
  refine wl_val (.bool true) (by kernel_rfl) (by kernel_rfl) ?_
  refine wl_val (.bool true) (by kernel_rfl) (by kernel_rfl) ?_
  refine wl_val (.slice (some ⟨(unp mw).1, 0, none⟩) 2 (unp mw).2) (by kernel_rfl) (by kernel_rfl) ?_
  refine wl_val (iN .i64 2) (by kernel_rfl) (by kernel_rfl) ?_
  refine wl_val (.bool true) (by kernel_rfl) (run_eqi (k := .i64) (a := 2) (b := 2) (by kernel_rfl) (by kernel_rfl) true (by decide)) ?_
  refine wl_val (.bool true) (by kernel_rfl) (by kernel_rfl) ?_
  refine wl_val (.bool true) (by kernel_rfl) (by kernel_rfl) ?_
  refine wl_val (.slice (some ⟨(unp mw).1, 0, none⟩) 2 (unp mw).2) (by kernel_rfl) (by kernel_rfl) ?_
  refine wl_val (.pointer (some ⟨(unp mw).1, 0, none⟩)) (by kernel_rfl) (run_addr_slice (q := (unp mw).1) (n := 2) (m := (unp mw).2) (a := 0) Try.underlying29 (fun w => Try.sizeOf3 w) (by kernel_rfl) (by kernel_rfl) (by decide)) ?_
  refine wl_val (iN .i64 1) (by kernel_rfl) (run_load1 (fun w => Try.isAgg3 w) (by kernel_rfl) (((TH.blk hT282 (x := ((unp mw).1, 3, cw)) (by simp)).cell 0).trans (hcw 0 (by decide)))) ?_
  refine wl_val (.bool true) (by kernel_rfl) (run_eqi (k := .i64) (a := 1) (b := 1) (by kernel_rfl) (by kernel_rfl) true (by decide)) ?_
  refine wl_val (.bool true) (by kernel_rfl) (by kernel_rfl) ?_
  refine wl_val (.bool true) (by kernel_rfl) (by kernel_rfl) ?_
  refine wl_val (.slice (some ⟨(unp mw).1, 0, none⟩) 2 (unp mw).2) (by kernel_rfl) (by kernel_rfl) ?_
  refine wl_val (.pointer (some ⟨(unp mw).1, 1, none⟩)) (by kernel_rfl) (run_addr_slice (q := (unp mw).1) (n := 2) (m := (unp mw).2) (a := 1) Try.underlying29 (fun w => Try.sizeOf3 w) (by kernel_rfl) (by kernel_rfl) (by decide)) ?_
  refine wl_val (iN .i64 3) (by kernel_rfl) (run_load1 (fun w => Try.isAgg3 w) (by kernel_rfl) (((TH.blk hT282 (x := ((unp mw).1, 3, cw)) (by simp)).cell 1).trans (hcw 1 (by decide)))) ?_
  refine wl_val (.bool true) (by kernel_rfl) (run_eqi (k := .i64) (a := 3) (b := 3) (by kernel_rfl) (by kernel_rfl) true (by decide)) ?_
  refine wl_val (.bool true) (by kernel_rfl) (by kernel_rfl) ?_
  refine wl_val (.bool true) (by kernel_rfl) (by kernel_rfl) ?_
  refine wl_val (iN .i64 1) (by kernel_rfl) (by kernel_rfl) ?_
  refine wl_val (.bool true) (by kernel_rfl) (run_eqi (k := .i64) (a := 1) (b := 1) (by kernel_rfl) (by kernel_rfl) true (by decide)) ?_
  refine wl_val (.bool true) (by kernel_rfl) (by kernel_rfl) ?_
  refine wl_val (.bool true) (by kernel_rfl) (by kernel_rfl) ?_
  refine wl_val (.bool false) (by kernel_rfl) (by kernel_rfl) ?_
  refine wl_val (.bool true) (by kernel_rfl) (by kernel_rfl) ?_
  refine wl_val (.bool true) (by kernel_rfl) (by kernel_rfl) ?_
  refine wl_val (.bool true) (by kernel_rfl) (by kernel_rfl) ?_
  refine wl_val (.bool false) (by kernel_rfl) (by kernel_rfl) ?_
  refine wl_val (.bool true) (by kernel_rfl) (by kernel_rfl) ?_
  refine wl_val (.bool true) (by kernel_rfl) (by kernel_rfl) ?_
  refine wl_val (.bool true) (by kernel_rfl) (by kernel_rfl) ?_
  refine wl_val (.pointer none) (by kernel_rfl) (by kernel_rfl) ?_
  refine wl_callx (by kernel_rfl) enter17 #[.pointer none] (by kernel_rfl) (Fresh_nil w281) ?_
  rintro _ w284 ⟨rfl, hb283⟩
  refine ⟨_, rfl, ?_⟩
  have hT285 : TH w [] tb [.nm 0, .nm 1, .mk 3 0 ({ data := #[] }) [0] b23, .mk 3 0 ({ data := #[] }) [1] b39, .mk 4 0 ({ data := #[] }) [0, 1] b58, .mk 5 0 ({ data := #[107] }) [4] b74, .dt nS, .dt { data := #[] }, .dt xS, .mk 6 0 ({ data := #[] }) [5, 6, 7, 8] b93, .dt yS, .mk 4 1 ({ data := #[] }) [0, 10] b174, .mk 5 0 ({ data := #[] }) [] b246] ((q278, 31, #[iN .i64 0, iN .i64 0, .string ({ data := #[] }), .slice none 0 0]) :: (q267, 31, #[iN .i64 0, iN .i64 0, .string ({ data := #[] }), .slice none 0 0]) :: (q255, 9, strc [{ data := #[] }]) :: ((unp mw).1, 3, cw) :: (q227, 5, zC) :: (q189, 31, #[iN .i64 4, iN .i64 1, .string ({ data := #[] }), .slice (some ⟨(unp mm180).1, 0, none⟩) 2 (unp mm180).2]) :: ((unp mm180).1, 3, cc181) :: (kb155, 4, boc [true, false, true, true, true, true, true, true, true, true]) :: (kb137, 4, boc [false, false, false, false, false, false, true, true, false, false]) :: (kb128, 4, boc [true, false, true, false, false, false, true, true, true, false]) :: (q117, 31, #[iN .i64 4, iN .i64 0, .string ({ data := #[] }), .slice (some ⟨(unp mm108).1, 0, none⟩) 2 (unp mm108).2]) :: ((unp mm108).1, 3, cc109) :: []) w284 := TH.keep hT282 hb283
  refine wl_val (.bool true) (by kernel_rfl) (run_eqs (s := { data := #[] }) (t := { data := #[] }) (by kernel_rfl) (by kernel_rfl) true (decide_eq_true rfl)) ?_
  refine wl_val (.bool true) (by kernel_rfl) (by kernel_rfl) ?_
  refine wl_val (.bool true) (by kernel_rfl) (by kernel_rfl) ?_
  refine wl_val (.pointer none) (by kernel_rfl) (by kernel_rfl) ?_
  refine wl_callx (by kernel_rfl) enter25 #[.pointer none, .string ({ data := #[] })] (by kernel_rfl) (Data_nil { data := #[] } w284) ?_
  rintro _ w287 ⟨rfl, hb286⟩
  refine ⟨_, rfl, ?_⟩
  have hT288 : TH w [] tb [.nm 0, .nm 1, .mk 3 0 ({ data := #[] }) [0] b23, .mk 3 0 ({ data := #[] }) [1] b39, .mk 4 0 ({ data := #[] }) [0, 1] b58, .mk 5 0 ({ data := #[107] }) [4] b74, .dt nS, .dt { data := #[] }, .dt xS, .mk 6 0 ({ data := #[] }) [5, 6, 7, 8] b93, .dt yS, .mk 4 1 ({ data := #[] }) [0, 10] b174, .mk 5 0 ({ data := #[] }) [] b246] ((q278, 31, #[iN .i64 0, iN .i64 0, .string ({ data := #[] }), .slice none 0 0]) :: (q267, 31, #[iN .i64 0, iN .i64 0, .string ({ data := #[] }), .slice none 0 0]) :: (q255, 9, strc [{ data := #[] }]) :: ((unp mw).1, 3, cw) :: (q227, 5, zC) :: (q189, 31, #[iN .i64 4, iN .i64 1, .string ({ data := #[] }), .slice (some ⟨(unp mm180).1, 0, none⟩) 2 (unp mm180).2]) :: ((unp mm180).1, 3, cc181) :: (kb155, 4, boc [true, false, true, true, true, true, true, true, true, true]) :: (kb137, 4, boc [false, false, false, false, false, false, true, true, false, false]) :: (kb128, 4, boc [true, false, true, false, false, false, true, true, true, false]) :: (q117, 31, #[iN .i64 4, iN .i64 0, .string ({ data := #[] }), .slice (some ⟨(unp mm108).1, 0, none⟩) 2 (unp mm108).2]) :: ((unp mm108).1, 3, cc109) :: []) w287 := TH.keep hT285 hb286
  refine wl_val (.bool true) (by kernel_rfl) (run_eqs (s := { data := #[] }) (t := { data := #[] }) (by kernel_rfl) (by kernel_rfl) true (decide_eq_true rfl)) ?_
  refine wl_val (.bool true) (by kernel_rfl) (by kernel_rfl) ?_
  refine wl_val (.bool true) (by kernel_rfl) (by kernel_rfl) ?_
  refine wl_val (.pointer none) (by kernel_rfl) (by kernel_rfl) ?_
  refine wl_callx (by kernel_rfl) enter20 #[.pointer none] (by kernel_rfl) (Len_nil w287) ?_
  rintro _ w290 ⟨rfl, hb289⟩
  refine ⟨_, rfl, ?_⟩
  have hT291 : TH w [] tb [.nm 0, .nm 1, .mk 3 0 ({ data := #[] }) [0] b23, .mk 3 0 ({ data := #[] }) [1] b39, .mk 4 0 ({ data := #[] }) [0, 1] b58, .mk 5 0 ({ data := #[107] }) [4] b74, .dt nS, .dt { data := #[] }, .dt xS, .mk 6 0 ({ data := #[] }) [5, 6, 7, 8] b93, .dt yS, .mk 4 1 ({ data := #[] }) [0, 10] b174, .mk 5 0 ({ data := #[] }) [] b246] ((q278, 31, #[iN .i64 0, iN .i64 0, .string ({ data := #[] }), .slice none 0 0]) :: (q267, 31, #[iN .i64 0, iN .i64 0, .string ({ data := #[] }), .slice none 0 0]) :: (q255, 9, strc [{ data := #[] }]) :: ((unp mw).1, 3, cw) :: (q227, 5, zC) :: (q189, 31, #[iN .i64 4, iN .i64 1, .string ({ data := #[] }), .slice (some ⟨(unp mm180).1, 0, none⟩) 2 (unp mm180).2]) :: ((unp mm180).1, 3, cc181) :: (kb155, 4, boc [true, false, true, true, true, true, true, true, true, true]) :: (kb137, 4, boc [false, false, false, false, false, false, true, true, false, false]) :: (kb128, 4, boc [true, false, true, false, false, false, true, true, true, false]) :: (q117, 31, #[iN .i64 4, iN .i64 0, .string ({ data := #[] }), .slice (some ⟨(unp mm108).1, 0, none⟩) 2 (unp mm108).2]) :: ((unp mm108).1, 3, cc109) :: []) w290 := TH.keep hT288 hb289
  refine wl_val (.bool true) (by kernel_rfl) (run_eqi (k := .i64) (a := 0) (b := 0) (by kernel_rfl) (by kernel_rfl) true (by decide)) ?_
  refine wl_val (.bool true) (by kernel_rfl) (by kernel_rfl) ?_
  refine wl_val (.bool true) (by kernel_rfl) (by kernel_rfl) ?_
  refine wl_val (.pointer none) (by kernel_rfl) (by kernel_rfl) ?_
  refine wl_callx (by kernel_rfl) enter19 #[.pointer none, .slice none 0 0] (by kernel_rfl) (Known_nil (.slice none 0 0) w290) ?_
  rintro _ w293 ⟨rfl, hb292⟩
  refine ⟨_, rfl, ?_⟩
  have hT294 : TH w [] tb [.nm 0, .nm 1, .mk 3 0 ({ data := #[] }) [0] b23, .mk 3 0 ({ data := #[] }) [1] b39, .mk 4 0 ({ data := #[] }) [0, 1] b58, .mk 5 0 ({ data := #[107] }) [4] b74, .dt nS, .dt { data := #[] }, .dt xS, .mk 6 0 ({ data := #[] }) [5, 6, 7, 8] b93, .dt yS, .mk 4 1 ({ data := #[] }) [0, 10] b174, .mk 5 0 ({ data := #[] }) [] b246] ((q278, 31, #[iN .i64 0, iN .i64 0, .string ({ data := #[] }), .slice none 0 0]) :: (q267, 31, #[iN .i64 0, iN .i64 0, .string ({ data := #[] }), .slice none 0 0]) :: (q255, 9, strc [{ data := #[] }]) :: ((unp mw).1, 3, cw) :: (q227, 5, zC) :: (q189, 31, #[iN .i64 4, iN .i64 1, .string ({ data := #[] }), .slice (some ⟨(unp mm180).1, 0, none⟩) 2 (unp mm180).2]) :: ((unp mm180).1, 3, cc181) :: (kb155, 4, boc [true, false, true, true, true, true, true, true, true, true]) :: (kb137, 4, boc [false, false, false, false, false, false, true, true, false, false]) :: (kb128, 4, boc [true, false, true, false, false, false, true, true, true, false]) :: (q117, 31, #[iN .i64 4, iN .i64 0, .string ({ data := #[] }), .slice (some ⟨(unp mm108).1, 0, none⟩) 2 (unp mm108).2]) :: ((unp mm108).1, 3, cc109) :: []) w293 := TH.keep hT291 hb292
  refine wl_val (iN .i64 0) (by kernel_rfl) (by kernel_rfl) ?_
  refine wl_val (.bool true) (by kernel_rfl) (run_eqi (k := .i64) (a := 0) (b := 0) (by kernel_rfl) (by kernel_rfl) true (by decide)) ?_
  refine wl_val (.bool true) (by kernel_rfl) (by kernel_rfl) ?_
  refine wl_val (.bool true) (by kernel_rfl) (by kernel_rfl) ?_
  refine wl_val (.pointer none) (by kernel_rfl) (by kernel_rfl) ?_
  refine wl_callx (by kernel_rfl) enter22 #[iN .i64 0] (by kernel_rfl) (name_any 0 (by decide) w293) ?_
  rintro _ w296 ⟨rfl, hb295⟩
  refine ⟨_, rfl, ?_⟩
  have hT297 : TH w [] tb [.nm 0, .nm 1, .mk 3 0 ({ data := #[] }) [0] b23, .mk 3 0 ({ data := #[] }) [1] b39, .mk 4 0 ({ data := #[] }) [0, 1] b58, .mk 5 0 ({ data := #[107] }) [4] b74, .dt nS, .dt { data := #[] }, .dt xS, .mk 6 0 ({ data := #[] }) [5, 6, 7, 8] b93, .dt yS, .mk 4 1 ({ data := #[] }) [0, 10] b174, .mk 5 0 ({ data := #[] }) [] b246] ((q278, 31, #[iN .i64 0, iN .i64 0, .string ({ data := #[] }), .slice none 0 0]) :: (q267, 31, #[iN .i64 0, iN .i64 0, .string ({ data := #[] }), .slice none 0 0]) :: (q255, 9, strc [{ data := #[] }]) :: ((unp mw).1, 3, cw) :: (q227, 5, zC) :: (q189, 31, #[iN .i64 4, iN .i64 1, .string ({ data := #[] }), .slice (some ⟨(unp mm180).1, 0, none⟩) 2 (unp mm180).2]) :: ((unp mm180).1, 3, cc181) :: (kb155, 4, boc [true, false, true, true, true, true, true, true, true, true]) :: (kb137, 4, boc [false, false, false, false, false, false, true, true, false, false]) :: (kb128, 4, boc [true, false, true, false, false, false, true, true, true, false]) :: (q117, 31, #[iN .i64 4, iN .i64 0, .string ({ data := #[] }), .slice (some ⟨(unp mm108).1, 0, none⟩) 2 (unp mm108).2]) :: ((unp mm108).1, 3, cc109) :: []) w296 := TH.keep hT294 hb295
  refine wl_callx (by kernel_rfl) enter13 #[.pointer none, .string (txt 0)] (by kernel_rfl) (Within_nil (cell_below (TH.below hT297) hv) (txt 0) (by rw [txt_size]; decide)) ?_
  rintro _ w299 ⟨rfl, hb298⟩
  refine ⟨_, rfl, ?_⟩
  have hT300 : TH w [] tb [.nm 0, .nm 1, .mk 3 0 ({ data := #[] }) [0] b23, .mk 3 0 ({ data := #[] }) [1] b39, .mk 4 0 ({ data := #[] }) [0, 1] b58, .mk 5 0 ({ data := #[107] }) [4] b74, .dt nS, .dt { data := #[] }, .dt xS, .mk 6 0 ({ data := #[] }) [5, 6, 7, 8] b93, .dt yS, .mk 4 1 ({ data := #[] }) [0, 10] b174, .mk 5 0 ({ data := #[] }) [] b246] ((q278, 31, #[iN .i64 0, iN .i64 0, .string ({ data := #[] }), .slice none 0 0]) :: (q267, 31, #[iN .i64 0, iN .i64 0, .string ({ data := #[] }), .slice none 0 0]) :: (q255, 9, strc [{ data := #[] }]) :: ((unp mw).1, 3, cw) :: (q227, 5, zC) :: (q189, 31, #[iN .i64 4, iN .i64 1, .string ({ data := #[] }), .slice (some ⟨(unp mm180).1, 0, none⟩) 2 (unp mm180).2]) :: ((unp mm180).1, 3, cc181) :: (kb155, 4, boc [true, false, true, true, true, true, true, true, true, true]) :: (kb137, 4, boc [false, false, false, false, false, false, true, true, false, false]) :: (kb128, 4, boc [true, false, true, false, false, false, true, true, true, false]) :: (q117, 31, #[iN .i64 4, iN .i64 0, .string ({ data := #[] }), .slice (some ⟨(unp mm108).1, 0, none⟩) 2 (unp mm108).2]) :: ((unp mm108).1, 3, cc109) :: []) w299 := TH.keep hT297 hb298
  refine wl_val (iN .i64 0) (by kernel_rfl) (by kernel_rfl) ?_
  refine wl_val (.bool true) (by kernel_rfl) (run_eqi (k := .i64) (a := 0) (b := 0) (by kernel_rfl) (by kernel_rfl) true (by decide)) ?_
  refine wl_val (.bool true) (by kernel_rfl) (by kernel_rfl) ?_
  refine wl_val (.bool true) (by kernel_rfl) (by kernel_rfl) ?_
  refine wl_val (.pointer none) (by kernel_rfl) (by kernel_rfl) ?_
  refine wl_callx (by kernel_rfl) enter23 #[.pointer none] (by kernel_rfl) (Copy_nil w299) ?_
  rintro _ w302 ⟨rfl, hb301⟩
  refine ⟨_, rfl, ?_⟩
  have hT303 : TH w [] tb [.nm 0, .nm 1, .mk 3 0 ({ data := #[] }) [0] b23, .mk 3 0 ({ data := #[] }) [1] b39, .mk 4 0 ({ data := #[] }) [0, 1] b58, .mk 5 0 ({ data := #[107] }) [4] b74, .dt nS, .dt { data := #[] }, .dt xS, .mk 6 0 ({ data := #[] }) [5, 6, 7, 8] b93, .dt yS, .mk 4 1 ({ data := #[] }) [0, 10] b174, .mk 5 0 ({ data := #[] }) [] b246] ((q278, 31, #[iN .i64 0, iN .i64 0, .string ({ data := #[] }), .slice none 0 0]) :: (q267, 31, #[iN .i64 0, iN .i64 0, .string ({ data := #[] }), .slice none 0 0]) :: (q255, 9, strc [{ data := #[] }]) :: ((unp mw).1, 3, cw) :: (q227, 5, zC) :: (q189, 31, #[iN .i64 4, iN .i64 1, .string ({ data := #[] }), .slice (some ⟨(unp mm180).1, 0, none⟩) 2 (unp mm180).2]) :: ((unp mm180).1, 3, cc181) :: (kb155, 4, boc [true, false, true, true, true, true, true, true, true, true]) :: (kb137, 4, boc [false, false, false, false, false, false, true, true, false, false]) :: (kb128, 4, boc [true, false, true, false, false, false, true, true, true, false]) :: (q117, 31, #[iN .i64 4, iN .i64 0, .string ({ data := #[] }), .slice (some ⟨(unp mm108).1, 0, none⟩) 2 (unp mm108).2]) :: ((unp mm108).1, 3, cc109) :: []) w302 := TH.keep hT300 hb301
  refine wl_val (.bool true) (by kernel_rfl) (by kernel_rfl) ?_
  refine wl_val (.bool true) (by kernel_rfl) (by kernel_rfl) ?_
  refine wl_val (.bool true) (by kernel_rfl) (by kernel_rfl) ?_
  refine wl_callx (by kernel_rfl) enter15 #[] (by kernel_rfl) (works_any w302) ?_
  rintro _ w305 ⟨rfl, hb304⟩
  refine ⟨_, rfl, ?_⟩
  have hT306 : TH w [] tb [.nm 0, .nm 1, .mk 3 0 ({ data := #[] }) [0] b23, .mk 3 0 ({ data := #[] }) [1] b39, .mk 4 0 ({ data := #[] }) [0, 1] b58, .mk 5 0 ({ data := #[107] }) [4] b74, .dt nS, .dt { data := #[] }, .dt xS, .mk 6 0 ({ data := #[] }) [5, 6, 7, 8] b93, .dt yS, .mk 4 1 ({ data := #[] }) [0, 10] b174, .mk 5 0 ({ data := #[] }) [] b246] ((q278, 31, #[iN .i64 0, iN .i64 0, .string ({ data := #[] }), .slice none 0 0]) :: (q267, 31, #[iN .i64 0, iN .i64 0, .string ({ data := #[] }), .slice none 0 0]) :: (q255, 9, strc [{ data := #[] }]) :: ((unp mw).1, 3, cw) :: (q227, 5, zC) :: (q189, 31, #[iN .i64 4, iN .i64 1, .string ({ data := #[] }), .slice (some ⟨(unp mm180).1, 0, none⟩) 2 (unp mm180).2]) :: ((unp mm180).1, 3, cc181) :: (kb155, 4, boc [true, false, true, true, true, true, true, true, true, true]) :: (kb137, 4, boc [false, false, false, false, false, false, true, true, false, false]) :: (kb128, 4, boc [true, false, true, false, false, false, true, true, true, false]) :: (q117, 31, #[iN .i64 4, iN .i64 0, .string ({ data := #[] }), .slice (some ⟨(unp mm108).1, 0, none⟩) 2 (unp mm108).2]) :: ((unp mm108).1, 3, cc109) :: []) w305 := TH.keep hT303 hb304
  refine wl_val (.bool true) (by kernel_rfl) (by kernel_rfl) ?_
  refine wl_val (.bool true) (by kernel_rfl) (by kernel_rfl) ?_
  refine wl_nil ?_
  refine then_at (F := ⟨(zT23_10 tb q117 kb128 kb137 kb155 q189 q16 q32 q51 q67 q86 mm108 q125 q152 q167 mm180 q197 q206 q215 q221 q227 q230 q236 (.bool true) (.string (txt 12)) (iN .i64 0) (.slice (some ⟨(unp mw).1, 0, none⟩) 2 (unp mw).2) (.pointer none) (.string ({ data := #[] })) (iN .i64 1) (pt q267) (.bool false) (pt q278) (.bool false) (.tuple #[.string (txt 12), iN .i64 0] :: pt tb.q :: .tuple #[.string (txt 12), iN .i64 0] :: .string (txt 12) :: iN .i64 0 :: pt tb.q :: .string (txt 3) :: .string wS1 :: .string (txt 99) :: .string wS2 :: .string (txt 1) :: .string wS0 :: .string wS3 :: .string (txt 1) :: .string wS4 :: .slice (some ⟨(unp mw).1, 0, none⟩) 2 (unp mw).2 :: .tuple #[.string ({ data := #[] }), iN .i64 1] :: .pointer none :: .slice (some ⟨q255, 0, none⟩) 1 1 :: .tuple #[.string ({ data := #[] }), iN .i64 1] :: .string ({ data := #[] }) :: iN .i64 1 :: .tuple #[.agg #[iN .i64 0, iN .i64 0, .string ({ data := #[] }), .slice none 0 0], .bool false] :: .pointer none :: .string (txt 0) :: .tuple #[.agg #[iN .i64 0, iN .i64 0, .string ({ data := #[] }), .slice none 0 0], .bool false] :: .agg #[iN .i64 0, iN .i64 0, .string ({ data := #[] }), .slice none 0 0] :: .bool false :: .tuple #[.agg #[iN .i64 0, iN .i64 0, .string ({ data := #[] }), .slice none 0 0], .bool false] :: pt tb.q :: .string (txt 4000) :: .tuple #[.agg #[iN .i64 0, iN .i64 0, .string ({ data := #[] }), .slice none 0 0], .bool false] :: .agg #[iN .i64 0, iN .i64 0, .string ({ data := #[] }), .slice none 0 0] :: .bool false :: iN .i64 2 :: .bool true :: .bool true :: iN .i64 2 :: .bool true :: .bool true :: .bool true :: iN .i64 2 :: .bool true :: .bool true :: .bool true :: iN .i64 2 :: .bool true :: .bool true :: .bool true :: iN .i64 2 :: .bool true :: .bool true :: .bool true :: iN .i64 2 :: .bool true :: .bool true :: .bool true :: iN .i64 3 :: .bool true :: .bool true :: .bool true :: iN .i64 2 :: .bool true :: .bool true :: .bool true :: iN .i64 0 :: .bool true :: .bool true :: .bool true :: .slice (some ⟨(unp mw).1, 0, none⟩) 2 (unp mw).2 :: iN .i64 2 :: .bool true :: .bool true :: .bool true :: .slice (some ⟨(unp mw).1, 0, none⟩) 2 (unp mw).2 :: pt ((unp mw).1) :: iN .i64 1 :: .bool true :: .bool true :: .bool true :: .slice (some ⟨(unp mw).1, 0, none⟩) 2 (unp mw).2 :: .pointer (some ⟨(unp mw).1, 1, none⟩) :: iN .i64 3 :: .bool true :: .bool true :: .bool true :: iN .i64 1 :: .bool true :: .bool true :: .bool true :: .bool false :: .bool true :: .bool true :: .bool true :: .bool false :: .bool true :: .bool true :: .bool true :: .pointer none :: .string ({ data := #[] }) :: .bool true :: .bool true :: .bool true :: .pointer none :: .string ({ data := #[] }) :: .bool true :: .bool true :: .bool true :: .pointer none :: iN .i64 0 :: .bool true :: .bool true :: .bool true :: .pointer none :: .slice none 0 0 :: iN .i64 0 :: .bool true :: .bool true :: .bool true :: .pointer none :: .string (txt 0) :: .slice none 0 0 :: iN .i64 0 :: .bool true :: .bool true :: .bool true :: .pointer none :: .pointer none :: .bool true :: .bool true :: .bool true :: .bool true :: .bool true :: [])).toArray, []⟩) (by kernel_rfl) ?_
  refine wp_ret ?_
  repeat first | refine then_ret ?_ | refine block_ret ?_
  exact bodyPost_ret (v := .bool true) (by kernel_rfl) rfl ⟨rfl, TH.below hT306⟩
end Go.Proofs.Ytihfeoanognonaa
