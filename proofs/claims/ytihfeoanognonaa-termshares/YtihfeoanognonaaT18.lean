/-
  TermShares.
-/
import Derived.Test.YtihfeoanognonaaTV
namespace Go.Proofs.Ytihfeoanognonaa
open Go.RowKit

def zT18_0 (label : ByteArray) (tb : Tb) (zx0 : Value) (zt : List Value) := (zx0 :: .string label :: un :: un :: .bool false :: pt tb.q :: un :: un :: un :: un :: un :: un :: un :: un :: un :: un :: un :: un :: un :: un :: un :: un :: un :: un :: pt tb.q :: zt : List Value)
def zT18_1 (label : ByteArray) (tb : Tb) (s : ByteArray) (zx9 zx10 zx11 zx12 : Value) (zt : List Value) := (.string ({ data := #[] }) :: .string label :: un :: un :: .bool false :: pt tb.q :: .string (txt 0) :: .string (txt 1) :: .string (txt 2) :: zx9 :: zx10 :: zx11 :: zx12 :: un :: un :: un :: un :: un :: un :: un :: un :: un :: un :: un :: pt tb.q :: pt tb.q :: .bool false :: .string s :: .string s :: iN .i64 s.size :: iN .i64 (min s.size 50) :: .string ({ data := #[] }) :: pt tb.q :: .string (txt 0) :: pt tb.q :: .string (txt 1) :: pt tb.q :: .string (txt 2) :: zt : List Value)
def zT18_2 (label : ByteArray) (tb : Tb) (s : ByteArray) q18 q31 q44 (zx15 zx16 zx17 zx18 zx19 zx20 : Value) (zt : List Value) := (.string ({ data := #[] }) :: .string label :: un :: un :: .bool false :: pt tb.q :: .string (txt 0) :: .string (txt 1) :: .string (txt 2) :: .string (txt 3) :: iN .i64 0 :: .string (txt 4) :: iN .i64 0 :: .string (txt 5) :: iN .i64 0 :: zx15 :: zx16 :: zx17 :: zx18 :: zx19 :: zx20 :: un :: un :: un :: pt tb.q :: pt tb.q :: .bool false :: .string s :: .string s :: iN .i64 s.size :: iN .i64 (min s.size 50) :: .string ({ data := #[] }) :: pt tb.q :: .string (txt 0) :: pt tb.q :: .string (txt 1) :: pt tb.q :: .string (txt 2) :: .tuple #[.string (txt 3), iN .i64 0] :: pt tb.q :: .string (txt 0) :: .slice (some ⟨q18, 0, none⟩) 1 1 :: .tuple #[.string (txt 3), iN .i64 0] :: .string (txt 3) :: iN .i64 0 :: .tuple #[.string (txt 4), iN .i64 0] :: pt tb.q :: .string (txt 1) :: .slice (some ⟨q31, 0, none⟩) 1 1 :: .tuple #[.string (txt 4), iN .i64 0] :: .string (txt 4) :: iN .i64 0 :: .tuple #[.string (txt 5), iN .i64 0] :: pt tb.q :: .string (txt 0) :: .string (txt 4) :: .slice (some ⟨q44, 0, none⟩) 2 2 :: .tuple #[.string (txt 5), iN .i64 0] :: .string (txt 5) :: iN .i64 0 :: zt : List Value)
def zT18_3 (label : ByteArray) (tb : Tb) (s : ByteArray) q18 q31 q44 q57 q70 q83 (zx21 : Value) (zt : List Value) := (.string ({ data := #[] }) :: .string label :: un :: un :: .bool false :: pt tb.q :: .string (txt 0) :: .string (txt 1) :: .string (txt 2) :: .string (txt 3) :: iN .i64 0 :: .string (txt 4) :: iN .i64 0 :: .string (txt 5) :: iN .i64 0 :: .string (txt 5) :: iN .i64 0 :: .string (txt 6) :: iN .i64 0 :: .string (txt 9) :: iN .i64 0 :: zx21 :: un :: un :: pt tb.q :: pt tb.q :: .bool false :: .string s :: .string s :: iN .i64 s.size :: iN .i64 (min s.size 50) :: .string ({ data := #[] }) :: pt tb.q :: .string (txt 0) :: pt tb.q :: .string (txt 1) :: pt tb.q :: .string (txt 2) :: .tuple #[.string (txt 3), iN .i64 0] :: pt tb.q :: .string (txt 0) :: .slice (some ⟨q18, 0, none⟩) 1 1 :: .tuple #[.string (txt 3), iN .i64 0] :: .string (txt 3) :: iN .i64 0 :: .tuple #[.string (txt 4), iN .i64 0] :: pt tb.q :: .string (txt 1) :: .slice (some ⟨q31, 0, none⟩) 1 1 :: .tuple #[.string (txt 4), iN .i64 0] :: .string (txt 4) :: iN .i64 0 :: .tuple #[.string (txt 5), iN .i64 0] :: pt tb.q :: .string (txt 0) :: .string (txt 4) :: .slice (some ⟨q44, 0, none⟩) 2 2 :: .tuple #[.string (txt 5), iN .i64 0] :: .string (txt 5) :: iN .i64 0 :: .tuple #[.string (txt 5), iN .i64 0] :: pt tb.q :: .string (txt 1) :: .string (txt 3) :: .slice (some ⟨q57, 0, none⟩) 2 2 :: .tuple #[.string (txt 5), iN .i64 0] :: .string (txt 5) :: iN .i64 0 :: .tuple #[.string (txt 6), iN .i64 0] :: pt tb.q :: .string label :: .string label :: iN .i64 label.size :: iN .i64 (min label.size 20) :: .string (label.extract 0 (min label.size 20)) :: .string (txt 5) :: .slice (some ⟨q70, 0, none⟩) 1 1 :: .tuple #[.string (txt 6), iN .i64 0] :: .string (txt 6) :: iN .i64 0 :: .tuple #[.string (txt 9), iN .i64 0] :: pt tb.q :: .string (txt 6) :: .string ({ data := #[] }) :: .string (txt 2) :: .string (sS { data := #[] }) :: .slice (some ⟨q83, 0, none⟩) 4 4 :: .tuple #[.string (txt 9), iN .i64 0] :: .string (txt 9) :: iN .i64 0 :: iN .i64 0 :: .bool false :: .bool false :: iN .i64 0 :: .bool false :: .bool false :: .bool false :: iN .i64 0 :: .bool false :: .bool false :: .bool false :: iN .i64 0 :: .bool false :: .bool false :: .bool false :: iN .i64 0 :: .bool false :: .bool false :: .bool false :: iN .i64 0 :: .bool false :: .bool false :: .bool false :: .string (txt 5) :: .string (txt 5) :: .bool false :: .bool false :: zt : List Value)
def zT18_4 (label : ByteArray) (tb : Tb) kb103 (s : ByteArray) q18 q31 q44 q57 q70 q83 ow cw q100 (zx22 zx23 : Value) (zt : List Value) := (.string ({ data := #[] }) :: .string label :: un :: un :: .bool false :: pt tb.q :: .string (txt 0) :: .string (txt 1) :: .string (txt 2) :: .string (txt 3) :: iN .i64 0 :: .string (txt 4) :: iN .i64 0 :: .string (txt 5) :: iN .i64 0 :: .string (txt 5) :: iN .i64 0 :: .string (txt 6) :: iN .i64 0 :: .string (txt 9) :: iN .i64 0 :: .slice (some ⟨kb103, 0, none⟩) 10 10 :: zx22 :: zx23 :: pt tb.q :: pt tb.q :: .bool false :: .string s :: .string s :: iN .i64 s.size :: iN .i64 (min s.size 50) :: .string ({ data := #[] }) :: pt tb.q :: .string (txt 0) :: pt tb.q :: .string (txt 1) :: pt tb.q :: .string (txt 2) :: .tuple #[.string (txt 3), iN .i64 0] :: pt tb.q :: .string (txt 0) :: .slice (some ⟨q18, 0, none⟩) 1 1 :: .tuple #[.string (txt 3), iN .i64 0] :: .string (txt 3) :: iN .i64 0 :: .tuple #[.string (txt 4), iN .i64 0] :: pt tb.q :: .string (txt 1) :: .slice (some ⟨q31, 0, none⟩) 1 1 :: .tuple #[.string (txt 4), iN .i64 0] :: .string (txt 4) :: iN .i64 0 :: .tuple #[.string (txt 5), iN .i64 0] :: pt tb.q :: .string (txt 0) :: .string (txt 4) :: .slice (some ⟨q44, 0, none⟩) 2 2 :: .tuple #[.string (txt 5), iN .i64 0] :: .string (txt 5) :: iN .i64 0 :: .tuple #[.string (txt 5), iN .i64 0] :: pt tb.q :: .string (txt 1) :: .string (txt 3) :: .slice (some ⟨q57, 0, none⟩) 2 2 :: .tuple #[.string (txt 5), iN .i64 0] :: .string (txt 5) :: iN .i64 0 :: .tuple #[.string (txt 6), iN .i64 0] :: pt tb.q :: .string label :: .string label :: iN .i64 label.size :: iN .i64 (min label.size 20) :: .string (label.extract 0 (min label.size 20)) :: .string (txt 5) :: .slice (some ⟨q70, 0, none⟩) 1 1 :: .tuple #[.string (txt 6), iN .i64 0] :: .string (txt 6) :: iN .i64 0 :: .tuple #[.string (txt 9), iN .i64 0] :: pt tb.q :: .string (txt 6) :: .string ({ data := #[] }) :: .string (txt 2) :: .string (sS { data := #[] }) :: .slice (some ⟨q83, 0, none⟩) 4 4 :: .tuple #[.string (txt 9), iN .i64 0] :: .string (txt 9) :: iN .i64 0 :: iN .i64 0 :: .bool false :: .bool false :: iN .i64 0 :: .bool false :: .bool false :: .bool false :: iN .i64 0 :: .bool false :: .bool false :: .bool false :: iN .i64 0 :: .bool false :: .bool false :: .bool false :: iN .i64 0 :: .bool false :: .bool false :: .bool false :: iN .i64 0 :: .bool false :: .bool false :: .bool false :: .string (txt 5) :: .string (txt 5) :: .bool false :: .bool false :: pt tb.q :: .string ({ data := #[] }) :: .string (txt 2) :: .string (sS { data := #[] }) :: .slice ow (wth 10 (sS { data := #[] })).length cw :: iN .i64 ((wth 10 (sS { data := #[] })).length) :: .bool false :: un :: pt tb.q :: .string (txt 3) :: .string (txt 4) :: .string pqS :: .string (txt 9) :: .string (ahS 9) :: .slice (some ⟨q100, 0, none⟩) 2 2 :: .slice (some ⟨kb103, 0, none⟩) 10 10 :: .slice (some ⟨kb103, 0, none⟩) 10 10 :: iN .i64 10 :: pt tb.q :: iN .i64 10 :: .bool false :: .bool false :: .slice (some ⟨kb103, 0, none⟩) 10 10 :: pt kb103 :: .bool false :: .bool false :: .bool false :: .slice (some ⟨kb103, 0, none⟩) 10 10 :: .pointer (some ⟨kb103, 1, none⟩) :: .bool false :: .bool false :: .bool false :: .slice (some ⟨kb103, 0, none⟩) 10 10 :: .pointer (some ⟨kb103, 2, none⟩) :: .bool false :: .bool false :: .bool false :: .slice (some ⟨kb103, 0, none⟩) 10 10 :: .pointer (some ⟨kb103, 3, none⟩) :: .bool true :: .bool false :: .bool false :: .bool false :: .slice (some ⟨kb103, 0, none⟩) 10 10 :: .pointer (some ⟨kb103, 4, none⟩) :: .bool true :: .bool false :: .bool false :: .bool false :: .slice (some ⟨kb103, 0, none⟩) 10 10 :: .pointer (some ⟨kb103, 5, none⟩) :: .bool false :: .bool false :: .bool false :: .slice (some ⟨kb103, 0, none⟩) 10 10 :: .pointer (some ⟨kb103, 6, none⟩) :: .bool false :: .bool false :: zt : List Value)
def zT18_5 (label : ByteArray) (tb : Tb) kb103 (s : ByteArray) q18 q31 q44 q57 q70 q83 ow cw q100 kb122 (zx22 zx23 zx175 zx177 zx178 zx185 zx186 zx187 zx188 zx189 zx190 : Value) (zt : List Value) := (.string ({ data := #[] }) :: .string label :: un :: un :: .bool false :: pt tb.q :: .string (txt 0) :: .string (txt 1) :: .string (txt 2) :: .string (txt 3) :: iN .i64 0 :: .string (txt 4) :: iN .i64 0 :: .string (txt 5) :: iN .i64 0 :: .string (txt 5) :: iN .i64 0 :: .string (txt 6) :: iN .i64 0 :: .string (txt 9) :: iN .i64 0 :: .slice (some ⟨kb103, 0, none⟩) 10 10 :: zx22 :: zx23 :: pt tb.q :: pt tb.q :: .bool false :: .string s :: .string s :: iN .i64 s.size :: iN .i64 (min s.size 50) :: .string ({ data := #[] }) :: pt tb.q :: .string (txt 0) :: pt tb.q :: .string (txt 1) :: pt tb.q :: .string (txt 2) :: .tuple #[.string (txt 3), iN .i64 0] :: pt tb.q :: .string (txt 0) :: .slice (some ⟨q18, 0, none⟩) 1 1 :: .tuple #[.string (txt 3), iN .i64 0] :: .string (txt 3) :: iN .i64 0 :: .tuple #[.string (txt 4), iN .i64 0] :: pt tb.q :: .string (txt 1) :: .slice (some ⟨q31, 0, none⟩) 1 1 :: .tuple #[.string (txt 4), iN .i64 0] :: .string (txt 4) :: iN .i64 0 :: .tuple #[.string (txt 5), iN .i64 0] :: pt tb.q :: .string (txt 0) :: .string (txt 4) :: .slice (some ⟨q44, 0, none⟩) 2 2 :: .tuple #[.string (txt 5), iN .i64 0] :: .string (txt 5) :: iN .i64 0 :: .tuple #[.string (txt 5), iN .i64 0] :: pt tb.q :: .string (txt 1) :: .string (txt 3) :: .slice (some ⟨q57, 0, none⟩) 2 2 :: .tuple #[.string (txt 5), iN .i64 0] :: .string (txt 5) :: iN .i64 0 :: .tuple #[.string (txt 6), iN .i64 0] :: pt tb.q :: .string label :: .string label :: iN .i64 label.size :: iN .i64 (min label.size 20) :: .string (label.extract 0 (min label.size 20)) :: .string (txt 5) :: .slice (some ⟨q70, 0, none⟩) 1 1 :: .tuple #[.string (txt 6), iN .i64 0] :: .string (txt 6) :: iN .i64 0 :: .tuple #[.string (txt 9), iN .i64 0] :: pt tb.q :: .string (txt 6) :: .string ({ data := #[] }) :: .string (txt 2) :: .string (sS { data := #[] }) :: .slice (some ⟨q83, 0, none⟩) 4 4 :: .tuple #[.string (txt 9), iN .i64 0] :: .string (txt 9) :: iN .i64 0 :: iN .i64 0 :: .bool false :: .bool false :: iN .i64 0 :: .bool false :: .bool false :: .bool false :: iN .i64 0 :: .bool false :: .bool false :: .bool false :: iN .i64 0 :: .bool false :: .bool false :: .bool false :: iN .i64 0 :: .bool false :: .bool false :: .bool false :: iN .i64 0 :: .bool false :: .bool false :: .bool false :: .string (txt 5) :: .string (txt 5) :: .bool false :: .bool false :: pt tb.q :: .string ({ data := #[] }) :: .string (txt 2) :: .string (sS { data := #[] }) :: .slice ow (wth 10 (sS { data := #[] })).length cw :: iN .i64 ((wth 10 (sS { data := #[] })).length) :: .bool false :: un :: pt tb.q :: .string (txt 3) :: .string (txt 4) :: .string pqS :: .string (txt 9) :: .string (ahS 9) :: .slice (some ⟨q100, 0, none⟩) 2 2 :: .slice (some ⟨kb103, 0, none⟩) 10 10 :: .slice (some ⟨kb103, 0, none⟩) 10 10 :: iN .i64 10 :: pt tb.q :: iN .i64 10 :: .bool false :: .bool false :: .slice (some ⟨kb103, 0, none⟩) 10 10 :: pt kb103 :: .bool false :: .bool false :: .bool false :: .slice (some ⟨kb103, 0, none⟩) 10 10 :: .pointer (some ⟨kb103, 1, none⟩) :: .bool false :: .bool false :: .bool false :: .slice (some ⟨kb103, 0, none⟩) 10 10 :: .pointer (some ⟨kb103, 2, none⟩) :: .bool false :: .bool false :: .bool false :: .slice (some ⟨kb103, 0, none⟩) 10 10 :: .pointer (some ⟨kb103, 3, none⟩) :: .bool true :: .bool false :: .bool false :: .bool false :: .slice (some ⟨kb103, 0, none⟩) 10 10 :: .pointer (some ⟨kb103, 4, none⟩) :: .bool true :: .bool false :: .bool false :: .bool false :: .slice (some ⟨kb103, 0, none⟩) 10 10 :: .pointer (some ⟨kb103, 5, none⟩) :: .bool false :: .bool false :: .bool false :: .slice (some ⟨kb103, 0, none⟩) 10 10 :: .pointer (some ⟨kb103, 6, none⟩) :: .bool false :: .bool false :: zx175 :: .bool true :: zx177 :: zx178 :: pt tb.q :: .string (txt 3) :: .string (txt 4) :: .string (txt 9) :: .string (txt 0) :: .string (txt 1) :: zx185 :: zx186 :: zx187 :: zx188 :: zx189 :: zx190 :: .slice (some ⟨kb122, 0, none⟩) 10 10 :: iN .i64 10 :: pt tb.q :: iN .i64 10 :: .bool false :: .bool false :: .slice (some ⟨kb122, 0, none⟩) 10 10 :: .pointer (some ⟨kb122, 2, none⟩) :: .bool true :: .bool false :: .bool false :: .bool false :: .slice (some ⟨kb122, 0, none⟩) 10 10 :: .pointer (some ⟨kb122, 5, none⟩) :: .bool true :: .bool false :: .bool false :: .bool false :: .slice (some ⟨kb122, 0, none⟩) 10 10 :: .pointer (some ⟨kb122, 6, none⟩) :: .bool true :: .bool false :: .bool false :: .bool false :: .slice (some ⟨kb122, 0, none⟩) 10 10 :: iN .i64 0 :: pt kb122 :: .bool true :: .bool false :: .bool false :: .bool false :: .slice (some ⟨kb122, 0, none⟩) 10 10 :: iN .i64 0 :: iN .i64 (1 - 0) :: .pointer (some ⟨kb122, 1 - 0, none⟩) :: .bool false :: .bool false :: un :: zt : List Value)
def zT18_6 (label : ByteArray) (tb : Tb) kb103 kb141 (s : ByteArray) q18 q31 q44 q57 q70 q83 ow cw q100 q135 q138 (zx4 zx22 zx175 zx176 zx177 zx178 zx228 : Value) (zt : List Value) := (.string ({ data := #[] }) :: .string label :: un :: un :: zx4 :: pt tb.q :: .string (txt 0) :: .string (txt 1) :: .string (txt 2) :: .string (txt 3) :: iN .i64 0 :: .string (txt 4) :: iN .i64 0 :: .string (txt 5) :: iN .i64 0 :: .string (txt 5) :: iN .i64 0 :: .string (txt 6) :: iN .i64 0 :: .string (txt 9) :: iN .i64 0 :: .slice (some ⟨kb103, 0, none⟩) 10 10 :: zx22 :: .slice (some ⟨kb141, 0, none⟩) 10 10 :: pt tb.q :: pt tb.q :: .bool false :: .string s :: .string s :: iN .i64 s.size :: iN .i64 (min s.size 50) :: .string ({ data := #[] }) :: pt tb.q :: .string (txt 0) :: pt tb.q :: .string (txt 1) :: pt tb.q :: .string (txt 2) :: .tuple #[.string (txt 3), iN .i64 0] :: pt tb.q :: .string (txt 0) :: .slice (some ⟨q18, 0, none⟩) 1 1 :: .tuple #[.string (txt 3), iN .i64 0] :: .string (txt 3) :: iN .i64 0 :: .tuple #[.string (txt 4), iN .i64 0] :: pt tb.q :: .string (txt 1) :: .slice (some ⟨q31, 0, none⟩) 1 1 :: .tuple #[.string (txt 4), iN .i64 0] :: .string (txt 4) :: iN .i64 0 :: .tuple #[.string (txt 5), iN .i64 0] :: pt tb.q :: .string (txt 0) :: .string (txt 4) :: .slice (some ⟨q44, 0, none⟩) 2 2 :: .tuple #[.string (txt 5), iN .i64 0] :: .string (txt 5) :: iN .i64 0 :: .tuple #[.string (txt 5), iN .i64 0] :: pt tb.q :: .string (txt 1) :: .string (txt 3) :: .slice (some ⟨q57, 0, none⟩) 2 2 :: .tuple #[.string (txt 5), iN .i64 0] :: .string (txt 5) :: iN .i64 0 :: .tuple #[.string (txt 6), iN .i64 0] :: pt tb.q :: .string label :: .string label :: iN .i64 label.size :: iN .i64 (min label.size 20) :: .string (label.extract 0 (min label.size 20)) :: .string (txt 5) :: .slice (some ⟨q70, 0, none⟩) 1 1 :: .tuple #[.string (txt 6), iN .i64 0] :: .string (txt 6) :: iN .i64 0 :: .tuple #[.string (txt 9), iN .i64 0] :: pt tb.q :: .string (txt 6) :: .string ({ data := #[] }) :: .string (txt 2) :: .string (sS { data := #[] }) :: .slice (some ⟨q83, 0, none⟩) 4 4 :: .tuple #[.string (txt 9), iN .i64 0] :: .string (txt 9) :: iN .i64 0 :: iN .i64 0 :: .bool false :: .bool false :: iN .i64 0 :: .bool false :: .bool false :: .bool false :: iN .i64 0 :: .bool false :: .bool false :: .bool false :: iN .i64 0 :: .bool false :: .bool false :: .bool false :: iN .i64 0 :: .bool false :: .bool false :: .bool false :: iN .i64 0 :: .bool false :: .bool false :: .bool false :: .string (txt 5) :: .string (txt 5) :: .bool false :: .bool false :: pt tb.q :: .string ({ data := #[] }) :: .string (txt 2) :: .string (sS { data := #[] }) :: .slice ow (wth 10 (sS { data := #[] })).length cw :: iN .i64 ((wth 10 (sS { data := #[] })).length) :: .bool false :: un :: pt tb.q :: .string (txt 3) :: .string (txt 4) :: .string pqS :: .string (txt 9) :: .string (ahS 9) :: .slice (some ⟨q100, 0, none⟩) 2 2 :: .slice (some ⟨kb103, 0, none⟩) 10 10 :: .slice (some ⟨kb103, 0, none⟩) 10 10 :: iN .i64 10 :: pt tb.q :: iN .i64 10 :: .bool false :: .bool false :: .slice (some ⟨kb103, 0, none⟩) 10 10 :: pt kb103 :: .bool false :: .bool false :: .bool false :: .slice (some ⟨kb103, 0, none⟩) 10 10 :: .pointer (some ⟨kb103, 1, none⟩) :: .bool false :: .bool false :: .bool false :: .slice (some ⟨kb103, 0, none⟩) 10 10 :: .pointer (some ⟨kb103, 2, none⟩) :: .bool false :: .bool false :: .bool false :: .slice (some ⟨kb103, 0, none⟩) 10 10 :: .pointer (some ⟨kb103, 3, none⟩) :: .bool true :: .bool false :: .bool false :: .bool false :: .slice (some ⟨kb103, 0, none⟩) 10 10 :: .pointer (some ⟨kb103, 4, none⟩) :: .bool true :: .bool false :: .bool false :: .bool false :: .slice (some ⟨kb103, 0, none⟩) 10 10 :: .pointer (some ⟨kb103, 5, none⟩) :: .bool false :: .bool false :: .bool false :: .slice (some ⟨kb103, 0, none⟩) 10 10 :: .pointer (some ⟨kb103, 6, none⟩) :: .bool false :: .bool false :: zx175 :: zx176 :: zx177 :: zx178 :: pt tb.q :: .string (txt 3) :: .string (txt 4) :: .string (txt 9) :: .string (txt 0) :: .string (txt 1) :: .slice (some ⟨q135, 0, none⟩) 2 2 :: iN .i64 (0 + 1) :: .pointer (some ⟨q135, 0 + 1, none⟩) :: .string (txt 1) :: .slice (some ⟨q138, 0, none⟩) 4 4 :: .slice (some ⟨kb141, 0, none⟩) 10 10 :: .slice (some ⟨kb141, 0, none⟩) 10 10 :: iN .i64 10 :: pt tb.q :: iN .i64 10 :: .bool false :: .bool false :: .slice (some ⟨kb141, 0, none⟩) 10 10 :: .pointer (some ⟨kb141, 2, none⟩) :: .bool true :: .bool false :: .bool false :: .bool false :: .slice (some ⟨kb141, 0, none⟩) 10 10 :: .pointer (some ⟨kb141, 5, none⟩) :: .bool true :: .bool false :: .bool false :: .bool false :: .slice (some ⟨kb141, 0, none⟩) 10 10 :: .pointer (some ⟨kb141, 6, none⟩) :: .bool true :: .bool false :: .bool false :: .bool false :: .slice (some ⟨kb141, 0, none⟩) 10 10 :: iN .i64 (0 + 1) :: .pointer (some ⟨kb141, 0 + 1, none⟩) :: .bool true :: .bool false :: .bool false :: .bool false :: .slice (some ⟨kb141, 0, none⟩) 10 10 :: iN .i64 (0 + 1) :: iN .i64 (1 - (0 + 1)) :: .pointer (some ⟨kb141, 1 - (0 + 1), none⟩) :: .bool false :: .bool false :: zx228 :: zt : List Value)
def zT18_7 s1 (label : ByteArray) (tb : Tb) (s : ByteArray) (zx9 zx10 zx11 zx12 : Value) (zt : List Value) := (.string (s1) :: .string label :: un :: un :: .bool false :: pt tb.q :: .string (txt 0) :: .string (txt 1) :: .string (txt 2) :: zx9 :: zx10 :: zx11 :: zx12 :: un :: un :: un :: un :: un :: un :: un :: un :: un :: un :: un :: pt tb.q :: pt tb.q :: .bool false :: .string s :: .string s :: iN .i64 s.size :: iN .i64 (min s.size 50) :: .string (s1) :: pt tb.q :: .string (txt 0) :: pt tb.q :: .string (txt 1) :: pt tb.q :: .string (txt 2) :: zt : List Value)
def zT18_8 s1 (label : ByteArray) (tb : Tb) (s : ByteArray) q172 q185 q198 (zx15 zx16 zx17 zx18 zx19 zx20 : Value) (zt : List Value) := (.string (s1) :: .string label :: un :: un :: .bool false :: pt tb.q :: .string (txt 0) :: .string (txt 1) :: .string (txt 2) :: .string (txt 3) :: iN .i64 0 :: .string (txt 4) :: iN .i64 0 :: .string (txt 5) :: iN .i64 0 :: zx15 :: zx16 :: zx17 :: zx18 :: zx19 :: zx20 :: un :: un :: un :: pt tb.q :: pt tb.q :: .bool false :: .string s :: .string s :: iN .i64 s.size :: iN .i64 (min s.size 50) :: .string (s1) :: pt tb.q :: .string (txt 0) :: pt tb.q :: .string (txt 1) :: pt tb.q :: .string (txt 2) :: .tuple #[.string (txt 3), iN .i64 0] :: pt tb.q :: .string (txt 0) :: .slice (some ⟨q172, 0, none⟩) 1 1 :: .tuple #[.string (txt 3), iN .i64 0] :: .string (txt 3) :: iN .i64 0 :: .tuple #[.string (txt 4), iN .i64 0] :: pt tb.q :: .string (txt 1) :: .slice (some ⟨q185, 0, none⟩) 1 1 :: .tuple #[.string (txt 4), iN .i64 0] :: .string (txt 4) :: iN .i64 0 :: .tuple #[.string (txt 5), iN .i64 0] :: pt tb.q :: .string (txt 0) :: .string (txt 4) :: .slice (some ⟨q198, 0, none⟩) 2 2 :: .tuple #[.string (txt 5), iN .i64 0] :: .string (txt 5) :: iN .i64 0 :: zt : List Value)
def zT18_9 s1 (label : ByteArray) (tb : Tb) (s : ByteArray) q172 q185 q198 q211 q224 q237 (zx21 : Value) (zt : List Value) := (.string (s1) :: .string label :: un :: un :: .bool false :: pt tb.q :: .string (txt 0) :: .string (txt 1) :: .string (txt 2) :: .string (txt 3) :: iN .i64 0 :: .string (txt 4) :: iN .i64 0 :: .string (txt 5) :: iN .i64 0 :: .string (txt 5) :: iN .i64 0 :: .string (txt 6) :: iN .i64 0 :: .string (txt 10) :: iN .i64 0 :: zx21 :: un :: un :: pt tb.q :: pt tb.q :: .bool false :: .string s :: .string s :: iN .i64 s.size :: iN .i64 (min s.size 50) :: .string (s1) :: pt tb.q :: .string (txt 0) :: pt tb.q :: .string (txt 1) :: pt tb.q :: .string (txt 2) :: .tuple #[.string (txt 3), iN .i64 0] :: pt tb.q :: .string (txt 0) :: .slice (some ⟨q172, 0, none⟩) 1 1 :: .tuple #[.string (txt 3), iN .i64 0] :: .string (txt 3) :: iN .i64 0 :: .tuple #[.string (txt 4), iN .i64 0] :: pt tb.q :: .string (txt 1) :: .slice (some ⟨q185, 0, none⟩) 1 1 :: .tuple #[.string (txt 4), iN .i64 0] :: .string (txt 4) :: iN .i64 0 :: .tuple #[.string (txt 5), iN .i64 0] :: pt tb.q :: .string (txt 0) :: .string (txt 4) :: .slice (some ⟨q198, 0, none⟩) 2 2 :: .tuple #[.string (txt 5), iN .i64 0] :: .string (txt 5) :: iN .i64 0 :: .tuple #[.string (txt 5), iN .i64 0] :: pt tb.q :: .string (txt 1) :: .string (txt 3) :: .slice (some ⟨q211, 0, none⟩) 2 2 :: .tuple #[.string (txt 5), iN .i64 0] :: .string (txt 5) :: iN .i64 0 :: .tuple #[.string (txt 6), iN .i64 0] :: pt tb.q :: .string label :: .string label :: iN .i64 label.size :: iN .i64 (min label.size 20) :: .string (label.extract 0 (min label.size 20)) :: .string (txt 5) :: .slice (some ⟨q224, 0, none⟩) 1 1 :: .tuple #[.string (txt 6), iN .i64 0] :: .string (txt 6) :: iN .i64 0 :: .tuple #[.string (txt 10), iN .i64 0] :: pt tb.q :: .string (txt 6) :: .string (s1) :: .string (txt 2) :: .string (sS s1) :: .slice (some ⟨q237, 0, none⟩) 4 4 :: .tuple #[.string (txt 10), iN .i64 0] :: .string (txt 10) :: iN .i64 0 :: iN .i64 0 :: .bool false :: .bool false :: iN .i64 0 :: .bool false :: .bool false :: .bool false :: iN .i64 0 :: .bool false :: .bool false :: .bool false :: iN .i64 0 :: .bool false :: .bool false :: .bool false :: iN .i64 0 :: .bool false :: .bool false :: .bool false :: iN .i64 0 :: .bool false :: .bool false :: .bool false :: .string (txt 5) :: .string (txt 5) :: .bool false :: .bool false :: zt : List Value)
def zT18_10 s1 (label : ByteArray) (tb : Tb) kb257 (s : ByteArray) q172 q185 q198 q211 q224 q237 ow cw q254 (zx22 zx23 : Value) (zt : List Value) := (.string (s1) :: .string label :: un :: un :: .bool false :: pt tb.q :: .string (txt 0) :: .string (txt 1) :: .string (txt 2) :: .string (txt 3) :: iN .i64 0 :: .string (txt 4) :: iN .i64 0 :: .string (txt 5) :: iN .i64 0 :: .string (txt 5) :: iN .i64 0 :: .string (txt 6) :: iN .i64 0 :: .string (txt 10) :: iN .i64 0 :: .slice (some ⟨kb257, 0, none⟩) 11 11 :: zx22 :: zx23 :: pt tb.q :: pt tb.q :: .bool false :: .string s :: .string s :: iN .i64 s.size :: iN .i64 (min s.size 50) :: .string (s1) :: pt tb.q :: .string (txt 0) :: pt tb.q :: .string (txt 1) :: pt tb.q :: .string (txt 2) :: .tuple #[.string (txt 3), iN .i64 0] :: pt tb.q :: .string (txt 0) :: .slice (some ⟨q172, 0, none⟩) 1 1 :: .tuple #[.string (txt 3), iN .i64 0] :: .string (txt 3) :: iN .i64 0 :: .tuple #[.string (txt 4), iN .i64 0] :: pt tb.q :: .string (txt 1) :: .slice (some ⟨q185, 0, none⟩) 1 1 :: .tuple #[.string (txt 4), iN .i64 0] :: .string (txt 4) :: iN .i64 0 :: .tuple #[.string (txt 5), iN .i64 0] :: pt tb.q :: .string (txt 0) :: .string (txt 4) :: .slice (some ⟨q198, 0, none⟩) 2 2 :: .tuple #[.string (txt 5), iN .i64 0] :: .string (txt 5) :: iN .i64 0 :: .tuple #[.string (txt 5), iN .i64 0] :: pt tb.q :: .string (txt 1) :: .string (txt 3) :: .slice (some ⟨q211, 0, none⟩) 2 2 :: .tuple #[.string (txt 5), iN .i64 0] :: .string (txt 5) :: iN .i64 0 :: .tuple #[.string (txt 6), iN .i64 0] :: pt tb.q :: .string label :: .string label :: iN .i64 label.size :: iN .i64 (min label.size 20) :: .string (label.extract 0 (min label.size 20)) :: .string (txt 5) :: .slice (some ⟨q224, 0, none⟩) 1 1 :: .tuple #[.string (txt 6), iN .i64 0] :: .string (txt 6) :: iN .i64 0 :: .tuple #[.string (txt 10), iN .i64 0] :: pt tb.q :: .string (txt 6) :: .string (s1) :: .string (txt 2) :: .string (sS s1) :: .slice (some ⟨q237, 0, none⟩) 4 4 :: .tuple #[.string (txt 10), iN .i64 0] :: .string (txt 10) :: iN .i64 0 :: iN .i64 0 :: .bool false :: .bool false :: iN .i64 0 :: .bool false :: .bool false :: .bool false :: iN .i64 0 :: .bool false :: .bool false :: .bool false :: iN .i64 0 :: .bool false :: .bool false :: .bool false :: iN .i64 0 :: .bool false :: .bool false :: .bool false :: iN .i64 0 :: .bool false :: .bool false :: .bool false :: .string (txt 5) :: .string (txt 5) :: .bool false :: .bool false :: pt tb.q :: .string (s1) :: .string (txt 2) :: .string (sS s1) :: .slice ow (wth 11 (sS s1)).length cw :: iN .i64 ((wth 11 (sS s1)).length) :: .bool false :: un :: pt tb.q :: .string (txt 3) :: .string (txt 4) :: .string pqS :: .string (txt 10) :: .string (ahS 10) :: .slice (some ⟨q254, 0, none⟩) 2 2 :: .slice (some ⟨kb257, 0, none⟩) 11 11 :: .slice (some ⟨kb257, 0, none⟩) 11 11 :: iN .i64 11 :: pt tb.q :: iN .i64 11 :: .bool false :: .bool false :: .slice (some ⟨kb257, 0, none⟩) 11 11 :: pt kb257 :: .bool false :: .bool false :: .bool false :: .slice (some ⟨kb257, 0, none⟩) 11 11 :: .pointer (some ⟨kb257, 1, none⟩) :: .bool false :: .bool false :: .bool false :: .slice (some ⟨kb257, 0, none⟩) 11 11 :: .pointer (some ⟨kb257, 2, none⟩) :: .bool false :: .bool false :: .bool false :: .slice (some ⟨kb257, 0, none⟩) 11 11 :: .pointer (some ⟨kb257, 3, none⟩) :: .bool true :: .bool false :: .bool false :: .bool false :: .slice (some ⟨kb257, 0, none⟩) 11 11 :: .pointer (some ⟨kb257, 4, none⟩) :: .bool true :: .bool false :: .bool false :: .bool false :: .slice (some ⟨kb257, 0, none⟩) 11 11 :: .pointer (some ⟨kb257, 5, none⟩) :: .bool false :: .bool false :: .bool false :: .slice (some ⟨kb257, 0, none⟩) 11 11 :: .pointer (some ⟨kb257, 6, none⟩) :: .bool false :: .bool false :: zt : List Value)
def zT18_11 s1 (label : ByteArray) (tb : Tb) kb257 (s : ByteArray) q172 q185 q198 q211 q224 q237 ow cw q254 kb276 (zx22 zx23 zx175 zx177 zx178 zx185 zx186 zx187 zx188 zx189 zx190 : Value) (zt : List Value) := (.string (s1) :: .string label :: un :: un :: .bool false :: pt tb.q :: .string (txt 0) :: .string (txt 1) :: .string (txt 2) :: .string (txt 3) :: iN .i64 0 :: .string (txt 4) :: iN .i64 0 :: .string (txt 5) :: iN .i64 0 :: .string (txt 5) :: iN .i64 0 :: .string (txt 6) :: iN .i64 0 :: .string (txt 10) :: iN .i64 0 :: .slice (some ⟨kb257, 0, none⟩) 11 11 :: zx22 :: zx23 :: pt tb.q :: pt tb.q :: .bool false :: .string s :: .string s :: iN .i64 s.size :: iN .i64 (min s.size 50) :: .string (s1) :: pt tb.q :: .string (txt 0) :: pt tb.q :: .string (txt 1) :: pt tb.q :: .string (txt 2) :: .tuple #[.string (txt 3), iN .i64 0] :: pt tb.q :: .string (txt 0) :: .slice (some ⟨q172, 0, none⟩) 1 1 :: .tuple #[.string (txt 3), iN .i64 0] :: .string (txt 3) :: iN .i64 0 :: .tuple #[.string (txt 4), iN .i64 0] :: pt tb.q :: .string (txt 1) :: .slice (some ⟨q185, 0, none⟩) 1 1 :: .tuple #[.string (txt 4), iN .i64 0] :: .string (txt 4) :: iN .i64 0 :: .tuple #[.string (txt 5), iN .i64 0] :: pt tb.q :: .string (txt 0) :: .string (txt 4) :: .slice (some ⟨q198, 0, none⟩) 2 2 :: .tuple #[.string (txt 5), iN .i64 0] :: .string (txt 5) :: iN .i64 0 :: .tuple #[.string (txt 5), iN .i64 0] :: pt tb.q :: .string (txt 1) :: .string (txt 3) :: .slice (some ⟨q211, 0, none⟩) 2 2 :: .tuple #[.string (txt 5), iN .i64 0] :: .string (txt 5) :: iN .i64 0 :: .tuple #[.string (txt 6), iN .i64 0] :: pt tb.q :: .string label :: .string label :: iN .i64 label.size :: iN .i64 (min label.size 20) :: .string (label.extract 0 (min label.size 20)) :: .string (txt 5) :: .slice (some ⟨q224, 0, none⟩) 1 1 :: .tuple #[.string (txt 6), iN .i64 0] :: .string (txt 6) :: iN .i64 0 :: .tuple #[.string (txt 10), iN .i64 0] :: pt tb.q :: .string (txt 6) :: .string (s1) :: .string (txt 2) :: .string (sS s1) :: .slice (some ⟨q237, 0, none⟩) 4 4 :: .tuple #[.string (txt 10), iN .i64 0] :: .string (txt 10) :: iN .i64 0 :: iN .i64 0 :: .bool false :: .bool false :: iN .i64 0 :: .bool false :: .bool false :: .bool false :: iN .i64 0 :: .bool false :: .bool false :: .bool false :: iN .i64 0 :: .bool false :: .bool false :: .bool false :: iN .i64 0 :: .bool false :: .bool false :: .bool false :: iN .i64 0 :: .bool false :: .bool false :: .bool false :: .string (txt 5) :: .string (txt 5) :: .bool false :: .bool false :: pt tb.q :: .string (s1) :: .string (txt 2) :: .string (sS s1) :: .slice ow (wth 11 (sS s1)).length cw :: iN .i64 ((wth 11 (sS s1)).length) :: .bool false :: un :: pt tb.q :: .string (txt 3) :: .string (txt 4) :: .string pqS :: .string (txt 10) :: .string (ahS 10) :: .slice (some ⟨q254, 0, none⟩) 2 2 :: .slice (some ⟨kb257, 0, none⟩) 11 11 :: .slice (some ⟨kb257, 0, none⟩) 11 11 :: iN .i64 11 :: pt tb.q :: iN .i64 11 :: .bool false :: .bool false :: .slice (some ⟨kb257, 0, none⟩) 11 11 :: pt kb257 :: .bool false :: .bool false :: .bool false :: .slice (some ⟨kb257, 0, none⟩) 11 11 :: .pointer (some ⟨kb257, 1, none⟩) :: .bool false :: .bool false :: .bool false :: .slice (some ⟨kb257, 0, none⟩) 11 11 :: .pointer (some ⟨kb257, 2, none⟩) :: .bool false :: .bool false :: .bool false :: .slice (some ⟨kb257, 0, none⟩) 11 11 :: .pointer (some ⟨kb257, 3, none⟩) :: .bool true :: .bool false :: .bool false :: .bool false :: .slice (some ⟨kb257, 0, none⟩) 11 11 :: .pointer (some ⟨kb257, 4, none⟩) :: .bool true :: .bool false :: .bool false :: .bool false :: .slice (some ⟨kb257, 0, none⟩) 11 11 :: .pointer (some ⟨kb257, 5, none⟩) :: .bool false :: .bool false :: .bool false :: .slice (some ⟨kb257, 0, none⟩) 11 11 :: .pointer (some ⟨kb257, 6, none⟩) :: .bool false :: .bool false :: zx175 :: .bool true :: zx177 :: zx178 :: pt tb.q :: .string (txt 3) :: .string (txt 4) :: .string (txt 10) :: .string (txt 0) :: .string (txt 1) :: zx185 :: zx186 :: zx187 :: zx188 :: zx189 :: zx190 :: .slice (some ⟨kb276, 0, none⟩) 11 11 :: iN .i64 11 :: pt tb.q :: iN .i64 11 :: .bool false :: .bool false :: .slice (some ⟨kb276, 0, none⟩) 11 11 :: .pointer (some ⟨kb276, 2, none⟩) :: .bool true :: .bool false :: .bool false :: .bool false :: .slice (some ⟨kb276, 0, none⟩) 11 11 :: .pointer (some ⟨kb276, 5, none⟩) :: .bool true :: .bool false :: .bool false :: .bool false :: .slice (some ⟨kb276, 0, none⟩) 11 11 :: .pointer (some ⟨kb276, 6, none⟩) :: .bool true :: .bool false :: .bool false :: .bool false :: .slice (some ⟨kb276, 0, none⟩) 11 11 :: iN .i64 0 :: pt kb276 :: .bool true :: .bool false :: .bool false :: .bool false :: .slice (some ⟨kb276, 0, none⟩) 11 11 :: iN .i64 0 :: iN .i64 (1 - 0) :: .pointer (some ⟨kb276, 1 - 0, none⟩) :: .bool false :: .bool false :: un :: zt : List Value)
def zT18_12 s1 (label : ByteArray) (tb : Tb) kb257 kb295 (s : ByteArray) q172 q185 q198 q211 q224 q237 ow cw q254 q289 q292 (zx4 zx22 zx175 zx176 zx177 zx178 zx228 : Value) (zt : List Value) := (.string (s1) :: .string label :: un :: un :: zx4 :: pt tb.q :: .string (txt 0) :: .string (txt 1) :: .string (txt 2) :: .string (txt 3) :: iN .i64 0 :: .string (txt 4) :: iN .i64 0 :: .string (txt 5) :: iN .i64 0 :: .string (txt 5) :: iN .i64 0 :: .string (txt 6) :: iN .i64 0 :: .string (txt 10) :: iN .i64 0 :: .slice (some ⟨kb257, 0, none⟩) 11 11 :: zx22 :: .slice (some ⟨kb295, 0, none⟩) 11 11 :: pt tb.q :: pt tb.q :: .bool false :: .string s :: .string s :: iN .i64 s.size :: iN .i64 (min s.size 50) :: .string (s1) :: pt tb.q :: .string (txt 0) :: pt tb.q :: .string (txt 1) :: pt tb.q :: .string (txt 2) :: .tuple #[.string (txt 3), iN .i64 0] :: pt tb.q :: .string (txt 0) :: .slice (some ⟨q172, 0, none⟩) 1 1 :: .tuple #[.string (txt 3), iN .i64 0] :: .string (txt 3) :: iN .i64 0 :: .tuple #[.string (txt 4), iN .i64 0] :: pt tb.q :: .string (txt 1) :: .slice (some ⟨q185, 0, none⟩) 1 1 :: .tuple #[.string (txt 4), iN .i64 0] :: .string (txt 4) :: iN .i64 0 :: .tuple #[.string (txt 5), iN .i64 0] :: pt tb.q :: .string (txt 0) :: .string (txt 4) :: .slice (some ⟨q198, 0, none⟩) 2 2 :: .tuple #[.string (txt 5), iN .i64 0] :: .string (txt 5) :: iN .i64 0 :: .tuple #[.string (txt 5), iN .i64 0] :: pt tb.q :: .string (txt 1) :: .string (txt 3) :: .slice (some ⟨q211, 0, none⟩) 2 2 :: .tuple #[.string (txt 5), iN .i64 0] :: .string (txt 5) :: iN .i64 0 :: .tuple #[.string (txt 6), iN .i64 0] :: pt tb.q :: .string label :: .string label :: iN .i64 label.size :: iN .i64 (min label.size 20) :: .string (label.extract 0 (min label.size 20)) :: .string (txt 5) :: .slice (some ⟨q224, 0, none⟩) 1 1 :: .tuple #[.string (txt 6), iN .i64 0] :: .string (txt 6) :: iN .i64 0 :: .tuple #[.string (txt 10), iN .i64 0] :: pt tb.q :: .string (txt 6) :: .string (s1) :: .string (txt 2) :: .string (sS s1) :: .slice (some ⟨q237, 0, none⟩) 4 4 :: .tuple #[.string (txt 10), iN .i64 0] :: .string (txt 10) :: iN .i64 0 :: iN .i64 0 :: .bool false :: .bool false :: iN .i64 0 :: .bool false :: .bool false :: .bool false :: iN .i64 0 :: .bool false :: .bool false :: .bool false :: iN .i64 0 :: .bool false :: .bool false :: .bool false :: iN .i64 0 :: .bool false :: .bool false :: .bool false :: iN .i64 0 :: .bool false :: .bool false :: .bool false :: .string (txt 5) :: .string (txt 5) :: .bool false :: .bool false :: pt tb.q :: .string (s1) :: .string (txt 2) :: .string (sS s1) :: .slice ow (wth 11 (sS s1)).length cw :: iN .i64 ((wth 11 (sS s1)).length) :: .bool false :: un :: pt tb.q :: .string (txt 3) :: .string (txt 4) :: .string pqS :: .string (txt 10) :: .string (ahS 10) :: .slice (some ⟨q254, 0, none⟩) 2 2 :: .slice (some ⟨kb257, 0, none⟩) 11 11 :: .slice (some ⟨kb257, 0, none⟩) 11 11 :: iN .i64 11 :: pt tb.q :: iN .i64 11 :: .bool false :: .bool false :: .slice (some ⟨kb257, 0, none⟩) 11 11 :: pt kb257 :: .bool false :: .bool false :: .bool false :: .slice (some ⟨kb257, 0, none⟩) 11 11 :: .pointer (some ⟨kb257, 1, none⟩) :: .bool false :: .bool false :: .bool false :: .slice (some ⟨kb257, 0, none⟩) 11 11 :: .pointer (some ⟨kb257, 2, none⟩) :: .bool false :: .bool false :: .bool false :: .slice (some ⟨kb257, 0, none⟩) 11 11 :: .pointer (some ⟨kb257, 3, none⟩) :: .bool true :: .bool false :: .bool false :: .bool false :: .slice (some ⟨kb257, 0, none⟩) 11 11 :: .pointer (some ⟨kb257, 4, none⟩) :: .bool true :: .bool false :: .bool false :: .bool false :: .slice (some ⟨kb257, 0, none⟩) 11 11 :: .pointer (some ⟨kb257, 5, none⟩) :: .bool false :: .bool false :: .bool false :: .slice (some ⟨kb257, 0, none⟩) 11 11 :: .pointer (some ⟨kb257, 6, none⟩) :: .bool false :: .bool false :: zx175 :: zx176 :: zx177 :: zx178 :: pt tb.q :: .string (txt 3) :: .string (txt 4) :: .string (txt 10) :: .string (txt 0) :: .string (txt 1) :: .slice (some ⟨q289, 0, none⟩) 2 2 :: iN .i64 (0 + 1) :: .pointer (some ⟨q289, 0 + 1, none⟩) :: .string (txt 1) :: .slice (some ⟨q292, 0, none⟩) 4 4 :: .slice (some ⟨kb295, 0, none⟩) 11 11 :: .slice (some ⟨kb295, 0, none⟩) 11 11 :: iN .i64 11 :: pt tb.q :: iN .i64 11 :: .bool false :: .bool false :: .slice (some ⟨kb295, 0, none⟩) 11 11 :: .pointer (some ⟨kb295, 2, none⟩) :: .bool true :: .bool false :: .bool false :: .bool false :: .slice (some ⟨kb295, 0, none⟩) 11 11 :: .pointer (some ⟨kb295, 5, none⟩) :: .bool true :: .bool false :: .bool false :: .bool false :: .slice (some ⟨kb295, 0, none⟩) 11 11 :: .pointer (some ⟨kb295, 6, none⟩) :: .bool true :: .bool false :: .bool false :: .bool false :: .slice (some ⟨kb295, 0, none⟩) 11 11 :: iN .i64 (0 + 1) :: .pointer (some ⟨kb295, 0 + 1, none⟩) :: .bool true :: .bool false :: .bool false :: .bool false :: .slice (some ⟨kb295, 0, none⟩) 11 11 :: iN .i64 (0 + 1) :: iN .i64 (1 - (0 + 1)) :: .pointer (some ⟨kb295, 1 - (0 + 1), none⟩) :: .bool false :: .bool false :: zx228 :: zt : List Value)
def zT18_13 s1 (label : ByteArray) (tb : Tb) (s : ByteArray) q172 q185 q198 q211 q224 q237 ow cw (zx4 : Value) (zt : List Value) := (.string (s1) :: .string label :: un :: un :: zx4 :: pt tb.q :: .string (txt 0) :: .string (txt 1) :: .string (txt 2) :: .string (txt 3) :: iN .i64 0 :: .string (txt 4) :: iN .i64 0 :: .string (txt 5) :: iN .i64 0 :: .string (txt 5) :: iN .i64 0 :: .string (txt 6) :: iN .i64 0 :: .string (txt 10) :: iN .i64 0 :: un :: un :: un :: pt tb.q :: pt tb.q :: .bool false :: .string s :: .string s :: iN .i64 s.size :: iN .i64 (min s.size 50) :: .string (s1) :: pt tb.q :: .string (txt 0) :: pt tb.q :: .string (txt 1) :: pt tb.q :: .string (txt 2) :: .tuple #[.string (txt 3), iN .i64 0] :: pt tb.q :: .string (txt 0) :: .slice (some ⟨q172, 0, none⟩) 1 1 :: .tuple #[.string (txt 3), iN .i64 0] :: .string (txt 3) :: iN .i64 0 :: .tuple #[.string (txt 4), iN .i64 0] :: pt tb.q :: .string (txt 1) :: .slice (some ⟨q185, 0, none⟩) 1 1 :: .tuple #[.string (txt 4), iN .i64 0] :: .string (txt 4) :: iN .i64 0 :: .tuple #[.string (txt 5), iN .i64 0] :: pt tb.q :: .string (txt 0) :: .string (txt 4) :: .slice (some ⟨q198, 0, none⟩) 2 2 :: .tuple #[.string (txt 5), iN .i64 0] :: .string (txt 5) :: iN .i64 0 :: .tuple #[.string (txt 5), iN .i64 0] :: pt tb.q :: .string (txt 1) :: .string (txt 3) :: .slice (some ⟨q211, 0, none⟩) 2 2 :: .tuple #[.string (txt 5), iN .i64 0] :: .string (txt 5) :: iN .i64 0 :: .tuple #[.string (txt 6), iN .i64 0] :: pt tb.q :: .string label :: .string label :: iN .i64 label.size :: iN .i64 (min label.size 20) :: .string (label.extract 0 (min label.size 20)) :: .string (txt 5) :: .slice (some ⟨q224, 0, none⟩) 1 1 :: .tuple #[.string (txt 6), iN .i64 0] :: .string (txt 6) :: iN .i64 0 :: .tuple #[.string (txt 10), iN .i64 0] :: pt tb.q :: .string (txt 6) :: .string (s1) :: .string (txt 2) :: .string (sS s1) :: .slice (some ⟨q237, 0, none⟩) 4 4 :: .tuple #[.string (txt 10), iN .i64 0] :: .string (txt 10) :: iN .i64 0 :: iN .i64 0 :: .bool false :: .bool false :: iN .i64 0 :: .bool false :: .bool false :: .bool false :: iN .i64 0 :: .bool false :: .bool false :: .bool false :: iN .i64 0 :: .bool false :: .bool false :: .bool false :: iN .i64 0 :: .bool false :: .bool false :: .bool false :: iN .i64 0 :: .bool false :: .bool false :: .bool false :: .string (txt 5) :: .string (txt 5) :: .bool false :: .bool false :: pt tb.q :: .string (s1) :: .string (txt 2) :: .string (sS s1) :: .slice ow (wth 11 (sS s1)).length cw :: iN .i64 ((wth 11 (sS s1)).length) :: .bool true :: zt : List Value)
set_option linter.unusedVariables false in
set_option maxRecDepth 100000 in
set_option maxHeartbeats 1000000 in
theorem shares_any (s label : ByteArray) {m0 : Int} {w : World} (hv : w.cell? ⟨0, 0, none⟩ = some (.int .i64 m0)) :
    Calls Try.prog 4 #[.string s, .string label] w fun e w' => e = .returned (.bool true) ∧ Below w.heap.size w w' := by
  have H0 := HA.start w
  go_enter Try.func4, Try.ntmps4
  refine wp_seq ?_
  -- region 0
  refine wl_region ?_
  refine wl_val (.bool false) (by kernel_rfl) (by kernel_rfl) ?_
  refine wl_nil ?_
  refine then_at (F := ⟨(.string s :: .string label :: un :: un :: .bool false :: List.replicate 224 un).toArray, []⟩) (by kernel_rfl) ?_
  refine wp_seq ?_
  -- region 1
  refine wl_region ?_
  refine wl_callx (by kernel_rfl) enter16 #[] (by kernel_rfl) (New_ok (w0 := w) (M := []) (L := ([])) H0) ?_
  rintro _ w1 ⟨tb, rfl, hN0⟩
  refine ⟨_, rfl, ?_⟩
  have hT2 : TH w [] tb [] ([]) w1 := hN0
  have hw0 := Wf.nil
  have hg0 := Wg.nil
  refine wl_val (.pointer (some ⟨tb.q, 0, none⟩)) (by kernel_rfl) (by kernel_rfl) ?_
  refine wl_nil ?_
  refine then_at (F := ⟨(zT18_0 label tb (.string s) (List.replicate 204 un)).toArray, []⟩) (by kernel_rfl) ?_
  refine wp_seq ?_
  refine wp_seq ?_
  -- region 2
  refine wl_region ?_
  refine wl_val (.pointer (some ⟨tb.q, 0, none⟩)) (by kernel_rfl) (by kernel_rfl) ?_
  refine wl_val (.bool false) (by kernel_rfl) (by kernel_rfl) ?_
  refine wl_nil ?_
  refine then_at (F := ⟨(zT18_0 label tb (.string s) (pt tb.q :: .bool false :: List.replicate 202 un)).toArray, []⟩) (by kernel_rfl) ?_
  refine wp_cond_false (by kernel_rfl) ?_
  refine wp_skip ?_
  refine then_at (F := ⟨(zT18_0 label tb (.string s) (pt tb.q :: .bool false :: List.replicate 202 un)).toArray, []⟩) (by kernel_rfl) ?_
  refine wp_seq ?_
  -- region 4
  refine wl_region ?_
  refine wl_val (.string s) (by kernel_rfl) (by kernel_rfl) ?_
  refine wl_val (.string s) (by kernel_rfl) (by kernel_rfl) ?_
  refine wl_val (iN .i64 s.size) (by kernel_rfl) (run_len (s := s) (by kernel_rfl)) ?_
  refine wl_val (iN .i64 (min s.size 50)) (by kernel_rfl) (run_min (i := s.size) (j := 50) (by kernel_rfl) (by kernel_rfl)) ?_
  refine wl_val (.string (s.extract 0 (min s.size 50))) (by kernel_rfl) (run_cut_hi (s := s) (b := min s.size 50) (by kernel_rfl) (by kernel_rfl) (by omega)) ?_
  refine wl_val (.string (s.extract 0 (min s.size 50))) (by kernel_rfl) (by kernel_rfl) ?_
  refine wl_nil ?_
  refine then_at (F := ⟨(zT18_0 label tb (.string (s.extract 0 (min s.size 50))) (pt tb.q :: .bool false :: .string s :: .string s :: iN .i64 s.size :: iN .i64 (min s.size 50) :: .string (s.extract 0 (min s.size 50)) :: List.replicate 197 un)).toArray, []⟩) (by kernel_rfl) ?_
  refine wp_seq ?_
  have hsz : (s.extract 0 (min s.size 50)).size ≤ 50 := by rw [ByteArray.size_extract]; omega
  generalize s.extract 0 (min s.size 50) = s1 at hsz ⊢
  by_cases hne : s1 = { data := #[] }
  · subst hne
    -- region 5
    refine wl_region ?_
    refine wl_val (.pointer (some ⟨tb.q, 0, none⟩)) (by kernel_rfl) (by kernel_rfl) ?_
    refine wl_callx (by kernel_rfl) enter17 #[.pointer (some ⟨tb.q, 0, none⟩)] (by kernel_rfl) (Fresh_any hT2 (by simp)) ?_
    rintro _ w4 ⟨rfl, hF3⟩
    refine ⟨_, rfl, ?_⟩
    have hT5 : TH w [] tb [.nm 0] ([]) w4 := hF3
    have hw6 : Wf [.nm 0] := Wf.nm hw0 0 (by simp)
    have hg7 : Wg [.nm 0] := Wg.nm hg0 0
    refine wl_val (.pointer (some ⟨tb.q, 0, none⟩)) (by kernel_rfl) (by kernel_rfl) ?_
    refine wl_callx (by kernel_rfl) enter17 #[.pointer (some ⟨tb.q, 0, none⟩)] (by kernel_rfl) (Fresh_any hT5 (by simp)) ?_
    rintro _ w9 ⟨rfl, hF8⟩
    refine ⟨_, rfl, ?_⟩
    have hT10 : TH w [] tb [.nm 0, .nm 1] ([]) w9 := hF8
    have hw11 : Wf [.nm 0, .nm 1] := Wf.nm hw6 1 (by simp)
    have hg12 : Wg [.nm 0, .nm 1] := Wg.nm hg7 1
    refine wl_val (.pointer (some ⟨tb.q, 0, none⟩)) (by kernel_rfl) (by kernel_rfl) ?_
    refine wl_callx (by kernel_rfl) enter17 #[.pointer (some ⟨tb.q, 0, none⟩)] (by kernel_rfl) (Fresh_any hT10 (by simp)) ?_
    rintro _ w14 ⟨rfl, hF13⟩
    refine ⟨_, rfl, ?_⟩
    have hT15 : TH w [] tb [.nm 0, .nm 1, .nm 2] ([]) w14 := hF13
    have hw16 : Wf [.nm 0, .nm 1, .nm 2] := Wf.nm hw11 2 (by simp)
    have hg17 : Wg [.nm 0, .nm 1, .nm 2] := Wg.nm hg12 2
    refine wl_val (.string (txt 0)) (by kernel_rfl) (by kernel_rfl) ?_
    refine wl_val (.string (txt 1)) (by kernel_rfl) (by kernel_rfl) ?_
    refine wl_val (.string (txt 2)) (by kernel_rfl) (by kernel_rfl) ?_
    refine wl_nil ?_
    refine then_at (F := ⟨(zT18_1 label tb s un un un un (List.replicate 191 un)).toArray, []⟩) (by kernel_rfl) ?_
    refine wp_seq ?_
    -- region 6
    refine wl_region ?_
    refine wl_val (.pointer (some ⟨tb.q, 0, none⟩)) (by kernel_rfl) (by kernel_rfl) ?_
    refine wl_val (.string (txt 0)) (by kernel_rfl) (by kernel_rfl) ?_
    refine wl_mksT (n := 1) (m := 1) (c := strc [txt 0]) hT15 9 (by kernel_rfl) (by kernel_rfl) ?_
    intro q18 w19 (hT20 : TH w [] tb [.nm 0, .nm 1, .nm 2] ((q18, 9, strc [txt 0]) :: []) w19)
    have hmk26 := Make_ok hT20 hw16 3 ({ data := #[] }) [txt 0] (some ⟨q18, 0, none⟩) 1 (.inr ⟨q18, rfl, List.mem_cons_self ..⟩) (by simp) (by kernel_rfl) (by decide) (strs_le (fun y hy => by
      simp only [List.mem_cons, List.not_mem_nil, or_false] at hy
      rcases hy with rfl
      · exact (by rw [txt_size]; decide)
      )) (by simp) (by simp)
    refine wl_callx (by kernel_rfl) enter18 #[.pointer (some ⟨tb.q, 0, none⟩), iN .i64 3, .string ({ data := #[] }), .slice (some ⟨q18, 0, none⟩) 1 1] (by kernel_rfl) (hmk26) ?_
    rintro _ w27 ⟨x21, es22, hJ23, rfl, hT24⟩
    refine ⟨_, rfl, ?_⟩
    have hw28 := JO.wf hw16 hJ23 (by simp) (by simp) (by simp)
    have hg29 := JO.wg hg17 hw16 hJ23 (by simp) (by simp) (by simp) (by simp)
    obtain ⟨rfl, b25, rfl⟩ := JO.newL [.nm 0, .nm 1, .nm 2] 3 0 ({ data := #[] }) [0] hJ23 (by kernel_rfl) (by kernel_rfl) (by kernel_rfl) (by kernel_rfl) (by kernel_rfl) (by kernel_rfl)
    clear hJ23
    have hT30 : TH w [] tb [.nm 0, .nm 1, .nm 2, .mk 3 0 ({ data := #[] }) [0] b25] ([]) w27 := TH.sub hT24 (List.sublist_cons_self _ _)
    have hw28 : Wf [.nm 0, .nm 1, .nm 2, .mk 3 0 ({ data := #[] }) [0] b25] := hw28
    have hg29 : Wg [.nm 0, .nm 1, .nm 2, .mk 3 0 ({ data := #[] }) [0] b25] := hg29
    refine wl_val (.tuple #[.string (txt 3), iN .i64 0]) (by kernel_rfl) (by kernel_rfl) ?_
    refine wl_val (.string (txt 3)) (by kernel_rfl) (by kernel_rfl) ?_
    refine wl_val (iN .i64 0) (by kernel_rfl) (by kernel_rfl) ?_
    refine wl_val (.string (txt 3)) (by kernel_rfl) (by kernel_rfl) ?_
    refine wl_val (iN .i64 0) (by kernel_rfl) (by kernel_rfl) ?_
    refine wl_nil ?_
    refine then_at (F := ⟨(zT18_1 label tb s (.string (txt 3)) (iN .i64 0) un un (.tuple #[.string (txt 3), iN .i64 0] :: pt tb.q :: .string (txt 0) :: .slice (some ⟨q18, 0, none⟩) 1 1 :: .tuple #[.string (txt 3), iN .i64 0] :: .string (txt 3) :: iN .i64 0 :: List.replicate 184 un)).toArray, []⟩) (by kernel_rfl) ?_
    refine wp_seq ?_
    -- region 7
    refine wl_region ?_
    refine wl_val (.pointer (some ⟨tb.q, 0, none⟩)) (by kernel_rfl) (by kernel_rfl) ?_
    refine wl_val (.string (txt 1)) (by kernel_rfl) (by kernel_rfl) ?_
    refine wl_mksT (n := 1) (m := 1) (c := strc [txt 1]) hT30 9 (by kernel_rfl) (by kernel_rfl) ?_
    intro q31 w32 (hT33 : TH w [] tb [.nm 0, .nm 1, .nm 2, .mk 3 0 ({ data := #[] }) [0] b25] ((q31, 9, strc [txt 1]) :: []) w32)
    have hmk39 := Make_ok hT33 hw28 3 ({ data := #[] }) [txt 1] (some ⟨q31, 0, none⟩) 1 (.inr ⟨q31, rfl, List.mem_cons_self ..⟩) (by simp) (by kernel_rfl) (by decide) (strs_le (fun y hy => by
      simp only [List.mem_cons, List.not_mem_nil, or_false] at hy
      rcases hy with rfl
      · exact (by rw [txt_size]; decide)
      )) (by simp) (by simp)
    refine wl_callx (by kernel_rfl) enter18 #[.pointer (some ⟨tb.q, 0, none⟩), iN .i64 3, .string ({ data := #[] }), .slice (some ⟨q31, 0, none⟩) 1 1] (by kernel_rfl) (hmk39) ?_
    rintro _ w40 ⟨x34, es35, hJ36, rfl, hT37⟩
    refine ⟨_, rfl, ?_⟩
    have hw41 := JO.wf hw28 hJ36 (by simp) (by simp) (by simp)
    have hg42 := JO.wg hg29 hw28 hJ36 (by simp) (by simp) (by simp) (by simp)
    obtain ⟨rfl, b38, rfl⟩ := JO.newL [.nm 0, .nm 1, .nm 2, .mk 3 0 ({ data := #[] }) [0] b25] 4 0 ({ data := #[] }) [1] hJ36 (by kernel_rfl) (by kernel_rfl) (by kernel_rfl) (by kernel_rfl) (by kernel_rfl) (by kernel_rfl)
    clear hJ36
    have hT43 : TH w [] tb [.nm 0, .nm 1, .nm 2, .mk 3 0 ({ data := #[] }) [0] b25, .mk 3 0 ({ data := #[] }) [1] b38] ([]) w40 := TH.sub hT37 (List.sublist_cons_self _ _)
    have hw41 : Wf [.nm 0, .nm 1, .nm 2, .mk 3 0 ({ data := #[] }) [0] b25, .mk 3 0 ({ data := #[] }) [1] b38] := hw41
    have hg42 : Wg [.nm 0, .nm 1, .nm 2, .mk 3 0 ({ data := #[] }) [0] b25, .mk 3 0 ({ data := #[] }) [1] b38] := hg42
    refine wl_val (.tuple #[.string (txt 4), iN .i64 0]) (by kernel_rfl) (by kernel_rfl) ?_
    refine wl_val (.string (txt 4)) (by kernel_rfl) (by kernel_rfl) ?_
    refine wl_val (iN .i64 0) (by kernel_rfl) (by kernel_rfl) ?_
    refine wl_val (.string (txt 4)) (by kernel_rfl) (by kernel_rfl) ?_
    refine wl_val (iN .i64 0) (by kernel_rfl) (by kernel_rfl) ?_
    refine wl_nil ?_
    refine then_at (F := ⟨(zT18_1 label tb s (.string (txt 3)) (iN .i64 0) (.string (txt 4)) (iN .i64 0) (.tuple #[.string (txt 3), iN .i64 0] :: pt tb.q :: .string (txt 0) :: .slice (some ⟨q18, 0, none⟩) 1 1 :: .tuple #[.string (txt 3), iN .i64 0] :: .string (txt 3) :: iN .i64 0 :: .tuple #[.string (txt 4), iN .i64 0] :: pt tb.q :: .string (txt 1) :: .slice (some ⟨q31, 0, none⟩) 1 1 :: .tuple #[.string (txt 4), iN .i64 0] :: .string (txt 4) :: iN .i64 0 :: List.replicate 177 un)).toArray, []⟩) (by kernel_rfl) ?_
    refine wp_seq ?_
    -- region 8
    refine wl_region ?_
    refine wl_val (.pointer (some ⟨tb.q, 0, none⟩)) (by kernel_rfl) (by kernel_rfl) ?_
    refine wl_val (.string (txt 0)) (by kernel_rfl) (by kernel_rfl) ?_
    refine wl_val (.string (txt 4)) (by kernel_rfl) (by kernel_rfl) ?_
    refine wl_mksT (n := 2) (m := 2) (c := strc [txt 0, txt 4]) hT43 9 (by kernel_rfl) (by kernel_rfl) ?_
    intro q44 w45 (hT46 : TH w [] tb [.nm 0, .nm 1, .nm 2, .mk 3 0 ({ data := #[] }) [0] b25, .mk 3 0 ({ data := #[] }) [1] b38] ((q44, 9, strc [txt 0, txt 4]) :: []) w45)
    have hmk52 := Make_ok hT46 hw41 4 ({ data := #[] }) [txt 0, txt 4] (some ⟨q44, 0, none⟩) 2 (.inr ⟨q44, rfl, List.mem_cons_self ..⟩) (by simp) (by kernel_rfl) (by decide) (strs_le (fun y hy => by
      simp only [List.mem_cons, List.not_mem_nil, or_false] at hy
      rcases hy with rfl | rfl
      · exact (by rw [txt_size]; decide)
      · exact (by rw [txt_size]; decide)
      )) (by simp) (by simp)
    refine wl_callx (by kernel_rfl) enter18 #[.pointer (some ⟨tb.q, 0, none⟩), iN .i64 4, .string ({ data := #[] }), .slice (some ⟨q44, 0, none⟩) 2 2] (by kernel_rfl) (hmk52) ?_
    rintro _ w53 ⟨x47, es48, hJ49, rfl, hT50⟩
    refine ⟨_, rfl, ?_⟩
    have hw54 := JO.wf hw41 hJ49 (by simp) (by simp) (by simp)
    have hg55 := JO.wg hg42 hw41 hJ49 (by simp) (by simp) (by simp) (by simp)
    obtain ⟨rfl, b51, rfl⟩ := JO.newL [.nm 0, .nm 1, .nm 2, .mk 3 0 ({ data := #[] }) [0] b25, .mk 3 0 ({ data := #[] }) [1] b38] 5 0 ({ data := #[] }) [0, 1] hJ49 (by kernel_rfl) (by kernel_rfl) (by kernel_rfl) (by kernel_rfl) (by kernel_rfl) (by kernel_rfl)
    clear hJ49
    have hT56 : TH w [] tb [.nm 0, .nm 1, .nm 2, .mk 3 0 ({ data := #[] }) [0] b25, .mk 3 0 ({ data := #[] }) [1] b38, .mk 4 0 ({ data := #[] }) [0, 1] b51] ([]) w53 := TH.sub hT50 (List.sublist_cons_self _ _)
    have hw54 : Wf [.nm 0, .nm 1, .nm 2, .mk 3 0 ({ data := #[] }) [0] b25, .mk 3 0 ({ data := #[] }) [1] b38, .mk 4 0 ({ data := #[] }) [0, 1] b51] := hw54
    have hg55 : Wg [.nm 0, .nm 1, .nm 2, .mk 3 0 ({ data := #[] }) [0] b25, .mk 3 0 ({ data := #[] }) [1] b38, .mk 4 0 ({ data := #[] }) [0, 1] b51] := hg55
    refine wl_val (.tuple #[.string (txt 5), iN .i64 0]) (by kernel_rfl) (by kernel_rfl) ?_
    refine wl_val (.string (txt 5)) (by kernel_rfl) (by kernel_rfl) ?_
    refine wl_val (iN .i64 0) (by kernel_rfl) (by kernel_rfl) ?_
    refine wl_val (.string (txt 5)) (by kernel_rfl) (by kernel_rfl) ?_
    refine wl_val (iN .i64 0) (by kernel_rfl) (by kernel_rfl) ?_
    refine wl_nil ?_
    refine then_at (F := ⟨(zT18_2 label tb s q18 q31 q44 un un un un un un (List.replicate 169 un)).toArray, []⟩) (by kernel_rfl) ?_
    refine wp_seq ?_
    -- region 9
    refine wl_region ?_
    refine wl_val (.pointer (some ⟨tb.q, 0, none⟩)) (by kernel_rfl) (by kernel_rfl) ?_
    refine wl_val (.string (txt 1)) (by kernel_rfl) (by kernel_rfl) ?_
    refine wl_val (.string (txt 3)) (by kernel_rfl) (by kernel_rfl) ?_
    refine wl_mksT (n := 2) (m := 2) (c := strc [txt 1, txt 3]) hT56 9 (by kernel_rfl) (by kernel_rfl) ?_
    intro q57 w58 (hT59 : TH w [] tb [.nm 0, .nm 1, .nm 2, .mk 3 0 ({ data := #[] }) [0] b25, .mk 3 0 ({ data := #[] }) [1] b38, .mk 4 0 ({ data := #[] }) [0, 1] b51] ((q57, 9, strc [txt 1, txt 3]) :: []) w58)
    have hmk65 := Make_ok hT59 hw54 4 ({ data := #[] }) [txt 1, txt 3] (some ⟨q57, 0, none⟩) 2 (.inr ⟨q57, rfl, List.mem_cons_self ..⟩) (by simp) (by kernel_rfl) (by decide) (strs_le (fun y hy => by
      simp only [List.mem_cons, List.not_mem_nil, or_false] at hy
      rcases hy with rfl | rfl
      · exact (by rw [txt_size]; decide)
      · exact (by rw [txt_size]; decide)
      )) (by simp) (by simp)
    refine wl_callx (by kernel_rfl) enter18 #[.pointer (some ⟨tb.q, 0, none⟩), iN .i64 4, .string ({ data := #[] }), .slice (some ⟨q57, 0, none⟩) 2 2] (by kernel_rfl) (hmk65) ?_
    rintro _ w66 ⟨x60, es61, hJ62, rfl, hT63⟩
    refine ⟨_, rfl, ?_⟩
    have hw67 := JO.wf hw54 hJ62 (by simp) (by simp) (by simp)
    have hg68 := JO.wg hg55 hw54 hJ62 (by simp) (by simp) (by simp) (by simp)
    obtain ⟨rfl, rfl⟩ := JO.oldL [.nm 0, .nm 1, .nm 2, .mk 3 0 ({ data := #[] }) [0] b25, .mk 3 0 ({ data := #[] }) [1] b38, .mk 4 0 ({ data := #[] }) [0, 1] b51] 5 hJ62 (by kernel_rfl) (by kernel_rfl)
    clear hJ62
    have hT69 : TH w [] tb [.nm 0, .nm 1, .nm 2, .mk 3 0 ({ data := #[] }) [0] b25, .mk 3 0 ({ data := #[] }) [1] b38, .mk 4 0 ({ data := #[] }) [0, 1] b51] ([]) w66 := TH.sub hT63 (List.sublist_cons_self _ _)
    have hw67 : Wf [.nm 0, .nm 1, .nm 2, .mk 3 0 ({ data := #[] }) [0] b25, .mk 3 0 ({ data := #[] }) [1] b38, .mk 4 0 ({ data := #[] }) [0, 1] b51] := hw67
    have hg68 : Wg [.nm 0, .nm 1, .nm 2, .mk 3 0 ({ data := #[] }) [0] b25, .mk 3 0 ({ data := #[] }) [1] b38, .mk 4 0 ({ data := #[] }) [0, 1] b51] := hg68
    refine wl_val (.tuple #[.string (txt 5), iN .i64 0]) (by kernel_rfl) (by kernel_rfl) ?_
    refine wl_val (.string (txt 5)) (by kernel_rfl) (by kernel_rfl) ?_
    refine wl_val (iN .i64 0) (by kernel_rfl) (by kernel_rfl) ?_
    refine wl_val (.string (txt 5)) (by kernel_rfl) (by kernel_rfl) ?_
    refine wl_val (iN .i64 0) (by kernel_rfl) (by kernel_rfl) ?_
    refine wl_nil ?_
    refine then_at (F := ⟨(zT18_2 label tb s q18 q31 q44 (.string (txt 5)) (iN .i64 0) un un un un (.tuple #[.string (txt 5), iN .i64 0] :: pt tb.q :: .string (txt 1) :: .string (txt 3) :: .slice (some ⟨q57, 0, none⟩) 2 2 :: .tuple #[.string (txt 5), iN .i64 0] :: .string (txt 5) :: iN .i64 0 :: List.replicate 161 un)).toArray, []⟩) (by kernel_rfl) ?_
    refine wp_seq ?_
    have hlz : (label.extract 0 (min label.size 20)).size ≤ 20 := by rw [ByteArray.size_extract]; omega
    -- region 10
    refine wl_region ?_
    refine wl_val (.pointer (some ⟨tb.q, 0, none⟩)) (by kernel_rfl) (by kernel_rfl) ?_
    refine wl_val (.string label) (by kernel_rfl) (by kernel_rfl) ?_
    refine wl_val (.string label) (by kernel_rfl) (by kernel_rfl) ?_
    refine wl_val (iN .i64 label.size) (by kernel_rfl) (run_len (s := label) (by kernel_rfl)) ?_
    refine wl_val (iN .i64 (min label.size 20)) (by kernel_rfl) (run_min (i := label.size) (j := 20) (by kernel_rfl) (by kernel_rfl)) ?_
    refine wl_val (.string (label.extract 0 (min label.size 20))) (by kernel_rfl) (run_cut_hi (s := label) (b := min label.size 20) (by kernel_rfl) (by kernel_rfl) (by omega)) ?_
    refine wl_val (.string (txt 5)) (by kernel_rfl) (by kernel_rfl) ?_
    refine wl_mksT (n := 1) (m := 1) (c := strc [txt 5]) hT69 9 (by kernel_rfl) (by kernel_rfl) ?_
    intro q70 w71 (hT72 : TH w [] tb [.nm 0, .nm 1, .nm 2, .mk 3 0 ({ data := #[] }) [0] b25, .mk 3 0 ({ data := #[] }) [1] b38, .mk 4 0 ({ data := #[] }) [0, 1] b51] ((q70, 9, strc [txt 5]) :: []) w71)
    have hmk78 := Make_ok hT72 hw67 5 (label.extract 0 (min label.size 20)) [txt 5] (some ⟨q70, 0, none⟩) 1 (.inr ⟨q70, rfl, List.mem_cons_self ..⟩) (by simp) (by kernel_rfl) (by omega) (strs_le (fun y hy => by
      simp only [List.mem_cons, List.not_mem_nil, or_false] at hy
      rcases hy with rfl
      · exact (by rw [txt_size]; decide)
      )) (by simp) (by simp)
    refine wl_callx (by kernel_rfl) enter18 #[.pointer (some ⟨tb.q, 0, none⟩), iN .i64 5, .string (label.extract 0 (min label.size 20)), .slice (some ⟨q70, 0, none⟩) 1 1] (by kernel_rfl) (hmk78) ?_
    rintro _ w79 ⟨x73, es74, hJ75, rfl, hT76⟩
    refine ⟨_, rfl, ?_⟩
    have hw80 := JO.wf hw67 hJ75 (by simp) (by simp) (by simp)
    have hg81 := JO.wg hg68 hw67 hJ75 (by simp) (by simp) (by simp) (by simp)
    obtain ⟨rfl, b77, rfl⟩ := JO.newL [.nm 0, .nm 1, .nm 2, .mk 3 0 ({ data := #[] }) [0] b25, .mk 3 0 ({ data := #[] }) [1] b38, .mk 4 0 ({ data := #[] }) [0, 1] b51] 6 0 (label.extract 0 (min label.size 20)) [5] hJ75 (by kernel_rfl) (by kernel_rfl) (by kernel_rfl) (by kernel_rfl) (by kernel_rfl) (by kernel_rfl)
    clear hJ75
    have hT82 : TH w [] tb [.nm 0, .nm 1, .nm 2, .mk 3 0 ({ data := #[] }) [0] b25, .mk 3 0 ({ data := #[] }) [1] b38, .mk 4 0 ({ data := #[] }) [0, 1] b51, .mk 5 0 (label.extract 0 (min label.size 20)) [5] b77] ([]) w79 := TH.sub hT76 (List.sublist_cons_self _ _)
    have hw80 : Wf [.nm 0, .nm 1, .nm 2, .mk 3 0 ({ data := #[] }) [0] b25, .mk 3 0 ({ data := #[] }) [1] b38, .mk 4 0 ({ data := #[] }) [0, 1] b51, .mk 5 0 (label.extract 0 (min label.size 20)) [5] b77] := hw80
    have hg81 : Wg [.nm 0, .nm 1, .nm 2, .mk 3 0 ({ data := #[] }) [0] b25, .mk 3 0 ({ data := #[] }) [1] b38, .mk 4 0 ({ data := #[] }) [0, 1] b51, .mk 5 0 (label.extract 0 (min label.size 20)) [5] b77] := hg81
    refine wl_val (.tuple #[.string (txt 6), iN .i64 0]) (by kernel_rfl) (by kernel_rfl) ?_
    refine wl_val (.string (txt 6)) (by kernel_rfl) (by kernel_rfl) ?_
    refine wl_val (iN .i64 0) (by kernel_rfl) (by kernel_rfl) ?_
    refine wl_val (.string (txt 6)) (by kernel_rfl) (by kernel_rfl) ?_
    refine wl_val (iN .i64 0) (by kernel_rfl) (by kernel_rfl) ?_
    refine wl_nil ?_
    refine then_at (F := ⟨(zT18_2 label tb s q18 q31 q44 (.string (txt 5)) (iN .i64 0) (.string (txt 6)) (iN .i64 0) un un (.tuple #[.string (txt 5), iN .i64 0] :: pt tb.q :: .string (txt 1) :: .string (txt 3) :: .slice (some ⟨q57, 0, none⟩) 2 2 :: .tuple #[.string (txt 5), iN .i64 0] :: .string (txt 5) :: iN .i64 0 :: .tuple #[.string (txt 6), iN .i64 0] :: pt tb.q :: .string label :: .string label :: iN .i64 label.size :: iN .i64 (min label.size 20) :: .string (label.extract 0 (min label.size 20)) :: .string (txt 5) :: .slice (some ⟨q70, 0, none⟩) 1 1 :: .tuple #[.string (txt 6), iN .i64 0] :: .string (txt 6) :: iN .i64 0 :: List.replicate 149 un)).toArray, []⟩) (by kernel_rfl) ?_
    refine wp_seq ?_
    -- region 11
    refine wl_region ?_
    refine wl_val (.pointer (some ⟨tb.q, 0, none⟩)) (by kernel_rfl) (by kernel_rfl) ?_
    refine wl_val (.string (txt 6)) (by kernel_rfl) (by kernel_rfl) ?_
    refine wl_val (.string ({ data := #[] })) (by kernel_rfl) (by kernel_rfl) ?_
    refine wl_val (.string (txt 2)) (by kernel_rfl) (by kernel_rfl) ?_
    refine wl_val (.string (sS { data := #[] })) (by kernel_rfl) (run_cat (s := { data := #[] }) (t := txt 2) (by kernel_rfl) (by kernel_rfl) (by simp only [txt_size]; decide)) ?_
    refine wl_mksT (n := 4) (m := 4) (c := strc [txt 6, nonce, adS, sS { data := #[] }]) hT82 9 (by kernel_rfl) (by kernel_rfl) ?_
    intro q83 w84 (hT85 : TH w [] tb [.nm 0, .nm 1, .nm 2, .mk 3 0 ({ data := #[] }) [0] b25, .mk 3 0 ({ data := #[] }) [1] b38, .mk 4 0 ({ data := #[] }) [0, 1] b51, .mk 5 0 (label.extract 0 (min label.size 20)) [5] b77] ((q83, 9, strc [txt 6, nonce, adS, sS { data := #[] }]) :: []) w84)
    have hmk91 := Make_ok hT85 hw80 6 ({ data := #[] }) [txt 6, nonce, adS, sS { data := #[] }] (some ⟨q83, 0, none⟩) 4 (.inr ⟨q83, rfl, List.mem_cons_self ..⟩) (by simp) (by kernel_rfl) (by decide) (strs_le (fun y hy => by
      simp only [List.mem_cons, List.not_mem_nil, or_false] at hy
      rcases hy with rfl | rfl | rfl | rfl
      · exact (by rw [txt_size]; decide)
      · exact (by decide)
      · exact (by decide)
      · exact (by rw [sS_size]; first | omega | decide)
      )) (by simp) (by simp)
    refine wl_callx (by kernel_rfl) enter18 #[.pointer (some ⟨tb.q, 0, none⟩), iN .i64 6, .string ({ data := #[] }), .slice (some ⟨q83, 0, none⟩) 4 4] (by kernel_rfl) (hmk91) ?_
    rintro _ w92 ⟨x86, es87, hJ88, rfl, hT89⟩
    refine ⟨_, rfl, ?_⟩
    have hw93 := JO.wf hw80 hJ88 (by simp) (by simp) (by simp)
    have hg94 := JO.wg hg81 hw80 hJ88 (by simp) (by simp) (by simp) (by simp)
    obtain ⟨rfl, b90, rfl⟩ := JO.newL [.nm 0, .nm 1, .nm 2, .mk 3 0 ({ data := #[] }) [0] b25, .mk 3 0 ({ data := #[] }) [1] b38, .mk 4 0 ({ data := #[] }) [0, 1] b51, .mk 5 0 (label.extract 0 (min label.size 20)) [5] b77, .dt nonce, .dt adS] 9 0 ({ data := #[] }) [6, 7, 8, 2] hJ88 (by kernel_rfl) (by kernel_rfl) (by kernel_rfl) (by kernel_rfl) (by kernel_rfl) (by kernel_rfl)
    clear hJ88
    have hT95 : TH w [] tb [.nm 0, .nm 1, .nm 2, .mk 3 0 ({ data := #[] }) [0] b25, .mk 3 0 ({ data := #[] }) [1] b38, .mk 4 0 ({ data := #[] }) [0, 1] b51, .mk 5 0 (label.extract 0 (min label.size 20)) [5] b77, .dt nonce, .dt adS, .mk 6 0 ({ data := #[] }) [6, 7, 8, 2] b90] ([]) w92 := TH.sub hT89 (List.sublist_cons_self _ _)
    have hw93 : Wf [.nm 0, .nm 1, .nm 2, .mk 3 0 ({ data := #[] }) [0] b25, .mk 3 0 ({ data := #[] }) [1] b38, .mk 4 0 ({ data := #[] }) [0, 1] b51, .mk 5 0 (label.extract 0 (min label.size 20)) [5] b77, .dt nonce, .dt adS, .mk 6 0 ({ data := #[] }) [6, 7, 8, 2] b90] := hw93
    have hg94 : Wg [.nm 0, .nm 1, .nm 2, .mk 3 0 ({ data := #[] }) [0] b25, .mk 3 0 ({ data := #[] }) [1] b38, .mk 4 0 ({ data := #[] }) [0, 1] b51, .mk 5 0 (label.extract 0 (min label.size 20)) [5] b77, .dt nonce, .dt adS, .mk 6 0 ({ data := #[] }) [6, 7, 8, 2] b90] := hg94
    refine wl_val (.tuple #[.string (txt 9), iN .i64 0]) (by kernel_rfl) (by kernel_rfl) ?_
    refine wl_val (.string (txt 9)) (by kernel_rfl) (by kernel_rfl) ?_
    refine wl_val (iN .i64 0) (by kernel_rfl) (by kernel_rfl) ?_
    refine wl_val (.string (txt 9)) (by kernel_rfl) (by kernel_rfl) ?_
    refine wl_val (iN .i64 0) (by kernel_rfl) (by kernel_rfl) ?_
    refine wl_nil ?_
    refine then_at (F := ⟨(zT18_2 label tb s q18 q31 q44 (.string (txt 5)) (iN .i64 0) (.string (txt 6)) (iN .i64 0) (.string (txt 9)) (iN .i64 0) (.tuple #[.string (txt 5), iN .i64 0] :: pt tb.q :: .string (txt 1) :: .string (txt 3) :: .slice (some ⟨q57, 0, none⟩) 2 2 :: .tuple #[.string (txt 5), iN .i64 0] :: .string (txt 5) :: iN .i64 0 :: .tuple #[.string (txt 6), iN .i64 0] :: pt tb.q :: .string label :: .string label :: iN .i64 label.size :: iN .i64 (min label.size 20) :: .string (label.extract 0 (min label.size 20)) :: .string (txt 5) :: .slice (some ⟨q70, 0, none⟩) 1 1 :: .tuple #[.string (txt 6), iN .i64 0] :: .string (txt 6) :: iN .i64 0 :: .tuple #[.string (txt 9), iN .i64 0] :: pt tb.q :: .string (txt 6) :: .string ({ data := #[] }) :: .string (txt 2) :: .string (sS { data := #[] }) :: .slice (some ⟨q83, 0, none⟩) 4 4 :: .tuple #[.string (txt 9), iN .i64 0] :: .string (txt 9) :: iN .i64 0 :: List.replicate 139 un)).toArray, []⟩) (by kernel_rfl) ?_
    refine wp_seq ?_
    refine wp_seq ?_
    -- region 12
    refine wl_region ?_
    refine wl_val (iN .i64 0) (by kernel_rfl) (by kernel_rfl) ?_
    refine wl_val (.bool false) (by kernel_rfl) (run_nei (k := .i64) (a := 0) (b := 0) (by kernel_rfl) (by kernel_rfl) false (by decide)) ?_
    refine wl_val (.bool false) (by kernel_rfl) (by kernel_rfl) ?_
    refine wl_val (iN .i64 0) (by kernel_rfl) (by kernel_rfl) ?_
    refine wl_val (.bool false) (by kernel_rfl) (run_nei (k := .i64) (a := 0) (b := 0) (by kernel_rfl) (by kernel_rfl) false (by decide)) ?_
    refine wl_val (.bool false) (by kernel_rfl) (by kernel_rfl) ?_
    refine wl_val (.bool false) (by kernel_rfl) (by kernel_rfl) ?_
    refine wl_val (iN .i64 0) (by kernel_rfl) (by kernel_rfl) ?_
    refine wl_val (.bool false) (by kernel_rfl) (run_nei (k := .i64) (a := 0) (b := 0) (by kernel_rfl) (by kernel_rfl) false (by decide)) ?_
    refine wl_val (.bool false) (by kernel_rfl) (by kernel_rfl) ?_
    refine wl_val (.bool false) (by kernel_rfl) (by kernel_rfl) ?_
    refine wl_val (iN .i64 0) (by kernel_rfl) (by kernel_rfl) ?_
    refine wl_val (.bool false) (by kernel_rfl) (run_nei (k := .i64) (a := 0) (b := 0) (by kernel_rfl) (by kernel_rfl) false (by decide)) ?_
    refine wl_val (.bool false) (by kernel_rfl) (by kernel_rfl) ?_
    refine wl_val (.bool false) (by kernel_rfl) (by kernel_rfl) ?_
    refine wl_val (iN .i64 0) (by kernel_rfl) (by kernel_rfl) ?_
    refine wl_val (.bool false) (by kernel_rfl) (run_nei (k := .i64) (a := 0) (b := 0) (by kernel_rfl) (by kernel_rfl) false (by decide)) ?_
    refine wl_val (.bool false) (by kernel_rfl) (by kernel_rfl) ?_
    refine wl_val (.bool false) (by kernel_rfl) (by kernel_rfl) ?_
    refine wl_val (iN .i64 0) (by kernel_rfl) (by kernel_rfl) ?_
    refine wl_val (.bool false) (by kernel_rfl) (run_nei (k := .i64) (a := 0) (b := 0) (by kernel_rfl) (by kernel_rfl) false (by decide)) ?_
    refine wl_val (.bool false) (by kernel_rfl) (by kernel_rfl) ?_
    refine wl_val (.bool false) (by kernel_rfl) (by kernel_rfl) ?_
    refine wl_val (.string (txt 5)) (by kernel_rfl) (by kernel_rfl) ?_
    refine wl_val (.string (txt 5)) (by kernel_rfl) (by kernel_rfl) ?_
    refine wl_val (.bool false) (by kernel_rfl) (run_nes (s := txt 5) (t := txt 5) (by kernel_rfl) (by kernel_rfl) false (decide_eq_true rfl)) ?_
    refine wl_val (.bool false) (by kernel_rfl) (by kernel_rfl) ?_
    refine wl_nil ?_
    refine then_at (F := ⟨(zT18_3 label tb s q18 q31 q44 q57 q70 q83 un (List.replicate 112 un)).toArray, []⟩) (by kernel_rfl) ?_
    refine wp_cond_false (by kernel_rfl) ?_
    refine wp_skip ?_
    refine then_at (F := ⟨(zT18_3 label tb s q18 q31 q44 q57 q70 q83 un (List.replicate 112 un)).toArray, []⟩) (by kernel_rfl) ?_
    refine wp_seq ?_
    refine wp_seq ?_
    have hwl : (wth 10 (sS { data := #[] })).length = 1 := by kernel_rfl
    -- region 14
    refine wl_region ?_
    refine wl_val (.pointer (some ⟨tb.q, 0, none⟩)) (by kernel_rfl) (by kernel_rfl) ?_
    refine wl_val (.string ({ data := #[] })) (by kernel_rfl) (by kernel_rfl) ?_
    refine wl_val (.string (txt 2)) (by kernel_rfl) (by kernel_rfl) ?_
    refine wl_val (.string (sS { data := #[] })) (by kernel_rfl) (run_cat (s := { data := #[] }) (t := txt 2) (by kernel_rfl) (by kernel_rfl) (by simp only [txt_size]; decide)) ?_
    have hszS : (sS { data := #[] }).size ≤ 1000000 := by rw [sS_size]; decide
    have hwi97 := Within_any (TH.view hT95) (by simp) (cell_below (TH.below hT95) hv) (sS { data := #[] }) hszS
    refine wl_callx (by kernel_rfl) enter13 #[.pointer (some ⟨tb.q, 0, none⟩), .string (sS { data := #[] })] (by kernel_rfl) (hwi97) ?_
    rintro _ w98 ⟨ow, cw, rfl, _, hb96⟩
    refine ⟨_, rfl, ?_⟩
    have hT99 : TH w [] tb [.nm 0, .nm 1, .nm 2, .mk 3 0 ({ data := #[] }) [0] b25, .mk 3 0 ({ data := #[] }) [1] b38, .mk 4 0 ({ data := #[] }) [0, 1] b51, .mk 5 0 (label.extract 0 (min label.size 20)) [5] b77, .dt nonce, .dt adS, .mk 6 0 ({ data := #[] }) [6, 7, 8, 2] b90] ([]) w98 := TH.keep hT95 hb96
    refine wl_val (iN .i64 ((wth 10 (sS { data := #[] })).length)) (by kernel_rfl) (by kernel_rfl) ?_
    refine wl_val (.bool false) (by kernel_rfl) (run_nei (k := .i64) (a := (wth 10 (sS { data := #[] })).length) (b := 1) (by kernel_rfl) (by kernel_rfl) false (decide_eq_false (fun h => h hwl))) ?_
    refine wl_nil ?_
    refine then_at (F := ⟨(zT18_3 label tb s q18 q31 q44 q57 q70 q83 un (pt tb.q :: .string ({ data := #[] }) :: .string (txt 2) :: .string (sS { data := #[] }) :: .slice ow (wth 10 (sS { data := #[] })).length cw :: iN .i64 ((wth 10 (sS { data := #[] })).length) :: .bool false :: List.replicate 105 un)).toArray, []⟩) (by kernel_rfl) ?_
    refine wp_cond_false (by kernel_rfl) ?_
    refine wp_skip ?_
    refine then_at (F := ⟨(zT18_3 label tb s q18 q31 q44 q57 q70 q83 un (pt tb.q :: .string ({ data := #[] }) :: .string (txt 2) :: .string (sS { data := #[] }) :: .slice ow (wth 10 (sS { data := #[] })).length cw :: iN .i64 ((wth 10 (sS { data := #[] })).length) :: .bool false :: List.replicate 105 un)).toArray, []⟩) (by kernel_rfl) ?_
    refine wp_seq ?_
    -- region 16
    refine wl_region ?_
    refine wl_val (.pointer (some ⟨tb.q, 0, none⟩)) (by kernel_rfl) (by kernel_rfl) ?_
    refine wl_val (.string (txt 3)) (by kernel_rfl) (by kernel_rfl) ?_
    refine wl_val (.string (txt 4)) (by kernel_rfl) (by kernel_rfl) ?_
    refine wl_val (.string pqS) (by kernel_rfl) (run_cat (s := txt 3) (t := txt 4) (by kernel_rfl) (by kernel_rfl) (by simp only [txt_size]; decide)) ?_
    refine wl_val (.string (txt 9)) (by kernel_rfl) (by kernel_rfl) ?_
    refine wl_val (.string (ahS 9)) (by kernel_rfl) (run_cat (s := aheadS) (t := txt 9) (by kernel_rfl) (by kernel_rfl) (by simp only [txt_size]; decide)) ?_
    refine wl_mksT (n := 2) (m := 2) (c := strc [pqS, ahS 9]) hT99 9 (by kernel_rfl) (by kernel_rfl) ?_
    intro q100 w101 (hT102 : TH w [] tb [.nm 0, .nm 1, .nm 2, .mk 3 0 ({ data := #[] }) [0] b25, .mk 3 0 ({ data := #[] }) [1] b38, .mk 4 0 ({ data := #[] }) [0, 1] b51, .mk 5 0 (label.extract 0 (min label.size 20)) [5] b77, .dt nonce, .dt adS, .mk 6 0 ({ data := #[] }) [6, 7, 8, 2] b90] ((q100, 9, strc [pqS, ahS 9]) :: []) w101)
    have hkn107 := Known_any (TH.view hT102) hw93 hg94 (by simp) (fun i u hu => by
      have hmm := List.mem_of_getElem? hu
      simp only [List.mem_cons, List.not_mem_nil, or_false, false_or, reduceCtorEq, Ent.dt.injEq] at hmm
      rcases hmm with rfl | rfl
      · exact (by decide)
      · exact (by decide)
      ) (cell_below (TH.below hT102) hv) [pqS, ahS 9] (some ⟨q100, 0, none⟩) 2 (.inr ⟨q100, rfl, TH.blk hT102 (x := (q100, 9, strc [pqS, ahS 9])) (List.mem_cons_self ..)⟩) (strs_le (fun y hy => by
      simp only [List.mem_cons, List.not_mem_nil, or_false] at hy
      rcases hy with rfl | rfl
      · exact (by rw [pqS_size]; decide)
      · exact (by rw [ahS_size]; decide)
      )) (by simp)
    refine wl_callx (by kernel_rfl) enter19 #[.pointer (some ⟨tb.q, 0, none⟩), .slice (some ⟨q100, 0, none⟩) 2 2] (by kernel_rfl) (hkn107) ?_
    rintro _ w108 ⟨kb103, rfl, hl104, hB105, hb106⟩
    refine ⟨_, rfl, ?_⟩
    have hk109 : knownF [.nm 0, .nm 1, .nm 2, .mk 3 0 ({ data := #[] }) [0] b25, .mk 3 0 ({ data := #[] }) [1] b38, .mk 4 0 ({ data := #[] }) [0, 1] b51, .mk 5 0 (label.extract 0 (min label.size 20)) [5] b77, .dt nonce, .dt adS, .mk 6 0 ({ data := #[] }) [6, 7, 8, 2] b90] [pqS, ahS 9] = [false, false, false, true, true, false, false, true, true, true] := knownL (m := 10) (l := [.n, .n, .n, .m 3 0 [0], .m 3 0 [1], .m 4 0 [0, 1], .m 5 0 [5], .d [], .d [], .m 6 0 [6, 7, 8, 2]]) (q := [[3, 4], [9]]) rfl (by kernel_rfl) (by kernel_rfl) (by kernel_rfl)
    rw [hk109] at hB105
    have hT110 := TH.add hT102 hb106 hl104 hB105
    have hT111 : TH w [] tb [.nm 0, .nm 1, .nm 2, .mk 3 0 ({ data := #[] }) [0] b25, .mk 3 0 ({ data := #[] }) [1] b38, .mk 4 0 ({ data := #[] }) [0, 1] b51, .mk 5 0 (label.extract 0 (min label.size 20)) [5] b77, .dt nonce, .dt adS, .mk 6 0 ({ data := #[] }) [6, 7, 8, 2] b90] ((kb103, 4, boc [false, false, false, true, true, false, false, true, true, true]) :: []) w108 := TH.sub hT110 (List.Sublist.cons_cons _ (List.sublist_cons_self _ _))
    refine wl_val (.slice (some ⟨kb103, 0, none⟩) 10 10) (by kernel_rfl) (by kernel_rfl) ?_
    refine wl_nil ?_
    refine then_at (F := ⟨(zT18_3 label tb s q18 q31 q44 q57 q70 q83 (.slice (some ⟨kb103, 0, none⟩) 10 10) (pt tb.q :: .string ({ data := #[] }) :: .string (txt 2) :: .string (sS { data := #[] }) :: .slice ow (wth 10 (sS { data := #[] })).length cw :: iN .i64 ((wth 10 (sS { data := #[] })).length) :: .bool false :: un :: pt tb.q :: .string (txt 3) :: .string (txt 4) :: .string pqS :: .string (txt 9) :: .string (ahS 9) :: .slice (some ⟨q100, 0, none⟩) 2 2 :: .slice (some ⟨kb103, 0, none⟩) 10 10 :: List.replicate 96 un)).toArray, []⟩) (by kernel_rfl) ?_
    refine wp_seq ?_
    refine wp_seq ?_
    -- region 17
    refine wl_region ?_
    refine wl_val (.slice (some ⟨kb103, 0, none⟩) 10 10) (by kernel_rfl) (by kernel_rfl) ?_
    refine wl_val (iN .i64 10) (by kernel_rfl) (by kernel_rfl) ?_
    refine wl_val (.pointer (some ⟨tb.q, 0, none⟩)) (by kernel_rfl) (by kernel_rfl) ?_
    obtain ⟨_, hL112, _, _, rfl⟩ := TH.len (n := 10) hT111 rfl
    refine wl_callx (by kernel_rfl) enter20 #[.pointer (some ⟨tb.q, 0, none⟩)] (by kernel_rfl) (Len_any hL112) ?_
    rintro _ w114 ⟨rfl, hb113⟩
    refine ⟨_, rfl, ?_⟩
    have hT115 : TH w [] tb [.nm 0, .nm 1, .nm 2, .mk 3 0 ({ data := #[] }) [0] b25, .mk 3 0 ({ data := #[] }) [1] b38, .mk 4 0 ({ data := #[] }) [0, 1] b51, .mk 5 0 (label.extract 0 (min label.size 20)) [5] b77, .dt nonce, .dt adS, .mk 6 0 ({ data := #[] }) [6, 7, 8, 2] b90] ((kb103, 4, boc [false, false, false, true, true, false, false, true, true, true]) :: []) w114 := TH.keep hT111 hb113
    refine wl_val (.bool false) (by kernel_rfl) (run_nei (k := .i64) (a := 10) (b := 10) (by kernel_rfl) (by kernel_rfl) false (by decide)) ?_
    refine wl_val (.bool false) (by kernel_rfl) (by kernel_rfl) ?_
    refine wl_val (.slice (some ⟨kb103, 0, none⟩) 10 10) (by kernel_rfl) (by kernel_rfl) ?_
    refine wl_val (.pointer (some ⟨kb103, 0, none⟩)) (by kernel_rfl) (run_addr_slice (q := kb103) (n := 10) (m := 10) (a := 0) Try.underlying46 (fun w => Try.sizeOf4 w) (by kernel_rfl) (by kernel_rfl) (by decide)) ?_
    refine wl_val (.bool false) (by kernel_rfl) (run_load1 (fun w => Try.isAgg4 w) (by kernel_rfl) (((TH.blk hT115 (x := (kb103, 4, boc [false, false, false, true, true, false, false, true, true, true])) (by simp)).cell 0).trans rfl)) ?_
    refine wl_val (.bool false) (by kernel_rfl) (by kernel_rfl) ?_
    refine wl_val (.bool false) (by kernel_rfl) (by kernel_rfl) ?_
    refine wl_val (.slice (some ⟨kb103, 0, none⟩) 10 10) (by kernel_rfl) (by kernel_rfl) ?_
    refine wl_val (.pointer (some ⟨kb103, 1, none⟩)) (by kernel_rfl) (run_addr_slice (q := kb103) (n := 10) (m := 10) (a := 1) Try.underlying46 (fun w => Try.sizeOf4 w) (by kernel_rfl) (by kernel_rfl) (by decide)) ?_
    refine wl_val (.bool false) (by kernel_rfl) (run_load1 (fun w => Try.isAgg4 w) (by kernel_rfl) (((TH.blk hT115 (x := (kb103, 4, boc [false, false, false, true, true, false, false, true, true, true])) (by simp)).cell 1).trans rfl)) ?_
    refine wl_val (.bool false) (by kernel_rfl) (by kernel_rfl) ?_
    refine wl_val (.bool false) (by kernel_rfl) (by kernel_rfl) ?_
    refine wl_val (.slice (some ⟨kb103, 0, none⟩) 10 10) (by kernel_rfl) (by kernel_rfl) ?_
    refine wl_val (.pointer (some ⟨kb103, 2, none⟩)) (by kernel_rfl) (run_addr_slice (q := kb103) (n := 10) (m := 10) (a := 2) Try.underlying46 (fun w => Try.sizeOf4 w) (by kernel_rfl) (by kernel_rfl) (by decide)) ?_
    refine wl_val (.bool false) (by kernel_rfl) (run_load1 (fun w => Try.isAgg4 w) (by kernel_rfl) (((TH.blk hT115 (x := (kb103, 4, boc [false, false, false, true, true, false, false, true, true, true])) (by simp)).cell 2).trans rfl)) ?_
    refine wl_val (.bool false) (by kernel_rfl) (by kernel_rfl) ?_
    refine wl_val (.bool false) (by kernel_rfl) (by kernel_rfl) ?_
    refine wl_val (.slice (some ⟨kb103, 0, none⟩) 10 10) (by kernel_rfl) (by kernel_rfl) ?_
    refine wl_val (.pointer (some ⟨kb103, 3, none⟩)) (by kernel_rfl) (run_addr_slice (q := kb103) (n := 10) (m := 10) (a := 3) Try.underlying46 (fun w => Try.sizeOf4 w) (by kernel_rfl) (by kernel_rfl) (by decide)) ?_
    refine wl_val (.bool true) (by kernel_rfl) (run_load1 (fun w => Try.isAgg4 w) (by kernel_rfl) (((TH.blk hT115 (x := (kb103, 4, boc [false, false, false, true, true, false, false, true, true, true])) (by simp)).cell 3).trans rfl)) ?_
    refine wl_val (.bool false) (by kernel_rfl) (by kernel_rfl) ?_
    refine wl_val (.bool false) (by kernel_rfl) (by kernel_rfl) ?_
    refine wl_val (.bool false) (by kernel_rfl) (by kernel_rfl) ?_
    refine wl_val (.slice (some ⟨kb103, 0, none⟩) 10 10) (by kernel_rfl) (by kernel_rfl) ?_
    refine wl_val (.pointer (some ⟨kb103, 4, none⟩)) (by kernel_rfl) (run_addr_slice (q := kb103) (n := 10) (m := 10) (a := 4) Try.underlying46 (fun w => Try.sizeOf4 w) (by kernel_rfl) (by kernel_rfl) (by decide)) ?_
    refine wl_val (.bool true) (by kernel_rfl) (run_load1 (fun w => Try.isAgg4 w) (by kernel_rfl) (((TH.blk hT115 (x := (kb103, 4, boc [false, false, false, true, true, false, false, true, true, true])) (by simp)).cell 4).trans rfl)) ?_
    refine wl_val (.bool false) (by kernel_rfl) (by kernel_rfl) ?_
    refine wl_val (.bool false) (by kernel_rfl) (by kernel_rfl) ?_
    refine wl_val (.bool false) (by kernel_rfl) (by kernel_rfl) ?_
    refine wl_val (.slice (some ⟨kb103, 0, none⟩) 10 10) (by kernel_rfl) (by kernel_rfl) ?_
    refine wl_val (.pointer (some ⟨kb103, 5, none⟩)) (by kernel_rfl) (run_addr_slice (q := kb103) (n := 10) (m := 10) (a := 5) Try.underlying46 (fun w => Try.sizeOf4 w) (by kernel_rfl) (by kernel_rfl) (by decide)) ?_
    refine wl_val (.bool false) (by kernel_rfl) (run_load1 (fun w => Try.isAgg4 w) (by kernel_rfl) (((TH.blk hT115 (x := (kb103, 4, boc [false, false, false, true, true, false, false, true, true, true])) (by simp)).cell 5).trans rfl)) ?_
    refine wl_val (.bool false) (by kernel_rfl) (by kernel_rfl) ?_
    refine wl_val (.bool false) (by kernel_rfl) (by kernel_rfl) ?_
    refine wl_val (.slice (some ⟨kb103, 0, none⟩) 10 10) (by kernel_rfl) (by kernel_rfl) ?_
    refine wl_val (.pointer (some ⟨kb103, 6, none⟩)) (by kernel_rfl) (run_addr_slice (q := kb103) (n := 10) (m := 10) (a := 6) Try.underlying46 (fun w => Try.sizeOf4 w) (by kernel_rfl) (by kernel_rfl) (by decide)) ?_
    refine wl_val (.bool false) (by kernel_rfl) (run_load1 (fun w => Try.isAgg4 w) (by kernel_rfl) (((TH.blk hT115 (x := (kb103, 4, boc [false, false, false, true, true, false, false, true, true, true])) (by simp)).cell 6).trans rfl)) ?_
    refine wl_val (.bool false) (by kernel_rfl) (by kernel_rfl) ?_
    refine wl_nil ?_
    refine then_at (F := ⟨(zT18_4 label tb kb103 s q18 q31 q44 q57 q70 q83 ow cw q100 un un (List.replicate 54 un)).toArray, []⟩) (by kernel_rfl) ?_
    refine wp_cond_false (by kernel_rfl) ?_
    refine wp_skip ?_
    refine then_at (F := ⟨(zT18_4 label tb kb103 s q18 q31 q44 q57 q70 q83 ow cw q100 un un (List.replicate 54 un)).toArray, []⟩) (by kernel_rfl) ?_
    refine wp_seq ?_
    refine wp_seq ?_
    -- region 19
    refine wl_region ?_
    refine wl_val (iN .i64 0) (by kernel_rfl) (by kernel_rfl) ?_
    refine wl_nil ?_
    refine then_at (F := ⟨(zT18_4 label tb kb103 s q18 q31 q44 q57 q70 q83 ow cw q100 (iN .i64 0) un (List.replicate 54 un)).toArray, []⟩) (by kernel_rfl) ?_
    refine wp_block ?_
    refine wp_loop_rounds 3 ?_
    try rw [rounds_succ]
    refine wp_seq ?_
    refine wp_seq ?_
    -- region 20
    refine wl_region ?_
    refine wl_val (iN .i64 0) (by kernel_rfl) (by kernel_rfl) ?_
    refine wl_val (.bool true) (by kernel_rfl) (run_lss (k := .i64) (a := 0) (b := 2) (by kernel_rfl) (by kernel_rfl) true (by decide)) ?_
    refine wl_nil ?_
    refine then_at (F := ⟨(zT18_4 label tb kb103 s q18 q31 q44 q57 q70 q83 ow cw q100 (iN .i64 0) un (iN .i64 0 :: .bool true :: List.replicate 52 un)).toArray, []⟩) (by kernel_rfl) ?_
    refine wp_cond_true (by kernel_rfl) ?_
    refine wp_skip ?_
    refine then_at (F := ⟨(zT18_4 label tb kb103 s q18 q31 q44 q57 q70 q83 ow cw q100 (iN .i64 0) un (iN .i64 0 :: .bool true :: List.replicate 52 un)).toArray, []⟩) (by kernel_rfl) ?_
    refine wp_seq ?_
    refine wp_block ?_
    refine wp_seq ?_
    -- region 22
    refine wl_region ?_
    refine wl_val (.pointer (some ⟨tb.q, 0, none⟩)) (by kernel_rfl) (by kernel_rfl) ?_
    refine wl_val (.string (txt 3)) (by kernel_rfl) (by kernel_rfl) ?_
    refine wl_val (.string (txt 4)) (by kernel_rfl) (by kernel_rfl) ?_
    refine wl_val (.string (txt 9)) (by kernel_rfl) (by kernel_rfl) ?_
    refine wl_val (.string (txt 0)) (by kernel_rfl) (by kernel_rfl) ?_
    refine wl_val (.string (txt 1)) (by kernel_rfl) (by kernel_rfl) ?_
    refine wl_mksT (n := 2) (m := 2) (c := strc [txt 0, txt 1]) hT115 9 (by kernel_rfl) (by kernel_rfl) ?_
    intro q116 w117 (hT118 : TH w [] tb [.nm 0, .nm 1, .nm 2, .mk 3 0 ({ data := #[] }) [0] b25, .mk 3 0 ({ data := #[] }) [1] b38, .mk 4 0 ({ data := #[] }) [0, 1] b51, .mk 5 0 (label.extract 0 (min label.size 20)) [5] b77, .dt nonce, .dt adS, .mk 6 0 ({ data := #[] }) [6, 7, 8, 2] b90] ((q116, 9, strc [txt 0, txt 1]) :: (kb103, 4, boc [false, false, false, true, true, false, false, true, true, true]) :: []) w117)
    refine wl_val (iN .i64 0) (by kernel_rfl) (by kernel_rfl) ?_
    refine wl_val (.pointer (some ⟨q116, 0, none⟩)) (by kernel_rfl) (run_addr_slice (q := q116) (n := 2) (m := 2) (a := 0) Try.underlying48 (fun w => Try.sizeOf9 w) (by kernel_rfl) (by kernel_rfl) (by decide)) ?_
    refine wl_val (.string (txt 0)) (by kernel_rfl) (run_load1 (fun w => Try.isAgg9 w) (by kernel_rfl) (((TH.blk hT118 (x := (q116, 9, strc [txt 0, txt 1])) (by simp)).cell 0).trans rfl)) ?_
    refine wl_mksT (n := 4) (m := 4) (c := strc [txt 3, txt 4, txt 9, txt 0]) hT118 9 (by kernel_rfl) (by kernel_rfl) ?_
    intro q119 w120 (hT121 : TH w [] tb [.nm 0, .nm 1, .nm 2, .mk 3 0 ({ data := #[] }) [0] b25, .mk 3 0 ({ data := #[] }) [1] b38, .mk 4 0 ({ data := #[] }) [0, 1] b51, .mk 5 0 (label.extract 0 (min label.size 20)) [5] b77, .dt nonce, .dt adS, .mk 6 0 ({ data := #[] }) [6, 7, 8, 2] b90] ((q119, 9, strc [txt 3, txt 4, txt 9, txt 0]) :: (q116, 9, strc [txt 0, txt 1]) :: (kb103, 4, boc [false, false, false, true, true, false, false, true, true, true]) :: []) w120)
    have hkn126 := Known_any (TH.view hT121) hw93 hg94 (by simp) (fun i u hu => by
      have hmm := List.mem_of_getElem? hu
      simp only [List.mem_cons, List.not_mem_nil, or_false, false_or, reduceCtorEq, Ent.dt.injEq] at hmm
      rcases hmm with rfl | rfl
      · exact (by decide)
      · exact (by decide)
      ) (cell_below (TH.below hT121) hv) [txt 3, txt 4, txt 9, txt 0] (some ⟨q119, 0, none⟩) 4 (.inr ⟨q119, rfl, TH.blk hT121 (x := (q119, 9, strc [txt 3, txt 4, txt 9, txt 0])) (List.mem_cons_self ..)⟩) (strs_le (fun y hy => by
      simp only [List.mem_cons, List.not_mem_nil, or_false] at hy
      rcases hy with rfl | rfl | rfl | rfl
      · exact (by rw [txt_size]; decide)
      · exact (by rw [txt_size]; decide)
      · exact (by rw [txt_size]; decide)
      · exact (by rw [txt_size]; decide)
      )) (by simp)
    refine wl_callx (by kernel_rfl) enter19 #[.pointer (some ⟨tb.q, 0, none⟩), .slice (some ⟨q119, 0, none⟩) 4 4] (by kernel_rfl) (hkn126) ?_
    rintro _ w127 ⟨kb122, rfl, hl123, hB124, hb125⟩
    refine ⟨_, rfl, ?_⟩
    have hk128 : knownF [.nm 0, .nm 1, .nm 2, .mk 3 0 ({ data := #[] }) [0] b25, .mk 3 0 ({ data := #[] }) [1] b38, .mk 4 0 ({ data := #[] }) [0, 1] b51, .mk 5 0 (label.extract 0 (min label.size 20)) [5] b77, .dt nonce, .dt adS, .mk 6 0 ({ data := #[] }) [6, 7, 8, 2] b90] [txt 3, txt 4, txt 9, txt 0] = [true, false, true, true, true, true, true, true, true, true] := knownL (m := 10) (l := [.n, .n, .n, .m 3 0 [0], .m 3 0 [1], .m 4 0 [0, 1], .m 5 0 [5], .d [], .d [], .m 6 0 [6, 7, 8, 2]]) (q := [[3], [4], [9], [0]]) rfl (by kernel_rfl) (by kernel_rfl) (by kernel_rfl)
    rw [hk128] at hB124
    have hT129 := TH.add hT121 hb125 hl123 hB124
    have hT130 : TH w [] tb [.nm 0, .nm 1, .nm 2, .mk 3 0 ({ data := #[] }) [0] b25, .mk 3 0 ({ data := #[] }) [1] b38, .mk 4 0 ({ data := #[] }) [0, 1] b51, .mk 5 0 (label.extract 0 (min label.size 20)) [5] b77, .dt nonce, .dt adS, .mk 6 0 ({ data := #[] }) [6, 7, 8, 2] b90] ((kb122, 4, boc [true, false, true, true, true, true, true, true, true, true]) :: (q116, 9, strc [txt 0, txt 1]) :: (kb103, 4, boc [false, false, false, true, true, false, false, true, true, true]) :: []) w127 := TH.sub hT129 (List.Sublist.cons_cons _ (List.sublist_cons_self _ _))
    refine wl_val (.slice (some ⟨kb122, 0, none⟩) 10 10) (by kernel_rfl) (by kernel_rfl) ?_
    refine wl_nil ?_
    refine then_at (F := ⟨(zT18_4 label tb kb103 s q18 q31 q44 q57 q70 q83 ow cw q100 (iN .i64 0) (.slice (some ⟨kb122, 0, none⟩) 10 10) (iN .i64 0 :: .bool true :: un :: un :: pt tb.q :: .string (txt 3) :: .string (txt 4) :: .string (txt 9) :: .string (txt 0) :: .string (txt 1) :: .slice (some ⟨q116, 0, none⟩) 2 2 :: iN .i64 0 :: pt q116 :: .string (txt 0) :: .slice (some ⟨q119, 0, none⟩) 4 4 :: .slice (some ⟨kb122, 0, none⟩) 10 10 :: List.replicate 38 un)).toArray, []⟩) (by kernel_rfl) ?_
    refine wp_seq ?_
    -- region 23
    refine wl_region ?_
    refine wl_val (.slice (some ⟨kb122, 0, none⟩) 10 10) (by kernel_rfl) (by kernel_rfl) ?_
    refine wl_val (iN .i64 10) (by kernel_rfl) (by kernel_rfl) ?_
    refine wl_val (.pointer (some ⟨tb.q, 0, none⟩)) (by kernel_rfl) (by kernel_rfl) ?_
    obtain ⟨_, hL131, _, _, rfl⟩ := TH.len (n := 10) hT130 rfl
    refine wl_callx (by kernel_rfl) enter20 #[.pointer (some ⟨tb.q, 0, none⟩)] (by kernel_rfl) (Len_any hL131) ?_
    rintro _ w133 ⟨rfl, hb132⟩
    refine ⟨_, rfl, ?_⟩
    have hT134 : TH w [] tb [.nm 0, .nm 1, .nm 2, .mk 3 0 ({ data := #[] }) [0] b25, .mk 3 0 ({ data := #[] }) [1] b38, .mk 4 0 ({ data := #[] }) [0, 1] b51, .mk 5 0 (label.extract 0 (min label.size 20)) [5] b77, .dt nonce, .dt adS, .mk 6 0 ({ data := #[] }) [6, 7, 8, 2] b90] ((kb122, 4, boc [true, false, true, true, true, true, true, true, true, true]) :: (q116, 9, strc [txt 0, txt 1]) :: (kb103, 4, boc [false, false, false, true, true, false, false, true, true, true]) :: []) w133 := TH.keep hT130 hb132
    refine wl_val (.bool false) (by kernel_rfl) (run_nei (k := .i64) (a := 10) (b := 10) (by kernel_rfl) (by kernel_rfl) false (by decide)) ?_
    refine wl_val (.bool false) (by kernel_rfl) (by kernel_rfl) ?_
    refine wl_val (.slice (some ⟨kb122, 0, none⟩) 10 10) (by kernel_rfl) (by kernel_rfl) ?_
    refine wl_val (.pointer (some ⟨kb122, 2, none⟩)) (by kernel_rfl) (run_addr_slice (q := kb122) (n := 10) (m := 10) (a := 2) Try.underlying46 (fun w => Try.sizeOf4 w) (by kernel_rfl) (by kernel_rfl) (by decide)) ?_
    refine wl_val (.bool true) (by kernel_rfl) (run_load1 (fun w => Try.isAgg4 w) (by kernel_rfl) (((TH.blk hT134 (x := (kb122, 4, boc [true, false, true, true, true, true, true, true, true, true])) (by simp)).cell 2).trans rfl)) ?_
    refine wl_val (.bool false) (by kernel_rfl) (by kernel_rfl) ?_
    refine wl_val (.bool false) (by kernel_rfl) (by kernel_rfl) ?_
    refine wl_val (.bool false) (by kernel_rfl) (by kernel_rfl) ?_
    refine wl_val (.slice (some ⟨kb122, 0, none⟩) 10 10) (by kernel_rfl) (by kernel_rfl) ?_
    refine wl_val (.pointer (some ⟨kb122, 5, none⟩)) (by kernel_rfl) (run_addr_slice (q := kb122) (n := 10) (m := 10) (a := 5) Try.underlying46 (fun w => Try.sizeOf4 w) (by kernel_rfl) (by kernel_rfl) (by decide)) ?_
    refine wl_val (.bool true) (by kernel_rfl) (run_load1 (fun w => Try.isAgg4 w) (by kernel_rfl) (((TH.blk hT134 (x := (kb122, 4, boc [true, false, true, true, true, true, true, true, true, true])) (by simp)).cell 5).trans rfl)) ?_
    refine wl_val (.bool false) (by kernel_rfl) (by kernel_rfl) ?_
    refine wl_val (.bool false) (by kernel_rfl) (by kernel_rfl) ?_
    refine wl_val (.bool false) (by kernel_rfl) (by kernel_rfl) ?_
    refine wl_val (.slice (some ⟨kb122, 0, none⟩) 10 10) (by kernel_rfl) (by kernel_rfl) ?_
    refine wl_val (.pointer (some ⟨kb122, 6, none⟩)) (by kernel_rfl) (run_addr_slice (q := kb122) (n := 10) (m := 10) (a := 6) Try.underlying46 (fun w => Try.sizeOf4 w) (by kernel_rfl) (by kernel_rfl) (by decide)) ?_
    refine wl_val (.bool true) (by kernel_rfl) (run_load1 (fun w => Try.isAgg4 w) (by kernel_rfl) (((TH.blk hT134 (x := (kb122, 4, boc [true, false, true, true, true, true, true, true, true, true])) (by simp)).cell 6).trans rfl)) ?_
    refine wl_val (.bool false) (by kernel_rfl) (by kernel_rfl) ?_
    refine wl_val (.bool false) (by kernel_rfl) (by kernel_rfl) ?_
    refine wl_val (.bool false) (by kernel_rfl) (by kernel_rfl) ?_
    refine wl_val (.slice (some ⟨kb122, 0, none⟩) 10 10) (by kernel_rfl) (by kernel_rfl) ?_
    refine wl_val (iN .i64 0) (by kernel_rfl) (by kernel_rfl) ?_
    refine wl_val (.pointer (some ⟨kb122, 0, none⟩)) (by kernel_rfl) (run_addr_slice (q := kb122) (n := 10) (m := 10) (a := 0) Try.underlying46 (fun w => Try.sizeOf4 w) (by kernel_rfl) (by kernel_rfl) (by decide)) ?_
    refine wl_val (.bool true) (by kernel_rfl) (run_load1 (fun w => Try.isAgg4 w) (by kernel_rfl) (((TH.blk hT134 (x := (kb122, 4, boc [true, false, true, true, true, true, true, true, true, true])) (by simp)).cell 0).trans rfl)) ?_
    refine wl_val (.bool false) (by kernel_rfl) (by kernel_rfl) ?_
    refine wl_val (.bool false) (by kernel_rfl) (by kernel_rfl) ?_
    refine wl_val (.bool false) (by kernel_rfl) (by kernel_rfl) ?_
    refine wl_val (.slice (some ⟨kb122, 0, none⟩) 10 10) (by kernel_rfl) (by kernel_rfl) ?_
    refine wl_val (iN .i64 0) (by kernel_rfl) (by kernel_rfl) ?_
    refine wl_val (iN .i64 (1 - 0)) (by kernel_rfl) (run_sub (k := .i64) (a := 1) (b := 0) (by kernel_rfl) (by kernel_rfl) (by decide) (by decide)) ?_
    refine wl_val (.pointer (some ⟨kb122, 1 - 0, none⟩)) (by kernel_rfl) (run_addr_slice (q := kb122) (n := 10) (m := 10) (a := 1 - 0) Try.underlying46 (fun w => Try.sizeOf4 w) (by kernel_rfl) (by kernel_rfl) (by decide)) ?_
    refine wl_val (.bool false) (by kernel_rfl) (run_load1 (fun w => Try.isAgg4 w) (by kernel_rfl) (((TH.blk hT134 (x := (kb122, 4, boc [true, false, true, true, true, true, true, true, true, true])) (by simp)).cell (1 - 0)).trans rfl)) ?_
    refine wl_val (.bool false) (by kernel_rfl) (by kernel_rfl) ?_
    refine wl_nil ?_
    refine then_at (F := ⟨(zT18_5 label tb kb103 s q18 q31 q44 q57 q70 q83 ow cw q100 kb122 (iN .i64 0) (.slice (some ⟨kb122, 0, none⟩) 10 10) (iN .i64 0) un un (.slice (some ⟨q116, 0, none⟩) 2 2) (iN .i64 0) (pt q116) (.string (txt 0)) (.slice (some ⟨q119, 0, none⟩) 4 4) (.slice (some ⟨kb122, 0, none⟩) 10 10) ([])).toArray, []⟩) (by kernel_rfl) ?_
    refine wp_cond_false (by kernel_rfl) ?_
    refine wp_skip ?_
    refine block_normal ?_
    refine then_at (F := ⟨(zT18_5 label tb kb103 s q18 q31 q44 q57 q70 q83 ow cw q100 kb122 (iN .i64 0) (.slice (some ⟨kb122, 0, none⟩) 10 10) (iN .i64 0) un un (.slice (some ⟨q116, 0, none⟩) 2 2) (iN .i64 0) (pt q116) (.string (txt 0)) (.slice (some ⟨q119, 0, none⟩) 4 4) (.slice (some ⟨kb122, 0, none⟩) 10 10) ([])).toArray, []⟩) (by kernel_rfl) ?_
    -- region 21
    refine wl_region ?_
    refine wl_val (iN .i64 0) (by kernel_rfl) (by kernel_rfl) ?_
    refine wl_val (iN .i64 (0 + 1)) (by kernel_rfl) (run_add (k := .i64) (a := 0) (b := 1) (by kernel_rfl) (by kernel_rfl) (by decide)) ?_
    refine wl_val (iN .i64 (0 + 1)) (by kernel_rfl) (by kernel_rfl) ?_
    refine wl_nil ?_
    refine then_at (F := ⟨(zT18_5 label tb kb103 s q18 q31 q44 q57 q70 q83 ow cw q100 kb122 (iN .i64 (0 + 1)) (.slice (some ⟨kb122, 0, none⟩) 10 10) (iN .i64 0) (iN .i64 0) (iN .i64 (0 + 1)) (.slice (some ⟨q116, 0, none⟩) 2 2) (iN .i64 0) (pt q116) (.string (txt 0)) (.slice (some ⟨q119, 0, none⟩) 4 4) (.slice (some ⟨kb122, 0, none⟩) 10 10) ([])).toArray, []⟩) (by kernel_rfl) ?_
    try rw [rounds_succ]
    refine wp_seq ?_
    refine wp_seq ?_
    -- region 20
    refine wl_region ?_
    refine wl_val (iN .i64 (0 + 1)) (by kernel_rfl) (by kernel_rfl) ?_
    refine wl_val (.bool true) (by kernel_rfl) (run_lss (k := .i64) (a := 0 + 1) (b := 2) (by kernel_rfl) (by kernel_rfl) true (by decide)) ?_
    refine wl_nil ?_
    refine then_at (F := ⟨(zT18_5 label tb kb103 s q18 q31 q44 q57 q70 q83 ow cw q100 kb122 (iN .i64 (0 + 1)) (.slice (some ⟨kb122, 0, none⟩) 10 10) (iN .i64 (0 + 1)) (iN .i64 0) (iN .i64 (0 + 1)) (.slice (some ⟨q116, 0, none⟩) 2 2) (iN .i64 0) (pt q116) (.string (txt 0)) (.slice (some ⟨q119, 0, none⟩) 4 4) (.slice (some ⟨kb122, 0, none⟩) 10 10) ([])).toArray, []⟩) (by kernel_rfl) ?_
    refine wp_cond_true (by kernel_rfl) ?_
    refine wp_skip ?_
    refine then_at (F := ⟨(zT18_5 label tb kb103 s q18 q31 q44 q57 q70 q83 ow cw q100 kb122 (iN .i64 (0 + 1)) (.slice (some ⟨kb122, 0, none⟩) 10 10) (iN .i64 (0 + 1)) (iN .i64 0) (iN .i64 (0 + 1)) (.slice (some ⟨q116, 0, none⟩) 2 2) (iN .i64 0) (pt q116) (.string (txt 0)) (.slice (some ⟨q119, 0, none⟩) 4 4) (.slice (some ⟨kb122, 0, none⟩) 10 10) ([])).toArray, []⟩) (by kernel_rfl) ?_
    refine wp_seq ?_
    refine wp_block ?_
    refine wp_seq ?_
    -- region 22
    refine wl_region ?_
    refine wl_val (.pointer (some ⟨tb.q, 0, none⟩)) (by kernel_rfl) (by kernel_rfl) ?_
    refine wl_val (.string (txt 3)) (by kernel_rfl) (by kernel_rfl) ?_
    refine wl_val (.string (txt 4)) (by kernel_rfl) (by kernel_rfl) ?_
    refine wl_val (.string (txt 9)) (by kernel_rfl) (by kernel_rfl) ?_
    refine wl_val (.string (txt 0)) (by kernel_rfl) (by kernel_rfl) ?_
    refine wl_val (.string (txt 1)) (by kernel_rfl) (by kernel_rfl) ?_
    refine wl_mksT (n := 2) (m := 2) (c := strc [txt 0, txt 1]) hT134 9 (by kernel_rfl) (by kernel_rfl) ?_
    intro q135 w136 (hT137 : TH w [] tb [.nm 0, .nm 1, .nm 2, .mk 3 0 ({ data := #[] }) [0] b25, .mk 3 0 ({ data := #[] }) [1] b38, .mk 4 0 ({ data := #[] }) [0, 1] b51, .mk 5 0 (label.extract 0 (min label.size 20)) [5] b77, .dt nonce, .dt adS, .mk 6 0 ({ data := #[] }) [6, 7, 8, 2] b90] ((q135, 9, strc [txt 0, txt 1]) :: (kb122, 4, boc [true, false, true, true, true, true, true, true, true, true]) :: (q116, 9, strc [txt 0, txt 1]) :: (kb103, 4, boc [false, false, false, true, true, false, false, true, true, true]) :: []) w136)
    refine wl_val (iN .i64 (0 + 1)) (by kernel_rfl) (by kernel_rfl) ?_
    refine wl_val (.pointer (some ⟨q135, 0 + 1, none⟩)) (by kernel_rfl) (run_addr_slice (q := q135) (n := 2) (m := 2) (a := 0 + 1) Try.underlying48 (fun w => Try.sizeOf9 w) (by kernel_rfl) (by kernel_rfl) (by decide)) ?_
    refine wl_val (.string (txt 1)) (by kernel_rfl) (run_load1 (fun w => Try.isAgg9 w) (by kernel_rfl) (((TH.blk hT137 (x := (q135, 9, strc [txt 0, txt 1])) (by simp)).cell (0 + 1)).trans rfl)) ?_
    refine wl_mksT (n := 4) (m := 4) (c := strc [txt 3, txt 4, txt 9, txt 1]) hT137 9 (by kernel_rfl) (by kernel_rfl) ?_
    intro q138 w139 (hT140 : TH w [] tb [.nm 0, .nm 1, .nm 2, .mk 3 0 ({ data := #[] }) [0] b25, .mk 3 0 ({ data := #[] }) [1] b38, .mk 4 0 ({ data := #[] }) [0, 1] b51, .mk 5 0 (label.extract 0 (min label.size 20)) [5] b77, .dt nonce, .dt adS, .mk 6 0 ({ data := #[] }) [6, 7, 8, 2] b90] ((q138, 9, strc [txt 3, txt 4, txt 9, txt 1]) :: (q135, 9, strc [txt 0, txt 1]) :: (kb122, 4, boc [true, false, true, true, true, true, true, true, true, true]) :: (q116, 9, strc [txt 0, txt 1]) :: (kb103, 4, boc [false, false, false, true, true, false, false, true, true, true]) :: []) w139)
    have hkn145 := Known_any (TH.view hT140) hw93 hg94 (by simp) (fun i u hu => by
      have hmm := List.mem_of_getElem? hu
      simp only [List.mem_cons, List.not_mem_nil, or_false, false_or, reduceCtorEq, Ent.dt.injEq] at hmm
      rcases hmm with rfl | rfl
      · exact (by decide)
      · exact (by decide)
      ) (cell_below (TH.below hT140) hv) [txt 3, txt 4, txt 9, txt 1] (some ⟨q138, 0, none⟩) 4 (.inr ⟨q138, rfl, TH.blk hT140 (x := (q138, 9, strc [txt 3, txt 4, txt 9, txt 1])) (List.mem_cons_self ..)⟩) (strs_le (fun y hy => by
      simp only [List.mem_cons, List.not_mem_nil, or_false] at hy
      rcases hy with rfl | rfl | rfl | rfl
      · exact (by rw [txt_size]; decide)
      · exact (by rw [txt_size]; decide)
      · exact (by rw [txt_size]; decide)
      · exact (by rw [txt_size]; decide)
      )) (by simp)
    refine wl_callx (by kernel_rfl) enter19 #[.pointer (some ⟨tb.q, 0, none⟩), .slice (some ⟨q138, 0, none⟩) 4 4] (by kernel_rfl) (hkn145) ?_
    rintro _ w146 ⟨kb141, rfl, hl142, hB143, hb144⟩
    refine ⟨_, rfl, ?_⟩
    have hk147 : knownF [.nm 0, .nm 1, .nm 2, .mk 3 0 ({ data := #[] }) [0] b25, .mk 3 0 ({ data := #[] }) [1] b38, .mk 4 0 ({ data := #[] }) [0, 1] b51, .mk 5 0 (label.extract 0 (min label.size 20)) [5] b77, .dt nonce, .dt adS, .mk 6 0 ({ data := #[] }) [6, 7, 8, 2] b90] [txt 3, txt 4, txt 9, txt 1] = [false, true, true, true, true, true, true, true, true, true] := knownL (m := 10) (l := [.n, .n, .n, .m 3 0 [0], .m 3 0 [1], .m 4 0 [0, 1], .m 5 0 [5], .d [], .d [], .m 6 0 [6, 7, 8, 2]]) (q := [[3], [4], [9], [1]]) rfl (by kernel_rfl) (by kernel_rfl) (by kernel_rfl)
    rw [hk147] at hB143
    have hT148 := TH.add hT140 hb144 hl142 hB143
    have hT149 : TH w [] tb [.nm 0, .nm 1, .nm 2, .mk 3 0 ({ data := #[] }) [0] b25, .mk 3 0 ({ data := #[] }) [1] b38, .mk 4 0 ({ data := #[] }) [0, 1] b51, .mk 5 0 (label.extract 0 (min label.size 20)) [5] b77, .dt nonce, .dt adS, .mk 6 0 ({ data := #[] }) [6, 7, 8, 2] b90] ((kb141, 4, boc [false, true, true, true, true, true, true, true, true, true]) :: (q135, 9, strc [txt 0, txt 1]) :: (kb122, 4, boc [true, false, true, true, true, true, true, true, true, true]) :: (q116, 9, strc [txt 0, txt 1]) :: (kb103, 4, boc [false, false, false, true, true, false, false, true, true, true]) :: []) w146 := TH.sub hT148 (List.Sublist.cons_cons _ (List.sublist_cons_self _ _))
    refine wl_val (.slice (some ⟨kb141, 0, none⟩) 10 10) (by kernel_rfl) (by kernel_rfl) ?_
    refine wl_nil ?_
    refine then_at (F := ⟨(zT18_5 label tb kb103 s q18 q31 q44 q57 q70 q83 ow cw q100 kb122 (iN .i64 (0 + 1)) (.slice (some ⟨kb141, 0, none⟩) 10 10) (iN .i64 (0 + 1)) (iN .i64 0) (iN .i64 (0 + 1)) (.slice (some ⟨q135, 0, none⟩) 2 2) (iN .i64 (0 + 1)) (.pointer (some ⟨q135, 0 + 1, none⟩)) (.string (txt 1)) (.slice (some ⟨q138, 0, none⟩) 4 4) (.slice (some ⟨kb141, 0, none⟩) 10 10) ([])).toArray, []⟩) (by kernel_rfl) ?_
    refine wp_seq ?_
    -- region 23
    refine wl_region ?_
    refine wl_val (.slice (some ⟨kb141, 0, none⟩) 10 10) (by kernel_rfl) (by kernel_rfl) ?_
    refine wl_val (iN .i64 10) (by kernel_rfl) (by kernel_rfl) ?_
    refine wl_val (.pointer (some ⟨tb.q, 0, none⟩)) (by kernel_rfl) (by kernel_rfl) ?_
    obtain ⟨_, hL150, _, _, rfl⟩ := TH.len (n := 10) hT149 rfl
    refine wl_callx (by kernel_rfl) enter20 #[.pointer (some ⟨tb.q, 0, none⟩)] (by kernel_rfl) (Len_any hL150) ?_
    rintro _ w152 ⟨rfl, hb151⟩
    refine ⟨_, rfl, ?_⟩
    have hT153 : TH w [] tb [.nm 0, .nm 1, .nm 2, .mk 3 0 ({ data := #[] }) [0] b25, .mk 3 0 ({ data := #[] }) [1] b38, .mk 4 0 ({ data := #[] }) [0, 1] b51, .mk 5 0 (label.extract 0 (min label.size 20)) [5] b77, .dt nonce, .dt adS, .mk 6 0 ({ data := #[] }) [6, 7, 8, 2] b90] ((kb141, 4, boc [false, true, true, true, true, true, true, true, true, true]) :: (q135, 9, strc [txt 0, txt 1]) :: (kb122, 4, boc [true, false, true, true, true, true, true, true, true, true]) :: (q116, 9, strc [txt 0, txt 1]) :: (kb103, 4, boc [false, false, false, true, true, false, false, true, true, true]) :: []) w152 := TH.keep hT149 hb151
    refine wl_val (.bool false) (by kernel_rfl) (run_nei (k := .i64) (a := 10) (b := 10) (by kernel_rfl) (by kernel_rfl) false (by decide)) ?_
    refine wl_val (.bool false) (by kernel_rfl) (by kernel_rfl) ?_
    refine wl_val (.slice (some ⟨kb141, 0, none⟩) 10 10) (by kernel_rfl) (by kernel_rfl) ?_
    refine wl_val (.pointer (some ⟨kb141, 2, none⟩)) (by kernel_rfl) (run_addr_slice (q := kb141) (n := 10) (m := 10) (a := 2) Try.underlying46 (fun w => Try.sizeOf4 w) (by kernel_rfl) (by kernel_rfl) (by decide)) ?_
    refine wl_val (.bool true) (by kernel_rfl) (run_load1 (fun w => Try.isAgg4 w) (by kernel_rfl) (((TH.blk hT153 (x := (kb141, 4, boc [false, true, true, true, true, true, true, true, true, true])) (by simp)).cell 2).trans rfl)) ?_
    refine wl_val (.bool false) (by kernel_rfl) (by kernel_rfl) ?_
    refine wl_val (.bool false) (by kernel_rfl) (by kernel_rfl) ?_
    refine wl_val (.bool false) (by kernel_rfl) (by kernel_rfl) ?_
    refine wl_val (.slice (some ⟨kb141, 0, none⟩) 10 10) (by kernel_rfl) (by kernel_rfl) ?_
    refine wl_val (.pointer (some ⟨kb141, 5, none⟩)) (by kernel_rfl) (run_addr_slice (q := kb141) (n := 10) (m := 10) (a := 5) Try.underlying46 (fun w => Try.sizeOf4 w) (by kernel_rfl) (by kernel_rfl) (by decide)) ?_
    refine wl_val (.bool true) (by kernel_rfl) (run_load1 (fun w => Try.isAgg4 w) (by kernel_rfl) (((TH.blk hT153 (x := (kb141, 4, boc [false, true, true, true, true, true, true, true, true, true])) (by simp)).cell 5).trans rfl)) ?_
    refine wl_val (.bool false) (by kernel_rfl) (by kernel_rfl) ?_
    refine wl_val (.bool false) (by kernel_rfl) (by kernel_rfl) ?_
    refine wl_val (.bool false) (by kernel_rfl) (by kernel_rfl) ?_
    refine wl_val (.slice (some ⟨kb141, 0, none⟩) 10 10) (by kernel_rfl) (by kernel_rfl) ?_
    refine wl_val (.pointer (some ⟨kb141, 6, none⟩)) (by kernel_rfl) (run_addr_slice (q := kb141) (n := 10) (m := 10) (a := 6) Try.underlying46 (fun w => Try.sizeOf4 w) (by kernel_rfl) (by kernel_rfl) (by decide)) ?_
    refine wl_val (.bool true) (by kernel_rfl) (run_load1 (fun w => Try.isAgg4 w) (by kernel_rfl) (((TH.blk hT153 (x := (kb141, 4, boc [false, true, true, true, true, true, true, true, true, true])) (by simp)).cell 6).trans rfl)) ?_
    refine wl_val (.bool false) (by kernel_rfl) (by kernel_rfl) ?_
    refine wl_val (.bool false) (by kernel_rfl) (by kernel_rfl) ?_
    refine wl_val (.bool false) (by kernel_rfl) (by kernel_rfl) ?_
    refine wl_val (.slice (some ⟨kb141, 0, none⟩) 10 10) (by kernel_rfl) (by kernel_rfl) ?_
    refine wl_val (iN .i64 (0 + 1)) (by kernel_rfl) (by kernel_rfl) ?_
    refine wl_val (.pointer (some ⟨kb141, 0 + 1, none⟩)) (by kernel_rfl) (run_addr_slice (q := kb141) (n := 10) (m := 10) (a := 0 + 1) Try.underlying46 (fun w => Try.sizeOf4 w) (by kernel_rfl) (by kernel_rfl) (by decide)) ?_
    refine wl_val (.bool true) (by kernel_rfl) (run_load1 (fun w => Try.isAgg4 w) (by kernel_rfl) (((TH.blk hT153 (x := (kb141, 4, boc [false, true, true, true, true, true, true, true, true, true])) (by simp)).cell (0 + 1)).trans rfl)) ?_
    refine wl_val (.bool false) (by kernel_rfl) (by kernel_rfl) ?_
    refine wl_val (.bool false) (by kernel_rfl) (by kernel_rfl) ?_
    refine wl_val (.bool false) (by kernel_rfl) (by kernel_rfl) ?_
    refine wl_val (.slice (some ⟨kb141, 0, none⟩) 10 10) (by kernel_rfl) (by kernel_rfl) ?_
    refine wl_val (iN .i64 (0 + 1)) (by kernel_rfl) (by kernel_rfl) ?_
    refine wl_val (iN .i64 (1 - (0 + 1))) (by kernel_rfl) (run_sub (k := .i64) (a := 1) (b := 0 + 1) (by kernel_rfl) (by kernel_rfl) (by decide) (by decide)) ?_
    refine wl_val (.pointer (some ⟨kb141, 1 - (0 + 1), none⟩)) (by kernel_rfl) (run_addr_slice (q := kb141) (n := 10) (m := 10) (a := 1 - (0 + 1)) Try.underlying46 (fun w => Try.sizeOf4 w) (by kernel_rfl) (by kernel_rfl) (by decide)) ?_
    refine wl_val (.bool false) (by kernel_rfl) (run_load1 (fun w => Try.isAgg4 w) (by kernel_rfl) (((TH.blk hT153 (x := (kb141, 4, boc [false, true, true, true, true, true, true, true, true, true])) (by simp)).cell (1 - (0 + 1))).trans rfl)) ?_
    refine wl_val (.bool false) (by kernel_rfl) (by kernel_rfl) ?_
    refine wl_nil ?_
    refine then_at (F := ⟨(zT18_6 label tb kb103 kb141 s q18 q31 q44 q57 q70 q83 ow cw q100 q135 q138 (.bool false) (iN .i64 (0 + 1)) (iN .i64 (0 + 1)) (.bool true) (iN .i64 0) (iN .i64 (0 + 1)) un ([])).toArray, []⟩) (by kernel_rfl) ?_
    refine wp_cond_false (by kernel_rfl) ?_
    refine wp_skip ?_
    refine block_normal ?_
    refine then_at (F := ⟨(zT18_6 label tb kb103 kb141 s q18 q31 q44 q57 q70 q83 ow cw q100 q135 q138 (.bool false) (iN .i64 (0 + 1)) (iN .i64 (0 + 1)) (.bool true) (iN .i64 0) (iN .i64 (0 + 1)) un ([])).toArray, []⟩) (by kernel_rfl) ?_
    -- region 21
    refine wl_region ?_
    refine wl_val (iN .i64 (0 + 1)) (by kernel_rfl) (by kernel_rfl) ?_
    refine wl_val (iN .i64 ((0 + 1) + 1)) (by kernel_rfl) (run_add (k := .i64) (a := 0 + 1) (b := 1) (by kernel_rfl) (by kernel_rfl) (by decide)) ?_
    refine wl_val (iN .i64 ((0 + 1) + 1)) (by kernel_rfl) (by kernel_rfl) ?_
    refine wl_nil ?_
    refine then_at (F := ⟨(zT18_6 label tb kb103 kb141 s q18 q31 q44 q57 q70 q83 ow cw q100 q135 q138 (.bool false) (iN .i64 ((0 + 1) + 1)) (iN .i64 (0 + 1)) (.bool true) (iN .i64 (0 + 1)) (iN .i64 ((0 + 1) + 1)) un ([])).toArray, []⟩) (by kernel_rfl) ?_
    try rw [rounds_succ]
    refine wp_seq ?_
    refine wp_seq ?_
    -- region 20
    refine wl_region ?_
    refine wl_val (iN .i64 ((0 + 1) + 1)) (by kernel_rfl) (by kernel_rfl) ?_
    refine wl_val (.bool false) (by kernel_rfl) (run_lss (k := .i64) (a := (0 + 1) + 1) (b := 2) (by kernel_rfl) (by kernel_rfl) false (by decide)) ?_
    refine wl_nil ?_
    refine then_at (F := ⟨(zT18_6 label tb kb103 kb141 s q18 q31 q44 q57 q70 q83 ow cw q100 q135 q138 (.bool false) (iN .i64 ((0 + 1) + 1)) (iN .i64 ((0 + 1) + 1)) (.bool false) (iN .i64 (0 + 1)) (iN .i64 ((0 + 1) + 1)) un ([])).toArray, []⟩) (by kernel_rfl) ?_
    refine wp_cond_false (by kernel_rfl) ?_
    refine wp_exit ?_
    repeat first | refine then_exit ?_ | refine block_exit ?_ | refine block_exit_ne (by decide) ?_
    refine then_at (F := ⟨(zT18_6 label tb kb103 kb141 s q18 q31 q44 q57 q70 q83 ow cw q100 q135 q138 (.bool false) (iN .i64 ((0 + 1) + 1)) (iN .i64 ((0 + 1) + 1)) (.bool false) (iN .i64 (0 + 1)) (iN .i64 ((0 + 1) + 1)) un ([])).toArray, []⟩) (by kernel_rfl) ?_
    refine wp_seq ?_
    -- region 25
    refine wl_region ?_
    refine wl_callx (by kernel_rfl) enter15 #[] (by kernel_rfl) (works_any w152) ?_
    rintro _ w155 ⟨rfl, hb154⟩
    refine ⟨_, rfl, ?_⟩
    have hT156 : TH w [] tb [.nm 0, .nm 1, .nm 2, .mk 3 0 ({ data := #[] }) [0] b25, .mk 3 0 ({ data := #[] }) [1] b38, .mk 4 0 ({ data := #[] }) [0, 1] b51, .mk 5 0 (label.extract 0 (min label.size 20)) [5] b77, .dt nonce, .dt adS, .mk 6 0 ({ data := #[] }) [6, 7, 8, 2] b90] ((kb141, 4, boc [false, true, true, true, true, true, true, true, true, true]) :: (q135, 9, strc [txt 0, txt 1]) :: (kb122, 4, boc [true, false, true, true, true, true, true, true, true, true]) :: (q116, 9, strc [txt 0, txt 1]) :: (kb103, 4, boc [false, false, false, true, true, false, false, true, true, true]) :: []) w155 := TH.keep hT153 hb154
    refine wl_val (.bool true) (by kernel_rfl) (by kernel_rfl) ?_
    refine wl_nil ?_
    refine then_at (F := ⟨(zT18_6 label tb kb103 kb141 s q18 q31 q44 q57 q70 q83 ow cw q100 q135 q138 (.bool true) (iN .i64 ((0 + 1) + 1)) (iN .i64 ((0 + 1) + 1)) (.bool false) (iN .i64 (0 + 1)) (iN .i64 ((0 + 1) + 1)) (.bool true) ([])).toArray, []⟩) (by kernel_rfl) ?_
    refine wp_ret ?_
    repeat first | refine then_ret ?_ | refine block_ret ?_
    exact bodyPost_ret (v := .bool true) (by kernel_rfl) rfl ⟨rfl, TH.below hT156⟩
  · -- region 5
    refine wl_region ?_
    refine wl_val (.pointer (some ⟨tb.q, 0, none⟩)) (by kernel_rfl) (by kernel_rfl) ?_
    refine wl_callx (by kernel_rfl) enter17 #[.pointer (some ⟨tb.q, 0, none⟩)] (by kernel_rfl) (Fresh_any hT2 (by simp)) ?_
    rintro _ w158 ⟨rfl, hF157⟩
    refine ⟨_, rfl, ?_⟩
    have hT159 : TH w [] tb [.nm 0] ([]) w158 := hF157
    have hw160 : Wf [.nm 0] := Wf.nm hw0 0 (by simp)
    have hg161 : Wg [.nm 0] := Wg.nm hg0 0
    refine wl_val (.pointer (some ⟨tb.q, 0, none⟩)) (by kernel_rfl) (by kernel_rfl) ?_
    refine wl_callx (by kernel_rfl) enter17 #[.pointer (some ⟨tb.q, 0, none⟩)] (by kernel_rfl) (Fresh_any hT159 (by simp)) ?_
    rintro _ w163 ⟨rfl, hF162⟩
    refine ⟨_, rfl, ?_⟩
    have hT164 : TH w [] tb [.nm 0, .nm 1] ([]) w163 := hF162
    have hw165 : Wf [.nm 0, .nm 1] := Wf.nm hw160 1 (by simp)
    have hg166 : Wg [.nm 0, .nm 1] := Wg.nm hg161 1
    refine wl_val (.pointer (some ⟨tb.q, 0, none⟩)) (by kernel_rfl) (by kernel_rfl) ?_
    refine wl_callx (by kernel_rfl) enter17 #[.pointer (some ⟨tb.q, 0, none⟩)] (by kernel_rfl) (Fresh_any hT164 (by simp)) ?_
    rintro _ w168 ⟨rfl, hF167⟩
    refine ⟨_, rfl, ?_⟩
    have hT169 : TH w [] tb [.nm 0, .nm 1, .nm 2] ([]) w168 := hF167
    have hw170 : Wf [.nm 0, .nm 1, .nm 2] := Wf.nm hw165 2 (by simp)
    have hg171 : Wg [.nm 0, .nm 1, .nm 2] := Wg.nm hg166 2
    refine wl_val (.string (txt 0)) (by kernel_rfl) (by kernel_rfl) ?_
    refine wl_val (.string (txt 1)) (by kernel_rfl) (by kernel_rfl) ?_
    refine wl_val (.string (txt 2)) (by kernel_rfl) (by kernel_rfl) ?_
    refine wl_nil ?_
    refine then_at (F := ⟨(zT18_7 s1 label tb s un un un un (List.replicate 191 un)).toArray, []⟩) (by kernel_rfl) ?_
    refine wp_seq ?_
    -- region 6
    refine wl_region ?_
    refine wl_val (.pointer (some ⟨tb.q, 0, none⟩)) (by kernel_rfl) (by kernel_rfl) ?_
    refine wl_val (.string (txt 0)) (by kernel_rfl) (by kernel_rfl) ?_
    refine wl_mksT (n := 1) (m := 1) (c := strc [txt 0]) hT169 9 (by kernel_rfl) (by kernel_rfl) ?_
    intro q172 w173 (hT174 : TH w [] tb [.nm 0, .nm 1, .nm 2] ((q172, 9, strc [txt 0]) :: []) w173)
    have hmk180 := Make_ok hT174 hw170 3 ({ data := #[] }) [txt 0] (some ⟨q172, 0, none⟩) 1 (.inr ⟨q172, rfl, List.mem_cons_self ..⟩) (by simp) (by kernel_rfl) (by decide) (strs_le (fun y hy => by
      simp only [List.mem_cons, List.not_mem_nil, or_false] at hy
      rcases hy with rfl
      · exact (by rw [txt_size]; decide)
      )) (by simp) (by simp)
    refine wl_callx (by kernel_rfl) enter18 #[.pointer (some ⟨tb.q, 0, none⟩), iN .i64 3, .string ({ data := #[] }), .slice (some ⟨q172, 0, none⟩) 1 1] (by kernel_rfl) (hmk180) ?_
    rintro _ w181 ⟨x175, es176, hJ177, rfl, hT178⟩
    refine ⟨_, rfl, ?_⟩
    have hw182 := JO.wf hw170 hJ177 (by simp) (by simp) (by simp)
    have hg183 := JO.wg hg171 hw170 hJ177 (by simp) (by simp) (by simp) (by simp)
    obtain ⟨rfl, b179, rfl⟩ := JO.newL [.nm 0, .nm 1, .nm 2] 3 0 ({ data := #[] }) [0] hJ177 (by kernel_rfl) (by kernel_rfl) (by kernel_rfl) (by kernel_rfl) (by kernel_rfl) (by kernel_rfl)
    clear hJ177
    have hT184 : TH w [] tb [.nm 0, .nm 1, .nm 2, .mk 3 0 ({ data := #[] }) [0] b179] ([]) w181 := TH.sub hT178 (List.sublist_cons_self _ _)
    have hw182 : Wf [.nm 0, .nm 1, .nm 2, .mk 3 0 ({ data := #[] }) [0] b179] := hw182
    have hg183 : Wg [.nm 0, .nm 1, .nm 2, .mk 3 0 ({ data := #[] }) [0] b179] := hg183
    refine wl_val (.tuple #[.string (txt 3), iN .i64 0]) (by kernel_rfl) (by kernel_rfl) ?_
    refine wl_val (.string (txt 3)) (by kernel_rfl) (by kernel_rfl) ?_
    refine wl_val (iN .i64 0) (by kernel_rfl) (by kernel_rfl) ?_
    refine wl_val (.string (txt 3)) (by kernel_rfl) (by kernel_rfl) ?_
    refine wl_val (iN .i64 0) (by kernel_rfl) (by kernel_rfl) ?_
    refine wl_nil ?_
    refine then_at (F := ⟨(zT18_7 s1 label tb s (.string (txt 3)) (iN .i64 0) un un (.tuple #[.string (txt 3), iN .i64 0] :: pt tb.q :: .string (txt 0) :: .slice (some ⟨q172, 0, none⟩) 1 1 :: .tuple #[.string (txt 3), iN .i64 0] :: .string (txt 3) :: iN .i64 0 :: List.replicate 184 un)).toArray, []⟩) (by kernel_rfl) ?_
    refine wp_seq ?_
    -- region 7
    refine wl_region ?_
    refine wl_val (.pointer (some ⟨tb.q, 0, none⟩)) (by kernel_rfl) (by kernel_rfl) ?_
    refine wl_val (.string (txt 1)) (by kernel_rfl) (by kernel_rfl) ?_
    refine wl_mksT (n := 1) (m := 1) (c := strc [txt 1]) hT184 9 (by kernel_rfl) (by kernel_rfl) ?_
    intro q185 w186 (hT187 : TH w [] tb [.nm 0, .nm 1, .nm 2, .mk 3 0 ({ data := #[] }) [0] b179] ((q185, 9, strc [txt 1]) :: []) w186)
    have hmk193 := Make_ok hT187 hw182 3 ({ data := #[] }) [txt 1] (some ⟨q185, 0, none⟩) 1 (.inr ⟨q185, rfl, List.mem_cons_self ..⟩) (by simp) (by kernel_rfl) (by decide) (strs_le (fun y hy => by
      simp only [List.mem_cons, List.not_mem_nil, or_false] at hy
      rcases hy with rfl
      · exact (by rw [txt_size]; decide)
      )) (by simp) (by simp)
    refine wl_callx (by kernel_rfl) enter18 #[.pointer (some ⟨tb.q, 0, none⟩), iN .i64 3, .string ({ data := #[] }), .slice (some ⟨q185, 0, none⟩) 1 1] (by kernel_rfl) (hmk193) ?_
    rintro _ w194 ⟨x188, es189, hJ190, rfl, hT191⟩
    refine ⟨_, rfl, ?_⟩
    have hw195 := JO.wf hw182 hJ190 (by simp) (by simp) (by simp)
    have hg196 := JO.wg hg183 hw182 hJ190 (by simp) (by simp) (by simp) (by simp)
    obtain ⟨rfl, b192, rfl⟩ := JO.newL [.nm 0, .nm 1, .nm 2, .mk 3 0 ({ data := #[] }) [0] b179] 4 0 ({ data := #[] }) [1] hJ190 (by kernel_rfl) (by kernel_rfl) (by kernel_rfl) (by kernel_rfl) (by kernel_rfl) (by kernel_rfl)
    clear hJ190
    have hT197 : TH w [] tb [.nm 0, .nm 1, .nm 2, .mk 3 0 ({ data := #[] }) [0] b179, .mk 3 0 ({ data := #[] }) [1] b192] ([]) w194 := TH.sub hT191 (List.sublist_cons_self _ _)
    have hw195 : Wf [.nm 0, .nm 1, .nm 2, .mk 3 0 ({ data := #[] }) [0] b179, .mk 3 0 ({ data := #[] }) [1] b192] := hw195
    have hg196 : Wg [.nm 0, .nm 1, .nm 2, .mk 3 0 ({ data := #[] }) [0] b179, .mk 3 0 ({ data := #[] }) [1] b192] := hg196
    refine wl_val (.tuple #[.string (txt 4), iN .i64 0]) (by kernel_rfl) (by kernel_rfl) ?_
    refine wl_val (.string (txt 4)) (by kernel_rfl) (by kernel_rfl) ?_
    refine wl_val (iN .i64 0) (by kernel_rfl) (by kernel_rfl) ?_
    refine wl_val (.string (txt 4)) (by kernel_rfl) (by kernel_rfl) ?_
    refine wl_val (iN .i64 0) (by kernel_rfl) (by kernel_rfl) ?_
    refine wl_nil ?_
    refine then_at (F := ⟨(zT18_7 s1 label tb s (.string (txt 3)) (iN .i64 0) (.string (txt 4)) (iN .i64 0) (.tuple #[.string (txt 3), iN .i64 0] :: pt tb.q :: .string (txt 0) :: .slice (some ⟨q172, 0, none⟩) 1 1 :: .tuple #[.string (txt 3), iN .i64 0] :: .string (txt 3) :: iN .i64 0 :: .tuple #[.string (txt 4), iN .i64 0] :: pt tb.q :: .string (txt 1) :: .slice (some ⟨q185, 0, none⟩) 1 1 :: .tuple #[.string (txt 4), iN .i64 0] :: .string (txt 4) :: iN .i64 0 :: List.replicate 177 un)).toArray, []⟩) (by kernel_rfl) ?_
    refine wp_seq ?_
    -- region 8
    refine wl_region ?_
    refine wl_val (.pointer (some ⟨tb.q, 0, none⟩)) (by kernel_rfl) (by kernel_rfl) ?_
    refine wl_val (.string (txt 0)) (by kernel_rfl) (by kernel_rfl) ?_
    refine wl_val (.string (txt 4)) (by kernel_rfl) (by kernel_rfl) ?_
    refine wl_mksT (n := 2) (m := 2) (c := strc [txt 0, txt 4]) hT197 9 (by kernel_rfl) (by kernel_rfl) ?_
    intro q198 w199 (hT200 : TH w [] tb [.nm 0, .nm 1, .nm 2, .mk 3 0 ({ data := #[] }) [0] b179, .mk 3 0 ({ data := #[] }) [1] b192] ((q198, 9, strc [txt 0, txt 4]) :: []) w199)
    have hmk206 := Make_ok hT200 hw195 4 ({ data := #[] }) [txt 0, txt 4] (some ⟨q198, 0, none⟩) 2 (.inr ⟨q198, rfl, List.mem_cons_self ..⟩) (by simp) (by kernel_rfl) (by decide) (strs_le (fun y hy => by
      simp only [List.mem_cons, List.not_mem_nil, or_false] at hy
      rcases hy with rfl | rfl
      · exact (by rw [txt_size]; decide)
      · exact (by rw [txt_size]; decide)
      )) (by simp) (by simp)
    refine wl_callx (by kernel_rfl) enter18 #[.pointer (some ⟨tb.q, 0, none⟩), iN .i64 4, .string ({ data := #[] }), .slice (some ⟨q198, 0, none⟩) 2 2] (by kernel_rfl) (hmk206) ?_
    rintro _ w207 ⟨x201, es202, hJ203, rfl, hT204⟩
    refine ⟨_, rfl, ?_⟩
    have hw208 := JO.wf hw195 hJ203 (by simp) (by simp) (by simp)
    have hg209 := JO.wg hg196 hw195 hJ203 (by simp) (by simp) (by simp) (by simp)
    obtain ⟨rfl, b205, rfl⟩ := JO.newL [.nm 0, .nm 1, .nm 2, .mk 3 0 ({ data := #[] }) [0] b179, .mk 3 0 ({ data := #[] }) [1] b192] 5 0 ({ data := #[] }) [0, 1] hJ203 (by kernel_rfl) (by kernel_rfl) (by kernel_rfl) (by kernel_rfl) (by kernel_rfl) (by kernel_rfl)
    clear hJ203
    have hT210 : TH w [] tb [.nm 0, .nm 1, .nm 2, .mk 3 0 ({ data := #[] }) [0] b179, .mk 3 0 ({ data := #[] }) [1] b192, .mk 4 0 ({ data := #[] }) [0, 1] b205] ([]) w207 := TH.sub hT204 (List.sublist_cons_self _ _)
    have hw208 : Wf [.nm 0, .nm 1, .nm 2, .mk 3 0 ({ data := #[] }) [0] b179, .mk 3 0 ({ data := #[] }) [1] b192, .mk 4 0 ({ data := #[] }) [0, 1] b205] := hw208
    have hg209 : Wg [.nm 0, .nm 1, .nm 2, .mk 3 0 ({ data := #[] }) [0] b179, .mk 3 0 ({ data := #[] }) [1] b192, .mk 4 0 ({ data := #[] }) [0, 1] b205] := hg209
    refine wl_val (.tuple #[.string (txt 5), iN .i64 0]) (by kernel_rfl) (by kernel_rfl) ?_
    refine wl_val (.string (txt 5)) (by kernel_rfl) (by kernel_rfl) ?_
    refine wl_val (iN .i64 0) (by kernel_rfl) (by kernel_rfl) ?_
    refine wl_val (.string (txt 5)) (by kernel_rfl) (by kernel_rfl) ?_
    refine wl_val (iN .i64 0) (by kernel_rfl) (by kernel_rfl) ?_
    refine wl_nil ?_
    refine then_at (F := ⟨(zT18_8 s1 label tb s q172 q185 q198 un un un un un un (List.replicate 169 un)).toArray, []⟩) (by kernel_rfl) ?_
    refine wp_seq ?_
    -- region 9
    refine wl_region ?_
    refine wl_val (.pointer (some ⟨tb.q, 0, none⟩)) (by kernel_rfl) (by kernel_rfl) ?_
    refine wl_val (.string (txt 1)) (by kernel_rfl) (by kernel_rfl) ?_
    refine wl_val (.string (txt 3)) (by kernel_rfl) (by kernel_rfl) ?_
    refine wl_mksT (n := 2) (m := 2) (c := strc [txt 1, txt 3]) hT210 9 (by kernel_rfl) (by kernel_rfl) ?_
    intro q211 w212 (hT213 : TH w [] tb [.nm 0, .nm 1, .nm 2, .mk 3 0 ({ data := #[] }) [0] b179, .mk 3 0 ({ data := #[] }) [1] b192, .mk 4 0 ({ data := #[] }) [0, 1] b205] ((q211, 9, strc [txt 1, txt 3]) :: []) w212)
    have hmk219 := Make_ok hT213 hw208 4 ({ data := #[] }) [txt 1, txt 3] (some ⟨q211, 0, none⟩) 2 (.inr ⟨q211, rfl, List.mem_cons_self ..⟩) (by simp) (by kernel_rfl) (by decide) (strs_le (fun y hy => by
      simp only [List.mem_cons, List.not_mem_nil, or_false] at hy
      rcases hy with rfl | rfl
      · exact (by rw [txt_size]; decide)
      · exact (by rw [txt_size]; decide)
      )) (by simp) (by simp)
    refine wl_callx (by kernel_rfl) enter18 #[.pointer (some ⟨tb.q, 0, none⟩), iN .i64 4, .string ({ data := #[] }), .slice (some ⟨q211, 0, none⟩) 2 2] (by kernel_rfl) (hmk219) ?_
    rintro _ w220 ⟨x214, es215, hJ216, rfl, hT217⟩
    refine ⟨_, rfl, ?_⟩
    have hw221 := JO.wf hw208 hJ216 (by simp) (by simp) (by simp)
    have hg222 := JO.wg hg209 hw208 hJ216 (by simp) (by simp) (by simp) (by simp)
    obtain ⟨rfl, rfl⟩ := JO.oldL [.nm 0, .nm 1, .nm 2, .mk 3 0 ({ data := #[] }) [0] b179, .mk 3 0 ({ data := #[] }) [1] b192, .mk 4 0 ({ data := #[] }) [0, 1] b205] 5 hJ216 (by kernel_rfl) (by kernel_rfl)
    clear hJ216
    have hT223 : TH w [] tb [.nm 0, .nm 1, .nm 2, .mk 3 0 ({ data := #[] }) [0] b179, .mk 3 0 ({ data := #[] }) [1] b192, .mk 4 0 ({ data := #[] }) [0, 1] b205] ([]) w220 := TH.sub hT217 (List.sublist_cons_self _ _)
    have hw221 : Wf [.nm 0, .nm 1, .nm 2, .mk 3 0 ({ data := #[] }) [0] b179, .mk 3 0 ({ data := #[] }) [1] b192, .mk 4 0 ({ data := #[] }) [0, 1] b205] := hw221
    have hg222 : Wg [.nm 0, .nm 1, .nm 2, .mk 3 0 ({ data := #[] }) [0] b179, .mk 3 0 ({ data := #[] }) [1] b192, .mk 4 0 ({ data := #[] }) [0, 1] b205] := hg222
    refine wl_val (.tuple #[.string (txt 5), iN .i64 0]) (by kernel_rfl) (by kernel_rfl) ?_
    refine wl_val (.string (txt 5)) (by kernel_rfl) (by kernel_rfl) ?_
    refine wl_val (iN .i64 0) (by kernel_rfl) (by kernel_rfl) ?_
    refine wl_val (.string (txt 5)) (by kernel_rfl) (by kernel_rfl) ?_
    refine wl_val (iN .i64 0) (by kernel_rfl) (by kernel_rfl) ?_
    refine wl_nil ?_
    refine then_at (F := ⟨(zT18_8 s1 label tb s q172 q185 q198 (.string (txt 5)) (iN .i64 0) un un un un (.tuple #[.string (txt 5), iN .i64 0] :: pt tb.q :: .string (txt 1) :: .string (txt 3) :: .slice (some ⟨q211, 0, none⟩) 2 2 :: .tuple #[.string (txt 5), iN .i64 0] :: .string (txt 5) :: iN .i64 0 :: List.replicate 161 un)).toArray, []⟩) (by kernel_rfl) ?_
    refine wp_seq ?_
    have hlz : (label.extract 0 (min label.size 20)).size ≤ 20 := by rw [ByteArray.size_extract]; omega
    -- region 10
    refine wl_region ?_
    refine wl_val (.pointer (some ⟨tb.q, 0, none⟩)) (by kernel_rfl) (by kernel_rfl) ?_
    refine wl_val (.string label) (by kernel_rfl) (by kernel_rfl) ?_
    refine wl_val (.string label) (by kernel_rfl) (by kernel_rfl) ?_
    refine wl_val (iN .i64 label.size) (by kernel_rfl) (run_len (s := label) (by kernel_rfl)) ?_
    refine wl_val (iN .i64 (min label.size 20)) (by kernel_rfl) (run_min (i := label.size) (j := 20) (by kernel_rfl) (by kernel_rfl)) ?_
    refine wl_val (.string (label.extract 0 (min label.size 20))) (by kernel_rfl) (run_cut_hi (s := label) (b := min label.size 20) (by kernel_rfl) (by kernel_rfl) (by omega)) ?_
    refine wl_val (.string (txt 5)) (by kernel_rfl) (by kernel_rfl) ?_
    refine wl_mksT (n := 1) (m := 1) (c := strc [txt 5]) hT223 9 (by kernel_rfl) (by kernel_rfl) ?_
    intro q224 w225 (hT226 : TH w [] tb [.nm 0, .nm 1, .nm 2, .mk 3 0 ({ data := #[] }) [0] b179, .mk 3 0 ({ data := #[] }) [1] b192, .mk 4 0 ({ data := #[] }) [0, 1] b205] ((q224, 9, strc [txt 5]) :: []) w225)
    have hmk232 := Make_ok hT226 hw221 5 (label.extract 0 (min label.size 20)) [txt 5] (some ⟨q224, 0, none⟩) 1 (.inr ⟨q224, rfl, List.mem_cons_self ..⟩) (by simp) (by kernel_rfl) (by omega) (strs_le (fun y hy => by
      simp only [List.mem_cons, List.not_mem_nil, or_false] at hy
      rcases hy with rfl
      · exact (by rw [txt_size]; decide)
      )) (by simp) (by simp)
    refine wl_callx (by kernel_rfl) enter18 #[.pointer (some ⟨tb.q, 0, none⟩), iN .i64 5, .string (label.extract 0 (min label.size 20)), .slice (some ⟨q224, 0, none⟩) 1 1] (by kernel_rfl) (hmk232) ?_
    rintro _ w233 ⟨x227, es228, hJ229, rfl, hT230⟩
    refine ⟨_, rfl, ?_⟩
    have hw234 := JO.wf hw221 hJ229 (by simp) (by simp) (by simp)
    have hg235 := JO.wg hg222 hw221 hJ229 (by simp) (by simp) (by simp) (by simp)
    obtain ⟨rfl, b231, rfl⟩ := JO.newL [.nm 0, .nm 1, .nm 2, .mk 3 0 ({ data := #[] }) [0] b179, .mk 3 0 ({ data := #[] }) [1] b192, .mk 4 0 ({ data := #[] }) [0, 1] b205] 6 0 (label.extract 0 (min label.size 20)) [5] hJ229 (by kernel_rfl) (by kernel_rfl) (by kernel_rfl) (by kernel_rfl) (by kernel_rfl) (by kernel_rfl)
    clear hJ229
    have hT236 : TH w [] tb [.nm 0, .nm 1, .nm 2, .mk 3 0 ({ data := #[] }) [0] b179, .mk 3 0 ({ data := #[] }) [1] b192, .mk 4 0 ({ data := #[] }) [0, 1] b205, .mk 5 0 (label.extract 0 (min label.size 20)) [5] b231] ([]) w233 := TH.sub hT230 (List.sublist_cons_self _ _)
    have hw234 : Wf [.nm 0, .nm 1, .nm 2, .mk 3 0 ({ data := #[] }) [0] b179, .mk 3 0 ({ data := #[] }) [1] b192, .mk 4 0 ({ data := #[] }) [0, 1] b205, .mk 5 0 (label.extract 0 (min label.size 20)) [5] b231] := hw234
    have hg235 : Wg [.nm 0, .nm 1, .nm 2, .mk 3 0 ({ data := #[] }) [0] b179, .mk 3 0 ({ data := #[] }) [1] b192, .mk 4 0 ({ data := #[] }) [0, 1] b205, .mk 5 0 (label.extract 0 (min label.size 20)) [5] b231] := hg235
    refine wl_val (.tuple #[.string (txt 6), iN .i64 0]) (by kernel_rfl) (by kernel_rfl) ?_
    refine wl_val (.string (txt 6)) (by kernel_rfl) (by kernel_rfl) ?_
    refine wl_val (iN .i64 0) (by kernel_rfl) (by kernel_rfl) ?_
    refine wl_val (.string (txt 6)) (by kernel_rfl) (by kernel_rfl) ?_
    refine wl_val (iN .i64 0) (by kernel_rfl) (by kernel_rfl) ?_
    refine wl_nil ?_
    refine then_at (F := ⟨(zT18_8 s1 label tb s q172 q185 q198 (.string (txt 5)) (iN .i64 0) (.string (txt 6)) (iN .i64 0) un un (.tuple #[.string (txt 5), iN .i64 0] :: pt tb.q :: .string (txt 1) :: .string (txt 3) :: .slice (some ⟨q211, 0, none⟩) 2 2 :: .tuple #[.string (txt 5), iN .i64 0] :: .string (txt 5) :: iN .i64 0 :: .tuple #[.string (txt 6), iN .i64 0] :: pt tb.q :: .string label :: .string label :: iN .i64 label.size :: iN .i64 (min label.size 20) :: .string (label.extract 0 (min label.size 20)) :: .string (txt 5) :: .slice (some ⟨q224, 0, none⟩) 1 1 :: .tuple #[.string (txt 6), iN .i64 0] :: .string (txt 6) :: iN .i64 0 :: List.replicate 149 un)).toArray, []⟩) (by kernel_rfl) ?_
    refine wp_seq ?_
    -- region 11
    refine wl_region ?_
    refine wl_val (.pointer (some ⟨tb.q, 0, none⟩)) (by kernel_rfl) (by kernel_rfl) ?_
    refine wl_val (.string (txt 6)) (by kernel_rfl) (by kernel_rfl) ?_
    refine wl_val (.string (s1)) (by kernel_rfl) (by kernel_rfl) ?_
    refine wl_val (.string (txt 2)) (by kernel_rfl) (by kernel_rfl) ?_
    refine wl_val (.string (sS s1)) (by kernel_rfl) (run_cat (s := s1) (t := txt 2) (by kernel_rfl) (by kernel_rfl) (by rw [txt_size]; omega)) ?_
    refine wl_mksT (n := 4) (m := 4) (c := strc [txt 6, nonce, adS, sS s1]) hT236 9 (by kernel_rfl) (by kernel_rfl) ?_
    intro q237 w238 (hT239 : TH w [] tb [.nm 0, .nm 1, .nm 2, .mk 3 0 ({ data := #[] }) [0] b179, .mk 3 0 ({ data := #[] }) [1] b192, .mk 4 0 ({ data := #[] }) [0, 1] b205, .mk 5 0 (label.extract 0 (min label.size 20)) [5] b231] ((q237, 9, strc [txt 6, nonce, adS, sS s1]) :: []) w238)
    have hmk245 := Make_ok hT239 hw234 6 ({ data := #[] }) [txt 6, nonce, adS, sS s1] (some ⟨q237, 0, none⟩) 4 (.inr ⟨q237, rfl, List.mem_cons_self ..⟩) (by simp) (by kernel_rfl) (by decide) (strs_le (fun y hy => by
      simp only [List.mem_cons, List.not_mem_nil, or_false] at hy
      rcases hy with rfl | rfl | rfl | rfl
      · exact (by rw [txt_size]; decide)
      · exact (by decide)
      · exact (by decide)
      · exact (by rw [sS_size]; first | omega | decide)
      )) (by simp) (by simp)
    refine wl_callx (by kernel_rfl) enter18 #[.pointer (some ⟨tb.q, 0, none⟩), iN .i64 6, .string ({ data := #[] }), .slice (some ⟨q237, 0, none⟩) 4 4] (by kernel_rfl) (hmk245) ?_
    rintro _ w246 ⟨x240, es241, hJ242, rfl, hT243⟩
    refine ⟨_, rfl, ?_⟩
    have hw247 := JO.wf hw234 hJ242 (by simp) (by simp) (by simp)
    have hg248 := JO.wg hg235 hw234 hJ242 (by simp) (by simp) (by simp) (by simp)
    have hp4 := pf4 (es := [.nm 0, .nm 1, .nm 2, .mk 3 0 ({ data := #[] }) [0] b179, .mk 3 0 ({ data := #[] }) [1] b192, .mk 4 0 ({ data := #[] }) [0, 1] b205, .mk 5 0 (label.extract 0 (min label.size 20)) [5] b231]) (E9 := [.nm 0, .nm 1, .nm 2, .mk 3 0 ({ data := #[] }) [0] b179, .mk 3 0 ({ data := #[] }) [1] b192, .mk 4 0 ({ data := #[] }) [0, 1] b205, .mk 5 0 (label.extract 0 (min label.size 20)) [5] b231, .dt nonce, .dt adS]) (E10 := [.nm 0, .nm 1, .nm 2, .mk 3 0 ({ data := #[] }) [0] b179, .mk 3 0 ({ data := #[] }) [1] b192, .mk 4 0 ({ data := #[] }) [0, 1] b205, .mk 5 0 (label.extract 0 (min label.size 20)) [5] b231, .dt nonce, .dt adS, .dt (sS s1)]) (a := txt 6) (b := nonce) (c := adS) (d := sS s1) (N := [6, 7, 8]) (x := 9) (by kernel_rfl) (by kernel_rfl) (partF_new (numT_big (by have := sS_big hne; omega)) (lkT_two (sS_big hne)))
    have hj2 : pfE [.nm 0, .nm 1, .nm 2, .mk 3 0 ({ data := #[] }) [0] b179, .mk 3 0 ({ data := #[] }) [1] b192, .mk 4 0 ({ data := #[] }) [0, 1] b205, .mk 5 0 (label.extract 0 (min label.size 20)) [5] b231] [txt 6, nonce, adS, sS s1] [txt 6, nonce, adS, sS s1].length = [.nm 0, .nm 1, .nm 2, .mk 3 0 ({ data := #[] }) [0] b179, .mk 3 0 ({ data := #[] }) [1] b192, .mk 4 0 ({ data := #[] }) [0, 1] b205, .mk 5 0 (label.extract 0 (min label.size 20)) [5] b231, .dt nonce, .dt adS, .dt (sS s1)] := hp4.1
    have hj1 : lkJ [.nm 0, .nm 1, .nm 2, .mk 3 0 ({ data := #[] }) [0] b179, .mk 3 0 ({ data := #[] }) [1] b192, .mk 4 0 ({ data := #[] }) [0, 1] b205, .mk 5 0 (label.extract 0 (min label.size 20)) [5] b231] 6 { data := #[] } [txt 6, nonce, adS, sS s1] = none := by unfold lkJ; rw [hp4.1, hp4.2]; kernel_rfl
    have hj3 : joinN [.nm 0, .nm 1, .nm 2, .mk 3 0 ({ data := #[] }) [0] b179, .mk 3 0 ({ data := #[] }) [1] b192, .mk 4 0 ({ data := #[] }) [0, 1] b205, .mk 5 0 (label.extract 0 (min label.size 20)) [5] b231, .dt nonce, .dt adS, .dt (sS s1)] 6 (pfN [.nm 0, .nm 1, .nm 2, .mk 3 0 ({ data := #[] }) [0] b179, .mk 3 0 ({ data := #[] }) [1] b192, .mk 4 0 ({ data := #[] }) [0, 1] b205, .mk 5 0 (label.extract 0 (min label.size 20)) [5] b231] [txt 6, nonce, adS, sS s1] [txt 6, nonce, adS, sS s1].length) = 0 := by rw [hp4.2]; kernel_rfl
    have hj5 : joinP [.nm 0, .nm 1, .nm 2, .mk 3 0 ({ data := #[] }) [0] b179, .mk 3 0 ({ data := #[] }) [1] b192, .mk 4 0 ({ data := #[] }) [0, 1] b205, .mk 5 0 (label.extract 0 (min label.size 20)) [5] b231, .dt nonce, .dt adS, .dt (sS s1)] 6 (pfN [.nm 0, .nm 1, .nm 2, .mk 3 0 ({ data := #[] }) [0] b179, .mk 3 0 ({ data := #[] }) [1] b192, .mk 4 0 ({ data := #[] }) [0, 1] b205, .mk 5 0 (label.extract 0 (min label.size 20)) [5] b231] [txt 6, nonce, adS, sS s1] [txt 6, nonce, adS, sS s1].length) = [6, 7, 8, 9] := by rw [hp4.2]; kernel_rfl
    obtain ⟨rfl, b244, rfl⟩ := JO.newL [.nm 0, .nm 1, .nm 2, .mk 3 0 ({ data := #[] }) [0] b179, .mk 3 0 ({ data := #[] }) [1] b192, .mk 4 0 ({ data := #[] }) [0, 1] b205, .mk 5 0 (label.extract 0 (min label.size 20)) [5] b231, .dt nonce, .dt adS, .dt (sS s1)] 10 0 ({ data := #[] }) [6, 7, 8, 9] hJ242 hj1 hj2 hj3 (by kernel_rfl) hj5 (by kernel_rfl)
    clear hJ242
    have hT249 : TH w [] tb [.nm 0, .nm 1, .nm 2, .mk 3 0 ({ data := #[] }) [0] b179, .mk 3 0 ({ data := #[] }) [1] b192, .mk 4 0 ({ data := #[] }) [0, 1] b205, .mk 5 0 (label.extract 0 (min label.size 20)) [5] b231, .dt nonce, .dt adS, .dt (sS s1), .mk 6 0 ({ data := #[] }) [6, 7, 8, 9] b244] ([]) w246 := TH.sub hT243 (List.sublist_cons_self _ _)
    have hw247 : Wf [.nm 0, .nm 1, .nm 2, .mk 3 0 ({ data := #[] }) [0] b179, .mk 3 0 ({ data := #[] }) [1] b192, .mk 4 0 ({ data := #[] }) [0, 1] b205, .mk 5 0 (label.extract 0 (min label.size 20)) [5] b231, .dt nonce, .dt adS, .dt (sS s1), .mk 6 0 ({ data := #[] }) [6, 7, 8, 9] b244] := hw247
    have hg248 : Wg [.nm 0, .nm 1, .nm 2, .mk 3 0 ({ data := #[] }) [0] b179, .mk 3 0 ({ data := #[] }) [1] b192, .mk 4 0 ({ data := #[] }) [0, 1] b205, .mk 5 0 (label.extract 0 (min label.size 20)) [5] b231, .dt nonce, .dt adS, .dt (sS s1), .mk 6 0 ({ data := #[] }) [6, 7, 8, 9] b244] := hg248
    refine wl_val (.tuple #[.string (txt 10), iN .i64 0]) (by kernel_rfl) (by kernel_rfl) ?_
    refine wl_val (.string (txt 10)) (by kernel_rfl) (by kernel_rfl) ?_
    refine wl_val (iN .i64 0) (by kernel_rfl) (by kernel_rfl) ?_
    refine wl_val (.string (txt 10)) (by kernel_rfl) (by kernel_rfl) ?_
    refine wl_val (iN .i64 0) (by kernel_rfl) (by kernel_rfl) ?_
    refine wl_nil ?_
    refine then_at (F := ⟨(zT18_8 s1 label tb s q172 q185 q198 (.string (txt 5)) (iN .i64 0) (.string (txt 6)) (iN .i64 0) (.string (txt 10)) (iN .i64 0) (.tuple #[.string (txt 5), iN .i64 0] :: pt tb.q :: .string (txt 1) :: .string (txt 3) :: .slice (some ⟨q211, 0, none⟩) 2 2 :: .tuple #[.string (txt 5), iN .i64 0] :: .string (txt 5) :: iN .i64 0 :: .tuple #[.string (txt 6), iN .i64 0] :: pt tb.q :: .string label :: .string label :: iN .i64 label.size :: iN .i64 (min label.size 20) :: .string (label.extract 0 (min label.size 20)) :: .string (txt 5) :: .slice (some ⟨q224, 0, none⟩) 1 1 :: .tuple #[.string (txt 6), iN .i64 0] :: .string (txt 6) :: iN .i64 0 :: .tuple #[.string (txt 10), iN .i64 0] :: pt tb.q :: .string (txt 6) :: .string (s1) :: .string (txt 2) :: .string (sS s1) :: .slice (some ⟨q237, 0, none⟩) 4 4 :: .tuple #[.string (txt 10), iN .i64 0] :: .string (txt 10) :: iN .i64 0 :: List.replicate 139 un)).toArray, []⟩) (by kernel_rfl) ?_
    refine wp_seq ?_
    refine wp_seq ?_
    -- region 12
    refine wl_region ?_
    refine wl_val (iN .i64 0) (by kernel_rfl) (by kernel_rfl) ?_
    refine wl_val (.bool false) (by kernel_rfl) (run_nei (k := .i64) (a := 0) (b := 0) (by kernel_rfl) (by kernel_rfl) false (by decide)) ?_
    refine wl_val (.bool false) (by kernel_rfl) (by kernel_rfl) ?_
    refine wl_val (iN .i64 0) (by kernel_rfl) (by kernel_rfl) ?_
    refine wl_val (.bool false) (by kernel_rfl) (run_nei (k := .i64) (a := 0) (b := 0) (by kernel_rfl) (by kernel_rfl) false (by decide)) ?_
    refine wl_val (.bool false) (by kernel_rfl) (by kernel_rfl) ?_
    refine wl_val (.bool false) (by kernel_rfl) (by kernel_rfl) ?_
    refine wl_val (iN .i64 0) (by kernel_rfl) (by kernel_rfl) ?_
    refine wl_val (.bool false) (by kernel_rfl) (run_nei (k := .i64) (a := 0) (b := 0) (by kernel_rfl) (by kernel_rfl) false (by decide)) ?_
    refine wl_val (.bool false) (by kernel_rfl) (by kernel_rfl) ?_
    refine wl_val (.bool false) (by kernel_rfl) (by kernel_rfl) ?_
    refine wl_val (iN .i64 0) (by kernel_rfl) (by kernel_rfl) ?_
    refine wl_val (.bool false) (by kernel_rfl) (run_nei (k := .i64) (a := 0) (b := 0) (by kernel_rfl) (by kernel_rfl) false (by decide)) ?_
    refine wl_val (.bool false) (by kernel_rfl) (by kernel_rfl) ?_
    refine wl_val (.bool false) (by kernel_rfl) (by kernel_rfl) ?_
    refine wl_val (iN .i64 0) (by kernel_rfl) (by kernel_rfl) ?_
    refine wl_val (.bool false) (by kernel_rfl) (run_nei (k := .i64) (a := 0) (b := 0) (by kernel_rfl) (by kernel_rfl) false (by decide)) ?_
    refine wl_val (.bool false) (by kernel_rfl) (by kernel_rfl) ?_
    refine wl_val (.bool false) (by kernel_rfl) (by kernel_rfl) ?_
    refine wl_val (iN .i64 0) (by kernel_rfl) (by kernel_rfl) ?_
    refine wl_val (.bool false) (by kernel_rfl) (run_nei (k := .i64) (a := 0) (b := 0) (by kernel_rfl) (by kernel_rfl) false (by decide)) ?_
    refine wl_val (.bool false) (by kernel_rfl) (by kernel_rfl) ?_
    refine wl_val (.bool false) (by kernel_rfl) (by kernel_rfl) ?_
    refine wl_val (.string (txt 5)) (by kernel_rfl) (by kernel_rfl) ?_
    refine wl_val (.string (txt 5)) (by kernel_rfl) (by kernel_rfl) ?_
    refine wl_val (.bool false) (by kernel_rfl) (run_nes (s := txt 5) (t := txt 5) (by kernel_rfl) (by kernel_rfl) false (decide_eq_true rfl)) ?_
    refine wl_val (.bool false) (by kernel_rfl) (by kernel_rfl) ?_
    refine wl_nil ?_
    refine then_at (F := ⟨(zT18_9 s1 label tb s q172 q185 q198 q211 q224 q237 un (List.replicate 112 un)).toArray, []⟩) (by kernel_rfl) ?_
    refine wp_cond_false (by kernel_rfl) ?_
    refine wp_skip ?_
    refine then_at (F := ⟨(zT18_9 s1 label tb s q172 q185 q198 q211 q224 q237 un (List.replicate 112 un)).toArray, []⟩) (by kernel_rfl) ?_
    refine wp_seq ?_
    refine wp_seq ?_
    by_cases hwl : (wth 11 (sS s1)).length = 1
    · have hwS : wth 11 (sS s1) = [2] := one_is hwl (sS_two s1 (by kernel_rfl))
      -- region 14
      refine wl_region ?_
      refine wl_val (.pointer (some ⟨tb.q, 0, none⟩)) (by kernel_rfl) (by kernel_rfl) ?_
      refine wl_val (.string (s1)) (by kernel_rfl) (by kernel_rfl) ?_
      refine wl_val (.string (txt 2)) (by kernel_rfl) (by kernel_rfl) ?_
      refine wl_val (.string (sS s1)) (by kernel_rfl) (run_cat (s := s1) (t := txt 2) (by kernel_rfl) (by kernel_rfl) (by rw [txt_size]; omega)) ?_
      have hszS : (sS s1).size ≤ 1000000 := by rw [sS_size]; omega
      have hwi251 := Within_any (TH.view hT249) (by simp) (cell_below (TH.below hT249) hv) (sS s1) hszS
      refine wl_callx (by kernel_rfl) enter13 #[.pointer (some ⟨tb.q, 0, none⟩), .string (sS s1)] (by kernel_rfl) (hwi251) ?_
      rintro _ w252 ⟨ow, cw, rfl, _, hb250⟩
      refine ⟨_, rfl, ?_⟩
      have hT253 : TH w [] tb [.nm 0, .nm 1, .nm 2, .mk 3 0 ({ data := #[] }) [0] b179, .mk 3 0 ({ data := #[] }) [1] b192, .mk 4 0 ({ data := #[] }) [0, 1] b205, .mk 5 0 (label.extract 0 (min label.size 20)) [5] b231, .dt nonce, .dt adS, .dt (sS s1), .mk 6 0 ({ data := #[] }) [6, 7, 8, 9] b244] ([]) w252 := TH.keep hT249 hb250
      refine wl_val (iN .i64 ((wth 11 (sS s1)).length)) (by kernel_rfl) (by kernel_rfl) ?_
      refine wl_val (.bool false) (by kernel_rfl) (run_nei (k := .i64) (a := (wth 11 (sS s1)).length) (b := 1) (by kernel_rfl) (by kernel_rfl) false (decide_eq_false (fun h => h hwl))) ?_
      refine wl_nil ?_
      refine then_at (F := ⟨(zT18_9 s1 label tb s q172 q185 q198 q211 q224 q237 un (pt tb.q :: .string (s1) :: .string (txt 2) :: .string (sS s1) :: .slice ow (wth 11 (sS s1)).length cw :: iN .i64 ((wth 11 (sS s1)).length) :: .bool false :: List.replicate 105 un)).toArray, []⟩) (by kernel_rfl) ?_
      refine wp_cond_false (by kernel_rfl) ?_
      refine wp_skip ?_
      refine then_at (F := ⟨(zT18_9 s1 label tb s q172 q185 q198 q211 q224 q237 un (pt tb.q :: .string (s1) :: .string (txt 2) :: .string (sS s1) :: .slice ow (wth 11 (sS s1)).length cw :: iN .i64 ((wth 11 (sS s1)).length) :: .bool false :: List.replicate 105 un)).toArray, []⟩) (by kernel_rfl) ?_
      refine wp_seq ?_
      -- region 16
      refine wl_region ?_
      refine wl_val (.pointer (some ⟨tb.q, 0, none⟩)) (by kernel_rfl) (by kernel_rfl) ?_
      refine wl_val (.string (txt 3)) (by kernel_rfl) (by kernel_rfl) ?_
      refine wl_val (.string (txt 4)) (by kernel_rfl) (by kernel_rfl) ?_
      refine wl_val (.string pqS) (by kernel_rfl) (run_cat (s := txt 3) (t := txt 4) (by kernel_rfl) (by kernel_rfl) (by simp only [txt_size]; decide)) ?_
      refine wl_val (.string (txt 10)) (by kernel_rfl) (by kernel_rfl) ?_
      refine wl_val (.string (ahS 10)) (by kernel_rfl) (run_cat (s := aheadS) (t := txt 10) (by kernel_rfl) (by kernel_rfl) (by simp only [txt_size]; decide)) ?_
      refine wl_mksT (n := 2) (m := 2) (c := strc [pqS, ahS 10]) hT253 9 (by kernel_rfl) (by kernel_rfl) ?_
      intro q254 w255 (hT256 : TH w [] tb [.nm 0, .nm 1, .nm 2, .mk 3 0 ({ data := #[] }) [0] b179, .mk 3 0 ({ data := #[] }) [1] b192, .mk 4 0 ({ data := #[] }) [0, 1] b205, .mk 5 0 (label.extract 0 (min label.size 20)) [5] b231, .dt nonce, .dt adS, .dt (sS s1), .mk 6 0 ({ data := #[] }) [6, 7, 8, 9] b244] ((q254, 9, strc [pqS, ahS 10]) :: []) w255)
      have hkn261 := Known_any (TH.view hT256) hw247 hg248 (by simp) (fun i u hu => by
      have hmm := List.mem_of_getElem? hu
      simp only [List.mem_cons, List.not_mem_nil, or_false, false_or, reduceCtorEq, Ent.dt.injEq] at hmm
      rcases hmm with rfl | rfl | rfl
      · exact (by decide)
      · exact (by decide)
      · exact (by rw [sS_size]; omega)
      ) (cell_below (TH.below hT256) hv) [pqS, ahS 10] (some ⟨q254, 0, none⟩) 2 (.inr ⟨q254, rfl, TH.blk hT256 (x := (q254, 9, strc [pqS, ahS 10])) (List.mem_cons_self ..)⟩) (strs_le (fun y hy => by
      simp only [List.mem_cons, List.not_mem_nil, or_false] at hy
      rcases hy with rfl | rfl
      · exact (by rw [pqS_size]; decide)
      · exact (by rw [ahS_size]; decide)
      )) (by simp)
      refine wl_callx (by kernel_rfl) enter19 #[.pointer (some ⟨tb.q, 0, none⟩), .slice (some ⟨q254, 0, none⟩) 2 2] (by kernel_rfl) (hkn261) ?_
      rintro _ w262 ⟨kb257, rfl, hl258, hB259, hb260⟩
      refine ⟨_, rfl, ?_⟩
      have hk263 : knownF [.nm 0, .nm 1, .nm 2, .mk 3 0 ({ data := #[] }) [0] b179, .mk 3 0 ({ data := #[] }) [1] b192, .mk 4 0 ({ data := #[] }) [0, 1] b205, .mk 5 0 (label.extract 0 (min label.size 20)) [5] b231, .dt nonce, .dt adS, .dt (sS s1), .mk 6 0 ({ data := #[] }) [6, 7, 8, 9] b244] [pqS, ahS 10] = [false, false, false, true, true, false, false, true, true, false, true] := knownL (m := 11) (l := [.n, .n, .n, .m 3 0 [0], .m 3 0 [1], .m 4 0 [0, 1], .m 5 0 [5], .d [], .d [], .d [2], .m 6 0 [6, 7, 8, 9]]) (q := [[3, 4], [10]]) rfl (by simp only [List.map_cons, List.map_nil, itm, hwS, show wth 11 nonce = [] from by kernel_rfl, show wth 11 adS = [] from by kernel_rfl]) (by kernel_rfl) (by kernel_rfl)
      rw [hk263] at hB259
      have hT264 := TH.add hT256 hb260 hl258 hB259
      have hT265 : TH w [] tb [.nm 0, .nm 1, .nm 2, .mk 3 0 ({ data := #[] }) [0] b179, .mk 3 0 ({ data := #[] }) [1] b192, .mk 4 0 ({ data := #[] }) [0, 1] b205, .mk 5 0 (label.extract 0 (min label.size 20)) [5] b231, .dt nonce, .dt adS, .dt (sS s1), .mk 6 0 ({ data := #[] }) [6, 7, 8, 9] b244] ((kb257, 4, boc [false, false, false, true, true, false, false, true, true, false, true]) :: []) w262 := TH.sub hT264 (List.Sublist.cons_cons _ (List.sublist_cons_self _ _))
      refine wl_val (.slice (some ⟨kb257, 0, none⟩) 11 11) (by kernel_rfl) (by kernel_rfl) ?_
      refine wl_nil ?_
      refine then_at (F := ⟨(zT18_9 s1 label tb s q172 q185 q198 q211 q224 q237 (.slice (some ⟨kb257, 0, none⟩) 11 11) (pt tb.q :: .string (s1) :: .string (txt 2) :: .string (sS s1) :: .slice ow (wth 11 (sS s1)).length cw :: iN .i64 ((wth 11 (sS s1)).length) :: .bool false :: un :: pt tb.q :: .string (txt 3) :: .string (txt 4) :: .string pqS :: .string (txt 10) :: .string (ahS 10) :: .slice (some ⟨q254, 0, none⟩) 2 2 :: .slice (some ⟨kb257, 0, none⟩) 11 11 :: List.replicate 96 un)).toArray, []⟩) (by kernel_rfl) ?_
      refine wp_seq ?_
      refine wp_seq ?_
      -- region 17
      refine wl_region ?_
      refine wl_val (.slice (some ⟨kb257, 0, none⟩) 11 11) (by kernel_rfl) (by kernel_rfl) ?_
      refine wl_val (iN .i64 11) (by kernel_rfl) (by kernel_rfl) ?_
      refine wl_val (.pointer (some ⟨tb.q, 0, none⟩)) (by kernel_rfl) (by kernel_rfl) ?_
      obtain ⟨_, hL266, _, _, rfl⟩ := TH.len (n := 11) hT265 rfl
      refine wl_callx (by kernel_rfl) enter20 #[.pointer (some ⟨tb.q, 0, none⟩)] (by kernel_rfl) (Len_any hL266) ?_
      rintro _ w268 ⟨rfl, hb267⟩
      refine ⟨_, rfl, ?_⟩
      have hT269 : TH w [] tb [.nm 0, .nm 1, .nm 2, .mk 3 0 ({ data := #[] }) [0] b179, .mk 3 0 ({ data := #[] }) [1] b192, .mk 4 0 ({ data := #[] }) [0, 1] b205, .mk 5 0 (label.extract 0 (min label.size 20)) [5] b231, .dt nonce, .dt adS, .dt (sS s1), .mk 6 0 ({ data := #[] }) [6, 7, 8, 9] b244] ((kb257, 4, boc [false, false, false, true, true, false, false, true, true, false, true]) :: []) w268 := TH.keep hT265 hb267
      refine wl_val (.bool false) (by kernel_rfl) (run_nei (k := .i64) (a := 11) (b := 11) (by kernel_rfl) (by kernel_rfl) false (by decide)) ?_
      refine wl_val (.bool false) (by kernel_rfl) (by kernel_rfl) ?_
      refine wl_val (.slice (some ⟨kb257, 0, none⟩) 11 11) (by kernel_rfl) (by kernel_rfl) ?_
      refine wl_val (.pointer (some ⟨kb257, 0, none⟩)) (by kernel_rfl) (run_addr_slice (q := kb257) (n := 11) (m := 11) (a := 0) Try.underlying46 (fun w => Try.sizeOf4 w) (by kernel_rfl) (by kernel_rfl) (by decide)) ?_
      refine wl_val (.bool false) (by kernel_rfl) (run_load1 (fun w => Try.isAgg4 w) (by kernel_rfl) (((TH.blk hT269 (x := (kb257, 4, boc [false, false, false, true, true, false, false, true, true, false, true])) (by simp)).cell 0).trans rfl)) ?_
      refine wl_val (.bool false) (by kernel_rfl) (by kernel_rfl) ?_
      refine wl_val (.bool false) (by kernel_rfl) (by kernel_rfl) ?_
      refine wl_val (.slice (some ⟨kb257, 0, none⟩) 11 11) (by kernel_rfl) (by kernel_rfl) ?_
      refine wl_val (.pointer (some ⟨kb257, 1, none⟩)) (by kernel_rfl) (run_addr_slice (q := kb257) (n := 11) (m := 11) (a := 1) Try.underlying46 (fun w => Try.sizeOf4 w) (by kernel_rfl) (by kernel_rfl) (by decide)) ?_
      refine wl_val (.bool false) (by kernel_rfl) (run_load1 (fun w => Try.isAgg4 w) (by kernel_rfl) (((TH.blk hT269 (x := (kb257, 4, boc [false, false, false, true, true, false, false, true, true, false, true])) (by simp)).cell 1).trans rfl)) ?_
      refine wl_val (.bool false) (by kernel_rfl) (by kernel_rfl) ?_
      refine wl_val (.bool false) (by kernel_rfl) (by kernel_rfl) ?_
      refine wl_val (.slice (some ⟨kb257, 0, none⟩) 11 11) (by kernel_rfl) (by kernel_rfl) ?_
      refine wl_val (.pointer (some ⟨kb257, 2, none⟩)) (by kernel_rfl) (run_addr_slice (q := kb257) (n := 11) (m := 11) (a := 2) Try.underlying46 (fun w => Try.sizeOf4 w) (by kernel_rfl) (by kernel_rfl) (by decide)) ?_
      refine wl_val (.bool false) (by kernel_rfl) (run_load1 (fun w => Try.isAgg4 w) (by kernel_rfl) (((TH.blk hT269 (x := (kb257, 4, boc [false, false, false, true, true, false, false, true, true, false, true])) (by simp)).cell 2).trans rfl)) ?_
      refine wl_val (.bool false) (by kernel_rfl) (by kernel_rfl) ?_
      refine wl_val (.bool false) (by kernel_rfl) (by kernel_rfl) ?_
      refine wl_val (.slice (some ⟨kb257, 0, none⟩) 11 11) (by kernel_rfl) (by kernel_rfl) ?_
      refine wl_val (.pointer (some ⟨kb257, 3, none⟩)) (by kernel_rfl) (run_addr_slice (q := kb257) (n := 11) (m := 11) (a := 3) Try.underlying46 (fun w => Try.sizeOf4 w) (by kernel_rfl) (by kernel_rfl) (by decide)) ?_
      refine wl_val (.bool true) (by kernel_rfl) (run_load1 (fun w => Try.isAgg4 w) (by kernel_rfl) (((TH.blk hT269 (x := (kb257, 4, boc [false, false, false, true, true, false, false, true, true, false, true])) (by simp)).cell 3).trans rfl)) ?_
      refine wl_val (.bool false) (by kernel_rfl) (by kernel_rfl) ?_
      refine wl_val (.bool false) (by kernel_rfl) (by kernel_rfl) ?_
      refine wl_val (.bool false) (by kernel_rfl) (by kernel_rfl) ?_
      refine wl_val (.slice (some ⟨kb257, 0, none⟩) 11 11) (by kernel_rfl) (by kernel_rfl) ?_
      refine wl_val (.pointer (some ⟨kb257, 4, none⟩)) (by kernel_rfl) (run_addr_slice (q := kb257) (n := 11) (m := 11) (a := 4) Try.underlying46 (fun w => Try.sizeOf4 w) (by kernel_rfl) (by kernel_rfl) (by decide)) ?_
      refine wl_val (.bool true) (by kernel_rfl) (run_load1 (fun w => Try.isAgg4 w) (by kernel_rfl) (((TH.blk hT269 (x := (kb257, 4, boc [false, false, false, true, true, false, false, true, true, false, true])) (by simp)).cell 4).trans rfl)) ?_
      refine wl_val (.bool false) (by kernel_rfl) (by kernel_rfl) ?_
      refine wl_val (.bool false) (by kernel_rfl) (by kernel_rfl) ?_
      refine wl_val (.bool false) (by kernel_rfl) (by kernel_rfl) ?_
      refine wl_val (.slice (some ⟨kb257, 0, none⟩) 11 11) (by kernel_rfl) (by kernel_rfl) ?_
      refine wl_val (.pointer (some ⟨kb257, 5, none⟩)) (by kernel_rfl) (run_addr_slice (q := kb257) (n := 11) (m := 11) (a := 5) Try.underlying46 (fun w => Try.sizeOf4 w) (by kernel_rfl) (by kernel_rfl) (by decide)) ?_
      refine wl_val (.bool false) (by kernel_rfl) (run_load1 (fun w => Try.isAgg4 w) (by kernel_rfl) (((TH.blk hT269 (x := (kb257, 4, boc [false, false, false, true, true, false, false, true, true, false, true])) (by simp)).cell 5).trans rfl)) ?_
      refine wl_val (.bool false) (by kernel_rfl) (by kernel_rfl) ?_
      refine wl_val (.bool false) (by kernel_rfl) (by kernel_rfl) ?_
      refine wl_val (.slice (some ⟨kb257, 0, none⟩) 11 11) (by kernel_rfl) (by kernel_rfl) ?_
      refine wl_val (.pointer (some ⟨kb257, 6, none⟩)) (by kernel_rfl) (run_addr_slice (q := kb257) (n := 11) (m := 11) (a := 6) Try.underlying46 (fun w => Try.sizeOf4 w) (by kernel_rfl) (by kernel_rfl) (by decide)) ?_
      refine wl_val (.bool false) (by kernel_rfl) (run_load1 (fun w => Try.isAgg4 w) (by kernel_rfl) (((TH.blk hT269 (x := (kb257, 4, boc [false, false, false, true, true, false, false, true, true, false, true])) (by simp)).cell 6).trans rfl)) ?_
      refine wl_val (.bool false) (by kernel_rfl) (by kernel_rfl) ?_
      refine wl_nil ?_
      refine then_at (F := ⟨(zT18_10 s1 label tb kb257 s q172 q185 q198 q211 q224 q237 ow cw q254 un un (List.replicate 54 un)).toArray, []⟩) (by kernel_rfl) ?_
      refine wp_cond_false (by kernel_rfl) ?_
      refine wp_skip ?_
      refine then_at (F := ⟨(zT18_10 s1 label tb kb257 s q172 q185 q198 q211 q224 q237 ow cw q254 un un (List.replicate 54 un)).toArray, []⟩) (by kernel_rfl) ?_
      refine wp_seq ?_
      refine wp_seq ?_
      -- region 19
      refine wl_region ?_
      refine wl_val (iN .i64 0) (by kernel_rfl) (by kernel_rfl) ?_
      refine wl_nil ?_
      refine then_at (F := ⟨(zT18_10 s1 label tb kb257 s q172 q185 q198 q211 q224 q237 ow cw q254 (iN .i64 0) un (List.replicate 54 un)).toArray, []⟩) (by kernel_rfl) ?_
      refine wp_block ?_
      refine wp_loop_rounds 3 ?_
      try rw [rounds_succ]
      refine wp_seq ?_
      refine wp_seq ?_
      -- region 20
      refine wl_region ?_
      refine wl_val (iN .i64 0) (by kernel_rfl) (by kernel_rfl) ?_
      refine wl_val (.bool true) (by kernel_rfl) (run_lss (k := .i64) (a := 0) (b := 2) (by kernel_rfl) (by kernel_rfl) true (by decide)) ?_
      refine wl_nil ?_
      refine then_at (F := ⟨(zT18_10 s1 label tb kb257 s q172 q185 q198 q211 q224 q237 ow cw q254 (iN .i64 0) un (iN .i64 0 :: .bool true :: List.replicate 52 un)).toArray, []⟩) (by kernel_rfl) ?_
      refine wp_cond_true (by kernel_rfl) ?_
      refine wp_skip ?_
      refine then_at (F := ⟨(zT18_10 s1 label tb kb257 s q172 q185 q198 q211 q224 q237 ow cw q254 (iN .i64 0) un (iN .i64 0 :: .bool true :: List.replicate 52 un)).toArray, []⟩) (by kernel_rfl) ?_
      refine wp_seq ?_
      refine wp_block ?_
      refine wp_seq ?_
      -- region 22
      refine wl_region ?_
      refine wl_val (.pointer (some ⟨tb.q, 0, none⟩)) (by kernel_rfl) (by kernel_rfl) ?_
      refine wl_val (.string (txt 3)) (by kernel_rfl) (by kernel_rfl) ?_
      refine wl_val (.string (txt 4)) (by kernel_rfl) (by kernel_rfl) ?_
      refine wl_val (.string (txt 10)) (by kernel_rfl) (by kernel_rfl) ?_
      refine wl_val (.string (txt 0)) (by kernel_rfl) (by kernel_rfl) ?_
      refine wl_val (.string (txt 1)) (by kernel_rfl) (by kernel_rfl) ?_
      refine wl_mksT (n := 2) (m := 2) (c := strc [txt 0, txt 1]) hT269 9 (by kernel_rfl) (by kernel_rfl) ?_
      intro q270 w271 (hT272 : TH w [] tb [.nm 0, .nm 1, .nm 2, .mk 3 0 ({ data := #[] }) [0] b179, .mk 3 0 ({ data := #[] }) [1] b192, .mk 4 0 ({ data := #[] }) [0, 1] b205, .mk 5 0 (label.extract 0 (min label.size 20)) [5] b231, .dt nonce, .dt adS, .dt (sS s1), .mk 6 0 ({ data := #[] }) [6, 7, 8, 9] b244] ((q270, 9, strc [txt 0, txt 1]) :: (kb257, 4, boc [false, false, false, true, true, false, false, true, true, false, true]) :: []) w271)
      refine wl_val (iN .i64 0) (by kernel_rfl) (by kernel_rfl) ?_
      refine wl_val (.pointer (some ⟨q270, 0, none⟩)) (by kernel_rfl) (run_addr_slice (q := q270) (n := 2) (m := 2) (a := 0) Try.underlying48 (fun w => Try.sizeOf9 w) (by kernel_rfl) (by kernel_rfl) (by decide)) ?_
      refine wl_val (.string (txt 0)) (by kernel_rfl) (run_load1 (fun w => Try.isAgg9 w) (by kernel_rfl) (((TH.blk hT272 (x := (q270, 9, strc [txt 0, txt 1])) (by simp)).cell 0).trans rfl)) ?_
      refine wl_mksT (n := 4) (m := 4) (c := strc [txt 3, txt 4, txt 10, txt 0]) hT272 9 (by kernel_rfl) (by kernel_rfl) ?_
      intro q273 w274 (hT275 : TH w [] tb [.nm 0, .nm 1, .nm 2, .mk 3 0 ({ data := #[] }) [0] b179, .mk 3 0 ({ data := #[] }) [1] b192, .mk 4 0 ({ data := #[] }) [0, 1] b205, .mk 5 0 (label.extract 0 (min label.size 20)) [5] b231, .dt nonce, .dt adS, .dt (sS s1), .mk 6 0 ({ data := #[] }) [6, 7, 8, 9] b244] ((q273, 9, strc [txt 3, txt 4, txt 10, txt 0]) :: (q270, 9, strc [txt 0, txt 1]) :: (kb257, 4, boc [false, false, false, true, true, false, false, true, true, false, true]) :: []) w274)
      have hkn280 := Known_any (TH.view hT275) hw247 hg248 (by simp) (fun i u hu => by
      have hmm := List.mem_of_getElem? hu
      simp only [List.mem_cons, List.not_mem_nil, or_false, false_or, reduceCtorEq, Ent.dt.injEq] at hmm
      rcases hmm with rfl | rfl | rfl
      · exact (by decide)
      · exact (by decide)
      · exact (by rw [sS_size]; omega)
      ) (cell_below (TH.below hT275) hv) [txt 3, txt 4, txt 10, txt 0] (some ⟨q273, 0, none⟩) 4 (.inr ⟨q273, rfl, TH.blk hT275 (x := (q273, 9, strc [txt 3, txt 4, txt 10, txt 0])) (List.mem_cons_self ..)⟩) (strs_le (fun y hy => by
      simp only [List.mem_cons, List.not_mem_nil, or_false] at hy
      rcases hy with rfl | rfl | rfl | rfl
      · exact (by rw [txt_size]; decide)
      · exact (by rw [txt_size]; decide)
      · exact (by rw [txt_size]; decide)
      · exact (by rw [txt_size]; decide)
      )) (by simp)
      refine wl_callx (by kernel_rfl) enter19 #[.pointer (some ⟨tb.q, 0, none⟩), .slice (some ⟨q273, 0, none⟩) 4 4] (by kernel_rfl) (hkn280) ?_
      rintro _ w281 ⟨kb276, rfl, hl277, hB278, hb279⟩
      refine ⟨_, rfl, ?_⟩
      have hk282 : knownF [.nm 0, .nm 1, .nm 2, .mk 3 0 ({ data := #[] }) [0] b179, .mk 3 0 ({ data := #[] }) [1] b192, .mk 4 0 ({ data := #[] }) [0, 1] b205, .mk 5 0 (label.extract 0 (min label.size 20)) [5] b231, .dt nonce, .dt adS, .dt (sS s1), .mk 6 0 ({ data := #[] }) [6, 7, 8, 9] b244] [txt 3, txt 4, txt 10, txt 0] = [true, false, true, true, true, true, true, true, true, true, true] := knownL (m := 11) (l := [.n, .n, .n, .m 3 0 [0], .m 3 0 [1], .m 4 0 [0, 1], .m 5 0 [5], .d [], .d [], .d [2], .m 6 0 [6, 7, 8, 9]]) (q := [[3], [4], [10], [0]]) rfl (by simp only [List.map_cons, List.map_nil, itm, hwS, show wth 11 nonce = [] from by kernel_rfl, show wth 11 adS = [] from by kernel_rfl]) (by kernel_rfl) (by kernel_rfl)
      rw [hk282] at hB278
      have hT283 := TH.add hT275 hb279 hl277 hB278
      have hT284 : TH w [] tb [.nm 0, .nm 1, .nm 2, .mk 3 0 ({ data := #[] }) [0] b179, .mk 3 0 ({ data := #[] }) [1] b192, .mk 4 0 ({ data := #[] }) [0, 1] b205, .mk 5 0 (label.extract 0 (min label.size 20)) [5] b231, .dt nonce, .dt adS, .dt (sS s1), .mk 6 0 ({ data := #[] }) [6, 7, 8, 9] b244] ((kb276, 4, boc [true, false, true, true, true, true, true, true, true, true, true]) :: (q270, 9, strc [txt 0, txt 1]) :: (kb257, 4, boc [false, false, false, true, true, false, false, true, true, false, true]) :: []) w281 := TH.sub hT283 (List.Sublist.cons_cons _ (List.sublist_cons_self _ _))
      refine wl_val (.slice (some ⟨kb276, 0, none⟩) 11 11) (by kernel_rfl) (by kernel_rfl) ?_
      refine wl_nil ?_
      refine then_at (F := ⟨(zT18_10 s1 label tb kb257 s q172 q185 q198 q211 q224 q237 ow cw q254 (iN .i64 0) (.slice (some ⟨kb276, 0, none⟩) 11 11) (iN .i64 0 :: .bool true :: un :: un :: pt tb.q :: .string (txt 3) :: .string (txt 4) :: .string (txt 10) :: .string (txt 0) :: .string (txt 1) :: .slice (some ⟨q270, 0, none⟩) 2 2 :: iN .i64 0 :: pt q270 :: .string (txt 0) :: .slice (some ⟨q273, 0, none⟩) 4 4 :: .slice (some ⟨kb276, 0, none⟩) 11 11 :: List.replicate 38 un)).toArray, []⟩) (by kernel_rfl) ?_
      refine wp_seq ?_
      -- region 23
      refine wl_region ?_
      refine wl_val (.slice (some ⟨kb276, 0, none⟩) 11 11) (by kernel_rfl) (by kernel_rfl) ?_
      refine wl_val (iN .i64 11) (by kernel_rfl) (by kernel_rfl) ?_
      refine wl_val (.pointer (some ⟨tb.q, 0, none⟩)) (by kernel_rfl) (by kernel_rfl) ?_
      obtain ⟨_, hL285, _, _, rfl⟩ := TH.len (n := 11) hT284 rfl
      refine wl_callx (by kernel_rfl) enter20 #[.pointer (some ⟨tb.q, 0, none⟩)] (by kernel_rfl) (Len_any hL285) ?_
      rintro _ w287 ⟨rfl, hb286⟩
      refine ⟨_, rfl, ?_⟩
      have hT288 : TH w [] tb [.nm 0, .nm 1, .nm 2, .mk 3 0 ({ data := #[] }) [0] b179, .mk 3 0 ({ data := #[] }) [1] b192, .mk 4 0 ({ data := #[] }) [0, 1] b205, .mk 5 0 (label.extract 0 (min label.size 20)) [5] b231, .dt nonce, .dt adS, .dt (sS s1), .mk 6 0 ({ data := #[] }) [6, 7, 8, 9] b244] ((kb276, 4, boc [true, false, true, true, true, true, true, true, true, true, true]) :: (q270, 9, strc [txt 0, txt 1]) :: (kb257, 4, boc [false, false, false, true, true, false, false, true, true, false, true]) :: []) w287 := TH.keep hT284 hb286
      refine wl_val (.bool false) (by kernel_rfl) (run_nei (k := .i64) (a := 11) (b := 11) (by kernel_rfl) (by kernel_rfl) false (by decide)) ?_
      refine wl_val (.bool false) (by kernel_rfl) (by kernel_rfl) ?_
      refine wl_val (.slice (some ⟨kb276, 0, none⟩) 11 11) (by kernel_rfl) (by kernel_rfl) ?_
      refine wl_val (.pointer (some ⟨kb276, 2, none⟩)) (by kernel_rfl) (run_addr_slice (q := kb276) (n := 11) (m := 11) (a := 2) Try.underlying46 (fun w => Try.sizeOf4 w) (by kernel_rfl) (by kernel_rfl) (by decide)) ?_
      refine wl_val (.bool true) (by kernel_rfl) (run_load1 (fun w => Try.isAgg4 w) (by kernel_rfl) (((TH.blk hT288 (x := (kb276, 4, boc [true, false, true, true, true, true, true, true, true, true, true])) (by simp)).cell 2).trans rfl)) ?_
      refine wl_val (.bool false) (by kernel_rfl) (by kernel_rfl) ?_
      refine wl_val (.bool false) (by kernel_rfl) (by kernel_rfl) ?_
      refine wl_val (.bool false) (by kernel_rfl) (by kernel_rfl) ?_
      refine wl_val (.slice (some ⟨kb276, 0, none⟩) 11 11) (by kernel_rfl) (by kernel_rfl) ?_
      refine wl_val (.pointer (some ⟨kb276, 5, none⟩)) (by kernel_rfl) (run_addr_slice (q := kb276) (n := 11) (m := 11) (a := 5) Try.underlying46 (fun w => Try.sizeOf4 w) (by kernel_rfl) (by kernel_rfl) (by decide)) ?_
      refine wl_val (.bool true) (by kernel_rfl) (run_load1 (fun w => Try.isAgg4 w) (by kernel_rfl) (((TH.blk hT288 (x := (kb276, 4, boc [true, false, true, true, true, true, true, true, true, true, true])) (by simp)).cell 5).trans rfl)) ?_
      refine wl_val (.bool false) (by kernel_rfl) (by kernel_rfl) ?_
      refine wl_val (.bool false) (by kernel_rfl) (by kernel_rfl) ?_
      refine wl_val (.bool false) (by kernel_rfl) (by kernel_rfl) ?_
      refine wl_val (.slice (some ⟨kb276, 0, none⟩) 11 11) (by kernel_rfl) (by kernel_rfl) ?_
      refine wl_val (.pointer (some ⟨kb276, 6, none⟩)) (by kernel_rfl) (run_addr_slice (q := kb276) (n := 11) (m := 11) (a := 6) Try.underlying46 (fun w => Try.sizeOf4 w) (by kernel_rfl) (by kernel_rfl) (by decide)) ?_
      refine wl_val (.bool true) (by kernel_rfl) (run_load1 (fun w => Try.isAgg4 w) (by kernel_rfl) (((TH.blk hT288 (x := (kb276, 4, boc [true, false, true, true, true, true, true, true, true, true, true])) (by simp)).cell 6).trans rfl)) ?_
      refine wl_val (.bool false) (by kernel_rfl) (by kernel_rfl) ?_
      refine wl_val (.bool false) (by kernel_rfl) (by kernel_rfl) ?_
      refine wl_val (.bool false) (by kernel_rfl) (by kernel_rfl) ?_
      refine wl_val (.slice (some ⟨kb276, 0, none⟩) 11 11) (by kernel_rfl) (by kernel_rfl) ?_
      refine wl_val (iN .i64 0) (by kernel_rfl) (by kernel_rfl) ?_
      refine wl_val (.pointer (some ⟨kb276, 0, none⟩)) (by kernel_rfl) (run_addr_slice (q := kb276) (n := 11) (m := 11) (a := 0) Try.underlying46 (fun w => Try.sizeOf4 w) (by kernel_rfl) (by kernel_rfl) (by decide)) ?_
      refine wl_val (.bool true) (by kernel_rfl) (run_load1 (fun w => Try.isAgg4 w) (by kernel_rfl) (((TH.blk hT288 (x := (kb276, 4, boc [true, false, true, true, true, true, true, true, true, true, true])) (by simp)).cell 0).trans rfl)) ?_
      refine wl_val (.bool false) (by kernel_rfl) (by kernel_rfl) ?_
      refine wl_val (.bool false) (by kernel_rfl) (by kernel_rfl) ?_
      refine wl_val (.bool false) (by kernel_rfl) (by kernel_rfl) ?_
      refine wl_val (.slice (some ⟨kb276, 0, none⟩) 11 11) (by kernel_rfl) (by kernel_rfl) ?_
      refine wl_val (iN .i64 0) (by kernel_rfl) (by kernel_rfl) ?_
      refine wl_val (iN .i64 (1 - 0)) (by kernel_rfl) (run_sub (k := .i64) (a := 1) (b := 0) (by kernel_rfl) (by kernel_rfl) (by decide) (by decide)) ?_
      refine wl_val (.pointer (some ⟨kb276, 1 - 0, none⟩)) (by kernel_rfl) (run_addr_slice (q := kb276) (n := 11) (m := 11) (a := 1 - 0) Try.underlying46 (fun w => Try.sizeOf4 w) (by kernel_rfl) (by kernel_rfl) (by decide)) ?_
      refine wl_val (.bool false) (by kernel_rfl) (run_load1 (fun w => Try.isAgg4 w) (by kernel_rfl) (((TH.blk hT288 (x := (kb276, 4, boc [true, false, true, true, true, true, true, true, true, true, true])) (by simp)).cell (1 - 0)).trans rfl)) ?_
      refine wl_val (.bool false) (by kernel_rfl) (by kernel_rfl) ?_
      refine wl_nil ?_
      refine then_at (F := ⟨(zT18_11 s1 label tb kb257 s q172 q185 q198 q211 q224 q237 ow cw q254 kb276 (iN .i64 0) (.slice (some ⟨kb276, 0, none⟩) 11 11) (iN .i64 0) un un (.slice (some ⟨q270, 0, none⟩) 2 2) (iN .i64 0) (pt q270) (.string (txt 0)) (.slice (some ⟨q273, 0, none⟩) 4 4) (.slice (some ⟨kb276, 0, none⟩) 11 11) ([])).toArray, []⟩) (by kernel_rfl) ?_
      refine wp_cond_false (by kernel_rfl) ?_
      refine wp_skip ?_
      refine block_normal ?_
      refine then_at (F := ⟨(zT18_11 s1 label tb kb257 s q172 q185 q198 q211 q224 q237 ow cw q254 kb276 (iN .i64 0) (.slice (some ⟨kb276, 0, none⟩) 11 11) (iN .i64 0) un un (.slice (some ⟨q270, 0, none⟩) 2 2) (iN .i64 0) (pt q270) (.string (txt 0)) (.slice (some ⟨q273, 0, none⟩) 4 4) (.slice (some ⟨kb276, 0, none⟩) 11 11) ([])).toArray, []⟩) (by kernel_rfl) ?_
      -- region 21
      refine wl_region ?_
      refine wl_val (iN .i64 0) (by kernel_rfl) (by kernel_rfl) ?_
      refine wl_val (iN .i64 (0 + 1)) (by kernel_rfl) (run_add (k := .i64) (a := 0) (b := 1) (by kernel_rfl) (by kernel_rfl) (by decide)) ?_
      refine wl_val (iN .i64 (0 + 1)) (by kernel_rfl) (by kernel_rfl) ?_
      refine wl_nil ?_
      refine then_at (F := ⟨(zT18_11 s1 label tb kb257 s q172 q185 q198 q211 q224 q237 ow cw q254 kb276 (iN .i64 (0 + 1)) (.slice (some ⟨kb276, 0, none⟩) 11 11) (iN .i64 0) (iN .i64 0) (iN .i64 (0 + 1)) (.slice (some ⟨q270, 0, none⟩) 2 2) (iN .i64 0) (pt q270) (.string (txt 0)) (.slice (some ⟨q273, 0, none⟩) 4 4) (.slice (some ⟨kb276, 0, none⟩) 11 11) ([])).toArray, []⟩) (by kernel_rfl) ?_
      try rw [rounds_succ]
      refine wp_seq ?_
      refine wp_seq ?_
      -- region 20
      refine wl_region ?_
      refine wl_val (iN .i64 (0 + 1)) (by kernel_rfl) (by kernel_rfl) ?_
      refine wl_val (.bool true) (by kernel_rfl) (run_lss (k := .i64) (a := 0 + 1) (b := 2) (by kernel_rfl) (by kernel_rfl) true (by decide)) ?_
      refine wl_nil ?_
      refine then_at (F := ⟨(zT18_11 s1 label tb kb257 s q172 q185 q198 q211 q224 q237 ow cw q254 kb276 (iN .i64 (0 + 1)) (.slice (some ⟨kb276, 0, none⟩) 11 11) (iN .i64 (0 + 1)) (iN .i64 0) (iN .i64 (0 + 1)) (.slice (some ⟨q270, 0, none⟩) 2 2) (iN .i64 0) (pt q270) (.string (txt 0)) (.slice (some ⟨q273, 0, none⟩) 4 4) (.slice (some ⟨kb276, 0, none⟩) 11 11) ([])).toArray, []⟩) (by kernel_rfl) ?_
      refine wp_cond_true (by kernel_rfl) ?_
      refine wp_skip ?_
      refine then_at (F := ⟨(zT18_11 s1 label tb kb257 s q172 q185 q198 q211 q224 q237 ow cw q254 kb276 (iN .i64 (0 + 1)) (.slice (some ⟨kb276, 0, none⟩) 11 11) (iN .i64 (0 + 1)) (iN .i64 0) (iN .i64 (0 + 1)) (.slice (some ⟨q270, 0, none⟩) 2 2) (iN .i64 0) (pt q270) (.string (txt 0)) (.slice (some ⟨q273, 0, none⟩) 4 4) (.slice (some ⟨kb276, 0, none⟩) 11 11) ([])).toArray, []⟩) (by kernel_rfl) ?_
      refine wp_seq ?_
      refine wp_block ?_
      refine wp_seq ?_
      -- region 22
      refine wl_region ?_
      refine wl_val (.pointer (some ⟨tb.q, 0, none⟩)) (by kernel_rfl) (by kernel_rfl) ?_
      refine wl_val (.string (txt 3)) (by kernel_rfl) (by kernel_rfl) ?_
      refine wl_val (.string (txt 4)) (by kernel_rfl) (by kernel_rfl) ?_
      refine wl_val (.string (txt 10)) (by kernel_rfl) (by kernel_rfl) ?_
      refine wl_val (.string (txt 0)) (by kernel_rfl) (by kernel_rfl) ?_
      refine wl_val (.string (txt 1)) (by kernel_rfl) (by kernel_rfl) ?_
      refine wl_mksT (n := 2) (m := 2) (c := strc [txt 0, txt 1]) hT288 9 (by kernel_rfl) (by kernel_rfl) ?_
      intro q289 w290 (hT291 : TH w [] tb [.nm 0, .nm 1, .nm 2, .mk 3 0 ({ data := #[] }) [0] b179, .mk 3 0 ({ data := #[] }) [1] b192, .mk 4 0 ({ data := #[] }) [0, 1] b205, .mk 5 0 (label.extract 0 (min label.size 20)) [5] b231, .dt nonce, .dt adS, .dt (sS s1), .mk 6 0 ({ data := #[] }) [6, 7, 8, 9] b244] ((q289, 9, strc [txt 0, txt 1]) :: (kb276, 4, boc [true, false, true, true, true, true, true, true, true, true, true]) :: (q270, 9, strc [txt 0, txt 1]) :: (kb257, 4, boc [false, false, false, true, true, false, false, true, true, false, true]) :: []) w290)
      refine wl_val (iN .i64 (0 + 1)) (by kernel_rfl) (by kernel_rfl) ?_
      refine wl_val (.pointer (some ⟨q289, 0 + 1, none⟩)) (by kernel_rfl) (run_addr_slice (q := q289) (n := 2) (m := 2) (a := 0 + 1) Try.underlying48 (fun w => Try.sizeOf9 w) (by kernel_rfl) (by kernel_rfl) (by decide)) ?_
      refine wl_val (.string (txt 1)) (by kernel_rfl) (run_load1 (fun w => Try.isAgg9 w) (by kernel_rfl) (((TH.blk hT291 (x := (q289, 9, strc [txt 0, txt 1])) (by simp)).cell (0 + 1)).trans rfl)) ?_
      refine wl_mksT (n := 4) (m := 4) (c := strc [txt 3, txt 4, txt 10, txt 1]) hT291 9 (by kernel_rfl) (by kernel_rfl) ?_
      intro q292 w293 (hT294 : TH w [] tb [.nm 0, .nm 1, .nm 2, .mk 3 0 ({ data := #[] }) [0] b179, .mk 3 0 ({ data := #[] }) [1] b192, .mk 4 0 ({ data := #[] }) [0, 1] b205, .mk 5 0 (label.extract 0 (min label.size 20)) [5] b231, .dt nonce, .dt adS, .dt (sS s1), .mk 6 0 ({ data := #[] }) [6, 7, 8, 9] b244] ((q292, 9, strc [txt 3, txt 4, txt 10, txt 1]) :: (q289, 9, strc [txt 0, txt 1]) :: (kb276, 4, boc [true, false, true, true, true, true, true, true, true, true, true]) :: (q270, 9, strc [txt 0, txt 1]) :: (kb257, 4, boc [false, false, false, true, true, false, false, true, true, false, true]) :: []) w293)
      have hkn299 := Known_any (TH.view hT294) hw247 hg248 (by simp) (fun i u hu => by
      have hmm := List.mem_of_getElem? hu
      simp only [List.mem_cons, List.not_mem_nil, or_false, false_or, reduceCtorEq, Ent.dt.injEq] at hmm
      rcases hmm with rfl | rfl | rfl
      · exact (by decide)
      · exact (by decide)
      · exact (by rw [sS_size]; omega)
      ) (cell_below (TH.below hT294) hv) [txt 3, txt 4, txt 10, txt 1] (some ⟨q292, 0, none⟩) 4 (.inr ⟨q292, rfl, TH.blk hT294 (x := (q292, 9, strc [txt 3, txt 4, txt 10, txt 1])) (List.mem_cons_self ..)⟩) (strs_le (fun y hy => by
      simp only [List.mem_cons, List.not_mem_nil, or_false] at hy
      rcases hy with rfl | rfl | rfl | rfl
      · exact (by rw [txt_size]; decide)
      · exact (by rw [txt_size]; decide)
      · exact (by rw [txt_size]; decide)
      · exact (by rw [txt_size]; decide)
      )) (by simp)
      refine wl_callx (by kernel_rfl) enter19 #[.pointer (some ⟨tb.q, 0, none⟩), .slice (some ⟨q292, 0, none⟩) 4 4] (by kernel_rfl) (hkn299) ?_
      rintro _ w300 ⟨kb295, rfl, hl296, hB297, hb298⟩
      refine ⟨_, rfl, ?_⟩
      have hk301 : knownF [.nm 0, .nm 1, .nm 2, .mk 3 0 ({ data := #[] }) [0] b179, .mk 3 0 ({ data := #[] }) [1] b192, .mk 4 0 ({ data := #[] }) [0, 1] b205, .mk 5 0 (label.extract 0 (min label.size 20)) [5] b231, .dt nonce, .dt adS, .dt (sS s1), .mk 6 0 ({ data := #[] }) [6, 7, 8, 9] b244] [txt 3, txt 4, txt 10, txt 1] = [false, true, true, true, true, true, true, true, true, true, true] := knownL (m := 11) (l := [.n, .n, .n, .m 3 0 [0], .m 3 0 [1], .m 4 0 [0, 1], .m 5 0 [5], .d [], .d [], .d [2], .m 6 0 [6, 7, 8, 9]]) (q := [[3], [4], [10], [1]]) rfl (by simp only [List.map_cons, List.map_nil, itm, hwS, show wth 11 nonce = [] from by kernel_rfl, show wth 11 adS = [] from by kernel_rfl]) (by kernel_rfl) (by kernel_rfl)
      rw [hk301] at hB297
      have hT302 := TH.add hT294 hb298 hl296 hB297
      have hT303 : TH w [] tb [.nm 0, .nm 1, .nm 2, .mk 3 0 ({ data := #[] }) [0] b179, .mk 3 0 ({ data := #[] }) [1] b192, .mk 4 0 ({ data := #[] }) [0, 1] b205, .mk 5 0 (label.extract 0 (min label.size 20)) [5] b231, .dt nonce, .dt adS, .dt (sS s1), .mk 6 0 ({ data := #[] }) [6, 7, 8, 9] b244] ((kb295, 4, boc [false, true, true, true, true, true, true, true, true, true, true]) :: (q289, 9, strc [txt 0, txt 1]) :: (kb276, 4, boc [true, false, true, true, true, true, true, true, true, true, true]) :: (q270, 9, strc [txt 0, txt 1]) :: (kb257, 4, boc [false, false, false, true, true, false, false, true, true, false, true]) :: []) w300 := TH.sub hT302 (List.Sublist.cons_cons _ (List.sublist_cons_self _ _))
      refine wl_val (.slice (some ⟨kb295, 0, none⟩) 11 11) (by kernel_rfl) (by kernel_rfl) ?_
      refine wl_nil ?_
      refine then_at (F := ⟨(zT18_11 s1 label tb kb257 s q172 q185 q198 q211 q224 q237 ow cw q254 kb276 (iN .i64 (0 + 1)) (.slice (some ⟨kb295, 0, none⟩) 11 11) (iN .i64 (0 + 1)) (iN .i64 0) (iN .i64 (0 + 1)) (.slice (some ⟨q289, 0, none⟩) 2 2) (iN .i64 (0 + 1)) (.pointer (some ⟨q289, 0 + 1, none⟩)) (.string (txt 1)) (.slice (some ⟨q292, 0, none⟩) 4 4) (.slice (some ⟨kb295, 0, none⟩) 11 11) ([])).toArray, []⟩) (by kernel_rfl) ?_
      refine wp_seq ?_
      -- region 23
      refine wl_region ?_
      refine wl_val (.slice (some ⟨kb295, 0, none⟩) 11 11) (by kernel_rfl) (by kernel_rfl) ?_
      refine wl_val (iN .i64 11) (by kernel_rfl) (by kernel_rfl) ?_
      refine wl_val (.pointer (some ⟨tb.q, 0, none⟩)) (by kernel_rfl) (by kernel_rfl) ?_
      obtain ⟨_, hL304, _, _, rfl⟩ := TH.len (n := 11) hT303 rfl
      refine wl_callx (by kernel_rfl) enter20 #[.pointer (some ⟨tb.q, 0, none⟩)] (by kernel_rfl) (Len_any hL304) ?_
      rintro _ w306 ⟨rfl, hb305⟩
      refine ⟨_, rfl, ?_⟩
      have hT307 : TH w [] tb [.nm 0, .nm 1, .nm 2, .mk 3 0 ({ data := #[] }) [0] b179, .mk 3 0 ({ data := #[] }) [1] b192, .mk 4 0 ({ data := #[] }) [0, 1] b205, .mk 5 0 (label.extract 0 (min label.size 20)) [5] b231, .dt nonce, .dt adS, .dt (sS s1), .mk 6 0 ({ data := #[] }) [6, 7, 8, 9] b244] ((kb295, 4, boc [false, true, true, true, true, true, true, true, true, true, true]) :: (q289, 9, strc [txt 0, txt 1]) :: (kb276, 4, boc [true, false, true, true, true, true, true, true, true, true, true]) :: (q270, 9, strc [txt 0, txt 1]) :: (kb257, 4, boc [false, false, false, true, true, false, false, true, true, false, true]) :: []) w306 := TH.keep hT303 hb305
      refine wl_val (.bool false) (by kernel_rfl) (run_nei (k := .i64) (a := 11) (b := 11) (by kernel_rfl) (by kernel_rfl) false (by decide)) ?_
      refine wl_val (.bool false) (by kernel_rfl) (by kernel_rfl) ?_
      refine wl_val (.slice (some ⟨kb295, 0, none⟩) 11 11) (by kernel_rfl) (by kernel_rfl) ?_
      refine wl_val (.pointer (some ⟨kb295, 2, none⟩)) (by kernel_rfl) (run_addr_slice (q := kb295) (n := 11) (m := 11) (a := 2) Try.underlying46 (fun w => Try.sizeOf4 w) (by kernel_rfl) (by kernel_rfl) (by decide)) ?_
      refine wl_val (.bool true) (by kernel_rfl) (run_load1 (fun w => Try.isAgg4 w) (by kernel_rfl) (((TH.blk hT307 (x := (kb295, 4, boc [false, true, true, true, true, true, true, true, true, true, true])) (by simp)).cell 2).trans rfl)) ?_
      refine wl_val (.bool false) (by kernel_rfl) (by kernel_rfl) ?_
      refine wl_val (.bool false) (by kernel_rfl) (by kernel_rfl) ?_
      refine wl_val (.bool false) (by kernel_rfl) (by kernel_rfl) ?_
      refine wl_val (.slice (some ⟨kb295, 0, none⟩) 11 11) (by kernel_rfl) (by kernel_rfl) ?_
      refine wl_val (.pointer (some ⟨kb295, 5, none⟩)) (by kernel_rfl) (run_addr_slice (q := kb295) (n := 11) (m := 11) (a := 5) Try.underlying46 (fun w => Try.sizeOf4 w) (by kernel_rfl) (by kernel_rfl) (by decide)) ?_
      refine wl_val (.bool true) (by kernel_rfl) (run_load1 (fun w => Try.isAgg4 w) (by kernel_rfl) (((TH.blk hT307 (x := (kb295, 4, boc [false, true, true, true, true, true, true, true, true, true, true])) (by simp)).cell 5).trans rfl)) ?_
      refine wl_val (.bool false) (by kernel_rfl) (by kernel_rfl) ?_
      refine wl_val (.bool false) (by kernel_rfl) (by kernel_rfl) ?_
      refine wl_val (.bool false) (by kernel_rfl) (by kernel_rfl) ?_
      refine wl_val (.slice (some ⟨kb295, 0, none⟩) 11 11) (by kernel_rfl) (by kernel_rfl) ?_
      refine wl_val (.pointer (some ⟨kb295, 6, none⟩)) (by kernel_rfl) (run_addr_slice (q := kb295) (n := 11) (m := 11) (a := 6) Try.underlying46 (fun w => Try.sizeOf4 w) (by kernel_rfl) (by kernel_rfl) (by decide)) ?_
      refine wl_val (.bool true) (by kernel_rfl) (run_load1 (fun w => Try.isAgg4 w) (by kernel_rfl) (((TH.blk hT307 (x := (kb295, 4, boc [false, true, true, true, true, true, true, true, true, true, true])) (by simp)).cell 6).trans rfl)) ?_
      refine wl_val (.bool false) (by kernel_rfl) (by kernel_rfl) ?_
      refine wl_val (.bool false) (by kernel_rfl) (by kernel_rfl) ?_
      refine wl_val (.bool false) (by kernel_rfl) (by kernel_rfl) ?_
      refine wl_val (.slice (some ⟨kb295, 0, none⟩) 11 11) (by kernel_rfl) (by kernel_rfl) ?_
      refine wl_val (iN .i64 (0 + 1)) (by kernel_rfl) (by kernel_rfl) ?_
      refine wl_val (.pointer (some ⟨kb295, 0 + 1, none⟩)) (by kernel_rfl) (run_addr_slice (q := kb295) (n := 11) (m := 11) (a := 0 + 1) Try.underlying46 (fun w => Try.sizeOf4 w) (by kernel_rfl) (by kernel_rfl) (by decide)) ?_
      refine wl_val (.bool true) (by kernel_rfl) (run_load1 (fun w => Try.isAgg4 w) (by kernel_rfl) (((TH.blk hT307 (x := (kb295, 4, boc [false, true, true, true, true, true, true, true, true, true, true])) (by simp)).cell (0 + 1)).trans rfl)) ?_
      refine wl_val (.bool false) (by kernel_rfl) (by kernel_rfl) ?_
      refine wl_val (.bool false) (by kernel_rfl) (by kernel_rfl) ?_
      refine wl_val (.bool false) (by kernel_rfl) (by kernel_rfl) ?_
      refine wl_val (.slice (some ⟨kb295, 0, none⟩) 11 11) (by kernel_rfl) (by kernel_rfl) ?_
      refine wl_val (iN .i64 (0 + 1)) (by kernel_rfl) (by kernel_rfl) ?_
      refine wl_val (iN .i64 (1 - (0 + 1))) (by kernel_rfl) (run_sub (k := .i64) (a := 1) (b := 0 + 1) (by kernel_rfl) (by kernel_rfl) (by decide) (by decide)) ?_
      refine wl_val (.pointer (some ⟨kb295, 1 - (0 + 1), none⟩)) (by kernel_rfl) (run_addr_slice (q := kb295) (n := 11) (m := 11) (a := 1 - (0 + 1)) Try.underlying46 (fun w => Try.sizeOf4 w) (by kernel_rfl) (by kernel_rfl) (by decide)) ?_
      refine wl_val (.bool false) (by kernel_rfl) (run_load1 (fun w => Try.isAgg4 w) (by kernel_rfl) (((TH.blk hT307 (x := (kb295, 4, boc [false, true, true, true, true, true, true, true, true, true, true])) (by simp)).cell (1 - (0 + 1))).trans rfl)) ?_
      refine wl_val (.bool false) (by kernel_rfl) (by kernel_rfl) ?_
      refine wl_nil ?_
      refine then_at (F := ⟨(zT18_12 s1 label tb kb257 kb295 s q172 q185 q198 q211 q224 q237 ow cw q254 q289 q292 (.bool false) (iN .i64 (0 + 1)) (iN .i64 (0 + 1)) (.bool true) (iN .i64 0) (iN .i64 (0 + 1)) un ([])).toArray, []⟩) (by kernel_rfl) ?_
      refine wp_cond_false (by kernel_rfl) ?_
      refine wp_skip ?_
      refine block_normal ?_
      refine then_at (F := ⟨(zT18_12 s1 label tb kb257 kb295 s q172 q185 q198 q211 q224 q237 ow cw q254 q289 q292 (.bool false) (iN .i64 (0 + 1)) (iN .i64 (0 + 1)) (.bool true) (iN .i64 0) (iN .i64 (0 + 1)) un ([])).toArray, []⟩) (by kernel_rfl) ?_
      -- region 21
      refine wl_region ?_
      refine wl_val (iN .i64 (0 + 1)) (by kernel_rfl) (by kernel_rfl) ?_
      refine wl_val (iN .i64 ((0 + 1) + 1)) (by kernel_rfl) (run_add (k := .i64) (a := 0 + 1) (b := 1) (by kernel_rfl) (by kernel_rfl) (by decide)) ?_
      refine wl_val (iN .i64 ((0 + 1) + 1)) (by kernel_rfl) (by kernel_rfl) ?_
      refine wl_nil ?_
      refine then_at (F := ⟨(zT18_12 s1 label tb kb257 kb295 s q172 q185 q198 q211 q224 q237 ow cw q254 q289 q292 (.bool false) (iN .i64 ((0 + 1) + 1)) (iN .i64 (0 + 1)) (.bool true) (iN .i64 (0 + 1)) (iN .i64 ((0 + 1) + 1)) un ([])).toArray, []⟩) (by kernel_rfl) ?_
      try rw [rounds_succ]
      refine wp_seq ?_
      refine wp_seq ?_
      -- region 20
      refine wl_region ?_
      refine wl_val (iN .i64 ((0 + 1) + 1)) (by kernel_rfl) (by kernel_rfl) ?_
      refine wl_val (.bool false) (by kernel_rfl) (run_lss (k := .i64) (a := (0 + 1) + 1) (b := 2) (by kernel_rfl) (by kernel_rfl) false (by decide)) ?_
      refine wl_nil ?_
      refine then_at (F := ⟨(zT18_12 s1 label tb kb257 kb295 s q172 q185 q198 q211 q224 q237 ow cw q254 q289 q292 (.bool false) (iN .i64 ((0 + 1) + 1)) (iN .i64 ((0 + 1) + 1)) (.bool false) (iN .i64 (0 + 1)) (iN .i64 ((0 + 1) + 1)) un ([])).toArray, []⟩) (by kernel_rfl) ?_
      refine wp_cond_false (by kernel_rfl) ?_
      refine wp_exit ?_
      repeat first | refine then_exit ?_ | refine block_exit ?_ | refine block_exit_ne (by decide) ?_
      refine then_at (F := ⟨(zT18_12 s1 label tb kb257 kb295 s q172 q185 q198 q211 q224 q237 ow cw q254 q289 q292 (.bool false) (iN .i64 ((0 + 1) + 1)) (iN .i64 ((0 + 1) + 1)) (.bool false) (iN .i64 (0 + 1)) (iN .i64 ((0 + 1) + 1)) un ([])).toArray, []⟩) (by kernel_rfl) ?_
      refine wp_seq ?_
      -- region 25
      refine wl_region ?_
      refine wl_callx (by kernel_rfl) enter15 #[] (by kernel_rfl) (works_any w306) ?_
      rintro _ w309 ⟨rfl, hb308⟩
      refine ⟨_, rfl, ?_⟩
      have hT310 : TH w [] tb [.nm 0, .nm 1, .nm 2, .mk 3 0 ({ data := #[] }) [0] b179, .mk 3 0 ({ data := #[] }) [1] b192, .mk 4 0 ({ data := #[] }) [0, 1] b205, .mk 5 0 (label.extract 0 (min label.size 20)) [5] b231, .dt nonce, .dt adS, .dt (sS s1), .mk 6 0 ({ data := #[] }) [6, 7, 8, 9] b244] ((kb295, 4, boc [false, true, true, true, true, true, true, true, true, true, true]) :: (q289, 9, strc [txt 0, txt 1]) :: (kb276, 4, boc [true, false, true, true, true, true, true, true, true, true, true]) :: (q270, 9, strc [txt 0, txt 1]) :: (kb257, 4, boc [false, false, false, true, true, false, false, true, true, false, true]) :: []) w309 := TH.keep hT307 hb308
      refine wl_val (.bool true) (by kernel_rfl) (by kernel_rfl) ?_
      refine wl_nil ?_
      refine then_at (F := ⟨(zT18_12 s1 label tb kb257 kb295 s q172 q185 q198 q211 q224 q237 ow cw q254 q289 q292 (.bool true) (iN .i64 ((0 + 1) + 1)) (iN .i64 ((0 + 1) + 1)) (.bool false) (iN .i64 (0 + 1)) (iN .i64 ((0 + 1) + 1)) (.bool true) ([])).toArray, []⟩) (by kernel_rfl) ?_
      refine wp_ret ?_
      repeat first | refine then_ret ?_ | refine block_ret ?_
      exact bodyPost_ret (v := .bool true) (by kernel_rfl) rfl ⟨rfl, TH.below hT310⟩
    · -- region 14
      refine wl_region ?_
      refine wl_val (.pointer (some ⟨tb.q, 0, none⟩)) (by kernel_rfl) (by kernel_rfl) ?_
      refine wl_val (.string (s1)) (by kernel_rfl) (by kernel_rfl) ?_
      refine wl_val (.string (txt 2)) (by kernel_rfl) (by kernel_rfl) ?_
      refine wl_val (.string (sS s1)) (by kernel_rfl) (run_cat (s := s1) (t := txt 2) (by kernel_rfl) (by kernel_rfl) (by rw [txt_size]; omega)) ?_
      have hszS : (sS s1).size ≤ 1000000 := by rw [sS_size]; omega
      have hwi312 := Within_any (TH.view hT249) (by simp) (cell_below (TH.below hT249) hv) (sS s1) hszS
      refine wl_callx (by kernel_rfl) enter13 #[.pointer (some ⟨tb.q, 0, none⟩), .string (sS s1)] (by kernel_rfl) (hwi312) ?_
      rintro _ w313 ⟨ow, cw, rfl, _, hb311⟩
      refine ⟨_, rfl, ?_⟩
      have hT314 : TH w [] tb [.nm 0, .nm 1, .nm 2, .mk 3 0 ({ data := #[] }) [0] b179, .mk 3 0 ({ data := #[] }) [1] b192, .mk 4 0 ({ data := #[] }) [0, 1] b205, .mk 5 0 (label.extract 0 (min label.size 20)) [5] b231, .dt nonce, .dt adS, .dt (sS s1), .mk 6 0 ({ data := #[] }) [6, 7, 8, 9] b244] ([]) w313 := TH.keep hT249 hb311
      refine wl_val (iN .i64 ((wth 11 (sS s1)).length)) (by kernel_rfl) (by kernel_rfl) ?_
      refine wl_val (.bool true) (by kernel_rfl) (run_nei (k := .i64) (a := (wth 11 (sS s1)).length) (b := 1) (by kernel_rfl) (by kernel_rfl) true (decide_eq_true hwl)) ?_
      refine wl_nil ?_
      refine then_at (F := ⟨(zT18_13 s1 label tb s q172 q185 q198 q211 q224 q237 ow cw (.bool false) (List.replicate 105 un)).toArray, []⟩) (by kernel_rfl) ?_
      refine wp_cond_true (by kernel_rfl) ?_
      refine wp_seq ?_
      -- region 15
      refine wl_region ?_
      refine wl_callx (by kernel_rfl) enter15 #[] (by kernel_rfl) (works_any w313) ?_
      rintro _ w316 ⟨rfl, hb315⟩
      refine ⟨_, rfl, ?_⟩
      have hT317 : TH w [] tb [.nm 0, .nm 1, .nm 2, .mk 3 0 ({ data := #[] }) [0] b179, .mk 3 0 ({ data := #[] }) [1] b192, .mk 4 0 ({ data := #[] }) [0, 1] b205, .mk 5 0 (label.extract 0 (min label.size 20)) [5] b231, .dt nonce, .dt adS, .dt (sS s1), .mk 6 0 ({ data := #[] }) [6, 7, 8, 9] b244] ([]) w316 := TH.keep hT314 hb315
      refine wl_val (.bool true) (by kernel_rfl) (by kernel_rfl) ?_
      refine wl_nil ?_
      refine then_at (F := ⟨(zT18_13 s1 label tb s q172 q185 q198 q211 q224 q237 ow cw (.bool true) (.bool true :: List.replicate 104 un)).toArray, []⟩) (by kernel_rfl) ?_
      refine wp_ret ?_
      repeat first | refine then_ret ?_ | refine block_ret ?_
      exact bodyPost_ret (v := .bool true) (by kernel_rfl) rfl ⟨rfl, TH.below hT317⟩
end Go.Proofs.Ytihfeoanognonaa
