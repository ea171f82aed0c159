/-
 the reference's longer digest.
-/
import Derived.Test.YtefjnfeckenmkaaGreatDoorH4
namespace Go.Proofs.YtefjnfeckenmkaaGreatDoor.Hh
set_option linter.unusedVariables false
set_option maxRecDepth 100000
set_option maxHeartbeats 4000000
open Go.RowKit
def zRs3_0 t q1 m (u8 : Nat → Value) (s : ByteArray) (zx5 zx6 zx7 zx28 zx29 zx30 zx31 zx34 zx35 zx36 zx37 zx38 zx39 zx40 zx41 zx42 zx43 zx44 zx45 zx46 zx47 zx48 zx49 zx50 zx51 zx52 zx53 zx54 zx55 zx56 zx57 : Value) (zt : List Value) := (.string t :: un :: .string { data := #[] } :: pt q1 :: iN .i64 (128 * m) :: zx5 :: zx6 :: zx7 :: u8 8 :: u8 9 :: u8 10 :: u8 11 :: u8 12 :: u8 13 :: u8 14 :: u8 15 :: u8 16 :: u8 17 :: u8 18 :: u8 19 :: u8 20 :: u8 21 :: un :: un :: un :: .agg (wc .u64 (begP 64)) :: .string s :: .string t :: zx28 :: zx29 :: zx30 :: zx31 :: u8 32 :: u8 33 :: zx34 :: zx35 :: zx36 :: zx37 :: zx38 :: zx39 :: zx40 :: zx41 :: zx42 :: zx43 :: zx44 :: zx45 :: zx46 :: zx47 :: zx48 :: zx49 :: zx50 :: zx51 :: zx52 :: zx53 :: zx54 :: zx55 :: zx56 :: zx57 :: u8 58 :: u8 59 :: u8 60 :: u8 61 :: u8 62 :: u8 63 :: u8 64 :: u8 65 :: u8 66 :: u8 67 :: u8 68 :: u8 69 :: u8 70 :: u8 71 :: u8 72 :: u8 73 :: u8 74 :: u8 75 :: u8 76 :: u8 77 :: u8 78 :: u8 79 :: u8 80 :: u8 81 :: u8 82 :: u8 83 :: u8 84 :: u8 85 :: u8 86 :: u8 87 :: u8 88 :: u8 89 :: u8 90 :: u8 91 :: u8 92 :: u8 93 :: u8 94 :: u8 95 :: u8 96 :: u8 97 :: u8 98 :: u8 99 :: u8 100 :: u8 101 :: u8 102 :: u8 103 :: u8 104 :: u8 105 :: u8 106 :: u8 107 :: u8 108 :: u8 109 :: u8 110 :: u8 111 :: u8 112 :: u8 113 :: u8 114 :: u8 115 :: u8 116 :: u8 117 :: u8 118 :: u8 119 :: u8 120 :: u8 121 :: u8 122 :: u8 123 :: u8 124 :: u8 125 :: u8 126 :: u8 127 :: u8 128 :: u8 129 :: u8 130 :: u8 131 :: u8 132 :: u8 133 :: u8 134 :: u8 135 :: u8 136 :: u8 137 :: u8 138 :: u8 139 :: u8 140 :: u8 141 :: u8 142 :: u8 143 :: u8 144 :: u8 145 :: u8 146 :: u8 147 :: u8 148 :: u8 149 :: u8 150 :: u8 151 :: u8 152 :: u8 153 :: u8 154 :: u8 155 :: u8 156 :: u8 157 :: u8 158 :: u8 159 :: u8 160 :: u8 161 :: u8 162 :: u8 163 :: u8 164 :: u8 165 :: u8 166 :: u8 167 :: u8 168 :: u8 169 :: u8 170 :: u8 171 :: u8 172 :: u8 173 :: u8 174 :: u8 175 :: u8 176 :: u8 177 :: u8 178 :: u8 179 :: u8 180 :: u8 181 :: u8 182 :: u8 183 :: u8 184 :: u8 185 :: u8 186 :: u8 187 :: u8 188 :: u8 189 :: zt : List Value)
def zRs3_1 t q1 m q11 (u14 : Nat → Value) k (u8 : Nat → Value) (s : ByteArray) (u27 : Nat → Value) (zx9 zx10 zx58 zx59 zx62 zx63 zx64 zx65 zx66 zx67 zx68 zx69 zx70 zx71 zx72 zx73 zx74 zx75 zx76 zx77 zx78 zx79 zx80 zx81 zx82 zx83 zx84 zx85 zx86 zx87 zx88 zx89 zx90 zx91 zx92 zx93 zx94 zx95 zx96 zx97 zx98 : Value) (zt : List Value) := (.string t :: un :: .string { data := #[] } :: pt q1 :: iN .i64 (128 * m) :: pt q11 :: iN .i64 16 :: u14 7 :: iN .i64 (16 + k) :: zx9 :: zx10 :: u8 11 :: u8 12 :: u8 13 :: u8 14 :: u8 15 :: u8 16 :: u8 17 :: u8 18 :: u8 19 :: u8 20 :: u8 21 :: un :: un :: un :: .agg (wc .u64 (begP 64)) :: .string s :: .string t :: iN .i64 (128 * m) :: .string t :: iN .i64 t.size :: .bool true :: u8 32 :: u8 33 :: iN .i64 16 :: .bool false :: u14 36 :: u14 37 :: u14 38 :: u14 39 :: u14 40 :: u14 41 :: u14 42 :: u14 43 :: u14 44 :: u14 45 :: u14 46 :: u14 47 :: u14 48 :: u14 49 :: u14 50 :: u14 51 :: u14 52 :: u14 53 :: u14 54 :: u14 55 :: u14 56 :: u14 57 :: zx58 :: zx59 :: u27 60 :: u27 61 :: zx62 :: zx63 :: zx64 :: zx65 :: zx66 :: zx67 :: zx68 :: zx69 :: zx70 :: zx71 :: zx72 :: zx73 :: zx74 :: zx75 :: zx76 :: zx77 :: zx78 :: zx79 :: zx80 :: zx81 :: zx82 :: zx83 :: zx84 :: zx85 :: zx86 :: zx87 :: zx88 :: zx89 :: zx90 :: zx91 :: zx92 :: zx93 :: zx94 :: zx95 :: zx96 :: zx97 :: zx98 :: u8 99 :: u8 100 :: u8 101 :: u8 102 :: u8 103 :: u8 104 :: u8 105 :: u8 106 :: u8 107 :: u8 108 :: u8 109 :: u8 110 :: u8 111 :: u8 112 :: u8 113 :: u8 114 :: u8 115 :: u8 116 :: u8 117 :: u8 118 :: u8 119 :: u8 120 :: u8 121 :: u8 122 :: u8 123 :: u8 124 :: u8 125 :: u8 126 :: u8 127 :: u8 128 :: u8 129 :: u8 130 :: u8 131 :: u8 132 :: u8 133 :: u8 134 :: u8 135 :: u8 136 :: u8 137 :: u8 138 :: u8 139 :: u8 140 :: u8 141 :: u8 142 :: u8 143 :: u8 144 :: u8 145 :: u8 146 :: u8 147 :: u8 148 :: u8 149 :: u8 150 :: u8 151 :: u8 152 :: u8 153 :: u8 154 :: u8 155 :: u8 156 :: u8 157 :: u8 158 :: u8 159 :: u8 160 :: u8 161 :: u8 162 :: u8 163 :: u8 164 :: u8 165 :: u8 166 :: u8 167 :: u8 168 :: u8 169 :: u8 170 :: u8 171 :: u8 172 :: u8 173 :: u8 174 :: u8 175 :: u8 176 :: u8 177 :: u8 178 :: u8 179 :: u8 180 :: u8 181 :: u8 182 :: u8 183 :: u8 184 :: u8 185 :: u8 186 :: u8 187 :: u8 188 :: u8 189 :: zt : List Value)
def zRs3_2 t q1 m q11 (u14 : Nat → Value) (u27 : Nat → Value) q37 k (u43 : Nat → Value) (u8 : Nat → Value) (s : ByteArray) (zx13 zx14 zx15 zx16 zx17 zx18 zx100 zx101 zx104 zx105 zx106 zx107 zx108 zx109 zx110 zx111 zx112 zx113 zx114 zx115 : Value) (zt : List Value) := (.string t :: un :: .string { data := #[] } :: pt q1 :: iN .i64 (128 * m) :: pt q11 :: iN .i64 16 :: u14 7 :: iN .i64 (16 + 64) :: u27 9 :: u27 10 :: pt q37 :: iN .i64 k :: zx13 :: zx14 :: zx15 :: zx16 :: zx17 :: zx18 :: u43 19 :: u43 20 :: u8 21 :: un :: un :: un :: .agg (wc .u64 (begP 64)) :: .string s :: .string t :: iN .i64 (128 * m) :: .string t :: iN .i64 t.size :: .bool true :: u8 32 :: u8 33 :: iN .i64 16 :: .bool false :: u14 36 :: u14 37 :: u14 38 :: u14 39 :: u14 40 :: u14 41 :: u14 42 :: u14 43 :: u14 44 :: u14 45 :: u14 46 :: u14 47 :: u14 48 :: u14 49 :: u14 50 :: u14 51 :: u14 52 :: u14 53 :: u14 54 :: u14 55 :: u14 56 :: u14 57 :: iN .i64 (16 + 64) :: .bool false :: u27 60 :: u27 61 :: u27 62 :: u27 63 :: u27 64 :: u27 65 :: u27 66 :: u27 67 :: u27 68 :: u27 69 :: u27 70 :: u27 71 :: u27 72 :: u27 73 :: u27 74 :: u27 75 :: u27 76 :: u27 77 :: u27 78 :: u27 79 :: u27 80 :: u27 81 :: u27 82 :: u27 83 :: u27 84 :: u27 85 :: u27 86 :: u27 87 :: u27 88 :: u27 89 :: u27 90 :: u27 91 :: u27 92 :: u27 93 :: u27 94 :: u27 95 :: u27 96 :: u27 97 :: u27 98 :: .agg (wc .u64 (rsP KL (bl t) m)) :: zx100 :: zx101 :: u43 102 :: u43 103 :: zx104 :: zx105 :: zx106 :: zx107 :: zx108 :: zx109 :: zx110 :: zx111 :: zx112 :: zx113 :: zx114 :: zx115 :: u43 116 :: u43 117 :: u43 118 :: u43 119 :: u43 120 :: u43 121 :: u43 122 :: u43 123 :: u43 124 :: u43 125 :: u43 126 :: u43 127 :: u43 128 :: u43 129 :: u43 130 :: u43 131 :: u43 132 :: u43 133 :: u43 134 :: u43 135 :: u43 136 :: u43 137 :: u43 138 :: u43 139 :: u43 140 :: u43 141 :: u43 142 :: u43 143 :: u43 144 :: u43 145 :: u43 146 :: u43 147 :: u43 148 :: u43 149 :: u43 150 :: u43 151 :: u43 152 :: u43 153 :: u43 154 :: u43 155 :: u43 156 :: u43 157 :: u43 158 :: u43 159 :: u43 160 :: u43 161 :: u43 162 :: u43 163 :: u43 164 :: u43 165 :: u43 166 :: u43 167 :: u43 168 :: u43 169 :: u43 170 :: u43 171 :: u43 172 :: u43 173 :: u43 174 :: u43 175 :: u43 176 :: u8 177 :: u8 178 :: u8 179 :: u8 180 :: u8 181 :: u8 182 :: u8 183 :: u8 184 :: u8 185 :: u8 186 :: u8 187 :: u8 188 :: u8 189 :: zt : List Value)
def zRs3_3 t q1 m q11 (u14 : Nat → Value) (u27 : Nat → Value) q37 k (u8 : Nat → Value) (s : ByteArray) (u43 : Nat → Value) (zx20 zx143 zx144 zx145 zx146 zx147 zx148 zx149 zx150 zx151 zx152 zx153 zx154 zx155 zx156 zx157 zx158 zx159 zx160 zx161 zx162 zx163 zx164 zx165 zx166 zx167 zx168 zx169 zx170 zx171 zx172 zx173 zx174 zx175 zx176 : Value) (zt : List Value) := (.string t :: un :: .string { data := #[] } :: pt q1 :: iN .i64 (128 * m) :: pt q11 :: iN .i64 16 :: u14 7 :: iN .i64 (16 + 64) :: u27 9 :: u27 10 :: pt q37 :: iN .i64 k :: bv .u64 ((rqL (rsP KL (bl t) m) (blkP 128 (bl t) m) k).a) :: bv .u64 ((rqL (rsP KL (bl t) m) (blkP 128 (bl t) m) k).b) :: bv .u64 ((rqL (rsP KL (bl t) m) (blkP 128 (bl t) m) k).c) :: bv .u64 ((rqL (rsP KL (bl t) m) (blkP 128 (bl t) m) k).e) :: bv .u64 ((rqL (rsP KL (bl t) m) (blkP 128 (bl t) m) k).f) :: bv .u64 ((rqL (rsP KL (bl t) m) (blkP 128 (bl t) m) k).g) :: bv .u64 ((((((rqL (rsP KL (bl t) m) (blkP 128 (bl t) m) k).h) + (((rotP ((rqL (rsP KL (bl t) m) (blkP 128 (bl t) m) k).e) 14) ^^^ (rotP ((rqL (rsP KL (bl t) m) (blkP 128 (bl t) m) k).e) 18)) ^^^ (rotP ((rqL (rsP KL (bl t) m) (blkP 128 (bl t) m) k).e) 41))) + ((((rqL (rsP KL (bl t) m) (blkP 128 (bl t) m) k).e) &&& ((rqL (rsP KL (bl t) m) (blkP 128 (bl t) m) k).f)) ^^^ ((~~~((rqL (rsP KL (bl t) m) (blkP 128 (bl t) m) k).e)) &&& ((rqL (rsP KL (bl t) m) (blkP 128 (bl t) m) k).g)))) + (cutP 64 (rws.getD k 0))) + ((schP KL (blkP 128 (bl t) m) 64).getD k 0)) :: zx20 :: u8 21 :: un :: un :: un :: .agg (wc .u64 (begP 64)) :: .string s :: .string t :: iN .i64 (128 * m) :: .string t :: iN .i64 t.size :: .bool true :: u8 32 :: u8 33 :: iN .i64 16 :: .bool false :: u14 36 :: u14 37 :: u14 38 :: u14 39 :: u14 40 :: u14 41 :: u14 42 :: u14 43 :: u14 44 :: u14 45 :: u14 46 :: u14 47 :: u14 48 :: u14 49 :: u14 50 :: u14 51 :: u14 52 :: u14 53 :: u14 54 :: u14 55 :: u14 56 :: u14 57 :: iN .i64 (16 + 64) :: .bool false :: u27 60 :: u27 61 :: u27 62 :: u27 63 :: u27 64 :: u27 65 :: u27 66 :: u27 67 :: u27 68 :: u27 69 :: u27 70 :: u27 71 :: u27 72 :: u27 73 :: u27 74 :: u27 75 :: u27 76 :: u27 77 :: u27 78 :: u27 79 :: u27 80 :: u27 81 :: u27 82 :: u27 83 :: u27 84 :: u27 85 :: u27 86 :: u27 87 :: u27 88 :: u27 89 :: u27 90 :: u27 91 :: u27 92 :: u27 93 :: u27 94 :: u27 95 :: u27 96 :: u27 97 :: u27 98 :: .agg (wc .u64 (rsP KL (bl t) m)) :: iN .i64 k :: .bool true :: u43 102 :: u43 103 :: pt q37 :: bv .u64 ((rqL (rsP KL (bl t) m) (blkP 128 (bl t) m) k).a) :: .pointer (some ⟨q37, 1, none⟩) :: bv .u64 ((rqL (rsP KL (bl t) m) (blkP 128 (bl t) m) k).b) :: .pointer (some ⟨q37, 2, none⟩) :: bv .u64 ((rqL (rsP KL (bl t) m) (blkP 128 (bl t) m) k).c) :: .pointer (some ⟨q37, 4, none⟩) :: bv .u64 ((rqL (rsP KL (bl t) m) (blkP 128 (bl t) m) k).e) :: .pointer (some ⟨q37, 5, none⟩) :: bv .u64 ((rqL (rsP KL (bl t) m) (blkP 128 (bl t) m) k).f) :: .pointer (some ⟨q37, 6, none⟩) :: bv .u64 ((rqL (rsP KL (bl t) m) (blkP 128 (bl t) m) k).g) :: .pointer (some ⟨q37, 7, none⟩) :: bv .u64 ((rqL (rsP KL (bl t) m) (blkP 128 (bl t) m) k).h) :: bv .u64 ((rqL (rsP KL (bl t) m) (blkP 128 (bl t) m) k).e) :: bv .u64 (rotP ((rqL (rsP KL (bl t) m) (blkP 128 (bl t) m) k).e) 14) :: bv .u64 ((rqL (rsP KL (bl t) m) (blkP 128 (bl t) m) k).e) :: bv .u64 (rotP ((rqL (rsP KL (bl t) m) (blkP 128 (bl t) m) k).e) 18) :: bv .u64 ((rotP ((rqL (rsP KL (bl t) m) (blkP 128 (bl t) m) k).e) 14) ^^^ (rotP ((rqL (rsP KL (bl t) m) (blkP 128 (bl t) m) k).e) 18)) :: bv .u64 ((rqL (rsP KL (bl t) m) (blkP 128 (bl t) m) k).e) :: bv .u64 (rotP ((rqL (rsP KL (bl t) m) (blkP 128 (bl t) m) k).e) 41) :: bv .u64 (((rotP ((rqL (rsP KL (bl t) m) (blkP 128 (bl t) m) k).e) 14) ^^^ (rotP ((rqL (rsP KL (bl t) m) (blkP 128 (bl t) m) k).e) 18)) ^^^ (rotP ((rqL (rsP KL (bl t) m) (blkP 128 (bl t) m) k).e) 41)) :: bv .u64 (((rqL (rsP KL (bl t) m) (blkP 128 (bl t) m) k).h) + (((rotP ((rqL (rsP KL (bl t) m) (blkP 128 (bl t) m) k).e) 14) ^^^ (rotP ((rqL (rsP KL (bl t) m) (blkP 128 (bl t) m) k).e) 18)) ^^^ (rotP ((rqL (rsP KL (bl t) m) (blkP 128 (bl t) m) k).e) 41))) :: bv .u64 ((rqL (rsP KL (bl t) m) (blkP 128 (bl t) m) k).e) :: bv .u64 ((rqL (rsP KL (bl t) m) (blkP 128 (bl t) m) k).f) :: bv .u64 (((rqL (rsP KL (bl t) m) (blkP 128 (bl t) m) k).e) &&& ((rqL (rsP KL (bl t) m) (blkP 128 (bl t) m) k).f)) :: bv .u64 ((rqL (rsP KL (bl t) m) (blkP 128 (bl t) m) k).e) :: bv .u64 (~~~((rqL (rsP KL (bl t) m) (blkP 128 (bl t) m) k).e)) :: bv .u64 ((rqL (rsP KL (bl t) m) (blkP 128 (bl t) m) k).g) :: bv .u64 ((~~~((rqL (rsP KL (bl t) m) (blkP 128 (bl t) m) k).e)) &&& ((rqL (rsP KL (bl t) m) (blkP 128 (bl t) m) k).g)) :: bv .u64 ((((rqL (rsP KL (bl t) m) (blkP 128 (bl t) m) k).e) &&& ((rqL (rsP KL (bl t) m) (blkP 128 (bl t) m) k).f)) ^^^ ((~~~((rqL (rsP KL (bl t) m) (blkP 128 (bl t) m) k).e)) &&& ((rqL (rsP KL (bl t) m) (blkP 128 (bl t) m) k).g))) :: bv .u64 ((((rqL (rsP KL (bl t) m) (blkP 128 (bl t) m) k).h) + (((rotP ((rqL (rsP KL (bl t) m) (blkP 128 (bl t) m) k).e) 14) ^^^ (rotP ((rqL (rsP KL (bl t) m) (blkP 128 (bl t) m) k).e) 18)) ^^^ (rotP ((rqL (rsP KL (bl t) m) (blkP 128 (bl t) m) k).e) 41))) + ((((rqL (rsP KL (bl t) m) (blkP 128 (bl t) m) k).e) &&& ((rqL (rsP KL (bl t) m) (blkP 128 (bl t) m) k).f)) ^^^ ((~~~((rqL (rsP KL (bl t) m) (blkP 128 (bl t) m) k).e)) &&& ((rqL (rsP KL (bl t) m) (blkP 128 (bl t) m) k).g)))) :: iN .i64 k :: bv .u64 (cutP 64 (rws.getD k 0)) :: bv .u64 (((((rqL (rsP KL (bl t) m) (blkP 128 (bl t) m) k).h) + (((rotP ((rqL (rsP KL (bl t) m) (blkP 128 (bl t) m) k).e) 14) ^^^ (rotP ((rqL (rsP KL (bl t) m) (blkP 128 (bl t) m) k).e) 18)) ^^^ (rotP ((rqL (rsP KL (bl t) m) (blkP 128 (bl t) m) k).e) 41))) + ((((rqL (rsP KL (bl t) m) (blkP 128 (bl t) m) k).e) &&& ((rqL (rsP KL (bl t) m) (blkP 128 (bl t) m) k).f)) ^^^ ((~~~((rqL (rsP KL (bl t) m) (blkP 128 (bl t) m) k).e)) &&& ((rqL (rsP KL (bl t) m) (blkP 128 (bl t) m) k).g)))) + (cutP 64 (rws.getD k 0))) :: iN .i64 k :: .pointer (some ⟨q11, k, none⟩) :: bv .u64 ((schP KL (blkP 128 (bl t) m) 64).getD k 0) :: bv .u64 ((((((rqL (rsP KL (bl t) m) (blkP 128 (bl t) m) k).h) + (((rotP ((rqL (rsP KL (bl t) m) (blkP 128 (bl t) m) k).e) 14) ^^^ (rotP ((rqL (rsP KL (bl t) m) (blkP 128 (bl t) m) k).e) 18)) ^^^ (rotP ((rqL (rsP KL (bl t) m) (blkP 128 (bl t) m) k).e) 41))) + ((((rqL (rsP KL (bl t) m) (blkP 128 (bl t) m) k).e) &&& ((rqL (rsP KL (bl t) m) (blkP 128 (bl t) m) k).f)) ^^^ ((~~~((rqL (rsP KL (bl t) m) (blkP 128 (bl t) m) k).e)) &&& ((rqL (rsP KL (bl t) m) (blkP 128 (bl t) m) k).g)))) + (cutP 64 (rws.getD k 0))) + ((schP KL (blkP 128 (bl t) m) 64).getD k 0)) :: zx143 :: zx144 :: zx145 :: zx146 :: zx147 :: zx148 :: zx149 :: zx150 :: zx151 :: zx152 :: zx153 :: zx154 :: zx155 :: zx156 :: zx157 :: zx158 :: zx159 :: zx160 :: zx161 :: zx162 :: zx163 :: zx164 :: zx165 :: zx166 :: zx167 :: zx168 :: zx169 :: zx170 :: zx171 :: zx172 :: zx173 :: zx174 :: zx175 :: zx176 :: u8 177 :: u8 178 :: u8 179 :: u8 180 :: u8 181 :: u8 182 :: u8 183 :: u8 184 :: u8 185 :: u8 186 :: u8 187 :: u8 188 :: u8 189 :: zt : List Value)
def zRs3_4 t q1 m q11 (u14 : Nat → Value) (u27 : Nat → Value) q37 (u43 : Nat → Value) k (s : ByteArray) (u8 : Nat → Value) (u60 : Nat → Value) (zx177 zx178 zx181 zx182 zx183 zx184 zx185 zx186 zx187 zx188 zx189 : Value) (zt : List Value) := (.string t :: un :: .string { data := #[] } :: pt q1 :: iN .i64 (128 * m) :: pt q11 :: iN .i64 16 :: u14 7 :: iN .i64 (16 + 64) :: u27 9 :: u27 10 :: pt q37 :: iN .i64 80 :: u43 13 :: u43 14 :: u43 15 :: u43 16 :: u43 17 :: u43 18 :: u43 19 :: u43 20 :: iN .i64 k :: un :: un :: un :: .agg (wc .u64 (begP 64)) :: .string s :: .string t :: iN .i64 (128 * m) :: .string t :: iN .i64 t.size :: .bool true :: u8 32 :: u8 33 :: iN .i64 16 :: .bool false :: u14 36 :: u14 37 :: u14 38 :: u14 39 :: u14 40 :: u14 41 :: u14 42 :: u14 43 :: u14 44 :: u14 45 :: u14 46 :: u14 47 :: u14 48 :: u14 49 :: u14 50 :: u14 51 :: u14 52 :: u14 53 :: u14 54 :: u14 55 :: u14 56 :: u14 57 :: iN .i64 (16 + 64) :: .bool false :: u27 60 :: u27 61 :: u27 62 :: u27 63 :: u27 64 :: u27 65 :: u27 66 :: u27 67 :: u27 68 :: u27 69 :: u27 70 :: u27 71 :: u27 72 :: u27 73 :: u27 74 :: u27 75 :: u27 76 :: u27 77 :: u27 78 :: u27 79 :: u27 80 :: u27 81 :: u27 82 :: u27 83 :: u27 84 :: u27 85 :: u27 86 :: u27 87 :: u27 88 :: u27 89 :: u27 90 :: u27 91 :: u27 92 :: u27 93 :: u27 94 :: u27 95 :: u27 96 :: u27 97 :: u27 98 :: .agg (wc .u64 (rsP KL (bl t) m)) :: iN .i64 80 :: .bool false :: u43 102 :: u43 103 :: u43 104 :: u43 105 :: u43 106 :: u43 107 :: u43 108 :: u43 109 :: u43 110 :: u43 111 :: u43 112 :: u43 113 :: u43 114 :: u43 115 :: u43 116 :: u43 117 :: u43 118 :: u43 119 :: u43 120 :: u43 121 :: u43 122 :: u43 123 :: u43 124 :: u43 125 :: u43 126 :: u43 127 :: u43 128 :: u43 129 :: u43 130 :: u43 131 :: u43 132 :: u43 133 :: u43 134 :: u43 135 :: u43 136 :: u43 137 :: u43 138 :: u43 139 :: u43 140 :: u43 141 :: u43 142 :: u43 143 :: u43 144 :: u43 145 :: u43 146 :: u43 147 :: u43 148 :: u43 149 :: u43 150 :: u43 151 :: u43 152 :: u43 153 :: u43 154 :: u43 155 :: u43 156 :: u43 157 :: u43 158 :: u43 159 :: u43 160 :: u43 161 :: u43 162 :: u43 163 :: u43 164 :: u43 165 :: u43 166 :: u43 167 :: u43 168 :: u43 169 :: u43 170 :: u43 171 :: u43 172 :: u43 173 :: u43 174 :: u43 175 :: u43 176 :: zx177 :: zx178 :: u60 179 :: u60 180 :: zx181 :: zx182 :: zx183 :: zx184 :: zx185 :: zx186 :: zx187 :: zx188 :: zx189 :: zt : List Value)
def zRs3_5 t q1 m (u8 : Nat → Value) i (s : ByteArray) (u69 : Nat → Value) (zx22 zx24 zx190 zx191 zx194 zx195 zx196 zx197 zx198 zx199 zx200 zx201 zx202 zx203 zx204 zx205 zx206 zx207 zx208 : Value) (zt : List Value) := (.string t :: un :: .string { data := #[] } :: pt q1 :: iN .i64 (128 * m) :: u8 5 :: u8 6 :: u8 7 :: u8 8 :: u8 9 :: u8 10 :: u8 11 :: u8 12 :: u8 13 :: u8 14 :: u8 15 :: u8 16 :: u8 17 :: u8 18 :: u8 19 :: u8 20 :: u8 21 :: zx22 :: iN .i64 i :: zx24 :: .agg (wc .u64 (begP 64)) :: .string s :: .string t :: iN .i64 (128 * m) :: .string t :: iN .i64 t.size :: .bool false :: u8 32 :: u8 33 :: u8 34 :: u8 35 :: u8 36 :: u8 37 :: u8 38 :: u8 39 :: u8 40 :: u8 41 :: u8 42 :: u8 43 :: u8 44 :: u8 45 :: u8 46 :: u8 47 :: u8 48 :: u8 49 :: u8 50 :: u8 51 :: u8 52 :: u8 53 :: u8 54 :: u8 55 :: u8 56 :: u8 57 :: u8 58 :: u8 59 :: u8 60 :: u8 61 :: u8 62 :: u8 63 :: u8 64 :: u8 65 :: u8 66 :: u8 67 :: u8 68 :: u8 69 :: u8 70 :: u8 71 :: u8 72 :: u8 73 :: u8 74 :: u8 75 :: u8 76 :: u8 77 :: u8 78 :: u8 79 :: u8 80 :: u8 81 :: u8 82 :: u8 83 :: u8 84 :: u8 85 :: u8 86 :: u8 87 :: u8 88 :: u8 89 :: u8 90 :: u8 91 :: u8 92 :: u8 93 :: u8 94 :: u8 95 :: u8 96 :: u8 97 :: u8 98 :: u8 99 :: u8 100 :: u8 101 :: u8 102 :: u8 103 :: u8 104 :: u8 105 :: u8 106 :: u8 107 :: u8 108 :: u8 109 :: u8 110 :: u8 111 :: u8 112 :: u8 113 :: u8 114 :: u8 115 :: u8 116 :: u8 117 :: u8 118 :: u8 119 :: u8 120 :: u8 121 :: u8 122 :: u8 123 :: u8 124 :: u8 125 :: u8 126 :: u8 127 :: u8 128 :: u8 129 :: u8 130 :: u8 131 :: u8 132 :: u8 133 :: u8 134 :: u8 135 :: u8 136 :: u8 137 :: u8 138 :: u8 139 :: u8 140 :: u8 141 :: u8 142 :: u8 143 :: u8 144 :: u8 145 :: u8 146 :: u8 147 :: u8 148 :: u8 149 :: u8 150 :: u8 151 :: u8 152 :: u8 153 :: u8 154 :: u8 155 :: u8 156 :: u8 157 :: u8 158 :: u8 159 :: u8 160 :: u8 161 :: u8 162 :: u8 163 :: u8 164 :: u8 165 :: u8 166 :: u8 167 :: u8 168 :: u8 169 :: u8 170 :: u8 171 :: u8 172 :: u8 173 :: u8 174 :: u8 175 :: u8 176 :: u8 177 :: u8 178 :: u8 179 :: u8 180 :: u8 181 :: u8 182 :: u8 183 :: u8 184 :: u8 185 :: u8 186 :: u8 187 :: u8 188 :: u8 189 :: zx190 :: zx191 :: u69 192 :: u69 193 :: zx194 :: zx195 :: zx196 :: zx197 :: zx198 :: zx199 :: zx200 :: zx201 :: zx202 :: zx203 :: zx204 :: zx205 :: zx206 :: zx207 :: zx208 :: un :: zt : List Value)
theorem shaRL (s : ByteArray) (hs : s.size ≤ 2251799813685248) (w : World) :
  Calls Tryz.prog 42 #[.string s] w fun e w' => e = .returned (.string ⟨(digP KL (bl s)).toArray⟩) ∧ Below w.heap.size w w' := by
 have H0 := HA.start w
 go_enter Tryz.func42, Tryz.ntmps42
 refine zsr ?_
 refine zwv (.string { data := #[] }) ?_
 refine znt ?_
 refine zsr ?_
 refine zwv (.agg (wc .u64 (begP 64))) ?_
 refine wl_make H0 107 run_alloc43 ?_
 intro q1 w2 h3
 refine wl_fill (c' := wc .u64 (begP 64)) h3 0 rfl (by rw [wc_size, wc_size, (begP_len 64), (List.length_replicate)]) (info43 .u64 (begP 64) (begP_len 64)) (one_wc .u64 (begP 64)) ?_
 intro w4 (h5 : HA w [(q1, 107, wc .u64 (begP 64))] w4)
 refine znt ?_
 refine zsr ?_
 refine zwv (.string s) ?_
 refine wl_callt h5 (by kernel_rfl) enter14 #[.string s, iN .i64 128, iN .i64 16] (by kernel_rfl) (filRL s hs w4) ?_
 intro t w6 ht h7
 have hN := blocksL s t ht
 obtain ⟨N, eN⟩ : ∃ N, N = t.size / 128 := ⟨_, rfl⟩
 rw [← eN] at hN
 have hsz : t.size ≤ 2251799813686248 := by rw [size_of_bl ht, List.length_append, bl_len, fillP_len]; have h1 : gapP KL s.size ≤ 127 := Nat.sub_le _ _; have h2 : KL.Ln = 16 := rfl; omega
 have hF : (bl t).length = 128 * N := by rw [bl_len]; exact hN
 refine zwv (.string t) ?_
 refine znt ?_
 refine wp_seq ?_
 refine zsr ?_
 refine zwv (iN .i64 0) ?_
 refine znt ?_
 refine wp_block ?_
 refine wp_while (fun mq A w' => ∃ (m : Nat) (u8 : Nat → Value), mq = N - m ∧ A = ⟨(zRs3_0 t q1 m u8 s (u8 5) (u8 6) (u8 7) (u8 28) (u8 29) (u8 30) (u8 31) (u8 34) (u8 35) (u8 36) (u8 37) (u8 38) (u8 39) (u8 40) (u8 41) (u8 42) (u8 43) (u8 44) (u8 45) (u8 46) (u8 47) (u8 48) (u8 49) (u8 50) (u8 51) (u8 52) (u8 53) (u8 54) (u8 55) (u8 56) (u8 57) (List.replicate 20 un)).toArray, []⟩ ∧ HA w [(q1, 107, wc .u64 (rsP KL (bl t) m))] w' ∧ m ≤ N) (N - 0) ?_ ?_
 ·exact ⟨0, lku (fun _ => undef) [], rfl, by kernel_rfl, h7, (Nat.zero_le _)⟩
 rintro _ _ w9 ⟨m, u8, rfl, rfl, h10, hmN⟩
 refine wp_seq ?_
 refine wp_seq ?_
 by_cases hm : m < N
 ·have hbl : (blkP 128 (bl t) m).length = 128 := blkP_len 128 (bl t) m N hF hm
  have hm2 : 128 * m + 128 ≤ t.size := by omega
  refine wl_region ?_
  refine zwv (iN .i64 (128 * m)) ?_
  refine zwv (.string t) ?_
  refine zwu (run_len (s := t)) ?_
  refine zwu (run_lss (k := .i64) (a := 128 * m) (b := t.size) true (decide_eq_true (by omega))) ?_
  refine znt ?_
  refine zct ?_
  refine wp_skip ?_
  refine then_at rfl ?_
  refine wp_seq ?_
  refine wp_block ?_
  refine zsr ?_
  refine wl_make h10 109 run_alloc44 ?_
  intro q11 w12 h13
  refine znt ?_
  refine wp_seq ?_
  refine zsr ?_
  refine zwv (iN .i64 0) ?_
  refine znt ?_
  refine wp_block ?_
  refine wp_count (fun k A w' => ∃ u14 : Nat → Value, A = ⟨(zRs3_0 t q1 m u8 s (pt q11) (iN .i64 k) (u14 7) (iN .i64 (128 * m)) (.string t) (iN .i64 t.size) (.bool true) (u14 34) (u14 35) (u14 36) (u14 37) (u14 38) (u14 39) (u14 40) (u14 41) (u14 42) (u14 43) (u14 44) (u14 45) (u14 46) (u14 47) (u14 48) (u14 49) (u14 50) (u14 51) (u14 52) (u14 53) (u14 54) (u14 55) (u14 56) (u14 57) (List.replicate 20 un)).toArray, []⟩ ∧ HA w [(q11, 109, wc .u64 (firstP 64 8 (blkP 128 (bl t) m) k ++ List.replicate (80 - k) 0)), (q1, 107, wc .u64 (rsP KL (bl t) m))] w') 16 ?_ ?_ ?_
  ·exact zex h13
  ·rintro k hk _ w15 ⟨u14, rfl, h16⟩
   refine wp_seq ?_
   refine zsr ?_
   refine zwv (iN .i64 k) ?_
   refine zwu (run_lss (k := .i64) (a := k) (b := 16) true (decide_eq_true (by omega))) ?_
   refine znt ?_
   refine zct ?_
   refine wp_skip ?_
   refine then_at rfl ?_
   refine wp_seq ?_
   refine wp_block ?_
   refine zsr ?_
   refine zwv (iN .i64 0) ?_
   refine znt ?_
   refine wp_block ?_
   refine wp_count (fun j A w' => ∃ u17 : Nat → Value, A = ⟨(zRs3_0 t q1 m u8 s (pt q11) (iN .i64 k) (iN .i64 j) (iN .i64 (128 * m)) (.string t) (iN .i64 t.size) (.bool true) (iN .i64 k) (.bool true) (u14 36) (u14 37) (u17 38) (u17 39) (u17 40) (u17 41) (u17 42) (u17 43) (u17 44) (u17 45) (u17 46) (u17 47) (u17 48) (u17 49) (u17 50) (u17 51) (u17 52) (u17 53) (u17 54) (u17 55) (u17 56) (u17 57) (List.replicate 20 un)).toArray, []⟩ ∧ HA w [(q11, 109, wc .u64 ((firstP 64 8 (blkP 128 (bl t) m) k ++ [segP 64 (blkP 128 (bl t) m) (k * 8) j]) ++ List.replicate (80 - (k + 1)) 0)), (q1, 107, wc .u64 (rsP KL (bl t) m))] w') 8 ?_ ?_ ?_
   ·exact zex ((by rw [← inr_startL (blkP 128 (bl t) m) k hk]; exact h16))
   ·rintro j hj _ w18 ⟨u17, rfl, h19⟩
    refine wp_seq ?_
    refine zsr ?_
    refine zwv (iN .i64 j) ?_
    refine zwu (run_lss (k := .i64) (a := j) (b := 8) true (decide_eq_true (by omega))) ?_
    refine znt ?_
    refine zct ?_
    refine wp_skip ?_
    refine then_at rfl ?_
    refine wp_seq ?_
    refine wp_block ?_
    refine zrg (fun _ : Nat → Nat => (⟨(zRs3_0 t q1 m u8 s (pt q11) (iN .i64 k) (iN .i64 j) (iN .i64 (128 * m)) (.string t) (iN .i64 t.size) (.bool true) (iN .i64 k) (.bool true) (u14 36) (u14 37) (iN .i64 j) (.bool true) (u17 40) (u17 41) (iN .i64 k) (iN .i64 k) (.pointer (some ⟨q11, k, none⟩)) (bv .u64 (segP 64 (blkP 128 (bl t) m) (k * 8) j)) (bv .u64 ((segP 64 (blkP 128 (bl t) m) (k * 8) j) <<< 8)) (.string t) (iN .i64 (128 * m)) (iN .i64 k) (iN .i64 (8 * k)) (iN .i64 ((128 * m) + (8 * k))) (iN .i64 j) (iN .i64 (((128 * m) + (8 * k)) + j)) (by8 ((bl t).getD (((128 * m) + (8 * k)) + j) 0)) (bv .u64 (BitVec.ofNat 64 ((bl t).getD (((128 * m) + (8 * k)) + j) 0).toNat)) (bv .u64 (((segP 64 (blkP 128 (bl t) m) (k * 8) j) <<< 8) ||| (BitVec.ofNat 64 ((bl t).getD (((128 * m) + (8 * k)) + j) 0).toNat))) (.pointer (some ⟨q11, k, none⟩)) (List.replicate 20 un)).toArray, []⟩ : Act)) (GQ w [(q11, 109, wc .u64 ((firstP 64 8 (blkP 128 (bl t) m) k ++ [segP 64 (blkP 128 (bl t) m) (k * 8) j]) ++ List.replicate (80 - (k + 1)) 0)), (q1, 107, wc .u64 (rsP KL (bl t) m))] (fun i => ([[], [], [1], [2], [3], [], [], [], [7], [6, 8], [], [9, 10], [5, 11], [12], [4, 13], [0], [15, 14]] : List (List Nat)).getD i []) 16 0 q11 109 (wc .u64 ((firstP 64 8 (blkP 128 (bl t) m) k ++ [segP 64 (blkP 128 (bl t) m) (k * 8) (j + 1)]) ++ List.replicate (80 - (k + 1)) 0))) (fun d hd => GQ.start h19.drew (hd 16 (by decide)) (Cl.start (n := 17) hd (by decide))) ?_ ?_
    ·refine zg (gq_plain (v := iN .i64 k) (fun _ _ => (by kernel_rfl))) ?_
     refine zg (gq_plain (v := iN .i64 k) (fun _ _ => (by kernel_rfl))) ?_
     refine zg (gq_plain (v := .pointer (some ⟨q11, k, none⟩)) (fun _ _ => (run_addr_arr (q := q11) (a := k) Tryz.underlying109 Tryz.sizeOf34 (by omega)))) ?_
     refine zg (gq_read (v := bv .u64 (segP 64 (blkP 128 (bl t) m) (k * 8) j)) 0 rfl (.inr (fun d C h => (C 4 (C 14 (C 16 h 14 (by decide)) 4 (by decide)) 3 (by decide)))) (fun _ _ hb => run_load1 Tryz.isAgg34 ((hb.cell k).trans (last_get .u64 (firstP 64 8 (blkP 128 (bl t) m) k) _ (80 - (k + 1)) k (firstP_len 64 8 (blkP 128 (bl t) m) k))))) ?_
     refine zg (gq_plain (v := bv .u64 ((segP 64 (blkP 128 (bl t) m) (k * 8) j) <<< 8)) (fun _ _ => (run_shlv (k2 := .u64) (m := 8) WK.l (a := segP 64 (blkP 128 (bl t) m) (k * 8) j) (by kernel_rfl) (by kernel_rfl) (by decide)))) ?_
     refine zg (gq_plain (v := .string t) (fun _ _ => (by kernel_rfl))) ?_
     refine zg (gq_plain (v := iN .i64 (128 * m)) (fun _ _ => (by kernel_rfl))) ?_
     refine zg (gq_plain (v := iN .i64 k) (fun _ _ => (by kernel_rfl))) ?_
     refine zg (gq_plain (v := iN .i64 (8 * k)) (fun _ _ => (run_mul (k := .i64) (a := 8) (b := k) (by simp only [top]; omega)))) ?_
     refine zg (gq_plain (v := iN .i64 ((128 * m) + (8 * k))) (fun _ _ => (run_add (k := .i64) (a := 128 * m) (b := 8 * k) (by simp only [top]; omega)))) ?_
     refine zg (gq_plain (v := iN .i64 j) (fun _ _ => (by kernel_rfl))) ?_
     refine zg (gq_plain (v := iN .i64 (((128 * m) + (8 * k)) + j)) (fun _ _ => (run_add (k := .i64) (a := (128 * m) + (8 * k)) (b := j) (by simp only [top]; omega)))) ?_
     refine zg (gq_plain (v := by8 ((bl t).getD (((128 * m) + (8 * k)) + j) 0)) (fun _ _ => (run_idx (s := t) (k := .i64) (a := ((128 * m) + (8 * k)) + j) (by kernel_rfl) (by kernel_rfl) (by omega)))) ?_
     refine zg (gq_plain (v := bv .u64 (BitVec.ofNat 64 ((bl t).getD (((128 * m) + (8 * k)) + j) 0).toNat)) (fun _ _ => (run_wide (u := (bl t).getD (((128 * m) + (8 * k)) + j) 0) WK.l (by kernel_rfl) Tryz.underlying5 Tryz.underlying34))) ?_
     refine zg (gq_plain (v := bv .u64 (((segP 64 (blkP 128 (bl t) m) (k * 8) j) <<< 8) ||| (BitVec.ofNat 64 ((bl t).getD (((128 * m) + (8 * k)) + j) 0).toNat))) (fun _ _ => (run_orv WK.l (a := (segP 64 (blkP 128 (bl t) m) (k * 8) j) <<< 8) (b := BitVec.ofNat 64 ((bl t).getD (((128 * m) + (8 * k)) + j) 0).toNat) (by kernel_rfl) (by kernel_rfl)))) ?_
     refine zg (gq_plain (v := .pointer (some ⟨q11, k, none⟩)) (fun _ _ => (run_addr_arr (q := q11) (a := k) Tryz.underlying109 Tryz.sizeOf34 (by omega)))) ?_
     refine zg (gq_put (k := .u64) (z := (((((segP 64 (blkP 128 (bl t) m) (k * 8) j) <<< 8) ||| (BitVec.ofNat 64 ((bl t).getD (((128 * m) + (8 * k)) + j) 0).toNat)).toNat : Nat) : Int)) (off := k) rfl (by rw [wc_size, (inr_lenL (blkP 128 (bl t) m) k j hk)]; omega) ((by rw [seg_step 64 (blkP 128 (bl t) m) (k * 8) j (by rw [hbl]; omega), blkP_get 128 (bl t) m (k * 8 + j) (by omega), show 128 * m + (k * 8 + j) = 128 * m + 8 * k + j by omega]; exact last_put .u64 (firstP 64 8 (blkP 128 (bl t) m) k) _ (((segP 64 (blkP 128 (bl t) m) (k * 8) j) <<< 8) ||| (BitVec.ofNat 64 ((bl t).getD (((128 * m) + (8 * k)) + j) 0).toNat)) (80 - (k + 1)) k (firstP_len 64 8 (blkP 128 (bl t) m) k))) Tryz.sizeOf34) ?_
     exact AllGhost.nil
    intro _ w20 g21
    have h22 : HA w [(q11, 109, wc .u64 ((firstP 64 8 (blkP 128 (bl t) m) k ++ [segP 64 (blkP 128 (bl t) m) (k * 8) (j + 1)]) ++ List.replicate (80 - (k + 1)) 0)), (q1, 107, wc .u64 (rsP KL (bl t) m))] w20 := g21.held
    clear g21
    refine block_normal ?_
    refine then_at rfl ?_
    refine wl_region ?_
    refine zwv (iN .i64 j) ?_
    refine zwu (run_add (k := .i64) (a := j) (b := 1) (by simp only [top]; omega)) ?_
    refine zwv (iN .i64 (j + 1)) ?_
    refine wl_nil ?_
    exact then_I (zex h22)
   ·rintro _ w23 ⟨u17, rfl, h24⟩
    refine wp_seq ?_
    refine zsr ?_
    refine zwv (iN .i64 8) ?_
    refine zwu (run_lss (k := .i64) (a := 8) (b := 8) false (by decide)) ?_
    refine znt ?_
    refine zcf ?_
    refine wp_exit ?_
    repeat first | refine then_exit ?_ | refine block_exit ?_ | refine block_exit_ne (by decide) ?_
    refine block_normal ?_
    refine then_at rfl ?_
    refine wl_region ?_
    refine zwv (iN .i64 k) ?_
    refine zwu (run_add (k := .i64) (a := k) (b := 1) (by simp only [top]; omega)) ?_
    refine zwv (iN .i64 (k + 1)) ?_
    refine wl_nil ?_
    exact then_I (zex h24)
  ·rintro _ w25 ⟨u14, rfl, h26⟩
   refine wp_seq ?_
   refine zsr ?_
   refine zwv (iN .i64 16) ?_
   refine zwu (run_lss (k := .i64) (a := 16) (b := 16) false (by decide)) ?_
   refine znt ?_
   refine zcf ?_
   refine wp_exit ?_
   repeat first | refine then_exit ?_ | refine block_exit ?_ | refine block_exit_ne (by decide) ?_
   refine then_at rfl ?_
   refine wp_seq ?_
   refine zsr ?_
   refine zwv (iN .i64 16) ?_
   refine znt ?_
   refine wp_block ?_
   refine wp_count (fun k A w' => ∃ u27 : Nat → Value, A = ⟨(zRs3_1 t q1 m q11 u14 k u8 s u27 (u27 9) (u27 10) (u27 58) (u27 59) (u27 62) (u27 63) (u27 64) (u27 65) (u27 66) (u27 67) (u27 68) (u27 69) (u27 70) (u27 71) (u27 72) (u27 73) (u27 74) (u27 75) (u27 76) (u27 77) (u27 78) (u27 79) (u27 80) (u27 81) (u27 82) (u27 83) (u27 84) (u27 85) (u27 86) (u27 87) (u27 88) (u27 89) (u27 90) (u27 91) (u27 92) (u27 93) (u27 94) (u27 95) (u27 96) (u27 97) (u27 98) (List.replicate 20 un)).toArray, []⟩ ∧ HA w [(q11, 109, wc .u64 (schP KL (blkP 128 (bl t) m) k ++ List.replicate (64 - k) 0)), (q1, 107, wc .u64 (rsP KL (bl t) m))] w') 64 ?_ ?_ ?_
   ·exact zex h26
   ·rintro k hk _ w28 ⟨u27, rfl, h29⟩
    refine wp_seq ?_
    refine zsr ?_
    refine zwv (iN .i64 (16 + k)) ?_
    refine zwu (run_lss (k := .i64) (a := 16 + k) (b := 80) true (decide_eq_true (by omega))) ?_
    refine znt ?_
    refine zct ?_
    refine wp_skip ?_
    refine then_at rfl ?_
    refine wp_seq ?_
    refine wp_block ?_
    refine wp_seq ?_
    refine zrs ⟨(zRs3_1 t q1 m q11 u14 k u8 s u27 (bv .u64 ((schP KL (blkP 128 (bl t) m) k).getD ((16 + k) - 2) 0)) (bv .u64 ((schP KL (blkP 128 (bl t) m) k).getD ((16 + k) - 15) 0)) (iN .i64 (16 + k)) (.bool true) (iN .i64 (16 + k)) (iN .i64 ((16 + k) - 2)) (.pointer (some ⟨q11, (16 + k) - 2, none⟩)) (bv .u64 ((schP KL (blkP 128 (bl t) m) k).getD ((16 + k) - 2) 0)) (iN .i64 (16 + k)) (iN .i64 ((16 + k) - 15)) (.pointer (some ⟨q11, (16 + k) - 15, none⟩)) (bv .u64 ((schP KL (blkP 128 (bl t) m) k).getD ((16 + k) - 15) 0)) (u27 70) (u27 71) (u27 72) (u27 73) (u27 74) (u27 75) (u27 76) (u27 77) (u27 78) (u27 79) (u27 80) (u27 81) (u27 82) (u27 83) (u27 84) (u27 85) (u27 86) (u27 87) (u27 88) (u27 89) (u27 90) (u27 91) (u27 92) (u27 93) (u27 94) (u27 95) (u27 96) (u27 97) (u27 98) (List.replicate 20 un)).toArray, []⟩ (HA w [(q11, 109, wc .u64 (schP KL (blkP 128 (bl t) m) k ++ List.replicate (64 - k) 0)), (q1, 107, wc .u64 (rsP KL (bl t) m))]) h29.drew ?_ ?_
    ·refine zsp (iN .i64 (16 + k)) ?_
     refine zst (fun _ _ => (run_sub (k := .i64) (a := 16 + k) (b := 2) (by omega) (by simp only [top]; omega))) ?_
     refine zst (fun _ _ => (run_addr_arr (q := q11) (a := (16 + k) - 2) Tryz.underlying109 Tryz.sizeOf34 (by omega))) ?_
     refine zst (fun _ h => run_load1 Tryz.isAgg34 (((h.get 0 rfl).cell ((16 + k) - 2)).trans (pad_get .u64 (schP KL (blkP 128 (bl t) m) k) (64 - k) ((16 + k) - 2) (by rw [schP_len]; omega)))) ?_
     refine zsp (iN .i64 (16 + k)) ?_
     refine zst (fun _ _ => (run_sub (k := .i64) (a := 16 + k) (b := 15) (by omega) (by simp only [top]; omega))) ?_
     refine zst (fun _ _ => (run_addr_arr (q := q11) (a := (16 + k) - 15) Tryz.underlying109 Tryz.sizeOf34 (by omega))) ?_
     refine zst (fun _ h => run_load1 Tryz.isAgg34 (((h.get 0 rfl).cell ((16 + k) - 15)).trans (pad_get .u64 (schP KL (blkP 128 (bl t) m) k) (64 - k) ((16 + k) - 15) (by rw [schP_len]; omega)))) ?_
     refine zsp (bv .u64 ((schP KL (blkP 128 (bl t) m) k).getD ((16 + k) - 2) 0)) ?_
     refine zsp (bv .u64 ((schP KL (blkP 128 (bl t) m) k).getD ((16 + k) - 15) 0)) ?_
     exact AllSure.nil
    intro w30 h31
    refine then_at rfl ?_
    refine zrg (fun _ : Nat → Nat => (⟨(zRs3_1 t q1 m q11 u14 k u8 s u27 (bv .u64 ((schP KL (blkP 128 (bl t) m) k).getD ((16 + k) - 2) 0)) (bv .u64 ((schP KL (blkP 128 (bl t) m) k).getD ((16 + k) - 15) 0)) (iN .i64 (16 + k)) (.bool true) (iN .i64 (16 + k)) (iN .i64 ((16 + k) - 2)) (.pointer (some ⟨q11, (16 + k) - 2, none⟩)) (bv .u64 ((schP KL (blkP 128 (bl t) m) k).getD ((16 + k) - 2) 0)) (iN .i64 (16 + k)) (iN .i64 ((16 + k) - 15)) (.pointer (some ⟨q11, (16 + k) - 15, none⟩)) (bv .u64 ((schP KL (blkP 128 (bl t) m) k).getD ((16 + k) - 15) 0)) (iN .i64 (16 + k)) (bv .u64 ((schP KL (blkP 128 (bl t) m) k).getD ((16 + k) - 2) 0)) (bv .u64 (rotP ((schP KL (blkP 128 (bl t) m) k).getD ((16 + k) - 2) 0) 19)) (bv .u64 ((schP KL (blkP 128 (bl t) m) k).getD ((16 + k) - 2) 0)) (bv .u64 (rotP ((schP KL (blkP 128 (bl t) m) k).getD ((16 + k) - 2) 0) 61)) (bv .u64 ((rotP ((schP KL (blkP 128 (bl t) m) k).getD ((16 + k) - 2) 0) 19) ^^^ (rotP ((schP KL (blkP 128 (bl t) m) k).getD ((16 + k) - 2) 0) 61))) (bv .u64 ((schP KL (blkP 128 (bl t) m) k).getD ((16 + k) - 2) 0)) (bv .u64 (((schP KL (blkP 128 (bl t) m) k).getD ((16 + k) - 2) 0) >>> 6)) (bv .u64 (((rotP ((schP KL (blkP 128 (bl t) m) k).getD ((16 + k) - 2) 0) 19) ^^^ (rotP ((schP KL (blkP 128 (bl t) m) k).getD ((16 + k) - 2) 0) 61)) ^^^ (((schP KL (blkP 128 (bl t) m) k).getD ((16 + k) - 2) 0) >>> 6))) (iN .i64 (16 + k)) (iN .i64 ((16 + k) - 7)) (.pointer (some ⟨q11, (16 + k) - 7, none⟩)) (bv .u64 ((schP KL (blkP 128 (bl t) m) k).getD ((16 + k) - 7) 0)) (bv .u64 ((((rotP ((schP KL (blkP 128 (bl t) m) k).getD ((16 + k) - 2) 0) 19) ^^^ (rotP ((schP KL (blkP 128 (bl t) m) k).getD ((16 + k) - 2) 0) 61)) ^^^ (((schP KL (blkP 128 (bl t) m) k).getD ((16 + k) - 2) 0) >>> 6)) + ((schP KL (blkP 128 (bl t) m) k).getD ((16 + k) - 7) 0))) (bv .u64 ((schP KL (blkP 128 (bl t) m) k).getD ((16 + k) - 15) 0)) (bv .u64 (rotP ((schP KL (blkP 128 (bl t) m) k).getD ((16 + k) - 15) 0) 1)) (bv .u64 ((schP KL (blkP 128 (bl t) m) k).getD ((16 + k) - 15) 0)) (bv .u64 (rotP ((schP KL (blkP 128 (bl t) m) k).getD ((16 + k) - 15) 0) 8)) (bv .u64 ((rotP ((schP KL (blkP 128 (bl t) m) k).getD ((16 + k) - 15) 0) 1) ^^^ (rotP ((schP KL (blkP 128 (bl t) m) k).getD ((16 + k) - 15) 0) 8))) (bv .u64 ((schP KL (blkP 128 (bl t) m) k).getD ((16 + k) - 15) 0)) (bv .u64 (((schP KL (blkP 128 (bl t) m) k).getD ((16 + k) - 15) 0) >>> 7)) (bv .u64 (((rotP ((schP KL (blkP 128 (bl t) m) k).getD ((16 + k) - 15) 0) 1) ^^^ (rotP ((schP KL (blkP 128 (bl t) m) k).getD ((16 + k) - 15) 0) 8)) ^^^ (((schP KL (blkP 128 (bl t) m) k).getD ((16 + k) - 15) 0) >>> 7))) (bv .u64 (((((rotP ((schP KL (blkP 128 (bl t) m) k).getD ((16 + k) - 2) 0) 19) ^^^ (rotP ((schP KL (blkP 128 (bl t) m) k).getD ((16 + k) - 2) 0) 61)) ^^^ (((schP KL (blkP 128 (bl t) m) k).getD ((16 + k) - 2) 0) >>> 6)) + ((schP KL (blkP 128 (bl t) m) k).getD ((16 + k) - 7) 0)) + (((rotP ((schP KL (blkP 128 (bl t) m) k).getD ((16 + k) - 15) 0) 1) ^^^ (rotP ((schP KL (blkP 128 (bl t) m) k).getD ((16 + k) - 15) 0) 8)) ^^^ (((schP KL (blkP 128 (bl t) m) k).getD ((16 + k) - 15) 0) >>> 7)))) (iN .i64 (16 + k)) (iN .i64 ((16 + k) - 16)) (.pointer (some ⟨q11, (16 + k) - 16, none⟩)) (bv .u64 ((schP KL (blkP 128 (bl t) m) k).getD ((16 + k) - 16) 0)) (bv .u64 ((((((rotP ((schP KL (blkP 128 (bl t) m) k).getD ((16 + k) - 2) 0) 19) ^^^ (rotP ((schP KL (blkP 128 (bl t) m) k).getD ((16 + k) - 2) 0) 61)) ^^^ (((schP KL (blkP 128 (bl t) m) k).getD ((16 + k) - 2) 0) >>> 6)) + ((schP KL (blkP 128 (bl t) m) k).getD ((16 + k) - 7) 0)) + (((rotP ((schP KL (blkP 128 (bl t) m) k).getD ((16 + k) - 15) 0) 1) ^^^ (rotP ((schP KL (blkP 128 (bl t) m) k).getD ((16 + k) - 15) 0) 8)) ^^^ (((schP KL (blkP 128 (bl t) m) k).getD ((16 + k) - 15) 0) >>> 7))) + ((schP KL (blkP 128 (bl t) m) k).getD ((16 + k) - 16) 0))) (.pointer (some ⟨q11, 16 + k, none⟩)) (List.replicate 20 un)).toArray, []⟩ : Act)) (GQ w [(q11, 109, wc .u64 (schP KL (blkP 128 (bl t) m) k ++ List.replicate (64 - k) 0)), (q1, 107, wc .u64 (rsP KL (bl t) m))] (fun i => ([[], [], [1], [], [3], [2, 4], [], [6], [5, 7], [], [9], [10], [11], [8, 12], [], [14], [], [16], [15, 17], [], [19], [18, 20], [13, 21], [], [23], [24], [25], [22, 26], [0], [28, 27]] : List (List Nat)).getD i []) 29 0 q11 109 (wc .u64 (schP KL (blkP 128 (bl t) m) (k + 1) ++ List.replicate (64 - (k + 1)) 0))) (fun d hd => GQ.start h31.drew (hd 29 (by decide)) (Cl.start (n := 30) hd (by decide))) ?_ ?_
    ·refine zg (gq_plain (v := iN .i64 (16 + k)) (fun _ _ => (by kernel_rfl))) ?_
     refine zg (gq_plain (v := bv .u64 ((schP KL (blkP 128 (bl t) m) k).getD ((16 + k) - 2) 0)) (fun _ _ => (by kernel_rfl))) ?_
     refine zg (gq_call (v := bv .u64 (rotP ((schP KL (blkP 128 (bl t) m) k).getD ((16 + k) - 2) 0) 19)) enter18 #[bv .u64 ((schP KL (blkP 128 (bl t) m) k).getD ((16 + k) - 2) 0), iN .i64 19] (fun w' ho => rotRL ((schP KL (blkP 128 (bl t) m) k).getD ((16 + k) - 2) 0) 19 (by decide) w')) ?_
     refine zg (gq_plain (v := bv .u64 ((schP KL (blkP 128 (bl t) m) k).getD ((16 + k) - 2) 0)) (fun _ _ => (by kernel_rfl))) ?_
     refine zg (gq_call (v := bv .u64 (rotP ((schP KL (blkP 128 (bl t) m) k).getD ((16 + k) - 2) 0) 61)) enter18 #[bv .u64 ((schP KL (blkP 128 (bl t) m) k).getD ((16 + k) - 2) 0), iN .i64 61] (fun w' ho => rotRL ((schP KL (blkP 128 (bl t) m) k).getD ((16 + k) - 2) 0) 61 (by decide) w')) ?_
     refine zg (gq_plain (v := bv .u64 ((rotP ((schP KL (blkP 128 (bl t) m) k).getD ((16 + k) - 2) 0) 19) ^^^ (rotP ((schP KL (blkP 128 (bl t) m) k).getD ((16 + k) - 2) 0) 61))) (fun _ _ => (run_xorv WK.l (a := rotP ((schP KL (blkP 128 (bl t) m) k).getD ((16 + k) - 2) 0) 19) (b := rotP ((schP KL (blkP 128 (bl t) m) k).getD ((16 + k) - 2) 0) 61)))) ?_
     refine zg (gq_plain (v := bv .u64 ((schP KL (blkP 128 (bl t) m) k).getD ((16 + k) - 2) 0)) (fun _ _ => (by kernel_rfl))) ?_
     refine zg (gq_plain (v := bv .u64 (((schP KL (blkP 128 (bl t) m) k).getD ((16 + k) - 2) 0) >>> 6)) (fun _ _ => (run_shrv (k2 := .u64) (m := 6) WK.l (a := (schP KL (blkP 128 (bl t) m) k).getD ((16 + k) - 2) 0)))) ?_
     refine zg (gq_plain (v := bv .u64 (((rotP ((schP KL (blkP 128 (bl t) m) k).getD ((16 + k) - 2) 0) 19) ^^^ (rotP ((schP KL (blkP 128 (bl t) m) k).getD ((16 + k) - 2) 0) 61)) ^^^ (((schP KL (blkP 128 (bl t) m) k).getD ((16 + k) - 2) 0) >>> 6))) (fun _ _ => (run_xorv WK.l (a := (rotP ((schP KL (blkP 128 (bl t) m) k).getD ((16 + k) - 2) 0) 19) ^^^ (rotP ((schP KL (blkP 128 (bl t) m) k).getD ((16 + k) - 2) 0) 61)) (b := ((schP KL (blkP 128 (bl t) m) k).getD ((16 + k) - 2) 0) >>> 6)))) ?_
     refine zg (gq_plain (v := iN .i64 (16 + k)) (fun _ _ => (by kernel_rfl))) ?_
     refine zg (gq_plain (v := iN .i64 ((16 + k) - 7)) (fun _ _ => (run_sub (k := .i64) (a := 16 + k) (b := 7) (by omega) (by simp only [top]; omega)))) ?_
     refine zg (gq_plain (v := .pointer (some ⟨q11, (16 + k) - 7, none⟩)) (fun _ _ => (run_addr_arr (q := q11) (a := (16 + k) - 7) Tryz.underlying109 Tryz.sizeOf34 (by omega)))) ?_
     refine zg (gq_read (v := bv .u64 ((schP KL (blkP 128 (bl t) m) k).getD ((16 + k) - 7) 0)) 0 rfl (.inr (fun d C h => (C 13 (C 22 (C 27 (C 29 h 27 (by decide)) 22 (by decide)) 13 (by decide)) 12 (by decide)))) (fun _ _ hb => run_load1 Tryz.isAgg34 ((hb.cell ((16 + k) - 7)).trans (pad_get .u64 (schP KL (blkP 128 (bl t) m) k) (64 - k) ((16 + k) - 7) (by rw [schP_len]; omega))))) ?_
     refine zg (gq_plain (v := bv .u64 ((((rotP ((schP KL (blkP 128 (bl t) m) k).getD ((16 + k) - 2) 0) 19) ^^^ (rotP ((schP KL (blkP 128 (bl t) m) k).getD ((16 + k) - 2) 0) 61)) ^^^ (((schP KL (blkP 128 (bl t) m) k).getD ((16 + k) - 2) 0) >>> 6)) + ((schP KL (blkP 128 (bl t) m) k).getD ((16 + k) - 7) 0))) (fun _ _ => (run_addv WK.l (a := ((rotP ((schP KL (blkP 128 (bl t) m) k).getD ((16 + k) - 2) 0) 19) ^^^ (rotP ((schP KL (blkP 128 (bl t) m) k).getD ((16 + k) - 2) 0) 61)) ^^^ (((schP KL (blkP 128 (bl t) m) k).getD ((16 + k) - 2) 0) >>> 6)) (b := (schP KL (blkP 128 (bl t) m) k).getD ((16 + k) - 7) 0)))) ?_
     refine zg (gq_plain (v := bv .u64 ((schP KL (blkP 128 (bl t) m) k).getD ((16 + k) - 15) 0)) (fun _ _ => (by kernel_rfl))) ?_
     refine zg (gq_call (v := bv .u64 (rotP ((schP KL (blkP 128 (bl t) m) k).getD ((16 + k) - 15) 0) 1)) enter18 #[bv .u64 ((schP KL (blkP 128 (bl t) m) k).getD ((16 + k) - 15) 0), iN .i64 1] (fun w' ho => rotRL ((schP KL (blkP 128 (bl t) m) k).getD ((16 + k) - 15) 0) 1 (by decide) w')) ?_
     refine zg (gq_plain (v := bv .u64 ((schP KL (blkP 128 (bl t) m) k).getD ((16 + k) - 15) 0)) (fun _ _ => (by kernel_rfl))) ?_
     refine zg (gq_call (v := bv .u64 (rotP ((schP KL (blkP 128 (bl t) m) k).getD ((16 + k) - 15) 0) 8)) enter18 #[bv .u64 ((schP KL (blkP 128 (bl t) m) k).getD ((16 + k) - 15) 0), iN .i64 8] (fun w' ho => rotRL ((schP KL (blkP 128 (bl t) m) k).getD ((16 + k) - 15) 0) 8 (by decide) w')) ?_
     refine zg (gq_plain (v := bv .u64 ((rotP ((schP KL (blkP 128 (bl t) m) k).getD ((16 + k) - 15) 0) 1) ^^^ (rotP ((schP KL (blkP 128 (bl t) m) k).getD ((16 + k) - 15) 0) 8))) (fun _ _ => (run_xorv WK.l (a := rotP ((schP KL (blkP 128 (bl t) m) k).getD ((16 + k) - 15) 0) 1) (b := rotP ((schP KL (blkP 128 (bl t) m) k).getD ((16 + k) - 15) 0) 8)))) ?_
     refine zg (gq_plain (v := bv .u64 ((schP KL (blkP 128 (bl t) m) k).getD ((16 + k) - 15) 0)) (fun _ _ => (by kernel_rfl))) ?_
     refine zg (gq_plain (v := bv .u64 (((schP KL (blkP 128 (bl t) m) k).getD ((16 + k) - 15) 0) >>> 7)) (fun _ _ => (run_shrv (k2 := .u64) (m := 7) WK.l (a := (schP KL (blkP 128 (bl t) m) k).getD ((16 + k) - 15) 0)))) ?_
     refine zg (gq_plain (v := bv .u64 (((rotP ((schP KL (blkP 128 (bl t) m) k).getD ((16 + k) - 15) 0) 1) ^^^ (rotP ((schP KL (blkP 128 (bl t) m) k).getD ((16 + k) - 15) 0) 8)) ^^^ (((schP KL (blkP 128 (bl t) m) k).getD ((16 + k) - 15) 0) >>> 7))) (fun _ _ => (run_xorv WK.l (a := (rotP ((schP KL (blkP 128 (bl t) m) k).getD ((16 + k) - 15) 0) 1) ^^^ (rotP ((schP KL (blkP 128 (bl t) m) k).getD ((16 + k) - 15) 0) 8)) (b := ((schP KL (blkP 128 (bl t) m) k).getD ((16 + k) - 15) 0) >>> 7)))) ?_
     refine zg (gq_plain (v := bv .u64 (((((rotP ((schP KL (blkP 128 (bl t) m) k).getD ((16 + k) - 2) 0) 19) ^^^ (rotP ((schP KL (blkP 128 (bl t) m) k).getD ((16 + k) - 2) 0) 61)) ^^^ (((schP KL (blkP 128 (bl t) m) k).getD ((16 + k) - 2) 0) >>> 6)) + ((schP KL (blkP 128 (bl t) m) k).getD ((16 + k) - 7) 0)) + (((rotP ((schP KL (blkP 128 (bl t) m) k).getD ((16 + k) - 15) 0) 1) ^^^ (rotP ((schP KL (blkP 128 (bl t) m) k).getD ((16 + k) - 15) 0) 8)) ^^^ (((schP KL (blkP 128 (bl t) m) k).getD ((16 + k) - 15) 0) >>> 7)))) (fun _ _ => (run_addv WK.l (a := (((rotP ((schP KL (blkP 128 (bl t) m) k).getD ((16 + k) - 2) 0) 19) ^^^ (rotP ((schP KL (blkP 128 (bl t) m) k).getD ((16 + k) - 2) 0) 61)) ^^^ (((schP KL (blkP 128 (bl t) m) k).getD ((16 + k) - 2) 0) >>> 6)) + ((schP KL (blkP 128 (bl t) m) k).getD ((16 + k) - 7) 0)) (b := ((rotP ((schP KL (blkP 128 (bl t) m) k).getD ((16 + k) - 15) 0) 1) ^^^ (rotP ((schP KL (blkP 128 (bl t) m) k).getD ((16 + k) - 15) 0) 8)) ^^^ (((schP KL (blkP 128 (bl t) m) k).getD ((16 + k) - 15) 0) >>> 7))))) ?_
     refine zg (gq_plain (v := iN .i64 (16 + k)) (fun _ _ => (by kernel_rfl))) ?_
     refine zg (gq_plain (v := iN .i64 ((16 + k) - 16)) (fun _ _ => (run_sub (k := .i64) (a := 16 + k) (b := 16) (by omega) (by simp only [top]; omega)))) ?_
     refine zg (gq_plain (v := .pointer (some ⟨q11, (16 + k) - 16, none⟩)) (fun _ _ => (run_addr_arr (q := q11) (a := (16 + k) - 16) Tryz.underlying109 Tryz.sizeOf34 (by omega)))) ?_
     refine zg (gq_read (v := bv .u64 ((schP KL (blkP 128 (bl t) m) k).getD ((16 + k) - 16) 0)) 0 rfl (.inr (fun d C h => (C 27 (C 29 h 27 (by decide)) 26 (by decide)))) (fun _ _ hb => run_load1 Tryz.isAgg34 ((hb.cell ((16 + k) - 16)).trans (pad_get .u64 (schP KL (blkP 128 (bl t) m) k) (64 - k) ((16 + k) - 16) (by rw [schP_len]; omega))))) ?_
     refine zg (gq_plain (v := bv .u64 ((((((rotP ((schP KL (blkP 128 (bl t) m) k).getD ((16 + k) - 2) 0) 19) ^^^ (rotP ((schP KL (blkP 128 (bl t) m) k).getD ((16 + k) - 2) 0) 61)) ^^^ (((schP KL (blkP 128 (bl t) m) k).getD ((16 + k) - 2) 0) >>> 6)) + ((schP KL (blkP 128 (bl t) m) k).getD ((16 + k) - 7) 0)) + (((rotP ((schP KL (blkP 128 (bl t) m) k).getD ((16 + k) - 15) 0) 1) ^^^ (rotP ((schP KL (blkP 128 (bl t) m) k).getD ((16 + k) - 15) 0) 8)) ^^^ (((schP KL (blkP 128 (bl t) m) k).getD ((16 + k) - 15) 0) >>> 7))) + ((schP KL (blkP 128 (bl t) m) k).getD ((16 + k) - 16) 0))) (fun _ _ => (run_addv WK.l (a := ((((rotP ((schP KL (blkP 128 (bl t) m) k).getD ((16 + k) - 2) 0) 19) ^^^ (rotP ((schP KL (blkP 128 (bl t) m) k).getD ((16 + k) - 2) 0) 61)) ^^^ (((schP KL (blkP 128 (bl t) m) k).getD ((16 + k) - 2) 0) >>> 6)) + ((schP KL (blkP 128 (bl t) m) k).getD ((16 + k) - 7) 0)) + (((rotP ((schP KL (blkP 128 (bl t) m) k).getD ((16 + k) - 15) 0) 1) ^^^ (rotP ((schP KL (blkP 128 (bl t) m) k).getD ((16 + k) - 15) 0) 8)) ^^^ (((schP KL (blkP 128 (bl t) m) k).getD ((16 + k) - 15) 0) >>> 7))) (b := (schP KL (blkP 128 (bl t) m) k).getD ((16 + k) - 16) 0)))) ?_
     refine zg (gq_plain (v := .pointer (some ⟨q11, 16 + k, none⟩)) (fun _ _ => (run_addr_arr (q := q11) (a := 16 + k) Tryz.underlying109 Tryz.sizeOf34 (by omega)))) ?_
     refine zg (gq_put (k := .u64) (z := ((((((((rotP ((schP KL (blkP 128 (bl t) m) k).getD ((16 + k) - 2) 0) 19) ^^^ (rotP ((schP KL (blkP 128 (bl t) m) k).getD ((16 + k) - 2) 0) 61)) ^^^ (((schP KL (blkP 128 (bl t) m) k).getD ((16 + k) - 2) 0) >>> 6)) + ((schP KL (blkP 128 (bl t) m) k).getD ((16 + k) - 7) 0)) + (((rotP ((schP KL (blkP 128 (bl t) m) k).getD ((16 + k) - 15) 0) 1) ^^^ (rotP ((schP KL (blkP 128 (bl t) m) k).getD ((16 + k) - 15) 0) 8)) ^^^ (((schP KL (blkP 128 (bl t) m) k).getD ((16 + k) - 15) 0) >>> 7))) + ((schP KL (blkP 128 (bl t) m) k).getD ((16 + k) - 16) 0)).toNat : Nat) : Int)) (off := 16 + k) rfl (by rw [wc_size, (schr_lenL (blkP 128 (bl t) m) k (by omega))]; omega) ((pad_put .u64 (schP KL (blkP 128 (bl t) m) k) (64 - k) (64 - (k + 1)) (16 + k) ((((((rotP ((schP KL (blkP 128 (bl t) m) k).getD ((16 + k) - 2) 0) 19) ^^^ (rotP ((schP KL (blkP 128 (bl t) m) k).getD ((16 + k) - 2) 0) 61)) ^^^ (((schP KL (blkP 128 (bl t) m) k).getD ((16 + k) - 2) 0) >>> 6)) + ((schP KL (blkP 128 (bl t) m) k).getD ((16 + k) - 7) 0)) + (((rotP ((schP KL (blkP 128 (bl t) m) k).getD ((16 + k) - 15) 0) 1) ^^^ (rotP ((schP KL (blkP 128 (bl t) m) k).getD ((16 + k) - 15) 0) 8)) ^^^ (((schP KL (blkP 128 (bl t) m) k).getD ((16 + k) - 15) 0) >>> 7))) + ((schP KL (blkP 128 (bl t) m) k).getD ((16 + k) - 16) 0)) (schP_len KL (blkP 128 (bl t) m) k) (by omega))) Tryz.sizeOf34) ?_
     exact AllGhost.nil
    intro _ w32 g33
    have h34 : HA w [(q11, 109, wc .u64 (schP KL (blkP 128 (bl t) m) (k + 1) ++ List.replicate (64 - (k + 1)) 0)), (q1, 107, wc .u64 (rsP KL (bl t) m))] w32 := g33.held
    clear g33
    refine block_normal ?_
    refine then_at rfl ?_
    refine wl_region ?_
    refine zwv (iN .i64 (16 + k)) ?_
    refine zwu (run_add (k := .i64) (a := 16 + k) (b := 1) (by simp only [top]; omega)) ?_
    refine zwv (iN .i64 ((16 + k) + 1)) ?_
    refine wl_nil ?_
    exact then_I (zex h34)
   ·rintro _ w35 ⟨u27, rfl, h36⟩
    refine wp_seq ?_
    refine zsr ?_
    refine zwv (iN .i64 (16 + 64)) ?_
    refine zwu (run_lss (k := .i64) (a := 16 + 64) (b := 80) false (by decide)) ?_
    refine znt ?_
    refine zcf ?_
    refine wp_exit ?_
    repeat first | refine then_exit ?_ | refine block_exit ?_ | refine block_exit_ne (by decide) ?_
    refine then_at rfl ?_
    refine zsr ?_
    refine wl_load h36 1 rfl Tryz.underlying107 rfl (info43 .u64 (rsP KL (bl t) m) (rsP_len KL (bl t) m)) ?_
    refine wl_make h36 107 run_alloc43 ?_
    intro q37 w38 h39
    refine wl_fill (c' := wc .u64 (rsP KL (bl t) m)) h39 0 rfl (by rw [wc_size, wc_size, (rsP_len KL (bl t) m), (List.length_replicate)]) (info43 .u64 (rsP KL (bl t) m) (rsP_len KL (bl t) m)) (one_wc .u64 (rsP KL (bl t) m)) ?_
    intro w40 (h41 : HA w [(q37, 107, wc .u64 (rsP KL (bl t) m)), (q11, 109, wc .u64 (schP KL (blkP 128 (bl t) m) 64 ++ List.replicate (64 - 64) 0)), (q1, 107, wc .u64 (rsP KL (bl t) m))] w40)
    refine znt ?_
    refine wp_seq ?_
    refine zsr ?_
    refine zwv (iN .i64 0) ?_
    refine znt ?_
    have h42 : HA w [(q37, 107, wc .u64 (l8 (rqL (rsP KL (bl t) m) (blkP 128 (bl t) m) 0))), (q11, 109, wc .u64 (schP KL (blkP 128 (bl t) m) 64)), (q1, 107, wc .u64 (rsP KL (bl t) m))] w40 := by have e : l8 (rqL (rsP KL (bl t) m) (blkP 128 (bl t) m) 0) = rsP KL (bl t) m := l8_v8 _ (rsP_len KL (bl t) m); rw [e, ← sch_endL]; exact h41
    refine wp_block ?_
    refine wp_count (fun k A w' => ∃ u43 : Nat → Value, A = ⟨(zRs3_2 t q1 m q11 u14 u27 q37 k u43 u8 s (u43 13) (u43 14) (u43 15) (u43 16) (u43 17) (u43 18) (u43 100) (u43 101) (u43 104) (u43 105) (u43 106) (u43 107) (u43 108) (u43 109) (u43 110) (u43 111) (u43 112) (u43 113) (u43 114) (u43 115) (List.replicate 20 un)).toArray, []⟩ ∧ HA w [(q37, 107, wc .u64 (l8 (rqL (rsP KL (bl t) m) (blkP 128 (bl t) m) k))), (q11, 109, wc .u64 (schP KL (blkP 128 (bl t) m) 64)), (q1, 107, wc .u64 (rsP KL (bl t) m))] w') 80 ?_ ?_ ?_
    ·exact zex h42
    ·rintro k hk _ w44 ⟨u43, rfl, h45⟩
     refine wp_seq ?_
     refine zsr ?_
     refine zwv (iN .i64 k) ?_
     refine zwu (run_lss (k := .i64) (a := k) (b := 80) true (decide_eq_true (by omega))) ?_
     refine znt ?_
     refine zct ?_
     refine wp_skip ?_
     refine then_at rfl ?_
     refine wp_seq ?_
     refine wp_block ?_
     refine wp_seq ?_
     refine zrs ⟨(zRs3_2 t q1 m q11 u14 u27 q37 k u43 u8 s (bv .u64 ((rqL (rsP KL (bl t) m) (blkP 128 (bl t) m) k).a)) (bv .u64 ((rqL (rsP KL (bl t) m) (blkP 128 (bl t) m) k).b)) (bv .u64 ((rqL (rsP KL (bl t) m) (blkP 128 (bl t) m) k).c)) (bv .u64 ((rqL (rsP KL (bl t) m) (blkP 128 (bl t) m) k).e)) (bv .u64 ((rqL (rsP KL (bl t) m) (blkP 128 (bl t) m) k).f)) (bv .u64 ((rqL (rsP KL (bl t) m) (blkP 128 (bl t) m) k).g)) (iN .i64 k) (.bool true) (pt q37) (bv .u64 ((rqL (rsP KL (bl t) m) (blkP 128 (bl t) m) k).a)) (.pointer (some ⟨q37, 1, none⟩)) (bv .u64 ((rqL (rsP KL (bl t) m) (blkP 128 (bl t) m) k).b)) (.pointer (some ⟨q37, 2, none⟩)) (bv .u64 ((rqL (rsP KL (bl t) m) (blkP 128 (bl t) m) k).c)) (.pointer (some ⟨q37, 4, none⟩)) (bv .u64 ((rqL (rsP KL (bl t) m) (blkP 128 (bl t) m) k).e)) (.pointer (some ⟨q37, 5, none⟩)) (bv .u64 ((rqL (rsP KL (bl t) m) (blkP 128 (bl t) m) k).f)) (.pointer (some ⟨q37, 6, none⟩)) (bv .u64 ((rqL (rsP KL (bl t) m) (blkP 128 (bl t) m) k).g)) (List.replicate 20 un)).toArray, []⟩ (HA w [(q37, 107, wc .u64 (l8 (rqL (rsP KL (bl t) m) (blkP 128 (bl t) m) k))), (q11, 109, wc .u64 (schP KL (blkP 128 (bl t) m) 64)), (q1, 107, wc .u64 (rsP KL (bl t) m))]) h45.drew ?_ ?_
     ·refine zst (fun _ _ => (run_addr_arr (q := q37) (a := 0) Tryz.underlying107 Tryz.sizeOf34 (by decide))) ?_
      refine zst (v := bv .u64 ((rqL (rsP KL (bl t) m) (blkP 128 (bl t) m) k).a)) (fun _ h => run_load1 Tryz.isAgg34 (((h.get 0 rfl).cell 0).trans rfl)) ?_
      refine zst (fun _ _ => (run_addr_arr (q := q37) (a := 1) Tryz.underlying107 Tryz.sizeOf34 (by decide))) ?_
      refine zst (v := bv .u64 ((rqL (rsP KL (bl t) m) (blkP 128 (bl t) m) k).b)) (fun _ h => run_load1 Tryz.isAgg34 (((h.get 0 rfl).cell 1).trans rfl)) ?_
      refine zst (fun _ _ => (run_addr_arr (q := q37) (a := 2) Tryz.underlying107 Tryz.sizeOf34 (by decide))) ?_
      refine zst (v := bv .u64 ((rqL (rsP KL (bl t) m) (blkP 128 (bl t) m) k).c)) (fun _ h => run_load1 Tryz.isAgg34 (((h.get 0 rfl).cell 2).trans rfl)) ?_
      refine zst (fun _ _ => (run_addr_arr (q := q37) (a := 4) Tryz.underlying107 Tryz.sizeOf34 (by decide))) ?_
      refine zst (v := bv .u64 ((rqL (rsP KL (bl t) m) (blkP 128 (bl t) m) k).e)) (fun _ h => run_load1 Tryz.isAgg34 (((h.get 0 rfl).cell 4).trans rfl)) ?_
      refine zst (fun _ _ => (run_addr_arr (q := q37) (a := 5) Tryz.underlying107 Tryz.sizeOf34 (by decide))) ?_
      refine zst (v := bv .u64 ((rqL (rsP KL (bl t) m) (blkP 128 (bl t) m) k).f)) (fun _ h => run_load1 Tryz.isAgg34 (((h.get 0 rfl).cell 5).trans rfl)) ?_
      refine zst (fun _ _ => (run_addr_arr (q := q37) (a := 6) Tryz.underlying107 Tryz.sizeOf34 (by decide))) ?_
      refine zst (v := bv .u64 ((rqL (rsP KL (bl t) m) (blkP 128 (bl t) m) k).g)) (fun _ h => run_load1 Tryz.isAgg34 (((h.get 0 rfl).cell 6).trans rfl)) ?_
      refine zsp (bv .u64 ((rqL (rsP KL (bl t) m) (blkP 128 (bl t) m) k).a)) ?_
      refine zsp (bv .u64 ((rqL (rsP KL (bl t) m) (blkP 128 (bl t) m) k).b)) ?_
      refine zsp (bv .u64 ((rqL (rsP KL (bl t) m) (blkP 128 (bl t) m) k).c)) ?_
      refine zsp (bv .u64 ((rqL (rsP KL (bl t) m) (blkP 128 (bl t) m) k).e)) ?_
      refine zsp (bv .u64 ((rqL (rsP KL (bl t) m) (blkP 128 (bl t) m) k).f)) ?_
      refine zsp (bv .u64 ((rqL (rsP KL (bl t) m) (blkP 128 (bl t) m) k).g)) ?_
      exact AllSure.nil
     intro w46 h47
     refine then_at rfl ?_
     refine wp_seq ?_
     refine zrs ⟨(zRs3_3 t q1 m q11 u14 u27 q37 k u8 s u43 (u43 20) (u43 143) (u43 144) (u43 145) (u43 146) (u43 147) (u43 148) (u43 149) (u43 150) (u43 151) (u43 152) (u43 153) (u43 154) (u43 155) (u43 156) (u43 157) (u43 158) (u43 159) (u43 160) (u43 161) (u43 162) (u43 163) (u43 164) (u43 165) (u43 166) (u43 167) (u43 168) (u43 169) (u43 170) (u43 171) (u43 172) (u43 173) (u43 174) (u43 175) (u43 176) (List.replicate 20 un)).toArray, []⟩ (HA w [(q37, 107, wc .u64 (l8 (rqL (rsP KL (bl t) m) (blkP 128 (bl t) m) k))), (q11, 109, wc .u64 (schP KL (blkP 128 (bl t) m) 64)), (q1, 107, wc .u64 (rsP KL (bl t) m))]) h47.drew ?_ ?_
     ·refine zst (fun _ _ => (run_addr_arr (q := q37) (a := 7) Tryz.underlying107 Tryz.sizeOf34 (by decide))) ?_
      refine zst (v := bv .u64 ((rqL (rsP KL (bl t) m) (blkP 128 (bl t) m) k).h)) (fun _ h => run_load1 Tryz.isAgg34 (((h.get 0 rfl).cell 7).trans rfl)) ?_
      refine zsp (bv .u64 ((rqL (rsP KL (bl t) m) (blkP 128 (bl t) m) k).e)) ?_
      refine zsc enter18 HA.keep (fun w' h' => rotRL ((rqL (rsP KL (bl t) m) (blkP 128 (bl t) m) k).e) 14 (by decide) w') ?_
      refine zsp (bv .u64 ((rqL (rsP KL (bl t) m) (blkP 128 (bl t) m) k).e)) ?_
      refine zsc enter18 HA.keep (fun w' h' => rotRL ((rqL (rsP KL (bl t) m) (blkP 128 (bl t) m) k).e) 18 (by decide) w') ?_
      refine zst (fun _ _ => (run_xorv WK.l (a := rotP ((rqL (rsP KL (bl t) m) (blkP 128 (bl t) m) k).e) 14) (b := rotP ((rqL (rsP KL (bl t) m) (blkP 128 (bl t) m) k).e) 18))) ?_
      refine zsp (bv .u64 ((rqL (rsP KL (bl t) m) (blkP 128 (bl t) m) k).e)) ?_
      refine zsc enter18 HA.keep (fun w' h' => rotRL ((rqL (rsP KL (bl t) m) (blkP 128 (bl t) m) k).e) 41 (by decide) w') ?_
      refine zst (fun _ _ => (run_xorv WK.l (a := (rotP ((rqL (rsP KL (bl t) m) (blkP 128 (bl t) m) k).e) 14) ^^^ (rotP ((rqL (rsP KL (bl t) m) (blkP 128 (bl t) m) k).e) 18)) (b := rotP ((rqL (rsP KL (bl t) m) (blkP 128 (bl t) m) k).e) 41))) ?_
      refine zst (fun _ _ => (run_addv WK.l (a := (rqL (rsP KL (bl t) m) (blkP 128 (bl t) m) k).h) (b := ((rotP ((rqL (rsP KL (bl t) m) (blkP 128 (bl t) m) k).e) 14) ^^^ (rotP ((rqL (rsP KL (bl t) m) (blkP 128 (bl t) m) k).e) 18)) ^^^ (rotP ((rqL (rsP KL (bl t) m) (blkP 128 (bl t) m) k).e) 41)))) ?_
      refine zsp (bv .u64 ((rqL (rsP KL (bl t) m) (blkP 128 (bl t) m) k).e)) ?_
      refine zsp (bv .u64 ((rqL (rsP KL (bl t) m) (blkP 128 (bl t) m) k).f)) ?_
      refine zst (fun _ _ => (run_andv WK.l (a := (rqL (rsP KL (bl t) m) (blkP 128 (bl t) m) k).e) (b := (rqL (rsP KL (bl t) m) (blkP 128 (bl t) m) k).f))) ?_
      refine zsp (bv .u64 ((rqL (rsP KL (bl t) m) (blkP 128 (bl t) m) k).e)) ?_
      refine zst (fun _ _ => (run_notv64 (a := (rqL (rsP KL (bl t) m) (blkP 128 (bl t) m) k).e) (by kernel_rfl))) ?_
      refine zsp (bv .u64 ((rqL (rsP KL (bl t) m) (blkP 128 (bl t) m) k).g)) ?_
      refine zst (fun _ _ => (run_andv WK.l (a := ~~~((rqL (rsP KL (bl t) m) (blkP 128 (bl t) m) k).e)) (b := (rqL (rsP KL (bl t) m) (blkP 128 (bl t) m) k).g))) ?_
      refine zst (fun _ _ => (run_xorv WK.l (a := ((rqL (rsP KL (bl t) m) (blkP 128 (bl t) m) k).e) &&& ((rqL (rsP KL (bl t) m) (blkP 128 (bl t) m) k).f)) (b := (~~~((rqL (rsP KL (bl t) m) (blkP 128 (bl t) m) k).e)) &&& ((rqL (rsP KL (bl t) m) (blkP 128 (bl t) m) k).g)))) ?_
      refine zst (fun _ _ => (run_addv WK.l (a := ((rqL (rsP KL (bl t) m) (blkP 128 (bl t) m) k).h) + (((rotP ((rqL (rsP KL (bl t) m) (blkP 128 (bl t) m) k).e) 14) ^^^ (rotP ((rqL (rsP KL (bl t) m) (blkP 128 (bl t) m) k).e) 18)) ^^^ (rotP ((rqL (rsP KL (bl t) m) (blkP 128 (bl t) m) k).e) 41))) (b := (((rqL (rsP KL (bl t) m) (blkP 128 (bl t) m) k).e) &&& ((rqL (rsP KL (bl t) m) (blkP 128 (bl t) m) k).f)) ^^^ ((~~~((rqL (rsP KL (bl t) m) (blkP 128 (bl t) m) k).e)) &&& ((rqL (rsP KL (bl t) m) (blkP 128 (bl t) m) k).g))))) ?_
      refine zsp (iN .i64 k) ?_
      refine zsc enter19 HA.keep (fun w' h' => kwRL k (by omega) w') ?_
      refine zst (fun _ _ => (run_addv WK.l (a := (((rqL (rsP KL (bl t) m) (blkP 128 (bl t) m) k).h) + (((rotP ((rqL (rsP KL (bl t) m) (blkP 128 (bl t) m) k).e) 14) ^^^ (rotP ((rqL (rsP KL (bl t) m) (blkP 128 (bl t) m) k).e) 18)) ^^^ (rotP ((rqL (rsP KL (bl t) m) (blkP 128 (bl t) m) k).e) 41))) + ((((rqL (rsP KL (bl t) m) (blkP 128 (bl t) m) k).e) &&& ((rqL (rsP KL (bl t) m) (blkP 128 (bl t) m) k).f)) ^^^ ((~~~((rqL (rsP KL (bl t) m) (blkP 128 (bl t) m) k).e)) &&& ((rqL (rsP KL (bl t) m) (blkP 128 (bl t) m) k).g)))) (b := cutP 64 (rws.getD k 0)))) ?_
      refine zsp (iN .i64 k) ?_
      refine zst (fun _ _ => (run_addr_arr (q := q11) (a := k) Tryz.underlying109 Tryz.sizeOf34 (by omega))) ?_
      refine zst (fun _ h => run_load1 Tryz.isAgg34 (((h.get 1 rfl).cell k).trans (wc_get .u64 (schP KL (blkP 128 (bl t) m) 64) k (by rw [(schq_lenL (blkP 128 (bl t) m))]; omega)))) ?_
      refine zst (fun _ _ => (run_addv WK.l (a := ((((rqL (rsP KL (bl t) m) (blkP 128 (bl t) m) k).h) + (((rotP ((rqL (rsP KL (bl t) m) (blkP 128 (bl t) m) k).e) 14) ^^^ (rotP ((rqL (rsP KL (bl t) m) (blkP 128 (bl t) m) k).e) 18)) ^^^ (rotP ((rqL (rsP KL (bl t) m) (blkP 128 (bl t) m) k).e) 41))) + ((((rqL (rsP KL (bl t) m) (blkP 128 (bl t) m) k).e) &&& ((rqL (rsP KL (bl t) m) (blkP 128 (bl t) m) k).f)) ^^^ ((~~~((rqL (rsP KL (bl t) m) (blkP 128 (bl t) m) k).e)) &&& ((rqL (rsP KL (bl t) m) (blkP 128 (bl t) m) k).g)))) + (cutP 64 (rws.getD k 0))) (b := (schP KL (blkP 128 (bl t) m) 64).getD k 0))) ?_
      refine zsp (bv .u64 ((((((rqL (rsP KL (bl t) m) (blkP 128 (bl t) m) k).h) + (((rotP ((rqL (rsP KL (bl t) m) (blkP 128 (bl t) m) k).e) 14) ^^^ (rotP ((rqL (rsP KL (bl t) m) (blkP 128 (bl t) m) k).e) 18)) ^^^ (rotP ((rqL (rsP KL (bl t) m) (blkP 128 (bl t) m) k).e) 41))) + ((((rqL (rsP KL (bl t) m) (blkP 128 (bl t) m) k).e) &&& ((rqL (rsP KL (bl t) m) (blkP 128 (bl t) m) k).f)) ^^^ ((~~~((rqL (rsP KL (bl t) m) (blkP 128 (bl t) m) k).e)) &&& ((rqL (rsP KL (bl t) m) (blkP 128 (bl t) m) k).g)))) + (cutP 64 (rws.getD k 0))) + ((schP KL (blkP 128 (bl t) m) 64).getD k 0))) ?_
      exact AllSure.nil
     intro w48 h49
     refine then_at rfl ?_
     refine zsr ?_
     refine zwv (bv .u64 ((rqL (rsP KL (bl t) m) (blkP 128 (bl t) m) k).a)) ?_
     refine zwc h49 enter18 (rotRL ((rqL (rsP KL (bl t) m) (blkP 128 (bl t) m) k).a) 28 (by decide) w48) ?_
     intro w50 h51
     refine zwv (bv .u64 ((rqL (rsP KL (bl t) m) (blkP 128 (bl t) m) k).a)) ?_
     refine zwc h51 enter18 (rotRL ((rqL (rsP KL (bl t) m) (blkP 128 (bl t) m) k).a) 34 (by decide) w50) ?_
     intro w52 h53
     refine zwu (run_xorv WK.l (a := rotP ((rqL (rsP KL (bl t) m) (blkP 128 (bl t) m) k).a) 28) (b := rotP ((rqL (rsP KL (bl t) m) (blkP 128 (bl t) m) k).a) 34)) ?_
     refine zwv (bv .u64 ((rqL (rsP KL (bl t) m) (blkP 128 (bl t) m) k).a)) ?_
     refine zwc h53 enter18 (rotRL ((rqL (rsP KL (bl t) m) (blkP 128 (bl t) m) k).a) 39 (by decide) w52) ?_
     intro w54 h55
     refine zwu (run_xorv WK.l (a := (rotP ((rqL (rsP KL (bl t) m) (blkP 128 (bl t) m) k).a) 28) ^^^ (rotP ((rqL (rsP KL (bl t) m) (blkP 128 (bl t) m) k).a) 34)) (b := rotP ((rqL (rsP KL (bl t) m) (blkP 128 (bl t) m) k).a) 39)) ?_
     refine zwv (bv .u64 ((rqL (rsP KL (bl t) m) (blkP 128 (bl t) m) k).a)) ?_
     refine zwv (bv .u64 ((rqL (rsP KL (bl t) m) (blkP 128 (bl t) m) k).b)) ?_
     refine zwu (run_andv WK.l (a := (rqL (rsP KL (bl t) m) (blkP 128 (bl t) m) k).a) (b := (rqL (rsP KL (bl t) m) (blkP 128 (bl t) m) k).b)) ?_
     refine zwv (bv .u64 ((rqL (rsP KL (bl t) m) (blkP 128 (bl t) m) k).a)) ?_
     refine zwv (bv .u64 ((rqL (rsP KL (bl t) m) (blkP 128 (bl t) m) k).c)) ?_
     refine zwu (run_andv WK.l (a := (rqL (rsP KL (bl t) m) (blkP 128 (bl t) m) k).a) (b := (rqL (rsP KL (bl t) m) (blkP 128 (bl t) m) k).c)) ?_
     refine zwu (run_xorv WK.l (a := ((rqL (rsP KL (bl t) m) (blkP 128 (bl t) m) k).a) &&& ((rqL (rsP KL (bl t) m) (blkP 128 (bl t) m) k).b)) (b := ((rqL (rsP KL (bl t) m) (blkP 128 (bl t) m) k).a) &&& ((rqL (rsP KL (bl t) m) (blkP 128 (bl t) m) k).c))) ?_
     refine zwv (bv .u64 ((rqL (rsP KL (bl t) m) (blkP 128 (bl t) m) k).b)) ?_
     refine zwv (bv .u64 ((rqL (rsP KL (bl t) m) (blkP 128 (bl t) m) k).c)) ?_
     refine zwu (run_andv WK.l (a := (rqL (rsP KL (bl t) m) (blkP 128 (bl t) m) k).b) (b := (rqL (rsP KL (bl t) m) (blkP 128 (bl t) m) k).c)) ?_
     refine zwu (run_xorv WK.l (a := (((rqL (rsP KL (bl t) m) (blkP 128 (bl t) m) k).a) &&& ((rqL (rsP KL (bl t) m) (blkP 128 (bl t) m) k).b)) ^^^ (((rqL (rsP KL (bl t) m) (blkP 128 (bl t) m) k).a) &&& ((rqL (rsP KL (bl t) m) (blkP 128 (bl t) m) k).c))) (b := ((rqL (rsP KL (bl t) m) (blkP 128 (bl t) m) k).b) &&& ((rqL (rsP KL (bl t) m) (blkP 128 (bl t) m) k).c))) ?_
     refine zwu (run_addv WK.l (a := ((rotP ((rqL (rsP KL (bl t) m) (blkP 128 (bl t) m) k).a) 28) ^^^ (rotP ((rqL (rsP KL (bl t) m) (blkP 128 (bl t) m) k).a) 34)) ^^^ (rotP ((rqL (rsP KL (bl t) m) (blkP 128 (bl t) m) k).a) 39)) (b := ((((rqL (rsP KL (bl t) m) (blkP 128 (bl t) m) k).a) &&& ((rqL (rsP KL (bl t) m) (blkP 128 (bl t) m) k).b)) ^^^ (((rqL (rsP KL (bl t) m) (blkP 128 (bl t) m) k).a) &&& ((rqL (rsP KL (bl t) m) (blkP 128 (bl t) m) k).c))) ^^^ (((rqL (rsP KL (bl t) m) (blkP 128 (bl t) m) k).b) &&& ((rqL (rsP KL (bl t) m) (blkP 128 (bl t) m) k).c)))) ?_
     refine zwv (bv .u64 ((((rotP ((rqL (rsP KL (bl t) m) (blkP 128 (bl t) m) k).a) 28) ^^^ (rotP ((rqL (rsP KL (bl t) m) (blkP 128 (bl t) m) k).a) 34)) ^^^ (rotP ((rqL (rsP KL (bl t) m) (blkP 128 (bl t) m) k).a) 39)) + (((((rqL (rsP KL (bl t) m) (blkP 128 (bl t) m) k).a) &&& ((rqL (rsP KL (bl t) m) (blkP 128 (bl t) m) k).b)) ^^^ (((rqL (rsP KL (bl t) m) (blkP 128 (bl t) m) k).a) &&& ((rqL (rsP KL (bl t) m) (blkP 128 (bl t) m) k).c))) ^^^ (((rqL (rsP KL (bl t) m) (blkP 128 (bl t) m) k).b) &&& ((rqL (rsP KL (bl t) m) (blkP 128 (bl t) m) k).c))))) ?_
     refine znt ?_
     refine wl_region ?_
     refine zwv (bv .u64 ((((((rqL (rsP KL (bl t) m) (blkP 128 (bl t) m) k).h) + (((rotP ((rqL (rsP KL (bl t) m) (blkP 128 (bl t) m) k).e) 14) ^^^ (rotP ((rqL (rsP KL (bl t) m) (blkP 128 (bl t) m) k).e) 18)) ^^^ (rotP ((rqL (rsP KL (bl t) m) (blkP 128 (bl t) m) k).e) 41))) + ((((rqL (rsP KL (bl t) m) (blkP 128 (bl t) m) k).e) &&& ((rqL (rsP KL (bl t) m) (blkP 128 (bl t) m) k).f)) ^^^ ((~~~((rqL (rsP KL (bl t) m) (blkP 128 (bl t) m) k).e)) &&& ((rqL (rsP KL (bl t) m) (blkP 128 (bl t) m) k).g)))) + (cutP 64 (rws.getD k 0))) + ((schP KL (blkP 128 (bl t) m) 64).getD k 0))) ?_
     refine zwv (bv .u64 ((((rotP ((rqL (rsP KL (bl t) m) (blkP 128 (bl t) m) k).a) 28) ^^^ (rotP ((rqL (rsP KL (bl t) m) (blkP 128 (bl t) m) k).a) 34)) ^^^ (rotP ((rqL (rsP KL (bl t) m) (blkP 128 (bl t) m) k).a) 39)) + (((((rqL (rsP KL (bl t) m) (blkP 128 (bl t) m) k).a) &&& ((rqL (rsP KL (bl t) m) (blkP 128 (bl t) m) k).b)) ^^^ (((rqL (rsP KL (bl t) m) (blkP 128 (bl t) m) k).a) &&& ((rqL (rsP KL (bl t) m) (blkP 128 (bl t) m) k).c))) ^^^ (((rqL (rsP KL (bl t) m) (blkP 128 (bl t) m) k).b) &&& ((rqL (rsP KL (bl t) m) (blkP 128 (bl t) m) k).c))))) ?_
     refine zwu (run_addv WK.l (a := (((((rqL (rsP KL (bl t) m) (blkP 128 (bl t) m) k).h) + (((rotP ((rqL (rsP KL (bl t) m) (blkP 128 (bl t) m) k).e) 14) ^^^ (rotP ((rqL (rsP KL (bl t) m) (blkP 128 (bl t) m) k).e) 18)) ^^^ (rotP ((rqL (rsP KL (bl t) m) (blkP 128 (bl t) m) k).e) 41))) + ((((rqL (rsP KL (bl t) m) (blkP 128 (bl t) m) k).e) &&& ((rqL (rsP KL (bl t) m) (blkP 128 (bl t) m) k).f)) ^^^ ((~~~((rqL (rsP KL (bl t) m) (blkP 128 (bl t) m) k).e)) &&& ((rqL (rsP KL (bl t) m) (blkP 128 (bl t) m) k).g)))) + (cutP 64 (rws.getD k 0))) + ((schP KL (blkP 128 (bl t) m) 64).getD k 0)) (b := (((rotP ((rqL (rsP KL (bl t) m) (blkP 128 (bl t) m) k).a) 28) ^^^ (rotP ((rqL (rsP KL (bl t) m) (blkP 128 (bl t) m) k).a) 34)) ^^^ (rotP ((rqL (rsP KL (bl t) m) (blkP 128 (bl t) m) k).a) 39)) + (((((rqL (rsP KL (bl t) m) (blkP 128 (bl t) m) k).a) &&& ((rqL (rsP KL (bl t) m) (blkP 128 (bl t) m) k).b)) ^^^ (((rqL (rsP KL (bl t) m) (blkP 128 (bl t) m) k).a) &&& ((rqL (rsP KL (bl t) m) (blkP 128 (bl t) m) k).c))) ^^^ (((rqL (rsP KL (bl t) m) (blkP 128 (bl t) m) k).b) &&& ((rqL (rsP KL (bl t) m) (blkP 128 (bl t) m) k).c))))) ?_
     refine zwv (bv .u64 ((rqL (rsP KL (bl t) m) (blkP 128 (bl t) m) k).a)) ?_
     refine zwv (bv .u64 ((rqL (rsP KL (bl t) m) (blkP 128 (bl t) m) k).b)) ?_
     refine zwv (bv .u64 ((rqL (rsP KL (bl t) m) (blkP 128 (bl t) m) k).c)) ?_
     refine zwu (run_addr_arr (q := q37) (a := 3) Tryz.underlying107 Tryz.sizeOf34 (by decide)) ?_
     refine zwu (v := bv .u64 ((rqL (rsP KL (bl t) m) (blkP 128 (bl t) m) k).d)) (run_load1 Tryz.isAgg34 (((h55.get 0 rfl).cell 3).trans rfl)) ?_
     refine zwv (bv .u64 ((((((rqL (rsP KL (bl t) m) (blkP 128 (bl t) m) k).h) + (((rotP ((rqL (rsP KL (bl t) m) (blkP 128 (bl t) m) k).e) 14) ^^^ (rotP ((rqL (rsP KL (bl t) m) (blkP 128 (bl t) m) k).e) 18)) ^^^ (rotP ((rqL (rsP KL (bl t) m) (blkP 128 (bl t) m) k).e) 41))) + ((((rqL (rsP KL (bl t) m) (blkP 128 (bl t) m) k).e) &&& ((rqL (rsP KL (bl t) m) (blkP 128 (bl t) m) k).f)) ^^^ ((~~~((rqL (rsP KL (bl t) m) (blkP 128 (bl t) m) k).e)) &&& ((rqL (rsP KL (bl t) m) (blkP 128 (bl t) m) k).g)))) + (cutP 64 (rws.getD k 0))) + ((schP KL (blkP 128 (bl t) m) 64).getD k 0))) ?_
     refine zwu (run_addv WK.l (a := (rqL (rsP KL (bl t) m) (blkP 128 (bl t) m) k).d) (b := (((((rqL (rsP KL (bl t) m) (blkP 128 (bl t) m) k).h) + (((rotP ((rqL (rsP KL (bl t) m) (blkP 128 (bl t) m) k).e) 14) ^^^ (rotP ((rqL (rsP KL (bl t) m) (blkP 128 (bl t) m) k).e) 18)) ^^^ (rotP ((rqL (rsP KL (bl t) m) (blkP 128 (bl t) m) k).e) 41))) + ((((rqL (rsP KL (bl t) m) (blkP 128 (bl t) m) k).e) &&& ((rqL (rsP KL (bl t) m) (blkP 128 (bl t) m) k).f)) ^^^ ((~~~((rqL (rsP KL (bl t) m) (blkP 128 (bl t) m) k).e)) &&& ((rqL (rsP KL (bl t) m) (blkP 128 (bl t) m) k).g)))) + (cutP 64 (rws.getD k 0))) + ((schP KL (blkP 128 (bl t) m) 64).getD k 0))) ?_
     refine zwv (bv .u64 ((rqL (rsP KL (bl t) m) (blkP 128 (bl t) m) k).e)) ?_
     refine zwv (bv .u64 ((rqL (rsP KL (bl t) m) (blkP 128 (bl t) m) k).f)) ?_
     refine zwv (bv .u64 ((rqL (rsP KL (bl t) m) (blkP 128 (bl t) m) k).g)) ?_
     refine zwv (.agg (wc .u64 (l8 (rqL (rsP KL (bl t) m) (blkP 128 (bl t) m) (k + 1))))) ?_
     refine wl_fill (c' := wc .u64 (l8 (rqL (rsP KL (bl t) m) (blkP 128 (bl t) m) (k + 1)))) h55 0 rfl (by rw [wc_size, wc_size, (l8q_lenL _), (l8q_lenL _)]) (info43 .u64 (l8 (rqL (rsP KL (bl t) m) (blkP 128 (bl t) m) (k + 1))) (l8q_lenL _)) (one_wc .u64 (l8 (rqL (rsP KL (bl t) m) (blkP 128 (bl t) m) (k + 1)))) ?_
     intro w56 (h57 : HA w [(q37, 107, wc .u64 (l8 (rqL (rsP KL (bl t) m) (blkP 128 (bl t) m) (k + 1)))), (q11, 109, wc .u64 (schP KL (blkP 128 (bl t) m) 64)), (q1, 107, wc .u64 (rsP KL (bl t) m))] w56)
     refine wl_nil ?_
     refine block_normal ?_
     refine zta ⟨(zRs3_3 t q1 m q11 u14 u27 q37 k u8 s u43 (bv .u64 ((((rotP ((rqL (rsP KL (bl t) m) (blkP 128 (bl t) m) k).a) 28) ^^^ (rotP ((rqL (rsP KL (bl t) m) (blkP 128 (bl t) m) k).a) 34)) ^^^ (rotP ((rqL (rsP KL (bl t) m) (blkP 128 (bl t) m) k).a) 39)) + (((((rqL (rsP KL (bl t) m) (blkP 128 (bl t) m) k).a) &&& ((rqL (rsP KL (bl t) m) (blkP 128 (bl t) m) k).b)) ^^^ (((rqL (rsP KL (bl t) m) (blkP 128 (bl t) m) k).a) &&& ((rqL (rsP KL (bl t) m) (blkP 128 (bl t) m) k).c))) ^^^ (((rqL (rsP KL (bl t) m) (blkP 128 (bl t) m) k).b) &&& ((rqL (rsP KL (bl t) m) (blkP 128 (bl t) m) k).c))))) (bv .u64 ((rqL (rsP KL (bl t) m) (blkP 128 (bl t) m) k).a)) (bv .u64 (rotP ((rqL (rsP KL (bl t) m) (blkP 128 (bl t) m) k).a) 28)) (bv .u64 ((rqL (rsP KL (bl t) m) (blkP 128 (bl t) m) k).a)) (bv .u64 (rotP ((rqL (rsP KL (bl t) m) (blkP 128 (bl t) m) k).a) 34)) (bv .u64 ((rotP ((rqL (rsP KL (bl t) m) (blkP 128 (bl t) m) k).a) 28) ^^^ (rotP ((rqL (rsP KL (bl t) m) (blkP 128 (bl t) m) k).a) 34))) (bv .u64 ((rqL (rsP KL (bl t) m) (blkP 128 (bl t) m) k).a)) (bv .u64 (rotP ((rqL (rsP KL (bl t) m) (blkP 128 (bl t) m) k).a) 39)) (bv .u64 (((rotP ((rqL (rsP KL (bl t) m) (blkP 128 (bl t) m) k).a) 28) ^^^ (rotP ((rqL (rsP KL (bl t) m) (blkP 128 (bl t) m) k).a) 34)) ^^^ (rotP ((rqL (rsP KL (bl t) m) (blkP 128 (bl t) m) k).a) 39))) (bv .u64 ((rqL (rsP KL (bl t) m) (blkP 128 (bl t) m) k).a)) (bv .u64 ((rqL (rsP KL (bl t) m) (blkP 128 (bl t) m) k).b)) (bv .u64 (((rqL (rsP KL (bl t) m) (blkP 128 (bl t) m) k).a) &&& ((rqL (rsP KL (bl t) m) (blkP 128 (bl t) m) k).b))) (bv .u64 ((rqL (rsP KL (bl t) m) (blkP 128 (bl t) m) k).a)) (bv .u64 ((rqL (rsP KL (bl t) m) (blkP 128 (bl t) m) k).c)) (bv .u64 (((rqL (rsP KL (bl t) m) (blkP 128 (bl t) m) k).a) &&& ((rqL (rsP KL (bl t) m) (blkP 128 (bl t) m) k).c))) (bv .u64 ((((rqL (rsP KL (bl t) m) (blkP 128 (bl t) m) k).a) &&& ((rqL (rsP KL (bl t) m) (blkP 128 (bl t) m) k).b)) ^^^ (((rqL (rsP KL (bl t) m) (blkP 128 (bl t) m) k).a) &&& ((rqL (rsP KL (bl t) m) (blkP 128 (bl t) m) k).c)))) (bv .u64 ((rqL (rsP KL (bl t) m) (blkP 128 (bl t) m) k).b)) (bv .u64 ((rqL (rsP KL (bl t) m) (blkP 128 (bl t) m) k).c)) (bv .u64 (((rqL (rsP KL (bl t) m) (blkP 128 (bl t) m) k).b) &&& ((rqL (rsP KL (bl t) m) (blkP 128 (bl t) m) k).c))) (bv .u64 (((((rqL (rsP KL (bl t) m) (blkP 128 (bl t) m) k).a) &&& ((rqL (rsP KL (bl t) m) (blkP 128 (bl t) m) k).b)) ^^^ (((rqL (rsP KL (bl t) m) (blkP 128 (bl t) m) k).a) &&& ((rqL (rsP KL (bl t) m) (blkP 128 (bl t) m) k).c))) ^^^ (((rqL (rsP KL (bl t) m) (blkP 128 (bl t) m) k).b) &&& ((rqL (rsP KL (bl t) m) (blkP 128 (bl t) m) k).c)))) (bv .u64 ((((rotP ((rqL (rsP KL (bl t) m) (blkP 128 (bl t) m) k).a) 28) ^^^ (rotP ((rqL (rsP KL (bl t) m) (blkP 128 (bl t) m) k).a) 34)) ^^^ (rotP ((rqL (rsP KL (bl t) m) (blkP 128 (bl t) m) k).a) 39)) + (((((rqL (rsP KL (bl t) m) (blkP 128 (bl t) m) k).a) &&& ((rqL (rsP KL (bl t) m) (blkP 128 (bl t) m) k).b)) ^^^ (((rqL (rsP KL (bl t) m) (blkP 128 (bl t) m) k).a) &&& ((rqL (rsP KL (bl t) m) (blkP 128 (bl t) m) k).c))) ^^^ (((rqL (rsP KL (bl t) m) (blkP 128 (bl t) m) k).b) &&& ((rqL (rsP KL (bl t) m) (blkP 128 (bl t) m) k).c))))) (bv .u64 ((((((rqL (rsP KL (bl t) m) (blkP 128 (bl t) m) k).h) + (((rotP ((rqL (rsP KL (bl t) m) (blkP 128 (bl t) m) k).e) 14) ^^^ (rotP ((rqL (rsP KL (bl t) m) (blkP 128 (bl t) m) k).e) 18)) ^^^ (rotP ((rqL (rsP KL (bl t) m) (blkP 128 (bl t) m) k).e) 41))) + ((((rqL (rsP KL (bl t) m) (blkP 128 (bl t) m) k).e) &&& ((rqL (rsP KL (bl t) m) (blkP 128 (bl t) m) k).f)) ^^^ ((~~~((rqL (rsP KL (bl t) m) (blkP 128 (bl t) m) k).e)) &&& ((rqL (rsP KL (bl t) m) (blkP 128 (bl t) m) k).g)))) + (cutP 64 (rws.getD k 0))) + ((schP KL (blkP 128 (bl t) m) 64).getD k 0))) (bv .u64 ((((rotP ((rqL (rsP KL (bl t) m) (blkP 128 (bl t) m) k).a) 28) ^^^ (rotP ((rqL (rsP KL (bl t) m) (blkP 128 (bl t) m) k).a) 34)) ^^^ (rotP ((rqL (rsP KL (bl t) m) (blkP 128 (bl t) m) k).a) 39)) + (((((rqL (rsP KL (bl t) m) (blkP 128 (bl t) m) k).a) &&& ((rqL (rsP KL (bl t) m) (blkP 128 (bl t) m) k).b)) ^^^ (((rqL (rsP KL (bl t) m) (blkP 128 (bl t) m) k).a) &&& ((rqL (rsP KL (bl t) m) (blkP 128 (bl t) m) k).c))) ^^^ (((rqL (rsP KL (bl t) m) (blkP 128 (bl t) m) k).b) &&& ((rqL (rsP KL (bl t) m) (blkP 128 (bl t) m) k).c))))) (bv .u64 (((((((rqL (rsP KL (bl t) m) (blkP 128 (bl t) m) k).h) + (((rotP ((rqL (rsP KL (bl t) m) (blkP 128 (bl t) m) k).e) 14) ^^^ (rotP ((rqL (rsP KL (bl t) m) (blkP 128 (bl t) m) k).e) 18)) ^^^ (rotP ((rqL (rsP KL (bl t) m) (blkP 128 (bl t) m) k).e) 41))) + ((((rqL (rsP KL (bl t) m) (blkP 128 (bl t) m) k).e) &&& ((rqL (rsP KL (bl t) m) (blkP 128 (bl t) m) k).f)) ^^^ ((~~~((rqL (rsP KL (bl t) m) (blkP 128 (bl t) m) k).e)) &&& ((rqL (rsP KL (bl t) m) (blkP 128 (bl t) m) k).g)))) + (cutP 64 (rws.getD k 0))) + ((schP KL (blkP 128 (bl t) m) 64).getD k 0)) + ((((rotP ((rqL (rsP KL (bl t) m) (blkP 128 (bl t) m) k).a) 28) ^^^ (rotP ((rqL (rsP KL (bl t) m) (blkP 128 (bl t) m) k).a) 34)) ^^^ (rotP ((rqL (rsP KL (bl t) m) (blkP 128 (bl t) m) k).a) 39)) + (((((rqL (rsP KL (bl t) m) (blkP 128 (bl t) m) k).a) &&& ((rqL (rsP KL (bl t) m) (blkP 128 (bl t) m) k).b)) ^^^ (((rqL (rsP KL (bl t) m) (blkP 128 (bl t) m) k).a) &&& ((rqL (rsP KL (bl t) m) (blkP 128 (bl t) m) k).c))) ^^^ (((rqL (rsP KL (bl t) m) (blkP 128 (bl t) m) k).b) &&& ((rqL (rsP KL (bl t) m) (blkP 128 (bl t) m) k).c)))))) (bv .u64 ((rqL (rsP KL (bl t) m) (blkP 128 (bl t) m) k).a)) (bv .u64 ((rqL (rsP KL (bl t) m) (blkP 128 (bl t) m) k).b)) (bv .u64 ((rqL (rsP KL (bl t) m) (blkP 128 (bl t) m) k).c)) (.pointer (some ⟨q37, 3, none⟩)) (bv .u64 ((rqL (rsP KL (bl t) m) (blkP 128 (bl t) m) k).d)) (bv .u64 ((((((rqL (rsP KL (bl t) m) (blkP 128 (bl t) m) k).h) + (((rotP ((rqL (rsP KL (bl t) m) (blkP 128 (bl t) m) k).e) 14) ^^^ (rotP ((rqL (rsP KL (bl t) m) (blkP 128 (bl t) m) k).e) 18)) ^^^ (rotP ((rqL (rsP KL (bl t) m) (blkP 128 (bl t) m) k).e) 41))) + ((((rqL (rsP KL (bl t) m) (blkP 128 (bl t) m) k).e) &&& ((rqL (rsP KL (bl t) m) (blkP 128 (bl t) m) k).f)) ^^^ ((~~~((rqL (rsP KL (bl t) m) (blkP 128 (bl t) m) k).e)) &&& ((rqL (rsP KL (bl t) m) (blkP 128 (bl t) m) k).g)))) + (cutP 64 (rws.getD k 0))) + ((schP KL (blkP 128 (bl t) m) 64).getD k 0))) (bv .u64 (((rqL (rsP KL (bl t) m) (blkP 128 (bl t) m) k).d) + ((((((rqL (rsP KL (bl t) m) (blkP 128 (bl t) m) k).h) + (((rotP ((rqL (rsP KL (bl t) m) (blkP 128 (bl t) m) k).e) 14) ^^^ (rotP ((rqL (rsP KL (bl t) m) (blkP 128 (bl t) m) k).e) 18)) ^^^ (rotP ((rqL (rsP KL (bl t) m) (blkP 128 (bl t) m) k).e) 41))) + ((((rqL (rsP KL (bl t) m) (blkP 128 (bl t) m) k).e) &&& ((rqL (rsP KL (bl t) m) (blkP 128 (bl t) m) k).f)) ^^^ ((~~~((rqL (rsP KL (bl t) m) (blkP 128 (bl t) m) k).e)) &&& ((rqL (rsP KL (bl t) m) (blkP 128 (bl t) m) k).g)))) + (cutP 64 (rws.getD k 0))) + ((schP KL (blkP 128 (bl t) m) 64).getD k 0)))) (bv .u64 ((rqL (rsP KL (bl t) m) (blkP 128 (bl t) m) k).e)) (bv .u64 ((rqL (rsP KL (bl t) m) (blkP 128 (bl t) m) k).f)) (bv .u64 ((rqL (rsP KL (bl t) m) (blkP 128 (bl t) m) k).g)) (.agg (wc .u64 (l8 (rqL (rsP KL (bl t) m) (blkP 128 (bl t) m) (k + 1))))) (List.replicate 20 un)).toArray, []⟩ ?_
     refine wl_region ?_
     refine zwv (iN .i64 k) ?_
     refine zwu (run_add (k := .i64) (a := k) (b := 1) (by simp only [top]; omega)) ?_
     refine zwv (iN .i64 (k + 1)) ?_
     refine wl_nil ?_
     exact then_I (zex h57)
    ·rintro _ w58 ⟨u43, rfl, h59⟩
     refine wp_seq ?_
     refine zsr ?_
     refine zwv (iN .i64 80) ?_
     refine zwu (run_lss (k := .i64) (a := 80) (b := 80) false (by decide)) ?_
     refine znt ?_
     refine zcf ?_
     refine wp_exit ?_
     repeat first | refine then_exit ?_ | refine block_exit ?_ | refine block_exit_ne (by decide) ?_
     refine then_at rfl ?_
     refine zsr ?_
     refine zwv (iN .i64 0) ?_
     refine znt ?_
     refine wp_block ?_
     refine wp_count (fun k A w' => ∃ u60 : Nat → Value, A = ⟨(zRs3_4 t q1 m q11 u14 u27 q37 u43 k s u8 u60 (u60 177) (u60 178) (u60 181) (u60 182) (u60 183) (u60 184) (u60 185) (u60 186) (u60 187) (u60 188) (u60 189) (List.replicate 20 un)).toArray, []⟩ ∧ HA w [(q37, 107, wc .u64 (l8 (rqL (rsP KL (bl t) m) (blkP 128 (bl t) m) 80))), (q11, 109, wc .u64 (schP KL (blkP 128 (bl t) m) 64)), (q1, 107, wc .u64 (sqL (rsP KL (bl t) m) (blkP 128 (bl t) m) k))] w') 8 ?_ ?_ ?_
     ·exact zex h59
     ·rintro k hk _ w61 ⟨u60, rfl, h62⟩
      refine wp_seq ?_
      refine zsr ?_
      refine zwv (iN .i64 k) ?_
      refine zwu (run_lss (k := .i64) (a := k) (b := 8) true (decide_eq_true (by omega))) ?_
      refine znt ?_
      refine zct ?_
      refine wp_skip ?_
      refine then_at rfl ?_
      refine wp_seq ?_
      refine wp_block ?_
      refine zrg (fun _ : Nat → Nat => (⟨(zRs3_4 t q1 m q11 u14 u27 q37 u43 k s u8 u60 (iN .i64 k) (.bool true) (iN .i64 k) (iN .i64 k) (.pointer (some ⟨q1, k, none⟩)) (bv .u64 ((sqL (rsP KL (bl t) m) (blkP 128 (bl t) m) k).getD k 0)) (iN .i64 k) (.pointer (some ⟨q37, k, none⟩)) (bv .u64 ((l8 (rqL (rsP KL (bl t) m) (blkP 128 (bl t) m) 80)).getD k 0)) (bv .u64 (((sqL (rsP KL (bl t) m) (blkP 128 (bl t) m) k).getD k 0) + ((l8 (rqL (rsP KL (bl t) m) (blkP 128 (bl t) m) 80)).getD k 0))) (.pointer (some ⟨q1, k, none⟩)) (List.replicate 20 un)).toArray, []⟩ : Act)) (GQ w [(q37, 107, wc .u64 (l8 (rqL (rsP KL (bl t) m) (blkP 128 (bl t) m) 80))), (q11, 109, wc .u64 (schP KL (blkP 128 (bl t) m) 64)), (q1, 107, wc .u64 (sqL (rsP KL (bl t) m) (blkP 128 (bl t) m) k))] (fun i => ([[], [], [1], [2], [], [4], [5], [3, 6], [0], [8, 7]] : List (List Nat)).getD i []) 9 2 q1 107 (wc .u64 (sqL (rsP KL (bl t) m) (blkP 128 (bl t) m) (k + 1)))) (fun d hd => GQ.start h62.drew (hd 9 (by decide)) (Cl.start (n := 10) hd (by decide))) ?_ ?_
      ·refine zg (gq_plain (v := iN .i64 k) (fun _ _ => (by kernel_rfl))) ?_
       refine zg (gq_plain (v := iN .i64 k) (fun _ _ => (by kernel_rfl))) ?_
       refine zg (gq_plain (v := .pointer (some ⟨q1, k, none⟩)) (fun _ _ => (run_addr_arr (q := q1) (a := k) Tryz.underlying107 Tryz.sizeOf34 (by omega)))) ?_
       refine zg (gq_read (v := bv .u64 ((sqL (rsP KL (bl t) m) (blkP 128 (bl t) m) k).getD k 0)) 2 rfl (.inr (fun d C h => (C 7 (C 9 h 7 (by decide)) 3 (by decide)))) (fun _ _ hb => run_load1 Tryz.isAgg34 ((hb.cell k).trans (wc_get .u64 (sqL (rsP KL (bl t) m) (blkP 128 (bl t) m) k) k (by rw [(sq_lenL (rsP KL (bl t) m) (rsP_len KL (bl t) m) (blkP 128 (bl t) m) k)]; omega))))) ?_
       refine zg (gq_plain (v := iN .i64 k) (fun _ _ => (by kernel_rfl))) ?_
       refine zg (gq_plain (v := .pointer (some ⟨q37, k, none⟩)) (fun _ _ => (run_addr_arr (q := q37) (a := k) Tryz.underlying107 Tryz.sizeOf34 (by omega)))) ?_
       refine zg (gq_read (v := bv .u64 ((l8 (rqL (rsP KL (bl t) m) (blkP 128 (bl t) m) 80)).getD k 0)) 0 rfl (.inl (by decide)) (fun _ _ hb => run_load1 Tryz.isAgg34 ((hb.cell k).trans (wc_get .u64 (l8 (rqL (rsP KL (bl t) m) (blkP 128 (bl t) m) 80)) k (by rw [l8q_lenL]; omega))))) ?_
       refine zg (gq_plain (v := bv .u64 (((sqL (rsP KL (bl t) m) (blkP 128 (bl t) m) k).getD k 0) + ((l8 (rqL (rsP KL (bl t) m) (blkP 128 (bl t) m) 80)).getD k 0))) (fun _ _ => (run_addv WK.l (a := (sqL (rsP KL (bl t) m) (blkP 128 (bl t) m) k).getD k 0) (b := (l8 (rqL (rsP KL (bl t) m) (blkP 128 (bl t) m) 80)).getD k 0)))) ?_
       refine zg (gq_plain (v := .pointer (some ⟨q1, k, none⟩)) (fun _ _ => (run_addr_arr (q := q1) (a := k) Tryz.underlying107 Tryz.sizeOf34 (by omega)))) ?_
       refine zg (gq_put (k := .u64) (z := (((((sqL (rsP KL (bl t) m) (blkP 128 (bl t) m) k).getD k 0) + ((l8 (rqL (rsP KL (bl t) m) (blkP 128 (bl t) m) 80)).getD k 0)).toNat : Nat) : Int)) (off := k) rfl (by rw [wc_size, (sq_lenL (rsP KL (bl t) m) (rsP_len KL (bl t) m) (blkP 128 (bl t) m) k)]; omega) ((sq_putL (rsP KL (bl t) m) (blkP 128 (bl t) m) k)) Tryz.sizeOf34) ?_
       exact AllGhost.nil
      intro _ w63 g64
      have h65 : HA w [(q37, 107, wc .u64 (l8 (rqL (rsP KL (bl t) m) (blkP 128 (bl t) m) 80))), (q11, 109, wc .u64 (schP KL (blkP 128 (bl t) m) 64)), (q1, 107, wc .u64 (sqL (rsP KL (bl t) m) (blkP 128 (bl t) m) (k + 1)))] w63 := g64.held
      clear g64
      refine block_normal ?_
      refine then_at rfl ?_
      refine wl_region ?_
      refine zwv (iN .i64 k) ?_
      refine zwu (run_add (k := .i64) (a := k) (b := 1) (by simp only [top]; omega)) ?_
      refine zwv (iN .i64 (k + 1)) ?_
      refine wl_nil ?_
      exact then_I (zex h65)
     ·rintro _ w66 ⟨u60, rfl, h67⟩
      refine wp_seq ?_
      refine zsr ?_
      refine zwv (iN .i64 8) ?_
      refine zwu (run_lss (k := .i64) (a := 8) (b := 8) false (by decide)) ?_
      refine znt ?_
      refine zcf ?_
      refine wp_exit ?_
      repeat first | refine then_exit ?_ | refine block_exit ?_ | refine block_exit_ne (by decide) ?_
      refine block_normal ?_
      refine then_at rfl ?_
      refine wl_region ?_
      refine zwv (iN .i64 (128 * m)) ?_
      refine zwu (run_add (k := .i64) (a := 128 * m) (b := 128) (by simp only [top]; omega)) ?_
      refine zwv (iN .i64 ((128 * m) + 128)) ?_
      refine wl_nil ?_
      have h68 : HA w [(q1, 107, wc .u64 (rsP KL (bl t) (m + 1)))] w66 := by have e : rsP KL (bl t) (m + 1) = sqL (rsP KL (bl t) m) (blkP 128 (bl t) m) 8 := (sq_endL _ _).symm; rw [e]; exact h67.tl.tl
      exact then_I ⟨N - (m + 1), (by omega), m + 1, lku u43 [(5, .pointer (some ⟨q11, 0, none⟩)), (6, iN .i64 16), (7, u14 7), (8, iN .i64 (16 + 64)), (9, u27 9), (10, u27 10), (11, .pointer (some ⟨q37, 0, none⟩)), (12, iN .i64 80), (21, iN .i64 8), (28, iN .i64 (128 * m)), (29, .string t), (30, iN .i64 t.size), (31, .bool true), (32, iN .i64 (128 * m)), (33, iN .i64 ((128 * m) + 128)), (34, iN .i64 16), (35, .bool false), (36, u14 36), (37, u14 37), (38, u14 38), (39, u14 39), (40, u14 40), (41, u14 41), (42, u14 42), (43, u14 43), (44, u14 44), (45, u14 45), (46, u14 46), (47, u14 47), (48, u14 48), (49, u14 49), (50, u14 50), (51, u14 51), (52, u14 52), (53, u14 53), (54, u14 54), (55, u14 55), (56, u14 56), (57, u14 57), (58, iN .i64 (16 + 64)), (59, .bool false), (60, u27 60), (61, u27 61), (62, u27 62), (63, u27 63), (64, u27 64), (65, u27 65), (66, u27 66), (67, u27 67), (68, u27 68), (69, u27 69), (70, u27 70), (71, u27 71), (72, u27 72), (73, u27 73), (74, u27 74), (75, u27 75), (76, u27 76), (77, u27 77), (78, u27 78), (79, u27 79), (80, u27 80), (81, u27 81), (82, u27 82), (83, u27 83), (84, u27 84), (85, u27 85), (86, u27 86), (87, u27 87), (88, u27 88), (89, u27 89), (90, u27 90), (91, u27 91), (92, u27 92), (93, u27 93), (94, u27 94), (95, u27 95), (96, u27 96), (97, u27 97), (98, u27 98), (99, .agg (wc .u64 (rsP KL (bl t) m))), (100, iN .i64 80), (101, .bool false), (177, iN .i64 8), (178, .bool false), (179, u60 179), (180, u60 180), (181, u60 181), (182, u60 182), (183, u60 183), (184, u60 184), (185, u60 185), (186, u60 186), (187, u60 187), (188, u60 188), (189, u60 189)], rfl, by kernel_rfl, h68, hm⟩
 · -- region 4
  refine wl_region ?_
  refine zwv (iN .i64 (128 * m)) ?_
  refine zwv (.string t) ?_
  refine zwu (run_len (s := t)) ?_
  refine zwu (run_lss (k := .i64) (a := 128 * m) (b := t.size) false (decide_eq_false (by omega))) ?_
  refine znt ?_
  refine zcf ?_
  refine wp_exit ?_
  repeat first | refine then_exit ?_ | refine block_exit ?_ | refine block_exit_ne (by decide) ?_
  refine then_at rfl ?_
  refine zsr ?_
  refine zwv (.string { data := #[] }) ?_
  refine znt ?_
  refine wp_seq ?_
  refine zsr ?_
  refine zwv (iN .i64 0) ?_
  refine znt ?_
  refine wp_block ?_
  refine wp_while (fun mq A w' => ∃ (ou : ByteArray) (i : Nat) (u69 : Nat → Value), mq = 8 - i ∧ A = ⟨(zRs3_5 t q1 m u8 i s u69 (.string ou) (u69 24) (u69 190) (u69 191) (u69 194) (u69 195) (u69 196) (u69 197) (u69 198) (u69 199) (u69 200) (u69 201) (u69 202) (u69 203) (u69 204) (u69 205) (u69 206) (u69 207) (u69 208) ([])).toArray, []⟩ ∧ HA w [(q1, 107, wc .u64 (rsP KL (bl t) m))] w' ∧ i ≤ 8 ∧ bl ou = outP (rsP KL (bl t) m) i) (8 - 0) ?_ ?_
  ·exact ⟨{ data := #[] }, 0, lku (fun _ => undef) [], rfl, by kernel_rfl, h10, (Nat.zero_le _), rfl⟩
  rintro _ _ w70 ⟨ou, i, u69, rfl, rfl, h71, hi8, hou⟩
  refine wp_seq ?_
  refine wp_seq ?_
  by_cases hi : i < 8
  · -- region 33
   refine wl_region ?_
   refine zwv (iN .i64 i) ?_
   refine zwu (run_lss (k := .i64) (a := i) (b := 8) true (decide_eq_true (by omega))) ?_
   refine znt ?_
   refine zct ?_
   refine wp_skip ?_
   refine then_at rfl ?_
   refine wp_seq ?_
   refine wp_block ?_
   refine zsr ?_
   refine zwv (iN .i64 7) ?_
   refine znt ?_
   refine wp_block ?_
   refine wp_while (fun mq A w' => ∃ (ov : ByteArray) (j : Nat) (u72 : Nat → Value), mq = j + 1 ∧ A = ⟨(zRs3_5 t q1 m u8 i s u69 (.string ov) (dnv j) (iN .i64 i) (.bool true) (u72 194) (u72 195) (u72 196) (u72 197) (u72 198) (u72 199) (u72 200) (u72 201) (u72 202) (u72 203) (u72 204) (u72 205) (u72 206) (u72 207) (u72 208) ([])).toArray, []⟩ ∧ HA w [(q1, 107, wc .u64 (rsP KL (bl t) m))] w' ∧ j ≤ 8 ∧ bl ov = outP (rsP KL (bl t) m) i ++ outW ((rsP KL (bl t) m).getD i 0) (8 - j)) (8 + 1) ?_ ?_
   ·exact ⟨ou, 8, lku u69 [], rfl, by kernel_rfl, h71, (Nat.le_refl _), (hou.trans (List.append_nil _).symm)⟩
   rintro _ _ w73 ⟨ov, j, u72, rfl, rfl, h74, hj8, hov⟩
   refine wp_seq ?_
   refine wp_seq ?_
   rcases j with _ | j
   · -- region 36
    refine wl_region ?_
    refine zwv (dnv 0) ?_
    refine zwu (run_geq0 (k := .i64) (a := -1) (b := 0) false (by decide)) ?_
    refine znt ?_
    refine zcf ?_
    refine wp_exit ?_
    repeat first | refine then_exit ?_ | refine block_exit ?_ | refine block_exit_ne (by decide) ?_
    refine block_normal ?_
    refine then_at rfl ?_
    refine wl_region ?_
    refine zwv (iN .i64 i) ?_
    refine zwu (run_add (k := .i64) (a := i) (b := 1) (by simp only [top]; omega)) ?_
    refine zwv (iN .i64 (i + 1)) ?_
    refine wl_nil ?_
    exact then_I ⟨8 - (i + 1), (by omega), ov, i + 1, lku u72 [(24, dnv 0), (190, iN .i64 i), (191, .bool true), (192, iN .i64 i), (193, iN .i64 (i + 1)), (194, dnv 0), (195, .bool false)], rfl, by kernel_rfl, h74, (by omega), hov⟩
   · -- region 36
    refine wl_region ?_
    refine zwv (iN .i64 j) ?_
    refine zwu (run_geq0 (k := .i64) (a := ((j : Nat) : Int)) (b := 0) true (decide_eq_true (by omega))) ?_
    refine znt ?_
    refine zct ?_
    refine wp_skip ?_
    refine then_at rfl ?_
    refine wp_seq ?_
    refine wp_block ?_
    refine wl_region ?_
    refine zwv (.string ov) ?_
    refine zwv (iN .i64 i) ?_
    refine zwu (run_addr_arr (q := q1) (a := i) Tryz.underlying107 Tryz.sizeOf34 (by omega)) ?_
    refine zwu (run_load1 Tryz.isAgg34 (((h74.get 0 rfl).cell i).trans (wc_get .u64 (rsP KL (bl t) m) i (by rw [rsP_len]; omega)))) ?_
    refine zwv (iN .i64 j) ?_
    refine zwu (run_mul (k := .i64) (a := 8) (b := j) (by simp only [top]; omega)) ?_
    refine zwu (run_shrv (k2 := .i64) (m := 8 * j) WK.l (a := (rsP KL (bl t) m).getD i 0)) ?_
    refine zwu (run_low (a := ((rsP KL (bl t) m).getD i 0) >>> (8 * j)) (by kernel_rfl) Tryz.underlying34 Tryz.underlying5) ?_
    refine wl_mks (n := 1) (m := 1) h74 5 (run_build1 (u := UInt8.ofNat (((rsP KL (bl t) m).getD i 0) >>> (8 * j)).toNat) (by kernel_rfl)) ?_
    intro q75 w76 h77
    refine zwu (run_text (q := q75) (m := 1) (c := 1) (l := [UInt8.ofNat (((rsP KL (bl t) m).getD i 0) >>> (8 * j)).toNat]) (by kernel_rfl) (h77.get 0 rfl) (Nat.le_refl 1)) ?_
    refine zwu (run_cat (s := ov) (t := (⟨#[UInt8.ofNat (((rsP KL (bl t) m).getD i 0) >>> (8 * j)).toNat]⟩ : ByteArray)) (by have hz := size_of_bl hov; rw [List.length_append, outP_len, outW_len, show KL.w / 8 = 8 from rfl] at hz; have e : (⟨#[UInt8.ofNat (((rsP KL (bl t) m).getD i 0) >>> (8 * j)).toNat]⟩ : ByteArray).size = 1 := rfl; rw [e, hz]; omega)) ?_
    refine zwv (.string (ov ++ (⟨#[UInt8.ofNat (((rsP KL (bl t) m).getD i 0) >>> (8 * j)).toNat]⟩ : ByteArray))) ?_
    refine wl_nil ?_
    refine block_normal ?_
    refine then_at rfl ?_
    have h78 : HA w [(q1, 107, wc .u64 (rsP KL (bl t) m))] w76 := h77.tl
    refine wl_region ?_
    refine zwv (iN .i64 j) ?_
    refine zwu (run_dec (j := j) (by omega) (by kernel_rfl) (by kernel_rfl)) ?_
    refine zwv (dnv j) ?_
    refine wl_nil ?_
    exact then_I ⟨j + 1, (by omega), ov ++ (⟨#[UInt8.ofNat (((rsP KL (bl t) m).getD i 0) >>> (8 * j)).toNat]⟩ : ByteArray), j, lku (fun _ => undef) [(194, iN .i64 j), (195, .bool true), (196, iN .i64 j), (197, dnv j), (198, .string ov), (199, iN .i64 i), (200, .pointer (some ⟨q1, i, none⟩)), (201, bv .u64 ((rsP KL (bl t) m).getD i 0)), (202, iN .i64 j), (203, iN .i64 (8 * j)), (204, bv .u64 (((rsP KL (bl t) m).getD i 0) >>> (8 * j))), (205, by8 (UInt8.ofNat (((rsP KL (bl t) m).getD i 0) >>> (8 * j)).toNat)), (206, .slice (some ⟨q75, 0, none⟩) 1 1), (207, .string (⟨#[UInt8.ofNat (((rsP KL (bl t) m).getD i 0) >>> (8 * j)).toNat]⟩ : ByteArray)), (208, .string (ov ++ (⟨#[UInt8.ofNat (((rsP KL (bl t) m).getD i 0) >>> (8 * j)).toNat]⟩ : ByteArray)))], rfl, by kernel_rfl, h78, (by omega), (by rw [bl_app, hov, List.append_assoc]; exact congrArg (outP (rsP KL (bl t) m) i ++ ·) (outn ((rsP KL (bl t) m).getD i 0) j (by omega)))⟩
  · -- region 33
   refine wl_region ?_
   refine zwv (iN .i64 i) ?_
   refine zwu (run_lss (k := .i64) (a := i) (b := 8) false (decide_eq_false (by omega))) ?_
   refine zna ⟨(zRs3_5 t q1 m u8 i s u69 (.string ou) (u69 24) (iN .i64 i) (.bool false) (u69 194) (u69 195) (u69 196) (u69 197) (u69 198) (u69 199) (u69 200) (u69 201) (u69 202) (u69 203) (u69 204) (u69 205) (u69 206) (u69 207) (u69 208) ([])).toArray, []⟩ ?_
   refine zcf ?_
   refine wp_exit ?_
   repeat first | refine then_exit ?_ | refine block_exit ?_ | refine block_exit_ne (by decide) ?_
   refine then_at rfl ?_
   refine zsr ?_
   refine zwv (.string ou) ?_
   refine zwv (.string ou) ?_
   refine znt ?_
   refine wp_ret ?_
   repeat first | refine then_ret ?_ | refine block_ret ?_
   exact bodyPost_ret (v := .string ou) (by kernel_rfl) rfl ⟨by rw [show ou = ⟨(digP KL (bl s)).toArray⟩ from bl_inj (by rw [hou, show i = 8 by omega, show m = N by omega, dig_rs KL (by decide) (bl s) (bl t) N (by rw [bl_len]; exact ht) hF]; rfl)], h71.old⟩
end Go.Proofs.YtefjnfeckenmkaaGreatDoor.Hh
