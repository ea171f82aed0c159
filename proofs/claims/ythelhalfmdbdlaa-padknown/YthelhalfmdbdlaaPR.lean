/-
  The texts that PadKnown asks: made in whatever order.
-/
import Derived.Test.YthelhalfmdbdlaaPG
import Derived.Test.YthelhalfmdbdlaaGhost
namespace Go.Proofs.Ythelhalfmdbdlaa
open Go.RowKit Go.Shelf Go.Proofs.Ythelhalfmdbdlaa.Wi

def ZB (w : World) (q n : Nat) : Prop := w.heap[q]? = some (.cells (madeCells #[.int .u8 0] n) 5)
def textsK : Array Value := #[.string ⟨#[]⟩, .string ⟨#[0]⟩, .string ⟨(zs 64).toArray⟩, .string ⟨(zs 31).toArray⟩, .string ((⟨#[0, 1, 97, 1]⟩ : ByteArray) ++ ⟨(zs 28).toArray⟩), .string ((⟨#[0, 31]⟩ : ByteArray) ++ ⟨(zs 30).toArray⟩), .string ((⟨#[255, 255]⟩ : ByteArray) ++ ⟨(zs 8190).toArray⟩)]
def SB (w : World) (q : Nat) : Prop := w.heap[q]? = some (.cells textsK 9)
theorem heap_more {w : World} {q : Nat} {o : Obj} (x : Obj) (h : w.heap[q]? = some o) : (w.alloc x).heap[q]? = some o :=
  (Below.heap_alloc w x q (Array.getElem?_eq_some_iff.1 h).1).trans h
theorem ZB.more {w : World} {q n : Nat} (x : Obj) (h : ZB w q n) : ZB (w.alloc x) q n := heap_more x h
theorem SB.more {w : World} {q : Nat} (x : Obj) (h : SB w q) : SB (w.alloc x) q := heap_more x h
theorem ZB.new (w : World) (n : Nat) : ZB (zw w n) w.heap.size n := World.alloc_heap_new w _
theorem SB.new (w : World) : SB (w.alloc (.cells textsK 9)) w.heap.size := World.alloc_heap_new w _
theorem ZB.conv {w : World} {q n : Nat} (h : ZB w q n) : (convert 29 9 (.slice (some ⟨q, 0, none⟩) n n)).run Try.prog w = .ok (.string ⟨(zs n).toArray⟩) w := by
  have := run_convert_bytes_back (P := Try.prog) w 29 9 5 ⟨q, 0, none⟩ n (zs n) Try.underlying29 Try.underlying5 Try.underlying9 (fun j hj => by
    rw [zs_len] at hj
    rw [Addr.add_lit, Nat.zero_add]
    unfold ZB at h
    unfold World.cell?
    rw [h]
    simp [madeCells, hj, zs, Nat.mod_one])
  rw [zs_len] at this
  exact this
theorem add_run (w : World) (a : ByteArray) (n : Nat) (ha : a.size ≤ 100) (hn : n ≤ 10000) : (Op.stringOp .add a ⟨(zs n).toArray⟩).run Try.prog w = .ok (.string (a ++ ⟨(zs n).toArray⟩)) w :=
  run_string_add_sum w a _ (by have e : (⟨(zs n).toArray⟩ : ByteArray).size = n := (str_size _).trans (zs_len n); rw [e]; omega)

theorem run_adds {ρ : Operand → Value} {x y : Operand} {a b : ByteArray} {w : World} {dst : Option Tmp} {ty : TypeId} {pos : String} {aft : Array Edge} {gd : Option (Nat × Bool)} (hx : ρ x = .string a) (hy : ρ y = .string b) (h : (Op.stringOp .add a b).run Try.prog w = .ok (.string (a ++ b)) w) :
    (execOp ρ ⟨dst, .binOp .add 9 x y 9, ty, pos, aft, gd⟩).run Try.prog w = .ok (.value (.string (a ++ b))) w := by
  simp only [execOp, hx, hy]
  simp [eqGuard, go_sem, h]
theorem run_conv {ρ : Operand → Value} {x : Operand} {u v : Value} {w : World} {dst : Option Tmp} {ty : TypeId} {pos : String} {aft : Array Edge} {gd : Option (Nat × Bool)} (hx : ρ x = u) (h : (convert 29 9 u).run Try.prog w = .ok v w) :
    (execOp ρ ⟨dst, .convert 29 9 x, ty, pos, aft, gd⟩).run Try.prog w = .ok (.value v) w := by
  simp only [execOp, hx]
  simp [h]
theorem run_build {ρ : Operand → Value} {x0 x1 x2 x3 x4 x5 x6 : Operand} {a0 a1 a2 a3 a4 a5 a6 : ByteArray} {w : World} {dst : Option Tmp} {ty : TypeId} {pos : String} {aft : Array Edge} {gd : Option (Nat × Bool)} (h0 : ρ x0 = .string a0) (h1 : ρ x1 = .string a1) (h2 : ρ x2 = .string a2) (h3 : ρ x3 = .string a3) (h4 : ρ x4 = .string a4) (h5 : ρ x5 = .string a5) (h6 : ρ x6 = .string a6) :
    (execOp ρ ⟨dst, .buildSlice 33 7 #[(0, x0), (1, x1), (2, x2), (3, x3), (4, x4), (5, x5), (6, x6)], ty, pos, aft, gd⟩).run Try.prog w = .ok (.value (.slice (some ⟨w.heap.size, 0, none⟩) 7 7)) (w.alloc (.cells #[.string a0, .string a1, .string a2, .string a3, .string a4, .string a5, .string a6] 9)) := by
  simp only [execOp, List.map_toArray, List.map_cons, List.map_nil, h0, h1, h2, h3, h4, h5, h6]
  go_simp

/-- what holds while the texts are made -/
structure SK (w0 : World) (g : Nat → Nat) (d : Nat → Bool) (w : World) : Prop where
  old : Below w0.heap.size w0 w
  b0 : d 0 = true → ZB w (g 0) 64
  b2 : d 2 = true → ZB w (g 2) 31
  b4 : d 4 = true → ZB w (g 4) 28
  b7 : d 7 = true → ZB w (g 7) 30
  b10 : d 10 = true → ZB w (g 10) 8190
  b13 : d 13 = true → SB w (g 13)
theorem SK.same {w0 w : World} {g : Nat → Nat} {d : Nat → Bool} {i : Nat} (h : SK w0 g d w) (hi : 0 ≠ i ∧ 2 ≠ i ∧ 4 ≠ i ∧ 7 ≠ i ∧ 10 ≠ i ∧ 13 ≠ i) : SK w0 g (up d i true) w := by
  obtain ⟨n0, n2, n4, n7, n10, n13⟩ := hi
  exact ⟨h.old, fun e => h.b0 (by rw [up_ne _ _ n0] at e; exact e), fun e => h.b2 (by rw [up_ne _ _ n2] at e; exact e), fun e => h.b4 (by rw [up_ne _ _ n4] at e; exact e), fun e => h.b7 (by rw [up_ne _ _ n7] at e; exact e), fun e => h.b10 (by rw [up_ne _ _ n10] at e; exact e), fun e => h.b13 (by rw [up_ne _ _ n13] at e; exact e)⟩
theorem SK.m0 {w0 w : World} {g : Nat → Nat} {d : Nat → Bool} (h : SK w0 g d w) : SK w0 (up g 0 w.heap.size) (up d 0 true) (zw w 64) :=
  ⟨h.old.alloc h.old.size _, fun _ => (by rw [up_at]; exact ZB.new w 64), fun e => (by rw [up_ne _ _ (by decide : 2 ≠ 0)] at e ⊢; exact (h.b2 e).more _), fun e => (by rw [up_ne _ _ (by decide : 4 ≠ 0)] at e ⊢; exact (h.b4 e).more _), fun e => (by rw [up_ne _ _ (by decide : 7 ≠ 0)] at e ⊢; exact (h.b7 e).more _), fun e => (by rw [up_ne _ _ (by decide : 10 ≠ 0)] at e ⊢; exact (h.b10 e).more _), fun e => (by rw [up_ne _ _ (by decide : 13 ≠ 0)] at e ⊢; exact (h.b13 e).more _)⟩
theorem SK.m2 {w0 w : World} {g : Nat → Nat} {d : Nat → Bool} (h : SK w0 g d w) : SK w0 (up g 2 w.heap.size) (up d 2 true) (zw w 31) :=
  ⟨h.old.alloc h.old.size _, fun e => (by rw [up_ne _ _ (by decide : 0 ≠ 2)] at e ⊢; exact (h.b0 e).more _), fun _ => (by rw [up_at]; exact ZB.new w 31), fun e => (by rw [up_ne _ _ (by decide : 4 ≠ 2)] at e ⊢; exact (h.b4 e).more _), fun e => (by rw [up_ne _ _ (by decide : 7 ≠ 2)] at e ⊢; exact (h.b7 e).more _), fun e => (by rw [up_ne _ _ (by decide : 10 ≠ 2)] at e ⊢; exact (h.b10 e).more _), fun e => (by rw [up_ne _ _ (by decide : 13 ≠ 2)] at e ⊢; exact (h.b13 e).more _)⟩
theorem SK.m4 {w0 w : World} {g : Nat → Nat} {d : Nat → Bool} (h : SK w0 g d w) : SK w0 (up g 4 w.heap.size) (up d 4 true) (zw w 28) :=
  ⟨h.old.alloc h.old.size _, fun e => (by rw [up_ne _ _ (by decide : 0 ≠ 4)] at e ⊢; exact (h.b0 e).more _), fun e => (by rw [up_ne _ _ (by decide : 2 ≠ 4)] at e ⊢; exact (h.b2 e).more _), fun _ => (by rw [up_at]; exact ZB.new w 28), fun e => (by rw [up_ne _ _ (by decide : 7 ≠ 4)] at e ⊢; exact (h.b7 e).more _), fun e => (by rw [up_ne _ _ (by decide : 10 ≠ 4)] at e ⊢; exact (h.b10 e).more _), fun e => (by rw [up_ne _ _ (by decide : 13 ≠ 4)] at e ⊢; exact (h.b13 e).more _)⟩
theorem SK.m7 {w0 w : World} {g : Nat → Nat} {d : Nat → Bool} (h : SK w0 g d w) : SK w0 (up g 7 w.heap.size) (up d 7 true) (zw w 30) :=
  ⟨h.old.alloc h.old.size _, fun e => (by rw [up_ne _ _ (by decide : 0 ≠ 7)] at e ⊢; exact (h.b0 e).more _), fun e => (by rw [up_ne _ _ (by decide : 2 ≠ 7)] at e ⊢; exact (h.b2 e).more _), fun e => (by rw [up_ne _ _ (by decide : 4 ≠ 7)] at e ⊢; exact (h.b4 e).more _), fun _ => (by rw [up_at]; exact ZB.new w 30), fun e => (by rw [up_ne _ _ (by decide : 10 ≠ 7)] at e ⊢; exact (h.b10 e).more _), fun e => (by rw [up_ne _ _ (by decide : 13 ≠ 7)] at e ⊢; exact (h.b13 e).more _)⟩
theorem SK.m10 {w0 w : World} {g : Nat → Nat} {d : Nat → Bool} (h : SK w0 g d w) : SK w0 (up g 10 w.heap.size) (up d 10 true) (zw w 8190) :=
  ⟨h.old.alloc h.old.size _, fun e => (by rw [up_ne _ _ (by decide : 0 ≠ 10)] at e ⊢; exact (h.b0 e).more _), fun e => (by rw [up_ne _ _ (by decide : 2 ≠ 10)] at e ⊢; exact (h.b2 e).more _), fun e => (by rw [up_ne _ _ (by decide : 4 ≠ 10)] at e ⊢; exact (h.b4 e).more _), fun e => (by rw [up_ne _ _ (by decide : 7 ≠ 10)] at e ⊢; exact (h.b7 e).more _), fun _ => (by rw [up_at]; exact ZB.new w 8190), fun e => (by rw [up_ne _ _ (by decide : 13 ≠ 10)] at e ⊢; exact (h.b13 e).more _)⟩
theorem SK.m13 {w0 w : World} {g : Nat → Nat} {d : Nat → Bool} (h : SK w0 g d w) : SK w0 (up g 13 w.heap.size) (up d 13 true) (w.alloc (.cells textsK 9)) :=
  ⟨h.old.alloc h.old.size _, fun e => (by rw [up_ne _ _ (by decide : 0 ≠ 13)] at e ⊢; exact (h.b0 e).more _), fun e => (by rw [up_ne _ _ (by decide : 2 ≠ 13)] at e ⊢; exact (h.b2 e).more _), fun e => (by rw [up_ne _ _ (by decide : 4 ≠ 13)] at e ⊢; exact (h.b4 e).more _), fun e => (by rw [up_ne _ _ (by decide : 7 ≠ 13)] at e ⊢; exact (h.b7 e).more _), fun e => (by rw [up_ne _ _ (by decide : 10 ≠ 13)] at e ⊢; exact (h.b10 e).more _), fun _ => (by rw [up_at]; exact SB.new w)⟩

set_option maxRecDepth 100000 in
set_option maxHeartbeats 4000000 in
theorem reg23 {Q K K' : _} {Q' : Exit → Act → World → Prop} (hQ : Q = Exit.then K (Exit.then K' Q')) (hP : ∀ c ts ts' ds w, Q' (.panic c) ⟨ts, ds⟩ w → Q' (.panic c) ⟨ts', ds⟩ w) {u0 u1 u2 u3 u4 u5 u6 u7 u8 u9 u10 u11 u12 u13 u14 u15 u16 u17 u18 u19 u20 u21 u22 u23 u24 u25 u26 u27 u28 u29 u30 u31 u32 u33 u34 u35 u36 u37 u38 u39 u40 u41 u42 u43 u44 u45 u46 u47 u48 u49 u50 u51 u52 u53 u54 u55 u56 u57 u58 u59 u60 u61 u62 u63 u64 u65 u66 u67 u68 u69 u70 u71 u72 u73 u74 u75 u76 u77 u78 u79 u80 u81 u82 u83 u84 u85 u86 u87 x88 x89 x90 x91 x92 x93 x94 x95 x96 x97 x98 x99 x100 x101 x102 x103 v104 v105 v106 v107 v108 v109 v110 v111 v112 v113 v114 v115 v116 v117 v118 v119 v120 v121 v122 v123 v124 v125 v126 v127 v128 v129 v130 v131 v132 v133 v134 v135 v136 v137 v138 v139 v140 v141 v142 v143 : Value} (w0 w : World) (hw : Below w0.heap.size w0 w)
    (H : ∀ (g : Nat → Nat) (w' : World), Below w0.heap.size w0 w' → SB w' (g 13) → Q .normal ⟨#[u0, u1, u2, u3, u4, u5, u6, u7, u8, u9, u10, u11, u12, u13, u14, u15, u16, u17, u18, u19, u20, u21, u22, u23, u24, u25, u26, u27, u28, u29, u30, u31, u32, u33, u34, u35, u36, u37, u38, u39, u40, u41, u42, u43, u44, u45, u46, u47, u48, u49, u50, u51, u52, u53, u54, u55, u56, u57, u58, u59, u60, u61, u62, u63, u64, u65, u66, u67, u68, u69, u70, u71, u72, u73, u74, u75, u76, u77, u78, u79, u80, u81, u82, u83, u84, u85, u86, u87, .slice (some ⟨g 0, 0, none⟩) 64 64, .string ⟨(zs 64).toArray⟩, .slice (some ⟨g 2, 0, none⟩) 31 31, .string ⟨(zs 31).toArray⟩, .slice (some ⟨g 4, 0, none⟩) 28 28, .string ⟨(zs 28).toArray⟩, .string ((⟨#[0, 1, 97, 1]⟩ : ByteArray) ++ ⟨(zs 28).toArray⟩), .slice (some ⟨g 7, 0, none⟩) 30 30, .string ⟨(zs 30).toArray⟩, .string ((⟨#[0, 31]⟩ : ByteArray) ++ ⟨(zs 30).toArray⟩), .slice (some ⟨g 10, 0, none⟩) 8190 8190, .string ⟨(zs 8190).toArray⟩, .string ((⟨#[255, 255]⟩ : ByteArray) ++ ⟨(zs 8190).toArray⟩), .slice (some ⟨g 13, 0, none⟩) 7 7, .int .i64 7, .int .i64 0, v104, v105, v106, v107, v108, v109, v110, v111, v112, v113, v114, v115, v116, v117, v118, v119, v120, v121, v122, v123, v124, v125, v126, v127, v128, v129, v130, v131, v132, v133, v134, v135, v136, v137, v138, v139, v140, v141, v142, v143], []⟩ w') :
    (Code.region 23 #[{ dst := some 88, op := Op.makeSlice 29 (Operand.const (Value.int IntKind.i64 64)) (Operand.const (Value.int IntKind.i64 64)), type := 29, pos := "outright.go:74", after := #[], guard := none }, { dst := some 89, op := Op.convert 29 9 (Operand.tmp 88), type := 9, pos := "outright.go:74", after := #[{ on := 0, ground := Ground.data }], guard := none }, { dst := some 90, op := Op.makeSlice 29 (Operand.const (Value.int IntKind.i64 31)) (Operand.const (Value.int IntKind.i64 31)), type := 29, pos := "outright.go:74", after := #[], guard := none }, { dst := some 91, op := Op.convert 29 9 (Operand.tmp 90), type := 9, pos := "outright.go:74", after := #[{ on := 2, ground := Ground.data }], guard := none }, { dst := some 92, op := Op.makeSlice 29 (Operand.const (Value.int IntKind.i64 28)) (Operand.const (Value.int IntKind.i64 28)), type := 29, pos := "outright.go:74", after := #[], guard := none }, { dst := some 93, op := Op.convert 29 9 (Operand.tmp 92), type := 9, pos := "outright.go:74", after := #[{ on := 4, ground := Ground.data }], guard := none }, { dst := some 94, op := Op.binOp BinOp.add 9 (Operand.const (Value.string { data := #[0, 1, 97, 1] })) (Operand.tmp 93) 9, type := 9, pos := "outright.go:74", after := #[{ on := 5, ground := Ground.data }], guard := none }, { dst := some 95, op := Op.makeSlice 29 (Operand.const (Value.int IntKind.i64 30)) (Operand.const (Value.int IntKind.i64 30)), type := 29, pos := "outright.go:74", after := #[], guard := none }, { dst := some 96, op := Op.convert 29 9 (Operand.tmp 95), type := 9, pos := "outright.go:74", after := #[{ on := 7, ground := Ground.data }], guard := none }, { dst := some 97, op := Op.binOp BinOp.add 9 (Operand.const (Value.string { data := #[0, 31] })) (Operand.tmp 96) 9, type := 9, pos := "outright.go:74", after := #[{ on := 8, ground := Ground.data }], guard := none }, { dst := some 98, op := Op.makeSlice 29 (Operand.const (Value.int IntKind.i64 8190)) (Operand.const (Value.int IntKind.i64 8190)), type := 29, pos := "outright.go:74", after := #[], guard := none }, { dst := some 99, op := Op.convert 29 9 (Operand.tmp 98), type := 9, pos := "outright.go:74", after := #[{ on := 10, ground := Ground.data }], guard := none }, { dst := some 100, op := Op.binOp BinOp.add 9 (Operand.const (Value.string { data := #[255, 255] })) (Operand.tmp 99) 9, type := 9, pos := "outright.go:74", after := #[{ on := 11, ground := Ground.data }], guard := none }, { dst := some 101, op := Op.buildSlice 33 7 #[(0, Operand.const (Value.string { data := #[] })), (1, Operand.const (Value.string { data := #[0] })), (2, Operand.tmp 89), (3, Operand.tmp 91), (4, Operand.tmp 94), (5, Operand.tmp 97), (6, Operand.tmp 100)], type := 33, pos := "outright.go:74", after := #[{ on := 1, ground := Ground.data }, { on := 3, ground := Ground.data }, { on := 6, ground := Ground.data }, { on := 9, ground := Ground.data }, { on := 12, ground := Ground.data }], guard := none }, { dst := some 102, op := Op.call { callee := Callee.builtin Builtin.len, args := #[Operand.tmp 101], argTypes := #[33] }, type := 3, pos := "outright.go:74", after := #[{ on := 13, ground := Ground.data }], guard := none }, { dst := some 103, op := Op.move (Operand.const (Value.int IntKind.i64 0)), type := 3, pos := "outright.go:74", after := #[], guard := none }] true).wp Try.prog Q ⟨#[u0, u1, u2, u3, u4, u5, u6, u7, u8, u9, u10, u11, u12, u13, u14, u15, u16, u17, u18, u19, u20, u21, u22, u23, u24, u25, u26, u27, u28, u29, u30, u31, u32, u33, u34, u35, u36, u37, u38, u39, u40, u41, u42, u43, u44, u45, u46, u47, u48, u49, u50, u51, u52, u53, u54, u55, u56, u57, u58, u59, u60, u61, u62, u63, u64, u65, u66, u67, u68, u69, u70, u71, u72, u73, u74, u75, u76, u77, u78, u79, u80, u81, u82, u83, u84, u85, u86, u87, x88, x89, x90, x91, x92, x93, x94, x95, x96, x97, x98, x99, x100, x101, x102, x103, v104, v105, v106, v107, v108, v109, v110, v111, v112, v113, v114, v115, v116, v117, v118, v119, v120, v121, v122, v123, v124, v125, v126, v127, v128, v129, v130, v131, v132, v133, v134, v135, v136, v137, v138, v139, v140, v141, v142, v143], []⟩ w := by
  refine wp_region_ghost (fun g : Nat → Nat => (⟨#[u0, u1, u2, u3, u4, u5, u6, u7, u8, u9, u10, u11, u12, u13, u14, u15, u16, u17, u18, u19, u20, u21, u22, u23, u24, u25, u26, u27, u28, u29, u30, u31, u32, u33, u34, u35, u36, u37, u38, u39, u40, u41, u42, u43, u44, u45, u46, u47, u48, u49, u50, u51, u52, u53, u54, u55, u56, u57, u58, u59, u60, u61, u62, u63, u64, u65, u66, u67, u68, u69, u70, u71, u72, u73, u74, u75, u76, u77, u78, u79, u80, u81, u82, u83, u84, u85, u86, u87, .slice (some ⟨g 0, 0, none⟩) 64 64, .string ⟨(zs 64).toArray⟩, .slice (some ⟨g 2, 0, none⟩) 31 31, .string ⟨(zs 31).toArray⟩, .slice (some ⟨g 4, 0, none⟩) 28 28, .string ⟨(zs 28).toArray⟩, .string ((⟨#[0, 1, 97, 1]⟩ : ByteArray) ++ ⟨(zs 28).toArray⟩), .slice (some ⟨g 7, 0, none⟩) 30 30, .string ⟨(zs 30).toArray⟩, .string ((⟨#[0, 31]⟩ : ByteArray) ++ ⟨(zs 30).toArray⟩), .slice (some ⟨g 10, 0, none⟩) 8190 8190, .string ⟨(zs 8190).toArray⟩, .string ((⟨#[255, 255]⟩ : ByteArray) ++ ⟨(zs 8190).toArray⟩), .slice (some ⟨g 13, 0, none⟩) 7 7, .int .i64 7, .int .i64 0, v104, v105, v106, v107, v108, v109, v110, v111, v112, v113, v114, v115, v116, v117, v118, v119, v120, v121, v122, v123, v124, v125, v126, v127, v128, v129, v130, v131, v132, v133, v134, v135, v136, v137, v138, v139, v140, v141, v142, v143], []⟩ : Act)) (SK w0) [.slice (some ⟨0, 0, none⟩) 64 64, .string ⟨(zs 64).toArray⟩, .slice (some ⟨0, 0, none⟩) 31 31, .string ⟨(zs 31).toArray⟩, .slice (some ⟨0, 0, none⟩) 28 28, .string ⟨(zs 28).toArray⟩, .string ((⟨#[0, 1, 97, 1]⟩ : ByteArray) ++ ⟨(zs 28).toArray⟩), .slice (some ⟨0, 0, none⟩) 30 30, .string ⟨(zs 30).toArray⟩, .string ((⟨#[0, 31]⟩ : ByteArray) ++ ⟨(zs 30).toArray⟩), .slice (some ⟨0, 0, none⟩) 8190 8190, .string ⟨(zs 8190).toArray⟩, .string ((⟨#[255, 255]⟩ : ByteArray) ++ ⟨(zs 8190).toArray⟩), .slice (some ⟨0, 0, none⟩) 7 7, .int .i64 7, .int .i64 0] (by kernel_rfl) (by kernel_rfl) (by kernel_rfl) (by kernel_rfl) ?_ ?_ ?_ ?_
  · intro g c ts w h
    subst hQ
    exact hP c _ _ _ _ h
  · intro d hd
    exact ⟨⟨hw.os, hw.tape, hw.output, hw.size, hw.block⟩, fun e => (by rw [hd 0 (by decide)] at e; cases e), fun e => (by rw [hd 2 (by decide)] at e; cases e), fun e => (by rw [hd 4 (by decide)] at e; cases e), fun e => (by rw [hd 7 (by decide)] at e; cases e), fun e => (by rw [hd 10 (by decide)] at e; cases e), fun e => (by rw [hd 13 (by decide)] at e; cases e)⟩
  · refine .cons ?_ (.cons ?_ (.cons ?_ (.cons ?_ (.cons ?_ (.cons ?_ (.cons ?_ (.cons ?_ (.cons ?_ (.cons ?_ (.cons ?_ (.cons ?_ (.cons ?_ (.cons ?_ (.cons ?_ (.cons ?_ .nil)))))))))))))))
    · refine .act (v := fun _ w => .slice (some ⟨w.heap.size, 0, none⟩) 64 64) (n := fun _ w => w.heap.size) (W := fun _ w => zw w 64) (fun _ => by kernel_rfl) (fun _ _ => by kernel_rfl) (fun g d w h _ _ => ⟨?_, h.m0⟩)
      simp only [execOp]
      have := make_z w 64 (by decide)
      exact congrArg (fun r => Result.andThen r fun a w' => Result.ok (Next.value a) w') this
    · refine .take (v := fun _ => .string ⟨(zs 64).toArray⟩) (fun _ => by kernel_rfl) (fun _ => by kernel_rfl) (fun g d w h ha => ⟨?_, h.same (by decide)⟩)
      exact run_conv (u := .slice (some ⟨g 0, 0, none⟩) 64 64) (by kernel_rfl) (h.b0 (ha ⟨0, .data⟩ (by simp) rfl)).conv
    · refine .act (v := fun _ w => .slice (some ⟨w.heap.size, 0, none⟩) 31 31) (n := fun _ w => w.heap.size) (W := fun _ w => zw w 31) (fun _ => by kernel_rfl) (fun _ _ => by kernel_rfl) (fun g d w h _ _ => ⟨?_, h.m2⟩)
      simp only [execOp]
      have := make_z w 31 (by decide)
      exact congrArg (fun r => Result.andThen r fun a w' => Result.ok (Next.value a) w') this
    · refine .take (v := fun _ => .string ⟨(zs 31).toArray⟩) (fun _ => by kernel_rfl) (fun _ => by kernel_rfl) (fun g d w h ha => ⟨?_, h.same (by decide)⟩)
      exact run_conv (u := .slice (some ⟨g 2, 0, none⟩) 31 31) (by kernel_rfl) (h.b2 (ha ⟨2, .data⟩ (by simp) rfl)).conv
    · refine .act (v := fun _ w => .slice (some ⟨w.heap.size, 0, none⟩) 28 28) (n := fun _ w => w.heap.size) (W := fun _ w => zw w 28) (fun _ => by kernel_rfl) (fun _ _ => by kernel_rfl) (fun g d w h _ _ => ⟨?_, h.m4⟩)
      simp only [execOp]
      have := make_z w 28 (by decide)
      exact congrArg (fun r => Result.andThen r fun a w' => Result.ok (Next.value a) w') this
    · refine .take (v := fun _ => .string ⟨(zs 28).toArray⟩) (fun _ => by kernel_rfl) (fun _ => by kernel_rfl) (fun g d w h ha => ⟨?_, h.same (by decide)⟩)
      exact run_conv (u := .slice (some ⟨g 4, 0, none⟩) 28 28) (by kernel_rfl) (h.b4 (ha ⟨4, .data⟩ (by simp) rfl)).conv
    · refine .take (v := fun _ => .string ((⟨#[0, 1, 97, 1]⟩ : ByteArray) ++ ⟨(zs 28).toArray⟩)) (fun _ => by kernel_rfl) (fun _ => by kernel_rfl) (fun g d w h ha => ⟨?_, h.same (by decide)⟩)
      exact run_adds (by kernel_rfl) (by kernel_rfl) (add_run w ⟨#[0, 1, 97, 1]⟩ 28 (by decide) (by decide))
    · refine .act (v := fun _ w => .slice (some ⟨w.heap.size, 0, none⟩) 30 30) (n := fun _ w => w.heap.size) (W := fun _ w => zw w 30) (fun _ => by kernel_rfl) (fun _ _ => by kernel_rfl) (fun g d w h _ _ => ⟨?_, h.m7⟩)
      simp only [execOp]
      have := make_z w 30 (by decide)
      exact congrArg (fun r => Result.andThen r fun a w' => Result.ok (Next.value a) w') this
    · refine .take (v := fun _ => .string ⟨(zs 30).toArray⟩) (fun _ => by kernel_rfl) (fun _ => by kernel_rfl) (fun g d w h ha => ⟨?_, h.same (by decide)⟩)
      exact run_conv (u := .slice (some ⟨g 7, 0, none⟩) 30 30) (by kernel_rfl) (h.b7 (ha ⟨7, .data⟩ (by simp) rfl)).conv
    · refine .take (v := fun _ => .string ((⟨#[0, 31]⟩ : ByteArray) ++ ⟨(zs 30).toArray⟩)) (fun _ => by kernel_rfl) (fun _ => by kernel_rfl) (fun g d w h ha => ⟨?_, h.same (by decide)⟩)
      exact run_adds (by kernel_rfl) (by kernel_rfl) (add_run w ⟨#[0, 31]⟩ 30 (by decide) (by decide))
    · refine .act (v := fun _ w => .slice (some ⟨w.heap.size, 0, none⟩) 8190 8190) (n := fun _ w => w.heap.size) (W := fun _ w => zw w 8190) (fun _ => by kernel_rfl) (fun _ _ => by kernel_rfl) (fun g d w h _ _ => ⟨?_, h.m10⟩)
      simp only [execOp]
      have := make_z w 8190 (by decide)
      exact congrArg (fun r => Result.andThen r fun a w' => Result.ok (Next.value a) w') this
    · refine .take (v := fun _ => .string ⟨(zs 8190).toArray⟩) (fun _ => by kernel_rfl) (fun _ => by kernel_rfl) (fun g d w h ha => ⟨?_, h.same (by decide)⟩)
      exact run_conv (u := .slice (some ⟨g 10, 0, none⟩) 8190 8190) (by kernel_rfl) (h.b10 (ha ⟨10, .data⟩ (by simp) rfl)).conv
    · refine .take (v := fun _ => .string ((⟨#[255, 255]⟩ : ByteArray) ++ ⟨(zs 8190).toArray⟩)) (fun _ => by kernel_rfl) (fun _ => by kernel_rfl) (fun g d w h ha => ⟨?_, h.same (by decide)⟩)
      exact run_adds (by kernel_rfl) (by kernel_rfl) (add_run w ⟨#[255, 255]⟩ 8190 (by decide) (by decide))
    · refine .act (v := fun _ w => .slice (some ⟨w.heap.size, 0, none⟩) 7 7) (n := fun _ w => w.heap.size) (W := fun _ w => w.alloc (.cells textsK 9)) (fun _ => by kernel_rfl) (fun _ _ => by kernel_rfl) (fun g d w h _ _ => ⟨?_, h.m13⟩)
      exact run_build (by kernel_rfl) (by kernel_rfl) (by kernel_rfl) (by kernel_rfl) (by kernel_rfl) (by kernel_rfl) (by kernel_rfl)
    · exact .take (v := fun _ => .int .i64 7) (fun _ => by kernel_rfl) (fun _ => by kernel_rfl) (fun g d w h ha => ⟨by kernel_rfl, h.same (by decide)⟩)
    · exact .take (v := fun _ => .int .i64 0) (fun _ => by kernel_rfl) (fun _ => by kernel_rfl) (fun g d w h ha => ⟨by kernel_rfl, h.same (by decide)⟩)
  · intro g w h
    exact H g w h.old (h.b13 rfl)
end Go.Proofs.Ythelhalfmdbdlaa
