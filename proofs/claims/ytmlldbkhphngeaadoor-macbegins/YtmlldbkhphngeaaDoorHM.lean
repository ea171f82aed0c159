/-
  What is reckoned, with words of whatever width: no program.
-/
namespace Go.Proofs.YtmlldbkhphngeaaDoor

structure Kd where
  w : Nat
  B : Nat
  R : Nat
  Ln : Nat
  hd : Nat × Nat × Nat
  tl : Nat × Nat × Nat
  nr : Nat × Nat × Nat
  fr : Nat × Nat × Nat
abbrev KS : Kd := ⟨32, 64, 64, 8, (2, 13, 22), (6, 11, 25), (7, 18, 3), (17, 19, 10)⟩
abbrev KL : Kd := ⟨64, 128, 80, 16, (28, 34, 39), (14, 18, 41), (1, 8, 7), (19, 61, 6)⟩
def fws : List (BitVec 64) := [7640891576956012808#64, 13503953896175478587#64, 4354685564936845355#64, 11912009170470909681#64, 5840696475078001361#64, 11170449401992604703#64, 2270897969802886507#64, 6620516959819538809#64]
def rws : List (BitVec 64) := [4794697086780616226#64, 8158064640168781261#64, 13096744586834688815#64, 16840607885511220156#64, 4131703408338449720#64, 6480981068601479193#64, 10538285296894168987#64, 12329834152419229976#64, 15566598209576043074#64, 1334009975649890238#64, 2608012711638119052#64, 6128411473006802146#64, 8268148722764581231#64, 9286055187155687089#64, 11230858885718282805#64, 13951009754708518548#64, 16472876342353939154#64, 17275323862435702243#64, 1135362057144423861#64, 2597628984639134821#64, 3308224258029322869#64, 5365058923640841347#64, 6679025012923562964#64, 8573033837759648693#64, 10970295158949994411#64, 12119686244451234320#64, 12683024718118986047#64, 13788192230050041572#64, 14330467153632333762#64, 15395433587784984357#64, 489312712824947311#64, 1452737877330783856#64, 2861767655752347644#64, 3322285676063803686#64, 5560940570517711597#64, 5996557281743188959#64, 7280758554555802590#64, 8532644243296465576#64, 9350256976987008742#64, 10552545826968843579#64, 11727347734174303076#64, 12113106623233404929#64, 14000437183269869457#64, 14369950271660146224#64, 15101387698204529176#64, 15463397548674623760#64, 17586052441742319658#64, 1182934255886127544#64, 1847814050463011016#64, 2177327727835720531#64, 2830643537854262169#64, 3796741975233480872#64, 4115178125766777443#64, 5681478168544905931#64, 6601373596472566643#64, 7507060721942968483#64, 8399075790359081724#64, 8693463985226723168#64, 9568029438360202098#64, 10144078919501101548#64, 10430055236837252648#64, 11840083180663258601#64, 13761210420658862357#64, 14299343276471374635#64, 14566680578165727644#64, 15097957966210449927#64, 16922976911328602910#64, 17689382322260857208#64, 500013540394364858#64, 748580250866718886#64, 1242879168328830382#64, 1977374033974150939#64, 2944078676154940804#64, 3659926193048069267#64, 4368137639120453308#64, 4836135668995329356#64, 5532061633213252278#64, 6448918945643986474#64, 6902733635092675308#64, 7801388544844847127#64]
def rotP {w : Nat} (x : BitVec w) (n : Nat) : BitVec w := (x >>> n) ||| (x <<< (w - n))
def turP {w : Nat} (x : BitVec w) (t : Nat × Nat × Nat) : BitVec w := rotP x t.1 ^^^ rotP x t.2.1 ^^^ rotP x t.2.2
def movP {w : Nat} (x : BitVec w) (t : Nat × Nat × Nat) : BitVec w := rotP x t.1 ^^^ rotP x t.2.1 ^^^ (x >>> t.2.2)
def cutP (w : Nat) (r : BitVec 64) : BitVec w := (r >>> (64 - w)).setWidth w
def begP (w : Nat) : List (BitVec w) := fws.map (cutP w)
/-- bytes as a word, the highest first -/
def wordP (w : Nat) (l : List UInt8) : BitVec w := l.foldl (fun x b => (x <<< 8) ||| BitVec.ofNat w b.toNat) 0
/-- the first words of a block -/
def firstP (w sz : Nat) (blk : List UInt8) : Nat → List (BitVec w)
  | 0 => []
  | i + 1 => firstP w sz blk i ++ [wordP w ((blk.drop (i * sz)).take sz)]
def nextP (K : Kd) (l : List (BitVec K.w)) (n : Nat) : BitVec K.w :=
  movP (l.getD (16 + n - 2) 0) K.fr + l.getD (16 + n - 7) 0 + movP (l.getD (16 + n - 15) 0) K.nr + l.getD (16 + n - 16) 0
def schP (K : Kd) (blk : List UInt8) : Nat → List (BitVec K.w)
  | 0 => firstP K.w (K.B / 16) blk 16
  | n + 1 => schP K blk n ++ [nextP K (schP K blk n) n]
structure V8 (w : Nat) where
  a : BitVec w
  b : BitVec w
  c : BitVec w
  d : BitVec w
  e : BitVec w
  f : BitVec w
  g : BitVec w
  h : BitVec w
def tP (K : Kd) (v : V8 K.w) (kw m : BitVec K.w) : BitVec K.w := v.h + turP v.e K.tl + ((v.e &&& v.f) ^^^ (~~~v.e &&& v.g)) + kw + m
def uP (K : Kd) (v : V8 K.w) : BitVec K.w := turP v.a K.hd + ((v.a &&& v.b) ^^^ (v.a &&& v.c) ^^^ (v.b &&& v.c))
def rndP (K : Kd) (v : V8 K.w) (kw m : BitVec K.w) : V8 K.w := ⟨tP K v kw m + uP K v, v.a, v.b, v.c, v.d + tP K v kw m, v.e, v.f, v.g⟩
def rndsP (K : Kd) (m : List (BitVec K.w)) (v : V8 K.w) : Nat → V8 K.w
  | 0 => v
  | i + 1 => rndP K (rndsP K m v i) (cutP K.w (rws.getD i 0)) (m.getD i 0)
def v8 {w : Nat} (l : List (BitVec w)) : V8 w := ⟨l.getD 0 0, l.getD 1 0, l.getD 2 0, l.getD 3 0, l.getD 4 0, l.getD 5 0, l.getD 6 0, l.getD 7 0⟩
def l8 {w : Nat} (v : V8 w) : List (BitVec w) := [v.a, v.b, v.c, v.d, v.e, v.f, v.g, v.h]
/-- the first n are added -/
def sumL {w : Nat} (l r : List (BitVec w)) : Nat → List (BitVec w)
  | 0 => l
  | i + 1 => (sumL l r i).set i ((sumL l r i).getD i 0 + r.getD i 0)
def sprP (K : Kd) (blk : List UInt8) : List (BitVec K.w) := schP K blk (K.R - 16) ++ List.replicate (80 - K.R) 0
def turnP (K : Kd) (st : List (BitVec K.w)) (blk : List UInt8) : List (BitVec K.w) := sumL st (l8 (rndsP K (sprP K blk) (v8 st) K.R)) 8
/-- one byte more -/
def feed (K : Kd) (p : List (BitVec K.w) × List UInt8) (b : UInt8) : List (BitVec K.w) × List UInt8 :=
  if (p.2 ++ [b]).length = K.B then (turnP K p.1 (p.2 ++ [b]), []) else (p.1, p.2 ++ [b])
def fedP (K : Kd) (p : List (BitVec K.w) × List UInt8) (l : List UInt8) : List (BitVec K.w) × List UInt8 := l.foldl (feed K) p
/-- a number's bytes, n of them, the highest first -/
def beP (n z : Nat) : Nat → List UInt8
  | 0 => []
  | i + 1 => beP n z i ++ [UInt8.ofNat (z / 2 ^ (8 * (n - 1 - i)))]
def gapP (K : Kd) (size : Nat) : Nat := K.B - 1 - (size + (1 + K.Ln) - 1) % K.B
def fillP (K : Kd) (size : Nat) : List UInt8 := 128 :: List.replicate (gapP K size) 0 ++ beP K.Ln (8 * size) K.Ln
/-- a word's bytes, the highest first; n of them -/
def outW {w : Nat} (x : BitVec w) : Nat → List UInt8
  | 0 => []
  | j + 1 => outW x j ++ [UInt8.ofNat (x >>> (w - 8 * (j + 1))).toNat]
def outP {w : Nat} (l : List (BitVec w)) : Nat → List UInt8
  | 0 => []
  | i + 1 => outP l i ++ outW (l.getD i 0) (w / 8)
/-- the digest of bytes -/
def digP (K : Kd) (l : List UInt8) : List UInt8 := outP (fedP K (begP K.w, []) (l ++ fillP K l.length)).1 8

theorem firstP_len (w sz : Nat) (blk : List UInt8) : ∀ i, (firstP w sz blk i).length = i
  | 0 => rfl
  | i + 1 => by rw [firstP, List.length_append, firstP_len w sz blk i]; rfl
theorem schP_len (K : Kd) (blk : List UInt8) : ∀ n, (schP K blk n).length = 16 + n
  | 0 => by rw [schP, firstP_len]
  | n + 1 => by rw [schP, List.length_append, schP_len K blk n]; simp; omega
theorem sumL_len {w : Nat} (l r : List (BitVec w)) : ∀ i, (sumL l r i).length = l.length
  | 0 => rfl
  | i + 1 => by rw [sumL, List.length_set, sumL_len l r i]
theorem turnP_len (K : Kd) (st : List (BitVec K.w)) (blk : List UInt8) : (turnP K st blk).length = st.length := sumL_len _ _ _
theorem begP_len (w : Nat) : (begP w).length = 8 := by unfold begP fws; rw [List.length_map]; rfl
theorem outW_len {w : Nat} (x : BitVec w) : ∀ j, (outW x j).length = j
  | 0 => rfl
  | j + 1 => by rw [outW, List.length_append, outW_len x j]; rfl
theorem outP_len {w : Nat} (l : List (BitVec w)) : ∀ i, (outP l i).length = i * (w / 8)
  | 0 => by rw [Nat.zero_mul]; rfl
  | i + 1 => by rw [outP, List.length_append, outP_len l i, outW_len, Nat.succ_mul]
theorem beP_len (n z : Nat) : ∀ i, (beP n z i).length = i
  | 0 => rfl
  | i + 1 => by rw [beP, List.length_append, beP_len n z i]; rfl
theorem fedP_app (K : Kd) (p : List (BitVec K.w) × List UInt8) (l m : List UInt8) : fedP K p (l ++ m) = fedP K (fedP K p l) m := List.foldl_append ..
/-- fewer than make a block -/
theorem fedP_less (K : Kd) : ∀ (l : List UInt8) (p : List (BitVec K.w) × List UInt8), p.2.length + l.length < K.B → fedP K p l = (p.1, p.2 ++ l)
  | [], p, _ => by rw [List.append_nil]; rfl
  | b :: l, p, h => by
    rw [List.length_cons] at h
    have h1 : feed K p b = (p.1, p.2 ++ [b]) := by
      unfold feed
      rw [if_neg]
      rw [List.length_append, List.length_cons, List.length_nil]
      omega
    show fedP K (feed K p b) l = _
    rw [h1, fedP_less K l _ (by rw [List.length_append, List.length_cons, List.length_nil]; omega), List.append_assoc]
    rfl
/-- just a block -/
theorem fedP_full (K : Kd) (l : List UInt8) (p : List (BitVec K.w) × List UInt8) (hl : l ≠ []) (h : p.2.length + l.length = K.B) : fedP K p l = (turnP K p.1 (p.2 ++ l), []) := by
  obtain ⟨m, b, rfl⟩ : ∃ m b, l = m ++ [b] := ⟨l.dropLast, l.getLast hl, (List.dropLast_concat_getLast hl).symm⟩
  rw [List.length_append, List.length_cons, List.length_nil] at h
  rw [fedP_app, fedP_less K m p (by omega)]
  show feed K (p.1, p.2 ++ m) b = _
  unfold feed
  rw [if_pos (by simp only [List.length_append, List.length_cons, List.length_nil]; omega), List.append_assoc]
theorem feed_lt (K : Kd) (hB : 0 < K.B) (p : List (BitVec K.w) × List UInt8) (b : UInt8) (h : p.2.length < K.B) : (feed K p b).2.length < K.B := by
  unfold feed
  split
  · exact hB
  · rename_i h2
    rw [List.length_append, List.length_cons, List.length_nil] at h2 ⊢
    omega
theorem feed_len (K : Kd) (p : List (BitVec K.w) × List UInt8) (b : UInt8) : (feed K p b).1.length = p.1.length := by
  unfold feed
  split
  · exact turnP_len _ _ _
  · rfl
theorem fedP_lt (K : Kd) (hB : 0 < K.B) : ∀ (l : List UInt8) (p : List (BitVec K.w) × List UInt8), p.2.length < K.B → (fedP K p l).2.length < K.B
  | [], _, h => h
  | b :: l, p, h => fedP_lt K hB l (feed K p b) (feed_lt K hB p b h)
theorem fedP_len (K : Kd) : ∀ (l : List UInt8) (p : List (BitVec K.w) × List UInt8), (fedP K p l).1.length = p.1.length
  | [], _ => rfl
  | b :: l, p => by show (fedP K (feed K p b) l).1.length = _; rw [fedP_len K l, feed_len]
theorem digP_len (K : Kd) (l : List UInt8) : (digP K l).length = 8 * (K.w / 8) := outP_len _ _
end Go.Proofs.YtmlldbkhphngeaaDoor
