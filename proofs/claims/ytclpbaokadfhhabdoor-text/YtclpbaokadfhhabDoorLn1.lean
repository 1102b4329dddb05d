/- Package lines: fourOf. -/
import Derived.Test.YtclpbaokadfhhabDoorBd
import Derived.Test.YtclpbaokadfhhabDoorTx
namespace Go.Proofs.YtclpbaokadfhhabDoor
open Go.RowKit

/-- a byte as the number that a slot holds -/
def Y (x : UInt8) : Int := x.toNat
theorem Y_lo (x : UInt8) : 0 ≤ Y x := by unfold Y; omega
theorem Y_hi (x : UInt8) : Y x < 256 := by unfold Y; have := x.toNat_lt; omega
theorem and8 (x y : UInt8) : bits BinOp.and IntKind.u8 (Y x) (Y y) = Y (x &&& y) := by
  show IntKind.u8.wrap ((BitVec.ofInt 8 (x.toNat : Int) &&& BitVec.ofInt 8 (y.toNat : Int)).toNat : Int) = _
  unfold Y
  rw [BitVec.ofInt_natCast, BitVec.ofInt_natCast, BitVec.toNat_and, UInt8.toNat_and]
  have h1 := x.toNat_lt
  have h2 := y.toNat_lt
  have h3 := (x &&& y).toNat_lt
  rw [UInt8.toNat_and] at h3
  simp only [BitVec.toNat_ofNat]
  rw [Nat.mod_eq_of_lt (by omega), Nat.mod_eq_of_lt (by omega), IntKind.wrap_u8]
  omega
theorem or8 (x y : UInt8) : bits BinOp.or IntKind.u8 (Y x) (Y y) = Y (x ||| y) := by
  show IntKind.u8.wrap ((BitVec.ofInt 8 (x.toNat : Int) ||| BitVec.ofInt 8 (y.toNat : Int)).toNat : Int) = _
  unfold Y
  rw [BitVec.ofInt_natCast, BitVec.ofInt_natCast, BitVec.toNat_or, UInt8.toNat_or]
  have h1 := x.toNat_lt
  have h2 := y.toNat_lt
  have h3 := (x ||| y).toNat_lt
  rw [UInt8.toNat_or] at h3
  simp only [BitVec.toNat_ofNat]
  rw [Nat.mod_eq_of_lt (by omega), Nat.mod_eq_of_lt (by omega), IntKind.wrap_u8]
  omega
theorem shl8 : ∀ i : Fin 256, (∀ k : Fin 8, (i.val.toUInt8 <<< k.val.toUInt8).toNat = i.val * 2 ^ k.val % 256) := by decide +kernel
theorem shr8 : ∀ i : Fin 256, (∀ k : Fin 8, (i.val.toUInt8 >>> k.val.toUInt8).toNat = i.val / 2 ^ k.val) := by decide +kernel
theorem Y_shl (x : UInt8) (k : Fin 8) : Y x * ((2 ^ k.val : Nat) : Int) % 256 = Y (x <<< k.val.toUInt8) := by
  have := shl8 ⟨x.toNat, x.toNat_lt⟩ k
  unfold Y
  simp only [Nat.toUInt8_eq, UInt8.ofNat_toNat] at this ⊢
  rw [this]
  omega
theorem Y_shr (x : UInt8) (k : Fin 8) : Y x / ((2 ^ k.val : Nat) : Int) = Y (x >>> k.val.toUInt8) := by
  have := shr8 ⟨x.toNat, x.toNat_lt⟩ k
  unfold Y
  simp only [Nat.toUInt8_eq, UInt8.ofNat_toNat] at this ⊢
  rw [this]
  omega
abbrev alphaB : ByteArray := ⟨#[65, 66, 67, 68, 69, 70, 71, 72, 73, 74, 75, 76, 77, 78, 79, 80, 81, 82, 83, 84, 85, 86, 87, 88, 89, 90, 97, 98, 99, 100, 101, 102, 103, 104, 105, 106, 107, 108, 109, 110, 111, 112, 113, 114, 115, 116, 117, 118, 119, 120, 121, 122, 48, 49, 50, 51, 52, 53, 54, 55, 56, 57, 43, 47]⟩
theorem letter (z : UInt8) (h : z.toNat < 64) (w : World) : (Instr.index 9 (.string alphaB) (.int .u8 (Y z))).run Tryd.prog w = .ok (.int .u8 ((Tx.al z).toNat : Int)) w := by
  have e : ∀ i : Fin 64, alphaB.data.toList.getD i.val 0 = Tx.al i.val.toUInt8 := by decide +kernel
  have e1 := e ⟨z.toNat, h⟩
  have ez : z.toNat.toUInt8 = z := by simp
  rw [ez] at e1
  have hb : z.toNat < alphaB.size := h
  have h0 : (0 : Int) ≤ Y z := Y_lo z
  have h1 : Y z < (alphaB.size : Int) := by unfold Y; exact Int.ofNat_lt.2 hb
  have hy : (Y z).toNat = z.toNat := rfl
  rw [run_index_string (h := Tryd.underlying9), dif_pos ⟨h0, h1⟩]
  have e3 : alphaB[z.toNat] = Tx.al z := by
    rw [← e1]
    show alphaB.data[z.toNat] = _
    rw [List.getD_eq_getElem?_getD, List.getElem?_eq_getElem (show z.toNat < alphaB.data.toList.length from hb)]
    rfl
  have e4 : alphaB[(Y z).toNat]'(by rw [hy]; exact hb) = Tx.al z := e3
  rw [e4]

set_option maxRecDepth 100000 in
set_option maxHeartbeats 1000000 in
theorem fourOf1 (a : UInt8) (w : World) :
    Calls Tryd.prog 17 #[.string ⟨#[a]⟩] w fun e w' => e = .returned (.string ⟨(Tx.four [a]).toArray⟩) ∧ Below w.heap.size w w' := by
  have j0 : (((⟨#[a]⟩ : ByteArray)[0]'(by show 0 < 1; omega)).toNat : Int) = Y a := rfl
  have k0 : bits BinOp.and IntKind.u8 (Y a) 3 = Y (a &&& 3) := and8 a 3
  have m0 : IntKind.u8.wrap (Y (a &&& 3) * 16) = Y ((a &&& 3) <<< 4) := (IntKind.wrap_u8 _).trans (Y_shl (a &&& 3) 4)
  have o0 : bits BinOp.or IntKind.u8 (Y ((a &&& 3) <<< 4)) (0) = Y ((a &&& 3) <<< 4) := by rw [show (0 : Int) = Y 0 from rfl, or8, UInt8.or_zero]
  have x0 := letter ((a &&& 3) <<< 4) (Tx.sh_of a).2.2.1
  have s0 : Y a / (4 : Int) = Y (a >>> 2) := Y_shr a 2
  have y0 := letter (a >>> 2) (Tx.sh_of a).1
  rw [← s0] at y0
  have hs : (convert 36 9 (.slice (some ⟨w.heap.size, 0, none⟩) 4 4)).run Tryd.prog (w.alloc (.cells #[.int .u8 ((Tx.al (a >>> 2)).toNat : Int), .int .u8 ((Tx.al ((a &&& 3) <<< 4)).toNat : Int), .int .u8 61, .int .u8 61] 53)) = .ok (.string ⟨#[Tx.al (a >>> 2), Tx.al ((a &&& 3) <<< 4), 61, 61]⟩) (w.alloc (.cells #[.int .u8 ((Tx.al (a >>> 2)).toNat : Int), .int .u8 ((Tx.al ((a &&& 3) <<< 4)).toNat : Int), .int .u8 61, .int .u8 61] 53)) :=
    stringOf (Blk.new w (Bs [Tx.al (a >>> 2), Tx.al ((a &&& 3) <<< 4), 61, 61]) 53) 4 rfl
  clear s0
  go_enter Tryd.func17, Tryd.ntmps17
  go_wp2
  go_ret
  exact ⟨rfl, (Below.refl _ _).alloc (Nat.le_refl _) _⟩

set_option maxRecDepth 100000 in
set_option maxHeartbeats 1000000 in
theorem fourOf2 (a b : UInt8) (w : World) :
    Calls Tryd.prog 17 #[.string ⟨#[a, b]⟩] w fun e w' => e = .returned (.string ⟨(Tx.four [a, b]).toArray⟩) ∧ Below w.heap.size w w' := by
  have j0 : (((⟨#[a, b]⟩ : ByteArray)[0]'(by show 0 < 2; omega)).toNat : Int) = Y a := rfl
  have j1 : (((⟨#[a, b]⟩ : ByteArray)[1]'(by show 1 < 2; omega)).toNat : Int) = Y b := rfl
  have k1 : bits BinOp.and IntKind.u8 (Y b) 15 = Y (b &&& 15) := and8 b 15
  have m1 : IntKind.u8.wrap (Y (b &&& 15) * 4) = Y ((b &&& 15) <<< 2) := (IntKind.wrap_u8 _).trans (Y_shl (b &&& 15) 2)
  have o1 : bits BinOp.or IntKind.u8 (Y ((b &&& 15) <<< 2)) (0) = Y ((b &&& 15) <<< 2) := by rw [show (0 : Int) = Y 0 from rfl, or8, UInt8.or_zero]
  have x1 := letter ((b &&& 15) <<< 2) ((Tx.sh_of b).2.2.2.1)
  have s1 : Y b / (16 : Int) = Y (b >>> 4) := Y_shr b 4
  have k0 : bits BinOp.and IntKind.u8 (Y a) 3 = Y (a &&& 3) := and8 a 3
  have m0 : IntKind.u8.wrap (Y (a &&& 3) * 16) = Y ((a &&& 3) <<< 4) := (IntKind.wrap_u8 _).trans (Y_shl (a &&& 3) 4)
  have o0 : bits BinOp.or IntKind.u8 (Y ((a &&& 3) <<< 4)) (Y b / (16 : Int)) = Y ((a &&& 3) <<< 4 ||| b >>> 4) := by rw [s1]; exact or8 _ _
  have x0 := letter ((a &&& 3) <<< 4 ||| b >>> 4) (Tx.or4_of a _ (Tx.sh_of b).2.2.2.2.1).1
  have s0 : Y a / (4 : Int) = Y (a >>> 2) := Y_shr a 2
  have y0 := letter (a >>> 2) (Tx.sh_of a).1
  rw [← s0] at y0
  have hs : (convert 36 9 (.slice (some ⟨w.heap.size, 0, none⟩) 4 4)).run Tryd.prog (w.alloc (.cells #[.int .u8 ((Tx.al (a >>> 2)).toNat : Int), .int .u8 ((Tx.al ((a &&& 3) <<< 4 ||| b >>> 4)).toNat : Int), .int .u8 ((Tx.al ((b &&& 15) <<< 2)).toNat : Int), .int .u8 61] 53)) = .ok (.string ⟨#[Tx.al (a >>> 2), Tx.al ((a &&& 3) <<< 4 ||| b >>> 4), Tx.al ((b &&& 15) <<< 2), 61]⟩) (w.alloc (.cells #[.int .u8 ((Tx.al (a >>> 2)).toNat : Int), .int .u8 ((Tx.al ((a &&& 3) <<< 4 ||| b >>> 4)).toNat : Int), .int .u8 ((Tx.al ((b &&& 15) <<< 2)).toNat : Int), .int .u8 61] 53)) :=
    stringOf (Blk.new w (Bs [Tx.al (a >>> 2), Tx.al ((a &&& 3) <<< 4 ||| b >>> 4), Tx.al ((b &&& 15) <<< 2), 61]) 53) 4 rfl
  clear s0 s1
  go_enter Tryd.func17, Tryd.ntmps17
  go_wp2
  go_ret
  exact ⟨rfl, (Below.refl _ _).alloc (Nat.le_refl _) _⟩

set_option maxRecDepth 100000 in
set_option maxHeartbeats 1000000 in
theorem fourOf3 (a b c : UInt8) (w : World) :
    Calls Tryd.prog 17 #[.string ⟨#[a, b, c]⟩] w fun e w' => e = .returned (.string ⟨(Tx.four [a, b, c]).toArray⟩) ∧ Below w.heap.size w w' := by
  have j0 : (((⟨#[a, b, c]⟩ : ByteArray)[0]'(by show 0 < 3; omega)).toNat : Int) = Y a := rfl
  have j1 : (((⟨#[a, b, c]⟩ : ByteArray)[1]'(by show 1 < 3; omega)).toNat : Int) = Y b := rfl
  have j2 : (((⟨#[a, b, c]⟩ : ByteArray)[2]'(by show 2 < 3; omega)).toNat : Int) = Y c := rfl
  have k2 : bits BinOp.and IntKind.u8 (Y c) 63 = Y (c &&& 63) := and8 c 63
  have x2 := letter (c &&& 63) (Tx.sh_of c).2.1
  have s2 : Y c / (64 : Int) = Y (c >>> 6) := Y_shr c 6
  have k1 : bits BinOp.and IntKind.u8 (Y b) 15 = Y (b &&& 15) := and8 b 15
  have m1 : IntKind.u8.wrap (Y (b &&& 15) * 4) = Y ((b &&& 15) <<< 2) := (IntKind.wrap_u8 _).trans (Y_shl (b &&& 15) 2)
  have o1 : bits BinOp.or IntKind.u8 (Y ((b &&& 15) <<< 2)) (Y c / (64 : Int)) = Y ((b &&& 15) <<< 2 ||| c >>> 6) := by rw [s2]; exact or8 _ _
  have x1 := letter ((b &&& 15) <<< 2 ||| c >>> 6) (Tx.or6_of b _ (Tx.sh_of c).2.2.2.2.2)
  have s1 : Y b / (16 : Int) = Y (b >>> 4) := Y_shr b 4
  have k0 : bits BinOp.and IntKind.u8 (Y a) 3 = Y (a &&& 3) := and8 a 3
  have m0 : IntKind.u8.wrap (Y (a &&& 3) * 16) = Y ((a &&& 3) <<< 4) := (IntKind.wrap_u8 _).trans (Y_shl (a &&& 3) 4)
  have o0 : bits BinOp.or IntKind.u8 (Y ((a &&& 3) <<< 4)) (Y b / (16 : Int)) = Y ((a &&& 3) <<< 4 ||| b >>> 4) := by rw [s1]; exact or8 _ _
  have x0 := letter ((a &&& 3) <<< 4 ||| b >>> 4) (Tx.or4_of a _ (Tx.sh_of b).2.2.2.2.1).1
  have s0 : Y a / (4 : Int) = Y (a >>> 2) := Y_shr a 2
  have y0 := letter (a >>> 2) (Tx.sh_of a).1
  rw [← s0] at y0
  have hs : (convert 36 9 (.slice (some ⟨w.heap.size, 0, none⟩) 4 4)).run Tryd.prog (w.alloc (.cells #[.int .u8 ((Tx.al (a >>> 2)).toNat : Int), .int .u8 ((Tx.al ((a &&& 3) <<< 4 ||| b >>> 4)).toNat : Int), .int .u8 ((Tx.al ((b &&& 15) <<< 2 ||| c >>> 6)).toNat : Int), .int .u8 ((Tx.al (c &&& 63)).toNat : Int)] 53)) = .ok (.string ⟨#[Tx.al (a >>> 2), Tx.al ((a &&& 3) <<< 4 ||| b >>> 4), Tx.al ((b &&& 15) <<< 2 ||| c >>> 6), Tx.al (c &&& 63)]⟩) (w.alloc (.cells #[.int .u8 ((Tx.al (a >>> 2)).toNat : Int), .int .u8 ((Tx.al ((a &&& 3) <<< 4 ||| b >>> 4)).toNat : Int), .int .u8 ((Tx.al ((b &&& 15) <<< 2 ||| c >>> 6)).toNat : Int), .int .u8 ((Tx.al (c &&& 63)).toNat : Int)] 53)) :=
    stringOf (Blk.new w (Bs [Tx.al (a >>> 2), Tx.al ((a &&& 3) <<< 4 ||| b >>> 4), Tx.al ((b &&& 15) <<< 2 ||| c >>> 6), Tx.al (c &&& 63)]) 53) 4 rfl
  clear s0 s1 s2
  go_enter Tryd.func17, Tryd.ntmps17
  go_wp2
  go_ret
  exact ⟨rfl, (Below.refl _ _).alloc (Nat.le_refl _) _⟩

/-- fourOf of one, two or three bytes -/
theorem fourOf_any (s : ByteArray) (w : World) (h1 : 1 ≤ s.size) (h3 : s.size ≤ 3) :
    Calls Tryd.prog 17 #[.string s] w fun e w' => e = .returned (.string ⟨(Tx.four s.data.toList).toArray⟩) ∧ Below w.heap.size w w' := by
  obtain ⟨⟨l⟩⟩ := s
  have hl : (ByteArray.mk ⟨l⟩).size = l.length := rfl
  rw [hl] at h1 h3
  match l, h1, h3 with
  | [a], _, _ => exact fourOf1 a w
  | [a, b], _, _ => exact fourOf2 a b w
  | [a, b, c], _, _ => exact fourOf3 a b c w
  | a :: b :: c :: d :: r, _, h3 => simp only [List.length_cons] at h3; omega

end Go.Proofs.YtclpbaokadfhhabDoor
