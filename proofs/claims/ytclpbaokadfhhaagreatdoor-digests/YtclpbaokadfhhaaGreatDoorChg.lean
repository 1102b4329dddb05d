/- Contract of agree's Changed. -/
import Derived.Test.YtclpbaokadfhhaaGreatDoorOwn
namespace Go.Proofs.YtclpbaokadfhhaaGreatDoor
open Go.RowKit

theorem and_byte (x y : UInt8) : bits BinOp.and IntKind.u8 (x.toNat : Int) (y.toNat : Int) = ((x &&& y).toNat : Int) := by
  show IntKind.u8.wrap ((BitVec.ofInt 8 (x.toNat : Int) &&& BitVec.ofInt 8 (y.toNat : Int)).toNat : Int) = _
  rw [BitVec.ofInt_natCast, BitVec.ofInt_natCast, BitVec.toNat_and, UInt8.toNat_and]
  have h1 := x.toNat_lt
  have h2 := y.toNat_lt
  have h3 := (x &&& y).toNat_lt
  rw [UInt8.toNat_and] at h3
  simp only [BitVec.toNat_ofNat]
  rw [Nat.mod_eq_of_lt (by omega), Nat.mod_eq_of_lt (by omega), IntKind.wrap_u8]
  omega
theorem or_byte (x y : UInt8) : bits BinOp.or IntKind.u8 (x.toNat : Int) (y.toNat : Int) = ((x ||| y).toNat : Int) := by
  show IntKind.u8.wrap ((BitVec.ofInt 8 (x.toNat : Int) ||| BitVec.ofInt 8 (y.toNat : Int)).toNat : Int) = _
  rw [BitVec.ofInt_natCast, BitVec.ofInt_natCast, BitVec.toNat_or, UInt8.toNat_or]
  have h1 := x.toNat_lt
  have h2 := y.toNat_lt
  have h3 := (x ||| y).toNat_lt
  rw [UInt8.toNat_or] at h3
  simp only [BitVec.toNat_ofNat]
  rw [Nat.mod_eq_of_lt (by omega), Nat.mod_eq_of_lt (by omega), IntKind.wrap_u8]
  omega

/-- a secret with the bits that all have in common -/
def changed (l : List UInt8) : List UInt8 := (l.set 0 (l.getD 0 0 &&& 248)).set 31 ((l.getD 31 0 &&& 63) ||| 64)
theorem changed_length (l : List UInt8) : (changed l).length = l.length := by simp [changed]

set_option maxRecDepth 100000 in
set_option maxHeartbeats 2000000 in
theorem Changed_any (s : ByteArray) (w : World) (hs : s.size = 32) :
    Calls Tryz.prog 108 #[.string s] w fun e w' => e = .returned (.string ⟨(changed s.data.toList).toArray⟩) ∧ Below w.heap.size w w' := by
  obtain ⟨cap, w3, hcv, ho, b3⟩ := bytesOf s w.heap.size w (Nat.le_refl _)
  replace ho := ho.at
  have hlen : s.data.toList.length = 32 := by rw [← hs]; simp
  rw [hs] at hcv
  generalize hL : s.data.toList = l at ho hlen
  replace hL : Hid (s.data.toList = l) := hL
  have c0 := ho.cell 0 (by omega)
  have f0 := ho.frozen 0 (by omega)
  have o1 := ho.set 0 (l.getD 0 0 &&& 248)
  have hl1 : (l.set 0 (l.getD 0 0 &&& 248)).length = 32 := by simp [hlen]
  have c31 := o1.cell 31 (by omega)
  have e31 : (l.set 0 (l.getD 0 0 &&& 248)).getD 31 0 = l.getD 31 0 := by simp [List.getD]
  rw [e31] at c31
  have f31 := o1.frozen 31 (by omega)
  have o2 := o1.set 31 ((l.getD 31 0 &&& 63) ||| 64)
  have a0 : bits BinOp.and IntKind.u8 ((l.getD 0 0).toNat : Int) 248 = ((l.getD 0 0 &&& 248).toNat : Int) := and_byte _ 248
  have a1 : bits BinOp.and IntKind.u8 ((l.getD 31 0).toNat : Int) 63 = ((l.getD 31 0 &&& 63).toNat : Int) := and_byte _ 63
  have a2 : bits BinOp.or IntKind.u8 ((l.getD 31 0 &&& 63).toNat : Int) 64 = (((l.getD 31 0 &&& 63) ||| 64).toNat : Int) := or_byte _ 64
  have hres : (l.set 0 (l.getD 0 0 &&& 248)).set 31 ((l.getD 31 0 &&& 63) ||| 64) = changed l := rfl
  rw [hres] at o2
  generalize l.getD 0 0 &&& 248 = y0 at *
  generalize l.getD 31 0 &&& 63 = y1 at *
  generalize y1 ||| 64 = y2 at *
  generalize l.getD 0 0 = x0 at *
  generalize l.getD 31 0 = x1 at *
  have hso := stringOfOwn (n := 32) o2 (by rw [changed_length, hlen])
  have bel : Below w.heap.size w ((w3.setCell ⟨w.heap.size, 0, none⟩ (.int .u8 (y0.toNat : Int))).setCell ⟨w.heap.size, 31, none⟩ (.int .u8 (y2.toNat : Int))) := (b3.setCell (p := ⟨w.heap.size, 0, none⟩) (Nat.le_refl _) _).setCell (p := ⟨w.heap.size, 31, none⟩) (Nat.le_refl _) _
  clear hres ho o1 o2
  go_enter Tryz.func108, Tryz.ntmps108
  go_wp2
  go_ret
  exact ⟨rfl, bel⟩

end Go.Proofs.YtclpbaokadfhhaaGreatDoor
