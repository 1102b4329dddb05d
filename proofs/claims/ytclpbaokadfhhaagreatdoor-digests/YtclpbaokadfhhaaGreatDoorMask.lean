/- Contract of mask. -/
import Derived.Test.YtclpbaokadfhhaaGreatDoorOf
namespace Go.Proofs.YtclpbaokadfhhaaGreatDoor
open Go.RowKit

/-- the first k bytes xored -/
def Sha.maskTo (l : List UInt8) (c : UInt8) (k : Nat) : List UInt8 := (l.take k).map (· ^^^ c) ++ l.drop k
theorem Sha.maskTo_length (l : List UInt8) (c : UInt8) (k : Nat) : (Sha.maskTo l c k).length = l.length := by
  simp [Sha.maskTo]; omega
theorem Sha.maskTo_at (l : List UInt8) (c : UInt8) (k : Nat) (h : k < l.length) : (Sha.maskTo l c k).getD k 0 = l.getD k 0 := by
  have hm : min k l.length = k := by omega
  simp [Sha.maskTo, List.getD, List.getElem?_append, hm]
theorem Sha.maskTo_set (l : List UInt8) (c : UInt8) (k : Nat) (h : k < l.length) : (Sha.maskTo l c k).set k (l.getD k 0 ^^^ c) = Sha.maskTo l c (k + 1) := by
  have hm : min k l.length = k := by omega
  have hl : ((l.take k).map (· ^^^ c)).length = k := by simp [hm]
  have e1 : (l.take (k + 1)).map (· ^^^ c) = (l.take k).map (· ^^^ c) ++ [l[k] ^^^ c] := by rw [List.take_succ_eq_append_getElem h, List.map_append]; rfl
  have e2 : l.getD k 0 = l[k] := by simp [List.getD, List.getElem?_eq_getElem h]
  unfold Sha.maskTo
  rw [e1, e2, List.append_assoc, List.set_append, if_neg (by omega), hl, Nat.sub_self, List.drop_eq_getElem_cons h]
  rfl

theorem zero128 (w : World) : Sem.run Tryz.prog (zeroValue 219) w = .ok (.agg (Bs (zeros 128))) w := by kernel_rfl

/-- a key of at most 128 bytes, bytes 0 behind it, each xored -/
def Sha.mask (l : List UInt8) (c : UInt8) : List UInt8 := Sha.maskTo (l ++ zeros (128 - l.length)) c 128

set_option maxRecDepth 100000 in
set_option maxHeartbeats 1000000 in
theorem mask_any (s : ByteArray) (c : Int) (C : UInt8) (hc : c = (C.toNat : Int)) (w : World) (hs : s.size ≤ 128) :
    Calls Tryz.prog 187 #[.string s, .int .u8 c] w fun e w' => e = .returned (.string ⟨(Sha.mask s.data.toList C).toArray⟩) ∧ Below w.heap.size w w' := by
  have hlen : s.data.toList.length = s.size := by simp
  have hL : (s.data.toList ++ zeros (128 - s.size)).length = 128 := by simp [zeros_length]; omega
  have hz := zero128
  have hcp := Lib.run_copy_row_string (P := Tryz.prog) (w.alloc (.cells (Bs (zeros 128)) 219)) 55 9 3 5 w.heap.size 0 128 128 s (Bs (zeros 128)) 219 Tryz.underlying55 Tryz.infoByte1 (heap_alloc_new w _) (by omega) (by rw [Bs_size, zeros_length]; omega)
  rw [copied s 128, World.setRow_alloc_new] at hcp
  have HM : Hid (Sha.mask s.data.toList C = Sha.maskTo (s.data.toList ++ zeros (128 - s.size)) C 128) := by unfold Sha.mask; rw [hlen]; rfl
  generalize s.data.toList ++ zeros (128 - s.size) = L0 at hcp hL HM
  generalize Sha.mask s.data.toList C = M at HM ⊢
  have hb := Blk.new w (Bs L0) 219
  have hbel : Below w.heap.size w (w.alloc (.cells (Bs L0) 219)) := (Below.refl _ _).alloc (Nat.le_refl _) _
  subst hc
  go_enter Tryz.func187, Tryz.ntmps187
  go_wp2
  generalize w.alloc (.cells (Bs L0) 219) = w1 at hb hbel ⊢
  go_loopw [10] (fun i wr => ∃ k : Nat, k ≤ 128 ∧ i = .int .i64 k ∧ Blk wr w.heap.size (Bs (Sha.maskTo L0 C k)) 219 ∧ Below w.heap.size w wr) (fun i _ => 128 - (intOf i).toNat)
  case atStart => exact ⟨0, by omega, rfl, hb, hbel⟩
  case round =>
    clear hb hbel
    obtain ⟨k, hk, rfl, hb, hbel⟩ := hrel
    by_cases hlt : k < 128
    · have hc := hb.cell k
      rw [Bs_at _ _ (by rw [Sha.maskTo_length]; omega), Sha.maskTo_at _ _ _ (by omega)] at hc
      have hf := hb.frozen k
      have i0 : (k : Int) < 128 := by omega
      generalize hx : L0.getD k 0 = x at hc
      have HX : Hid _ := hx
      clear hx
      go_wp2
      go_roundw
      case rel =>
        refine ⟨k + 1, by omega, by go_num, ?_, hbel.setCell (Nat.le_refl _) _⟩
        rw [hb.set, xor_byte, Bs_set, ← show L0.getD k 0 = x from HX.out, Sha.maskTo_set _ _ _ (by omega)]; exact hb.row _
      case measure => simp [intOf]; omega
    · have hk8 : k = 128 := by omega
      subst hk8
      have hso := stringOf (cap := 128) hb 128 (by rw [Sha.maskTo_length, hL])
      go_wp2
      go_ret
      exact ⟨by rw [show M = _ from HM.out]; rfl, hbel⟩

end Go.Proofs.YtclpbaokadfhhaaGreatDoor
