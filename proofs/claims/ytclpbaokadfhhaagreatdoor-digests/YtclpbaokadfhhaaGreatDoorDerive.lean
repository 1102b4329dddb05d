/- Contract of digest.Derive. -/
import Derived.Test.YtclpbaokadfhhaaGreatDoorMac
import Derived.Lib.AppendStr
namespace Go.Proofs.YtclpbaokadfhhaaGreatDoor
open Go.RowKit

/-- piece i: piece 0 is empty -/
def Sha.piece (K : Nat → BitVec 64) (by_ purpose : ByteArray) : Nat → ByteArray
  | 0 => ⟨#[]⟩
  | i + 1 => Sha.MacB K by_ (Sha.piece K by_ purpose i ++ purpose ++ ⟨#[UInt8.ofNat (i + 1)]⟩)
/-- the pieces 1 to i, one behind the other -/
def Sha.str (K : Nat → BitVec 64) (by_ purpose : ByteArray) : Nat → List UInt8
  | 0 => []
  | i + 1 => Sha.str K by_ purpose i ++ (Sha.piece K by_ purpose (i + 1)).data.toList
theorem Sha.str_length (K : Nat → BitVec 64) (b p : ByteArray) (i : Nat) : (Sha.str K b p i).length = 64 * i := by
  induction i with
  | zero => rfl
  | succ i ih =>
    have : (Sha.piece K b p (i + 1)).data.toList.length = 64 := by
      have := Sha.MacB_size K b (Sha.piece K b p i ++ p ++ ⟨#[UInt8.ofNat (i + 1)]⟩)
      simpa [Sha.piece] using this
    simp only [Sha.str, List.length_append, ih, this]; omega

theorem makeRoom (n : Nat) (h : n ≤ 281474976710656) (w : World) :
    (Instr.makeSlice 55 (.int .i64 0) (.int .i64 (n : Int))).run Tryz.prog w = .ok (.slice (some ⟨w.heap.size, 0, none⟩) 0 n) (w.alloc (.cells (Bs (zeros n)) 5)) := by
  obtain ⟨i, hi, hzz⟩ := Option.map_eq_some_iff.1 Tryz.infoByte
  simp only [Prod.mk.injEq] at hzz
  obtain ⟨hz, hs, hb⟩ := hzz
  have := run_make (P := Tryz.prog) w 55 5 i _ Tryz.underlying55 hi hz .i64 .i64 0 n (by omega) (by omega) (by rw [hb]; omega) (by omega)
  rw [this, hs, ← made_zeros]
  simp [Value.cells]

/-- the row of n bytes behind i pieces -/
def Sha.drow (K : Nat → BitVec 64) (b p : ByteArray) (n i : Nat) : List UInt8 := (Sha.str K b p i).take n ++ zeros (n - 64 * i)
theorem Sha.drow_length (K : Nat → BitVec 64) (b p : ByteArray) (n i : Nat) : (Sha.drow K b p n i).length = n := by
  simp [Sha.drow, Sha.str_length, zeros_length]; omega

theorem Sha.piece_size (K : Nat → BitVec 64) (b p : ByteArray) (i : Nat) : (Sha.piece K b p i).size ≤ 64 := by
  cases i with
  | zero => exact Nat.zero_le _
  | succ i => rw [Sha.piece, Sha.MacB_size]; omega
theorem Sha.piece_size1 (K : Nat → BitVec 64) (b p : ByteArray) (i : Nat) : (Sha.piece K b p (i + 1)).size = 64 := by
  rw [Sha.piece, Sha.MacB_size]
theorem oneByte (i : Nat) (h : i < 255) : (#[Value.int .u8 ((i : Int) + 1)] : Array Value) = Bs [UInt8.ofNat (i + 1)] := by
  have : ((i + 1) % 256) = i + 1 := by omega
  simp [Bs, this]
/-- bytes stored into the middle of a row, as the walk opens an append with room -/
theorem storeMid {w : World} {g m c t : Nat} {l : List UInt8} (hb : Blk w g (Bs l) t) (p : List UInt8) (hc : c ≤ p.length) (hroom : m + c ≤ l.length) :
    (storeCells ⟨g, m, none⟩ (List.take c (List.map (fun b : UInt8 => Value.int IntKind.u8 (b.toNat : Int)) p))).run Tryz.prog w = .ok () (w.setRow g (Bs (l.take m ++ p.take c ++ l.drop (m + c)))) := by
  have hl : (List.take c (List.map (fun b : UInt8 => Value.int IntKind.u8 (b.toNat : Int)) p)).length = c := by simp; omega
  have := run_storeCells_at Tryz.prog g m t (List.take c (List.map (fun b : UInt8 => Value.int IntKind.u8 (b.toNat : Int)) p)) 0 (Bs l) w hb (by rw [hl, Bs_size]; omega) (by
    intro v hv
    have := List.mem_of_mem_take hv
    simp only [List.mem_map] at this
    obtain ⟨x, _, rfl⟩ := this
    rfl)
  rw [this, hl]
  congr 2
  simp [Bs, List.map_take, List.map_drop]

theorem Sha.drow_next (K : Nat → BitVec 64) (b p P1 : ByteArray) (n i c : Nat) (hc : c = min 64 (n - 64 * i)) (hi : 64 * i < n) (h1 : P1.size = 64) (hs : Sha.str K b p (i + 1) = Sha.str K b p i ++ P1.data.toList) :
    (Sha.drow K b p n i).take (64 * i) ++ P1.data.toList.take c ++ (Sha.drow K b p n i).drop (64 * i + c) = Sha.drow K b p n (i + 1) := by
  have hl := Sha.str_length K b p i
  have hp : P1.data.toList.length = 64 := by simpa using h1
  have e2 : List.take n (Sha.str K b p i) = Sha.str K b p i := List.take_of_length_le (by omega)
  have e3 : List.take c P1.data.toList = List.take (n - 64 * i) P1.data.toList := by
    by_cases h : n - 64 * i ≤ 64
    · rw [hc, Nat.min_eq_right h]
    · rw [hc, Nat.min_eq_left (by omega), List.take_of_length_le (by omega), List.take_of_length_le (by omega)]
  unfold Sha.drow
  rw [hs, e2, e3, List.take_append_of_le_length (by omega), List.take_of_length_le (by omega), List.take_append, e2, hl, List.drop_append, List.drop_of_length_le (by omega), List.nil_append, hl]
  congr 1
  unfold zeros
  rw [List.drop_replicate]
  congr 1
  omega
theorem Sha.str_prefix (K : Nat → BitVec 64) (b p : ByteArray) (i d : Nat) : (Sha.str K b p (i + d)).take (64 * i) = Sha.str K b p i := by
  induction d with
  | zero => exact List.take_of_length_le (by rw [Sha.str_length]; omega)
  | succ d ih => rw [← Nat.add_assoc, Sha.str, List.take_append_of_le_length (by rw [Sha.str_length]; omega), ih]
theorem Sha.drow_end (K : Nat → BitVec 64) (b p : ByteArray) (n i : Nat) (hi : i ≤ 16) (hn : n ≤ 64 * i) : Sha.drow K b p n i = (Sha.str K b p 16).take n := by
  have h := Sha.str_prefix K b p i (16 - i)
  rw [show i + (16 - i) = 16 by omega] at h
  unfold Sha.drow
  rw [← h, List.take_take, Nat.min_eq_left hn, show n - 64 * i = 0 by omega]
  simp [zeros]

set_option maxRecDepth 100000 in
set_option maxHeartbeats 1000000 in
theorem derive_any (K : Nat → BitVec 64) (secret salt purpose : ByteArray) (n : Nat) (w : World) (h1 : secret.size ≤ 100000) (h2 : salt.size ≤ 100000) (h3 : purpose.size ≤ 100000) (hn : n ≤ 1000) (hK : Tab K w) :
    Calls Tryz.prog 59 #[.string secret, .string salt, .string purpose, .int .i64 n] w fun e w' => e = .returned (.string ⟨((Sha.str K (Sha.MacB K salt secret) purpose 16).take n).toArray⟩) ∧ Below w.heap.size w w' := by
  have hmk := makeRoom n (by omega)
  have hmac := (mac_any K salt secret w (by omega) (by omega) hK)
  have hB := Sha.MacB_size K salt secret
  generalize Sha.MacB K salt secret = B0 at hmac hB ⊢
  have HMAC : Hid (Calls Tryz.prog 126 #[.string salt, .string secret] w fun e w' => e = .returned (.string B0) ∧ Below w.heap.size w w') := hmac
  clear hmac
  go_enter Tryz.func59, Tryz.ntmps59
  go_wp2_with fail
  refine HMAC.out.mono ?_
  rintro e w1 ⟨rfl, hb1⟩
  have hb := Blk.new w1 (Bs (zeros n)) 5
  have hbel : Below w.heap.size w (w1.alloc (.cells (Bs (zeros n)) 5)) := hb1.alloc hb1.size _
  have hD := hb1.size
  go_wp2_with fail
  generalize w1.alloc (.cells (Bs (zeros n)) 5) = w2 at hb hbel ⊢
  generalize w1.heap.size = D0 at hb hD ⊢
  go_loopw [10, 11, 12] (fun d p q wr => ∃ i m : Nat, Hid (m = min (64 * i) n) ∧ i ≤ 16 ∧ m ≤ n ∧ d = .slice (some ⟨D0, 0, none⟩) m n ∧ p = .string (Sha.piece K B0 purpose i) ∧ q = .int .u8 ((i : Int) + 1) ∧ Blk wr D0 (Bs (Sha.drow K B0 purpose n i)) 5 ∧ Below w.heap.size w wr) (fun d _ _ _ => n - sliceLen d)
  case atStart => exact ⟨0, 0, (by show _ = _; omega), by omega, by omega, rfl, rfl, rfl, (by rw [show Sha.drow K B0 purpose n 0 = zeros n by simp [Sha.drow, Sha.str]]; exact hb), hbel⟩
  case round =>
    clear hb hbel
    obtain ⟨i, m, HM, hi, hmn, rfl, rfl, rfl, hb, hbel⟩ := hrel
    by_cases hlt : m < n
    · have hm : m = 64 * i := by have := HM.out; omega
      have hi16 : i < 16 := by omega
      have i0 : (m : Int) < n := by omega
      subst hm
      have hps := Sha.piece_size K B0 purpose i
      have hone := oneByte i (by omega)
      have hcv := stringOf (cap := 1) (Blk.new wr (Bs [UInt8.ofNat (i + 1)]) 5) 1 rfl
      rw [← hone] at hcv
      clear hone
      have HP : Hid (Sha.piece K B0 purpose (i + 1) = Sha.MacB K B0 (Sha.piece K B0 purpose i ++ purpose ++ ⟨[UInt8.ofNat (i + 1)].toArray⟩)) := rfl
      have hcb : ([UInt8.ofNat (i + 1)].toArray).size ≤ 1 := by simp
      generalize [UInt8.ofNat (i + 1)].toArray = cb at hcv HP hcb
      have hcb' : (⟨cb⟩ : ByteArray).size ≤ 1 := hcb
      have e1 : (Sha.piece K B0 purpose i ++ purpose).size ≤ 100064 := by rw [ByteArray.size_append]; omega
      go_wp2_with fail
      have hbw : Below w.heap.size w (wr.alloc (.cells #[.int .u8 ((i : Int) + 1)] 5)) := hbel.alloc hbel.size _
      refine (mac_any K _ _ _ (by omega) (by rw [ByteArray.size_append]; omega) (hK.below hbw)).mono ?_
      rintro e w3 ⟨rfl, hb3⟩
      have hP1 := Sha.piece_size1 K B0 purpose i
      rw [← show Sha.piece K B0 purpose (i + 1) = _ from HP.out]
      have hbD : Blk w3 D0 (Bs (Sha.drow K B0 purpose n i)) 5 := (hb.alloc _).keep hb3
      have hb5 := hbw.trans (hb3.mono hbw.size)
      have HQ : Hid (Sha.str K B0 purpose (i + 1) = Sha.str K B0 purpose i ++ (Sha.piece K B0 purpose (i + 1)).data.toList) := rfl
      generalize hPP : Sha.piece K B0 purpose (i + 1) = P1 at hP1 HQ ⊢
      have HPP : Hid _ := hPP
      clear hPP
      obtain ⟨c, hc⟩ : ∃ c, c = min 64 (n - 64 * i) := ⟨_, rfl⟩
      have q1 : (min 64 ((n : Int) - 64 * (i : Int))).toNat = c := by omega
      have q2 : min c 64 = c := by omega
      have q3 : c ≤ 64 := by omega
      have q4 : 64 * i + c ≤ n := by omega
      have HC : Hid _ := hc
      clear hc
      have hst := storeMid (c := c) (m := 64 * i) hbD P1.data.toList (by simp; omega) (by rw [Sha.drow_length]; omega)
      rw [Sha.drow_next K B0 purpose P1 n i c HC.out (by omega) hP1 HQ.out] at hst
      go_wp2
      go_roundw
      case rel =>
        refine ⟨i + 1, 64 * i + c, ?_, by omega, by omega, rfl, ?_, ?_, hbD.row _, below_setRow hb5 (by omega) _⟩
        · have := HC.out; show _ = _; omega
        · rw [show Sha.piece K B0 purpose (i + 1) = P1 from HPP.out]
        · go_num
      case measure => simp [sliceLen]; have := HC.out; omega
    · have hmn' : m = n := by omega
      subst hmn'
      have hcv := stringOf (cap := m) hb m (Sha.drow_length K B0 purpose m i).symm
      rw [Sha.drow_end K B0 purpose m i hi (by have := HM.out; omega)] at hcv
      go_wp2
      go_ret
      exact ⟨rfl, hbel⟩

end Go.Proofs.YtclpbaokadfhhaaGreatDoor
