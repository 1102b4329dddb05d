/- Several texts as one: Mask, Mac, Derive, Calls, CallD. -/
import Derived.Test.YtclpbaokadfhhaaGreatDoorOf
import Derived.Lib.AppendStr
import Derived.Test.YtclpbaokadfhhaaGreatDoorXl
namespace Go.Proofs.YtclpbaokadfhhaaGreatDoor
open Go.RowKit

/-- the first k bytes xored -/
def Sha.maskTo (l : List UInt8) (c : UInt8) (k : Nat) : List UInt8 := (l.take k).map (· ^^^ c) ++ l.drop k
theorem Sha.maskTo_length (l : List UInt8) (c : UInt8) (k : Nat) : (Sha.maskTo l c k).length = l.length := by
  simp [Sha.maskTo]; omega
theorem Sha.maskTo_at (l : List UInt8) (c : UInt8) (k : Nat) (h : k < l.length) : (Sha.maskTo l c k).getD k 0 = l.getD k 0 := by
  have hm : min k l.length = k := by omega
  simp [Sha.maskTo, List.getD, List.getElem?_append, hm]
theorem Sha.maskTo_set (l : List UInt8) (c : UInt8) (k : Nat) (h : k < l.length) : (Sha.maskTo l c k).set k (l.getD k 0 ^^^ c) = Sha.maskTo l c (k + 1) := by
  have hm : min k l.length = k := by omega
  have hl : ((l.take k).map (· ^^^ c)).length = k := by simp [hm]
  have e1 : (l.take (k + 1)).map (· ^^^ c) = (l.take k).map (· ^^^ c) ++ [l[k] ^^^ c] := by rw [List.take_succ_eq_append_getElem h, List.map_append]; rfl
  have e2 : l.getD k 0 = l[k] := by simp [List.getD, List.getElem?_eq_getElem h]
  unfold Sha.maskTo
  rw [e1, e2, List.append_assoc, List.set_append, if_neg (by omega), hl, Nat.sub_self, List.drop_eq_getElem_cons h]
  rfl

theorem zero128 (w : World) : Sem.run Tryz.prog (zeroValue 219) w = .ok (.agg (Bs (zeros 128))) w := by kernel_rfl

/-- a key of at most 128 bytes, bytes 0 behind it, each xored -/
def Sha.mask (l : List UInt8) (c : UInt8) : List UInt8 := Sha.maskTo (l ++ zeros (128 - l.length)) c 128

set_option maxRecDepth 100000 in
set_option maxHeartbeats 1000000 in
theorem mask_any (s : ByteArray) (c : Int) (C : UInt8) (hc : c = (C.toNat : Int)) (w : World) (hs : s.size ≤ 128) :
    Calls Tryz.prog 187 #[.string s, .int .u8 c] w fun e w' => e = .returned (.string ⟨(Sha.mask s.data.toList C).toArray⟩) ∧ Below w.heap.size w w' := by
  have hlen : s.data.toList.length = s.size := by simp
  have hL : (s.data.toList ++ zeros (128 - s.size)).length = 128 := by simp [zeros_length]; omega
  have hz := zero128
  have hcp := Lib.run_copy_row_string (P := Tryz.prog) (w.alloc (.cells (Bs (zeros 128)) 219)) 55 9 3 5 w.heap.size 0 128 128 s (Bs (zeros 128)) 219 Tryz.underlying55 Tryz.infoByte1 (heap_alloc_new w _) (by omega) (by rw [Bs_size, zeros_length]; omega)
  rw [copied s 128, World.setRow_alloc_new] at hcp
  have HM : Hid (Sha.mask s.data.toList C = Sha.maskTo (s.data.toList ++ zeros (128 - s.size)) C 128) := by unfold Sha.mask; rw [hlen]; rfl
  generalize s.data.toList ++ zeros (128 - s.size) = L0 at hcp hL HM
  generalize Sha.mask s.data.toList C = M at HM ⊢
  have hb := Blk.new w (Bs L0) 219
  have hbel : Below w.heap.size w (w.alloc (.cells (Bs L0) 219)) := (Below.refl _ _).alloc (Nat.le_refl _) _
  subst hc
  go_enter Tryz.func187, Tryz.ntmps187
  go_wp2
  generalize w.alloc (.cells (Bs L0) 219) = w1 at hb hbel ⊢
  go_loopw [10] (fun i wr => ∃ k : Nat, k ≤ 128 ∧ i = .int .i64 k ∧ Blk wr w.heap.size (Bs (Sha.maskTo L0 C k)) 219 ∧ Below w.heap.size w wr) (fun i _ => 128 - (intOf i).toNat)
  case atStart => exact ⟨0, by omega, rfl, hb, hbel⟩
  case round =>
    clear hb hbel
    obtain ⟨k, hk, rfl, hb, hbel⟩ := hrel
    by_cases hlt : k < 128
    · have hc := hb.cell k
      rw [Bs_at _ _ (by rw [Sha.maskTo_length]; omega), Sha.maskTo_at _ _ _ (by omega)] at hc
      have hf := hb.frozen k
      have i0 : (k : Int) < 128 := by omega
      generalize hx : L0.getD k 0 = x at hc
      have HX : Hid _ := hx
      clear hx
      go_wp2
      go_roundw
      case rel =>
        refine ⟨k + 1, by omega, by go_num, ?_, hbel.setCell (Nat.le_refl _) _⟩
        rw [hb.set, xor_byte, Bs_set, ← show L0.getD k 0 = x from HX.out, Sha.maskTo_set _ _ _ (by omega)]; exact hb.row _
      case measure => simp [intOf]; omega
    · have hk8 : k = 128 := by omega
      subst hk8
      have hso := stringOf (cap := 128) hb 128 (by rw [Sha.maskTo_length, hL])
      go_wp2
      go_ret
      exact ⟨by rw [show M = _ from HM.out]; rfl, hbel⟩

end Go.Proofs.YtclpbaokadfhhaaGreatDoor

namespace Go.Proofs.YtclpbaokadfhhaaGreatDoor
open Go.RowKit

def Sha.OfB (K : Nat → BitVec 64) (s : ByteArray) : ByteArray := ⟨(Sha.digest K s.data.toList).toArray⟩
def Sha.MaskB (s : ByteArray) (c : UInt8) : ByteArray := ⟨(Sha.mask s.data.toList c).toArray⟩
theorem Sha.OfB_size (K : Nat → BitVec 64) (s : ByteArray) : (Sha.OfB K s).size = 64 := by
  show (Sha.digest K s.data.toList).toArray.size = 64
  simp [Sha.digest, Sha.tellTo_length]
theorem Sha.MaskB_size (s : ByteArray) (c : UInt8) (h : s.size ≤ 128) : (Sha.MaskB s c).size = 128 := by
  have : s.data.toList.length = s.size := by simp
  show (Sha.mask s.data.toList c).toArray.size = 128
  simp [Sha.mask, Sha.maskTo_length, zeros_length]; omega
theorem of_b (K : Nat → BitVec 64) (s : ByteArray) (w : World) (hs : s.size ≤ 140737488351232) (hK : Tab K w) :
    Calls Tryz.prog 113 #[.string s] w fun e w' => e = .returned (.string (Sha.OfB K s)) ∧ Below w.heap.size w w' := of_any K s w hs hK
theorem mask_b (s : ByteArray) (c : Int) (C : UInt8) (hc : c = (C.toNat : Int)) (w : World) (hs : s.size ≤ 128) :
    Calls Tryz.prog 187 #[.string s, .int .u8 c] w fun e w' => e = .returned (.string (Sha.MaskB s C)) ∧ Below w.heap.size w w' := mask_any s c C hc w hs

/-- the mac by a key of at most 128 bytes -/
def Sha.MacK (K : Nat → BitVec 64) (key data : ByteArray) : ByteArray := Sha.OfB K (Sha.MaskB key 92 ++ Sha.OfB K (Sha.MaskB key 54 ++ data))
def Sha.KeyB (K : Nat → BitVec 64) (key : ByteArray) : ByteArray := if 128 < key.size then Sha.OfB K key else key
def Sha.MacB (K : Nat → BitVec 64) (key data : ByteArray) : ByteArray := Sha.MacK K (Sha.KeyB K key) data
theorem Sha.MacB_size (K : Nat → BitVec 64) (key data : ByteArray) : (Sha.MacB K key data).size = 64 := Sha.OfB_size _ _
theorem Sha.KeyB_size (K : Nat → BitVec 64) (key : ByteArray) : (Sha.KeyB K key).size ≤ 128 := by
  unfold Sha.KeyB; split
  · rw [Sha.OfB_size]; omega
  · omega

set_option maxRecDepth 100000 in
set_option maxHeartbeats 1000000 in
theorem mac_any (K : Nat → BitVec 64) (key data : ByteArray) (w : World) (hk : key.size ≤ 1000000) (hd : data.size ≤ 1000000) (hK : Tab K w) :
    Calls Tryz.prog 126 #[.string key, .string data] w fun e w' => e = .returned (.string (Sha.MacB K key data)) ∧ Below w.heap.size w w' := by
  have hmk := Sha.KeyB_size K key
  by_cases hlong : 128 < key.size
  · have hkey : Sha.KeyB K key = Sha.OfB K key := by unfold Sha.KeyB; rw [if_pos hlong]
    unfold Sha.MacB
    rw [hkey] at hmk ⊢
    clear hkey
    have e92 := Sha.MaskB_size (Sha.OfB K key) 92 hmk
    have e54 := Sha.MaskB_size (Sha.OfB K key) 54 hmk
    have e64 := Sha.OfB_size K (Sha.MaskB (Sha.OfB K key) 54 ++ data)
    have hL : (128 : Int) < key.size := by omega
    go_enter Tryz.func126, Tryz.ntmps126
    go_wp2_with fail
    refine (of_b K key _ (by omega) hK).mono ?_
    rintro e w1 ⟨rfl, hb1⟩
    go_wp2_with fail
    refine (mask_b _ _ 92 rfl _ hmk).mono ?_
    rintro e w2 ⟨rfl, hb2⟩
    go_wp2_with fail
    refine (mask_b _ _ 54 rfl _ hmk).mono ?_
    rintro e w3 ⟨rfl, hb3⟩
    have hb13 := (hb1.trans (hb2.mono hb1.size))
    have hb14 := (hb13.trans (hb3.mono hb13.size))
    have hK3 := hK.below hb14
    go_wp2_with fail
    refine (of_b K _ _ (by rw [ByteArray.size_append]; omega) hK3).mono ?_
    rintro e w4 ⟨rfl, hb4⟩
    have hb15 := (hb14.trans (hb4.mono hb14.size))
    have hK4 := hK.below hb15
    go_wp2_with fail
    refine (of_b K _ _ (by rw [ByteArray.size_append, Sha.OfB_size]; omega) hK4).mono ?_
    rintro e w5 ⟨rfl, hb5⟩
    go_wp2
    go_ret
    exact ⟨rfl, hb15.trans (hb5.mono hb15.size)⟩
  · have hkey : Sha.KeyB K key = key := by unfold Sha.KeyB; rw [if_neg hlong]
    unfold Sha.MacB
    rw [hkey] at hmk ⊢
    clear hkey
    have e92 := Sha.MaskB_size key 92 hmk
    have e54 := Sha.MaskB_size key 54 hmk
    have e64 := Sha.OfB_size K (Sha.MaskB key 54 ++ data)
    have hL : ¬ (128 : Int) < key.size := by omega
    have hb1 := Below.refl w.heap.size w
    go_enter Tryz.func126, Tryz.ntmps126
    go_wp2_with fail
    refine (mask_b _ _ 92 rfl _ hmk).mono ?_
    rintro e w2 ⟨rfl, hb2⟩
    go_wp2_with fail
    refine (mask_b _ _ 54 rfl _ hmk).mono ?_
    rintro e w3 ⟨rfl, hb3⟩
    have hb13 := (hb1.trans (hb2.mono hb1.size))
    have hb14 := (hb13.trans (hb3.mono hb13.size))
    have hK3 := hK.below hb14
    go_wp2_with fail
    refine (of_b K _ _ (by rw [ByteArray.size_append]; omega) hK3).mono ?_
    rintro e w4 ⟨rfl, hb4⟩
    have hb15 := (hb14.trans (hb4.mono hb14.size))
    have hK4 := hK.below hb15
    go_wp2_with fail
    refine (of_b K _ _ (by rw [ByteArray.size_append, Sha.OfB_size]; omega) hK4).mono ?_
    rintro e w5 ⟨rfl, hb5⟩
    go_wp2
    go_ret
    exact ⟨rfl, hb15.trans (hb5.mono hb15.size)⟩

end Go.Proofs.YtclpbaokadfhhaaGreatDoor

namespace Go.Proofs.YtclpbaokadfhhaaGreatDoor
open Go.RowKit

/-- piece i: piece 0 is empty -/
def Sha.piece (K : Nat → BitVec 64) (by_ purpose : ByteArray) : Nat → ByteArray
  | 0 => ⟨#[]⟩
  | i + 1 => Sha.MacB K by_ (Sha.piece K by_ purpose i ++ purpose ++ ⟨#[UInt8.ofNat (i + 1)]⟩)
/-- the pieces 1 to i, one behind the other -/
def Sha.str (K : Nat → BitVec 64) (by_ purpose : ByteArray) : Nat → List UInt8
  | 0 => []
  | i + 1 => Sha.str K by_ purpose i ++ (Sha.piece K by_ purpose (i + 1)).data.toList
theorem Sha.str_length (K : Nat → BitVec 64) (b p : ByteArray) (i : Nat) : (Sha.str K b p i).length = 64 * i := by
  induction i with
  | zero => rfl
  | succ i ih =>
    have : (Sha.piece K b p (i + 1)).data.toList.length = 64 := by
      have := Sha.MacB_size K b (Sha.piece K b p i ++ p ++ ⟨#[UInt8.ofNat (i + 1)]⟩)
      simpa [Sha.piece] using this
    simp only [Sha.str, List.length_append, ih, this]; omega

theorem makeRoom (n : Nat) (h : n ≤ 281474976710656) (w : World) :
    (Instr.makeSlice 55 (.int .i64 0) (.int .i64 (n : Int))).run Tryz.prog w = .ok (.slice (some ⟨w.heap.size, 0, none⟩) 0 n) (w.alloc (.cells (Bs (zeros n)) 5)) := by
  obtain ⟨i, hi, hzz⟩ := Option.map_eq_some_iff.1 Tryz.infoByte
  simp only [Prod.mk.injEq] at hzz
  obtain ⟨hz, hs, hb⟩ := hzz
  have := run_make (P := Tryz.prog) w 55 5 i _ Tryz.underlying55 hi hz .i64 .i64 0 n (by omega) (by omega) (by rw [hb]; omega) (by omega)
  rw [this, hs, ← made_zeros]
  simp [Value.cells]

/-- the row of n bytes behind i pieces -/
def Sha.drow (K : Nat → BitVec 64) (b p : ByteArray) (n i : Nat) : List UInt8 := (Sha.str K b p i).take n ++ zeros (n - 64 * i)
theorem Sha.drow_length (K : Nat → BitVec 64) (b p : ByteArray) (n i : Nat) : (Sha.drow K b p n i).length = n := by
  simp [Sha.drow, Sha.str_length, zeros_length]; omega

theorem Sha.piece_size (K : Nat → BitVec 64) (b p : ByteArray) (i : Nat) : (Sha.piece K b p i).size ≤ 64 := by
  cases i with
  | zero => exact Nat.zero_le _
  | succ i => rw [Sha.piece, Sha.MacB_size]; omega
theorem Sha.piece_size1 (K : Nat → BitVec 64) (b p : ByteArray) (i : Nat) : (Sha.piece K b p (i + 1)).size = 64 := by
  rw [Sha.piece, Sha.MacB_size]
theorem oneByte (i : Nat) (h : i < 255) : (#[Value.int .u8 ((i : Int) + 1)] : Array Value) = Bs [UInt8.ofNat (i + 1)] := by
  have : ((i + 1) % 256) = i + 1 := by omega
  simp [Bs, this]
/-- bytes stored into the middle of a row, as the walk opens an append with room -/
theorem storeMid {w : World} {g m c t : Nat} {l : List UInt8} (hb : Blk w g (Bs l) t) (p : List UInt8) (hc : c ≤ p.length) (hroom : m + c ≤ l.length) :
    (storeCells ⟨g, m, none⟩ (List.take c (List.map (fun b : UInt8 => Value.int IntKind.u8 (b.toNat : Int)) p))).run Tryz.prog w = .ok () (w.setRow g (Bs (l.take m ++ p.take c ++ l.drop (m + c)))) := by
  have hl : (List.take c (List.map (fun b : UInt8 => Value.int IntKind.u8 (b.toNat : Int)) p)).length = c := by simp; omega
  have := run_storeCells_at Tryz.prog g m t (List.take c (List.map (fun b : UInt8 => Value.int IntKind.u8 (b.toNat : Int)) p)) 0 (Bs l) w hb (by rw [hl, Bs_size]; omega) (by
    intro v hv
    have := List.mem_of_mem_take hv
    simp only [List.mem_map] at this
    obtain ⟨x, _, rfl⟩ := this
    rfl)
  rw [this, hl]
  congr 2
  simp [Bs, List.map_take, List.map_drop]

theorem Sha.drow_next (K : Nat → BitVec 64) (b p P1 : ByteArray) (n i c : Nat) (hc : c = min 64 (n - 64 * i)) (hi : 64 * i < n) (h1 : P1.size = 64) (hs : Sha.str K b p (i + 1) = Sha.str K b p i ++ P1.data.toList) :
    (Sha.drow K b p n i).take (64 * i) ++ P1.data.toList.take c ++ (Sha.drow K b p n i).drop (64 * i + c) = Sha.drow K b p n (i + 1) := by
  have hl := Sha.str_length K b p i
  have hp : P1.data.toList.length = 64 := by simpa using h1
  have e2 : List.take n (Sha.str K b p i) = Sha.str K b p i := List.take_of_length_le (by omega)
  have e3 : List.take c P1.data.toList = List.take (n - 64 * i) P1.data.toList := by
    by_cases h : n - 64 * i ≤ 64
    · rw [hc, Nat.min_eq_right h]
    · rw [hc, Nat.min_eq_left (by omega), List.take_of_length_le (by omega), List.take_of_length_le (by omega)]
  unfold Sha.drow
  rw [hs, e2, e3, List.take_append_of_le_length (by omega), List.take_of_length_le (by omega), List.take_append, e2, hl, List.drop_append, List.drop_of_length_le (by omega), List.nil_append, hl]
  congr 1
  unfold zeros
  rw [List.drop_replicate]
  congr 1
  omega
theorem Sha.str_prefix (K : Nat → BitVec 64) (b p : ByteArray) (i d : Nat) : (Sha.str K b p (i + d)).take (64 * i) = Sha.str K b p i := by
  induction d with
  | zero => exact List.take_of_length_le (by rw [Sha.str_length]; omega)
  | succ d ih => rw [← Nat.add_assoc, Sha.str, List.take_append_of_le_length (by rw [Sha.str_length]; omega), ih]
theorem Sha.drow_end (K : Nat → BitVec 64) (b p : ByteArray) (n i : Nat) (hi : i ≤ 16) (hn : n ≤ 64 * i) : Sha.drow K b p n i = (Sha.str K b p 16).take n := by
  have h := Sha.str_prefix K b p i (16 - i)
  rw [show i + (16 - i) = 16 by omega] at h
  unfold Sha.drow
  rw [← h, List.take_take, Nat.min_eq_left hn, show n - 64 * i = 0 by omega]
  simp [zeros]

set_option maxRecDepth 100000 in
set_option maxHeartbeats 1000000 in
theorem derive_any (K : Nat → BitVec 64) (secret salt purpose : ByteArray) (n : Nat) (w : World) (h1 : secret.size ≤ 100000) (h2 : salt.size ≤ 100000) (h3 : purpose.size ≤ 100000) (hn : n ≤ 1000) (hK : Tab K w) :
    Calls Tryz.prog 59 #[.string secret, .string salt, .string purpose, .int .i64 n] w fun e w' => e = .returned (.string ⟨((Sha.str K (Sha.MacB K salt secret) purpose 16).take n).toArray⟩) ∧ Below w.heap.size w w' := by
  have hmk := makeRoom n (by omega)
  have hmac := (mac_any K salt secret w (by omega) (by omega) hK)
  have hB := Sha.MacB_size K salt secret
  generalize Sha.MacB K salt secret = B0 at hmac hB ⊢
  have HMAC : Hid (Calls Tryz.prog 126 #[.string salt, .string secret] w fun e w' => e = .returned (.string B0) ∧ Below w.heap.size w w') := hmac
  clear hmac
  go_enter Tryz.func59, Tryz.ntmps59
  go_wp2_with fail
  refine HMAC.out.mono ?_
  rintro e w1 ⟨rfl, hb1⟩
  have hb := Blk.new w1 (Bs (zeros n)) 5
  have hbel : Below w.heap.size w (w1.alloc (.cells (Bs (zeros n)) 5)) := hb1.alloc hb1.size _
  have hD := hb1.size
  go_wp2_with fail
  generalize w1.alloc (.cells (Bs (zeros n)) 5) = w2 at hb hbel ⊢
  generalize w1.heap.size = D0 at hb hD ⊢
  go_loopw [10, 11, 12] (fun d p q wr => ∃ i m : Nat, Hid (m = min (64 * i) n) ∧ i ≤ 16 ∧ m ≤ n ∧ d = .slice (some ⟨D0, 0, none⟩) m n ∧ p = .string (Sha.piece K B0 purpose i) ∧ q = .int .u8 ((i : Int) + 1) ∧ Blk wr D0 (Bs (Sha.drow K B0 purpose n i)) 5 ∧ Below w.heap.size w wr) (fun d _ _ _ => n - sliceLen d)
  case atStart => exact ⟨0, 0, (by show _ = _; omega), by omega, by omega, rfl, rfl, rfl, (by rw [show Sha.drow K B0 purpose n 0 = zeros n by simp [Sha.drow, Sha.str]]; exact hb), hbel⟩
  case round =>
    clear hb hbel
    obtain ⟨i, m, HM, hi, hmn, rfl, rfl, rfl, hb, hbel⟩ := hrel
    by_cases hlt : m < n
    · have hm : m = 64 * i := by have := HM.out; omega
      have hi16 : i < 16 := by omega
      have i0 : (m : Int) < n := by omega
      subst hm
      have hps := Sha.piece_size K B0 purpose i
      have hone := oneByte i (by omega)
      have hcv := stringOf (cap := 1) (Blk.new wr (Bs [UInt8.ofNat (i + 1)]) 5) 1 rfl
      rw [← hone] at hcv
      clear hone
      have HP : Hid (Sha.piece K B0 purpose (i + 1) = Sha.MacB K B0 (Sha.piece K B0 purpose i ++ purpose ++ ⟨[UInt8.ofNat (i + 1)].toArray⟩)) := rfl
      have hcb : ([UInt8.ofNat (i + 1)].toArray).size ≤ 1 := by simp
      generalize [UInt8.ofNat (i + 1)].toArray = cb at hcv HP hcb
      have hcb' : (⟨cb⟩ : ByteArray).size ≤ 1 := hcb
      have e1 : (Sha.piece K B0 purpose i ++ purpose).size ≤ 100064 := by rw [ByteArray.size_append]; omega
      go_wp2_with fail
      have hbw : Below w.heap.size w (wr.alloc (.cells #[.int .u8 ((i : Int) + 1)] 5)) := hbel.alloc hbel.size _
      refine (mac_any K _ _ _ (by omega) (by rw [ByteArray.size_append]; omega) (hK.below hbw)).mono ?_
      rintro e w3 ⟨rfl, hb3⟩
      have hP1 := Sha.piece_size1 K B0 purpose i
      rw [← show Sha.piece K B0 purpose (i + 1) = _ from HP.out]
      have hbD : Blk w3 D0 (Bs (Sha.drow K B0 purpose n i)) 5 := (hb.alloc _).keep hb3
      have hb5 := hbw.trans (hb3.mono hbw.size)
      have HQ : Hid (Sha.str K B0 purpose (i + 1) = Sha.str K B0 purpose i ++ (Sha.piece K B0 purpose (i + 1)).data.toList) := rfl
      generalize hPP : Sha.piece K B0 purpose (i + 1) = P1 at hP1 HQ ⊢
      have HPP : Hid _ := hPP
      clear hPP
      obtain ⟨c, hc⟩ : ∃ c, c = min 64 (n - 64 * i) := ⟨_, rfl⟩
      have q1 : (min 64 ((n : Int) - 64 * (i : Int))).toNat = c := by omega
      have q2 : min c 64 = c := by omega
      have q3 : c ≤ 64 := by omega
      have q4 : 64 * i + c ≤ n := by omega
      have HC : Hid _ := hc
      clear hc
      have hst := storeMid (c := c) (m := 64 * i) hbD P1.data.toList (by simp; omega) (by rw [Sha.drow_length]; omega)
      rw [Sha.drow_next K B0 purpose P1 n i c HC.out (by omega) hP1 HQ.out] at hst
      go_wp2
      go_roundw
      case rel =>
        refine ⟨i + 1, 64 * i + c, ?_, by omega, by omega, rfl, ?_, ?_, hbD.row _, below_setRow hb5 (by omega) _⟩
        · have := HC.out; show _ = _; omega
        · rw [show Sha.piece K B0 purpose (i + 1) = P1 from HPP.out]
        · go_num
      case measure => simp [sliceLen]; have := HC.out; omega
    · have hmn' : m = n := by omega
      subst hmn'
      have hcv := stringOf (cap := m) hb m (Sha.drow_length K B0 purpose m i).symm
      rw [Sha.drow_end K B0 purpose m i hi (by have := HM.out; omega)] at hcv
      go_wp2
      go_ret
      exact ⟨rfl, hbel⟩

end Go.Proofs.YtclpbaokadfhhaaGreatDoor

namespace Go.Proofs.YtclpbaokadfhhaaGreatDoor
open Go.RowKit

def Sha.DeriveB (K : Nat → BitVec 64) (secret salt purpose : ByteArray) (n : Nat) : ByteArray := ⟨((Sha.str K (Sha.MacB K salt secret) purpose 16).take n).toArray⟩
def Sha.DeriveR (K : Nat → BitVec 64) (secret salt purpose : ByteArray) (n : Int) : ByteArray × Int :=
  if secret.size ≤ 10000 ∧ salt.size ≤ 10000 ∧ purpose.size ≤ 10000 ∧ 0 ≤ n ∧ n ≤ 1000 then (Sha.DeriveB K secret salt purpose n.toNat, 0) else (⟨#[]⟩, 1)

end Go.Proofs.YtclpbaokadfhhaaGreatDoor

namespace Go.Proofs.YtclpbaokadfhhaaGreatDoor
open Go.RowKit

theorem derive_b (K : Nat → BitVec 64) (secret salt purpose : ByteArray) (n : Nat) (w : World) (h1 : secret.size ≤ 100000) (h2 : salt.size ≤ 100000) (h3 : purpose.size ≤ 100000) (hn : n ≤ 1000) (hK : Tab K w) :
    Calls Tryz.prog 59 #[.string secret, .string salt, .string purpose, .int .i64 n] w fun e w' => e = .returned (.string (Sha.DeriveB K secret salt purpose n)) ∧ Below w.heap.size w w' :=
  derive_any K secret salt purpose n w h1 h2 h3 hn hK

set_option maxRecDepth 100000 in
set_option maxHeartbeats 1000000 in
theorem Derive_any (K : Nat → BitVec 64) (a b c : ByteArray) (n : Int) (w : World) (h1 : a.size ≤ 140737488351232) (h2 : b.size ≤ 140737488351232) (h3 : c.size ≤ 140737488351232) (hK : Tab K w) :
    Calls Tryz.prog 30 #[.string a, .string b, .string c, .int .i64 n] w fun e w' => e = .returned (.tuple #[.string (Sha.DeriveR K a b c n).1, .int .i64 (Sha.DeriveR K a b c n).2]) ∧ Below w.heap.size w w' := by
  have hbel : Below w.heap.size w (w.alloc (.cells (Ss [a, b, c]) 9)) := (Below.refl _ _).alloc (Nat.le_refl _) _
  have HT : Hid (Calls Tryz.prog 27 #[.int .i64 10000, .slice (some ⟨w.heap.size, 0, none⟩) 3 3] (w.alloc (.cells (Ss [a, b, c]) 9)) fun e w' => e = .returned (.bool (anyLong 10000 [a, b, c])) ∧ w' = w.alloc (.cells (Ss [a, b, c]) 9)) :=
    tooLong_any w.heap.size 3 10000 [a, b, c] 9 _ (by omega) rfl (by omega) (Blk.new w _ _) (by intro j hj; match j, hj with | 0, _ => show a.size ≤ _; omega | 1, _ => show b.size ≤ _; omega | 2, _ => show c.size ≤ _; omega)
  by_cases h : a.size ≤ 10000 ∧ b.size ≤ 10000 ∧ c.size ≤ 10000
  · have e2 : anyLong 10000 [a, b, c] = false := by rw [any_three]; simp; omega
    rw [e2] at HT
    clear e2
    by_cases hn : 0 ≤ n ∧ n ≤ 1000
    · have e1 : Sha.DeriveR K a b c n = (Sha.DeriveB K a b c n.toNat, 0) := by unfold Sha.DeriveR; rw [if_pos ⟨h.1, h.2.1, h.2.2, hn⟩]
      rw [e1]
      clear e1
      obtain ⟨ha, hb, hc⟩ := h
      obtain ⟨hn0, hn1⟩ := hn
      obtain ⟨m, rfl⟩ := Int.eq_ofNat_of_zero_le hn0
      rw [Int.toNat_natCast]
      have d1 : decide ((m : Int) < 0) = false := by simp
      have d2 : decide ((1000 : Int) < (m : Int)) = false := by simp; omega
      go_enter Tryz.func30, Tryz.ntmps30
      go_wp2_with fail
      refine HT.out.mono ?_
      rintro e w' ⟨rfl, rfl⟩
      go_wp2_with fail
      refine (derive_b K a b c m _ (by omega) (by omega) (by omega) (by omega) (hK.below hbel)).mono ?_
      rintro e w2 ⟨rfl, hb2⟩
      go_wp2
      go_ret2
      exact ⟨rfl, hbel.trans (hb2.mono hbel.size)⟩
    · have e1 : Sha.DeriveR K a b c n = (⟨#[]⟩, 1) := by unfold Sha.DeriveR; rw [if_neg (fun h => hn h.2.2.2)]
      rw [e1]
      clear e1
      by_cases hn0 : n < 0
      · have d1 : decide (n < 0) = true := by simpa using hn0
        go_enter Tryz.func30, Tryz.ntmps30
        go_wp2_with fail
        refine HT.out.mono ?_
        rintro e w' ⟨rfl, rfl⟩
        go_wp2
        go_ret2
        exact ⟨rfl, hbel⟩
      · have d1 : decide (n < 0) = false := by simpa using hn0
        have d2 : decide (1000 < n) = true := by simp; omega
        have d3 : 1000 < n := by omega
        go_enter Tryz.func30, Tryz.ntmps30
        go_wp2_with fail
        refine HT.out.mono ?_
        rintro e w' ⟨rfl, rfl⟩
        go_wp2
        go_ret2
        exact ⟨rfl, hbel⟩
  · have e1 : Sha.DeriveR K a b c n = (⟨#[]⟩, 1) := by unfold Sha.DeriveR; rw [if_neg (fun h' => h ⟨h'.1, h'.2.1, h'.2.2.1⟩)]
    have e2 : anyLong 10000 [a, b, c] = true := by rw [any_three]; simp; omega
    rw [e2] at HT
    rw [e1]
    clear e1 e2
    go_enter Tryz.func30, Tryz.ntmps30
    go_wp2_with fail
    refine HT.out.mono ?_
    rintro e w' ⟨rfl, rfl⟩
    go_wp2
    go_ret2
    exact ⟨rfl, hbel⟩

end Go.Proofs.YtclpbaokadfhhaaGreatDoor
