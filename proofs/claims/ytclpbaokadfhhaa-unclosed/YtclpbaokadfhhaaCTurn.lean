/- Contract of cipher.turn. -/
import Derived.Test.YtclpbaokadfhhaaCBlock
import Derived.Test.YtclpbaokadfhhaaOwn
namespace Go.Proofs.Ytclpbaokadfhhaa
open Go.RowKit

namespace Cc
/-- the bytes that data is xored with -/
def ks (key nonce : ByteArray) (i : Nat) : UInt8 := (blk key (BitVec.ofNat 32 (i / 64 + 1)) nonce).getD (i % 64) 0
/-- the first n bytes xored -/
def xorTo (S : Nat → UInt8) (l : List UInt8) (n : Nat) : List UInt8 := l.mapIdx fun i x => if i < n then x ^^^ S i else x
theorem xorTo_length (S : Nat → UInt8) (l : List UInt8) (n : Nat) : (xorTo S l n).length = l.length := by simp [xorTo]
theorem xorTo_zero (S : Nat → UInt8) (l : List UInt8) : xorTo S l 0 = l := by
  apply List.ext_getElem?
  intro i
  simp [xorTo, List.getElem?_mapIdx]
theorem xorTo_at (S : Nat → UInt8) (l : List UInt8) (n : Nat) (h : n < l.length) : (xorTo S l n).getD n 0 = l.getD n 0 := by
  simp [xorTo, List.getD, h]
theorem xorTo_set (S : Nat → UInt8) (l : List UInt8) (n : Nat) (h : n < l.length) : (xorTo S l n).set n (l.getD n 0 ^^^ S n) = xorTo S l (n + 1) := by
  apply List.ext_getElem?
  intro i
  rw [List.getElem?_set]
  by_cases e : n = i
  · subst e
    simp [xorTo, h, List.getD]
  · rw [if_neg e]
    simp only [xorTo, List.getElem?_mapIdx]
    by_cases h2 : i < n
    · simp [h2, show i < n + 1 by omega]
    · simp [h2, show ¬ i < n + 1 by omega]
def TurnB (key nonce data : ByteArray) : ByteArray := ⟨(xorTo (ks key nonce) data.data.toList data.size).toArray⟩
theorem TurnB_size (key nonce data : ByteArray) : (TurnB key nonce data).size = data.size := by
  show (xorTo (ks key nonce) data.data.toList data.size).toArray.size = data.size
  simp [xorTo_length]
end Cc

theorem storeRowB {w : World} {g t : Nat} {cs : Array Value} {l : List UInt8} (hb : Blk w g cs t) (hl : cs.size = l.length) :
    (storeCells ⟨g, 0, none⟩ (Bs l).toList).run Try.prog w = .ok () (w.setRow g (Bs l)) := by
  have h1 := Bs_one l
  have := run_storeCells_from (P := Try.prog) g t (Bs l).toList 0 cs w hb (by simp [Bs_size, hl]) (fun v hv => (Array.all_eq_true_iff_forall_mem.1 h1) v (by simpa using hv))
  rw [this]
  simp
theorem storeNewB (w : World) (cs : Array Value) (t : Nat) (l : List UInt8) (hl : cs.size = l.length) :
    (storeCells ⟨w.heap.size, 0, none⟩ (Bs l).toList).run Try.prog (w.alloc (.cells cs t)) = .ok () (w.alloc (.cells (Bs l) t)) := by
  rw [storeRowB (Blk.new w cs t) hl, World.setRow_alloc_new]

theorem xorTo_all (S : Nat → UInt8) (l : List UInt8) (n : Nat) (h : l.length ≤ n) : Cc.xorTo S l n = Cc.xorTo S l l.length := by
  apply List.ext_getElem?
  intro i
  simp only [Cc.xorTo, List.getElem?_mapIdx]
  by_cases h2 : i < l.length
  · simp [h2, show i < n by omega]
  · simp [h2]

set_option maxRecDepth 100000 in
set_option maxHeartbeats 1000000 in
theorem turn_any (key nonce data : ByteArray) (w : World) (hk : key.size = 32) (hn : nonce.size = 12) (hd : data.size ≤ 1000000) :
    Calls Try.prog 21 #[.string key, .string nonce, .string data] w fun e w' => e = .returned (.string (Cc.TurnB key nonce data)) ∧ Below w.heap.size w w' := by
  have hz := zero64
  obtain ⟨cap, w1, hcv, ho, hbel⟩ := bytesOf data w.heap.size w (Nat.le_refl _)
  replace ho := ho.at
  have HB : Hid (∀ (x : BitVec 32) (wx : World), Calls Try.prog 27 #[.string key, .int .u32 (V x), .string nonce] wx fun e w' => e = .returned (.agg (Bs (Cc.blk key x nonce))) ∧ Below wx.heap.size wx w') := fun x wx => block_any key nonce x wx hk hn
  have HT : Hid (Cc.TurnB key nonce data = ⟨(Cc.xorTo (Cc.ks key nonce) data.data.toList data.size).toArray⟩) := by
    have : Cc.TurnB key nonce data = ⟨(Cc.xorTo (Cc.ks key nonce) data.data.toList data.size).toArray⟩ := rfl
    exact this
  have hlen : data.data.toList.length = data.size := by simp
  generalize Cc.TurnB key nonce data = R at HT ⊢
  generalize data.data.toList = l at HT ho hlen
  go_enter Try.func21, Try.ntmps21
  go_wp2_with fail
  clear hcv
  go_loopw [8] (fun i wr => ∃ j : Nat, 64 * j < data.size + 64 ∧ i = .int .i64 (64 * j : Nat) ∧ OwnR wr w.heap.size cap (Cc.xorTo (Cc.ks key nonce) l (64 * j)) ∧ Below w.heap.size w wr) (fun i _ => data.size + 64 - (intOf i).toNat)
  case atStart => exact ⟨0, by omega, rfl, by rw [Nat.mul_zero, Cc.xorTo_zero]; exact ho, hbel⟩
  case round =>
    clear ho hbel w1
    obtain ⟨j, hj, rfl, ho, hbel⟩ := hrel
    by_cases hlt : 64 * j < data.size
    · have hlt6 : w.heap.size < wr.heap.size := ho.lt
      generalize hat : 64 * j = at0 at hj hlt ho
      have HAT : Hid (64 * j = at0) := hat
      clear hat
      go_wp2_with fail
      have hc : (at0 : Int) / 64 + 1 = V (BitVec.ofNat 32 (j + 1)) := by
        rw [← V_of (j + 1) (by have := HAT.out; omega)]; have := HAT.out; omega
      rw [hc]
      refine (HB.out _ _).mono ?_
      rintro e w2 ⟨rfl, hb2⟩
      have hlM : (Cc.blk key (BitVec.ofNat 32 (j + 1)) nonce).length = 64 := Cc.blk_length _ _ _
      have HM : Hid (∀ i, i < 64 → (Cc.blk key (BitVec.ofNat 32 (j + 1)) nonce).getD i 0 = Cc.ks key nonce (at0 + i)) := fun i hi => by
        unfold Cc.ks; rw [show (at0 + i) / 64 = j by have := HAT.out; omega, show (at0 + i) % 64 = i by have := HAT.out; omega]
      generalize Cc.blk key (BitVec.ofNat 32 (j + 1)) nonce = M at hlM HM ⊢
      generalize BitVec.ofNat 32 (j + 1) = cx at hc ⊢
      have hsM : (Bs M).size = 64 := by rw [Bs_size, hlM]
      have hst := storeNewB w2 (Bs (zeros 64)) 50 M (by rw [hlM, Bs_size]; rfl)
      have ho2 := (ho.below hb2 hlt6).alloc (.cells (Bs M) 50)
      have hlt2 : w.heap.size < w2.heap.size := (ho.below hb2 hlt6).lt
      have hbM := Blk.new w2 (Bs M) 50
      have hbel2 : Below w.heap.size w (w2.alloc (.cells (Bs M) 50)) := (hbel.trans (hb2.mono hbel.size)).alloc (by omega) _
      clear ho hbel hb2
      have hcap : data.size ≤ cap := by obtain ⟨_, _, _, _, _, h, _⟩ := ho2; rw [Cc.xorTo_length, hlen] at h; exact h
      obtain ⟨m, hm0, hm1, hm2, hm3⟩ : ∃ m : Nat, 0 < m ∧ m ≤ 64 ∧ at0 + m ≤ data.size ∧ (m = 64 ∨ at0 + m = data.size) := by
        by_cases h : at0 + 64 ≤ data.size
        · exact ⟨64, by omega, by omega, by omega, .inl rfl⟩
        · exact ⟨data.size - at0, by omega, by omega, by omega, .inr (by omega)⟩
      have hmin : min ((at0 : Int) + 64) (data.size : Int) = (at0 : Int) + (m : Int) := by omega
      have hm4 : (at0 : Int) + (m : Int) ≤ cap := by omega
      have hm5 : ¬ cap = at0 := by omega
      go_wp2_with fail
      clear hst hc hmin
      generalize w2.heap.size = p at hlt2 hbM ⊢
      generalize w2.alloc (.cells (Bs M) 50) = w3 at ho2 hbM hbel2 ⊢
      clear w2 hlt6
      go_loopw [35] (fun i wr => ∃ k : Nat, k ≤ m ∧ i = .int .i64 k ∧ OwnR wr w.heap.size cap (Cc.xorTo (Cc.ks key nonce) l (at0 + k)) ∧ Blk wr p (Bs M) 50 ∧ Below w.heap.size w wr) (fun i _ => m - (intOf i).toNat)
      case atStart => exact ⟨0, Nat.zero_le _, rfl, ho2, hbM, hbel2⟩
      case round =>
        clear ho2 hbM hbel2 w3
        obtain ⟨k, hkm, rfl, ho, hbM, hbel⟩ := hrel
        by_cases hlk : k < m
        · have h1 := ho.cell (at0 + k) (by rw [Cc.xorTo_length]; omega)
          rw [Cc.xorTo_at _ _ _ (by omega)] at h1
          have h2 := ho.frozen (at0 + k) (by rw [Cc.xorTo_length]; omega)
          have h3 := hbM.cell k
          rw [Bs_at _ _ (by omega), HM.out k (by omega)] at h3
          have HS : Hid ((Cc.xorTo (Cc.ks key nonce) l (at0 + k)).set (at0 + k) (l.getD (at0 + k) 0 ^^^ Cc.ks key nonce (at0 + k)) = Cc.xorTo (Cc.ks key nonce) l (at0 + k + 1)) := Cc.xorTo_set _ _ _ (by omega)
          generalize l.getD (at0 + k) 0 = x at h1 HS
          generalize Cc.ks key nonce (at0 + k) = y at h3 HS
          have i1 : (k : Int) < m := by omega
          have i2 : IntKind.i64.wrap ((at0 : Int) + (k : Int)) = (at0 : Int) + (k : Int) := by rw [IntKind.wrap_i64]; omega
          have i3 : (at0 : Int) + (k : Int) < data.size := by omega
          have i4 : (k : Int) < 64 := by omega
          have i5 : ((at0 : Int) + (k : Int)).toNat = at0 + k := by omega
          have i6 : (0 : Int) ≤ (at0 : Int) + (k : Int) := by omega
          go_wp2_with fail
          go_region
          go_wp2
          go_roundw
          case rel => exact ⟨k + 1, by omega, by go_num, by rw [xor_byte, ← Nat.add_assoc, ← show _ = _ from HS.out]; exact (ho.set _ _).drew, (hbM.otherCell ho (by omega) _).drew, (hbel.setCell (Nat.le_refl _) _).drew⟩
          case measure => simp [intOf]; omega
        · have hkm' : k = m := by omega
          subst hkm'
          go_wp2
          go_roundw
          case rel =>
            refine ⟨j + 1, by have := HAT.out; omega, int_eq (by have := HAT.out; omega), ?_, hbel⟩
            rcases hm3 with h | h
            · rw [show 64 * (j + 1) = at0 + k by have := HAT.out; omega]; exact ho
            · rw [xorTo_all _ _ (64 * (j + 1)) (by have := HAT.out; omega), ← xorTo_all _ _ (at0 + k) (by omega)]; exact ho
          case measure => simp [intOf]; have := HAT.out; omega
    · rw [xorTo_all _ _ (64 * j) (by omega), hlen] at ho
      have hso := stringOfOwn (n := data.size) ho (by rw [Cc.xorTo_length, hlen])
      go_wp2
      go_ret
      exact ⟨by rw [show R = _ from HT.out]; rfl, hbel⟩

end Go.Proofs.Ytclpbaokadfhhaa
