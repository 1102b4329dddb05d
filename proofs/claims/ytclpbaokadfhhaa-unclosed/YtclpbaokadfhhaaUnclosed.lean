/- The walk of the statement Unclosed. -/
import Derived.Test.YtclpbaokadfhhaaUncl
namespace Go.Proofs.Ytclpbaokadfhhaa
open Go.RowKit

set_option maxRecDepth 100000 in
set_option maxHeartbeats 2000000 in
theorem unclosed_any (k0 n0 t0 d0 : ByteArray) (at0 : Int) (w : World) (h1 : k0.size ≤ 140737488351232) (h2 : n0.size ≤ 140737488351232) (h3 : t0.size ≤ 9223372036854775807) (h4 : d0.size ≤ 9223372036854775807)
    (a1 : -9223372036854775808 ≤ at0) (a2 : at0 ≤ 9223372036854775807) :
    Calls Try.prog 3 #[.string k0, .string n0, .string t0, .string d0, .int .i64 at0] w fun e w' => e = .returned (.bool true) ∧ Below w.heap.size w w' := by
  have zt := shortB_size t0 500
  have zd := shortB_size d0 500
  go_enter Try.func3, Try.ntmps3
  go_wp2_with fail
  refine (sized_any k0 32 w h1 (by decide) (by decide)).mono ?_
  rintro e w' ⟨key, hk, rfl, hw⟩
  obtain rfl := hw.symm
  go_wp2_with fail
  refine (sized_any n0 12 _ h2 (by decide) (by decide)).mono ?_
  rintro e w' ⟨nonce, hn, rfl, hw⟩
  obtain rfl := hw.symm
  go_wp2_with fail
  refine (short_any t0 500 _ h3 (by decide) (by decide)).mono ?_
  rintro e w' ⟨rfl, hw⟩
  obtain rfl := hw.symm
  go_wp2_with fail
  refine (short_any d0 500 _ h4 (by decide) (by decide)).mono ?_
  rintro e w' ⟨rfl, hw⟩
  obtain rfl := hw.symm
  rw [show (500 : Int).toNat = 500 from rfl]
  rw [show (32 : Int).toNat = 32 from rfl] at hk
  rw [show (12 : Int).toNat = 12 from rfl] at hn
  generalize shortB t0 500 = title at zt ⊢
  generalize shortB d0 500 = data at zd ⊢
  go_wp2_with fail
  refine (Close_ok key nonce title data _ hk hn (by omega) (by omega)).mono ?_
  rintro e w1 ⟨rfl, b1⟩
  go_wp2_with fail
  refine (Unclose_ok key nonce title data _ hk hn (by omega) (by omega)).mono ?_
  rintro e w2 ⟨rfl, b2⟩
  have bel2 := b1.trans (b2.mono b1.size)
  clear b1 b2
  obtain ⟨cap, w3, hcv, ho, b3⟩ := bytesOf data w.heap.size w2 bel2.size
  replace ho := ho.at
  have bel3 := bel2.trans (b3.mono bel2.size)
  have hlen : data.data.toList.length = data.size := by simp
  have hBg : w.heap.size ≤ w2.heap.size := bel2.size
  clear bel2 b3
  generalize w2.heap.size = g at hcv ho hBg ⊢
  by_cases hne : 0 < data.size
  · have hi0 : (0 : Int) < data.size := by omega
    go_wp2_with fail
    refine (pick_any at0 data.size w3 a1 a2 (by omega) (by omega)).mono ?_
    rintro e w' ⟨rfl, hw⟩
    obtain rfl := hw.symm
    have hp := pickI_lo at0 data.size hi0
    generalize pickI at0 (data.size : Int) = kk at hp ⊢
    obtain ⟨hp0, hp1⟩ := hp
    obtain ⟨k, rfl⟩ := Int.eq_ofNat_of_zero_le hp0
    have hkl : k < data.size := by omega
    have hc := ho.cell k (by omega)
    have hf := ho.frozen k (by omega)
    have ho4 := ho.set k ((data.data.toList.getD k 0) ^^^ 255)
    have hx0 := xor_byte (data.data.toList.getD k 0) 255
    rw [show (((255 : UInt8).toNat : Nat) : Int) = 255 from rfl] at hx0
    have bel4 : Below w.heap.size w (w3.setCell ⟨g, k, none⟩ (.int .u8 (((data.data.toList.getD k 0) ^^^ 255 : UInt8).toNat : Int))) := bel3.setCell hBg _
    generalize data.data.toList.getD k 0 = x at hc ho4 hx0 bel4
    generalize x ^^^ 255 = x' at ho4 hx0 bel4
    have hL' : (data.data.toList.set k x').length = data.data.toList.length := by simp
    generalize data.data.toList.set k x' = L' at ho4 hL'
    have hso := stringOfOwn (n := data.size) ho4 (by rw [hL', hlen])
    have hD' : (⟨L'.toArray⟩ : ByteArray).size = data.size := by show L'.toArray.size = data.size; simp [hL', hlen]
    have hDL : (⟨L'.toArray⟩ : ByteArray).data.toList = L' := by simp
    generalize (⟨L'.toArray⟩ : ByteArray) = D' at hso hD' hDL
    go_wp2_with fail
    clear hc hf hx0 ho hcv
    have ho := ho4
    clear ho4
    generalize w3.setCell ⟨g, k, none⟩ (.int .u8 (x'.toNat : Int)) = w4 at hso ho bel4 ⊢
    refine (Close_ok key nonce title D' w4 hk hn (by omega) (by omega)).mono ?_
    rintro e w7 ⟨rfl, b7⟩
    have ho7 := ho.below b7 ho.lt
    have bel7 := bel4.trans (b7.mono bel4.size)
    have za := Cc.CloseB_size key nonce title data
    have zc := Cc.CloseB_size key nonce title D'
    have HX : Hid (∀ i, i < data.size → ∃ (h1 : i < (Cc.CloseB key nonce title data).size) (h2 : i < (Cc.CloseB key nonce title D').size) (h3 : i < data.size), (Cc.CloseB key nonce title data)[i] ^^^ (Cc.CloseB key nonce title D')[i] = data[i] ^^^ L'.getD i 0) := fun i hi => close_xor key nonce title data D' L' i hi hD' hDL
    generalize Cc.CloseB key nonce title data = a at za HX ⊢
    generalize Cc.CloseB key nonce title D' = c at zc HX ⊢
    have s1 : (a.size : Int) = (data.size : Int) + 16 := by omega
    have s2 : (c.size : Int) = (a.size : Int) := by omega
    have s3 : a.size = data.size + 16 := za
    have s4 : c.size = data.size + 16 := by omega
    clear hso ho bel4 b7
    go_wp2_with fail
    go_loopw [19] (fun i wr => ∃ k : Nat, k ≤ data.size ∧ i = .int .i64 k ∧ OwnR wr g cap L' ∧ Below w.heap.size w wr) (fun i _ => data.size - (intOf i).toNat)
    case atStart => exact ⟨0, by omega, rfl, ho7, bel7⟩
    case round =>
      clear ho7 bel7
      obtain ⟨j, hj, rfl, ho, bel⟩ := hrel
      by_cases hlt : j < data.size
      · obtain ⟨g1, g2, g3, hx⟩ := HX.out j hlt
        have hc := ho.cell j (by omega)
        generalize L'.getD j 0 = y at hc hx
        generalize ha : a[j] = x1 at hx
        generalize hcc : c[j] = x2 at hx
        generalize hdd : data[j] = x3 at hx
        have HX1 : Hid (bits .xor .u8 (x1.toNat : Int) (x2.toNat : Int) = bits .xor .u8 (x3.toNat : Int) (y.toNat : Int)) := by
          have : bits .xor .u8 (x1.toNat : Int) (x2.toNat : Int) = bits .xor .u8 (x3.toNat : Int) (y.toNat : Int) := by rw [xor_byte, xor_byte, hx]
          exact this
        have e0 : bits .xor .u8 (x1.toNat : Int) (x2.toNat : Int) = bits .xor .u8 (x3.toNat : Int) (y.toNat : Int) := HX1.out
        have i1 : (j : Int) < data.size := by omega
        have i2 : (j : Int) < a.size := by omega
        have i3 : (j : Int) < c.size := by omega
        go_wp2_with fail
        go_quiet (fail)
        go_wp2
        go_roundw
        case rel => exact ⟨j + 1, by omega, by go_num, ho, below_drewN bel _⟩
        case measure => simp [intOf]; omega
      · go_wp2
        go_ret
        exact ⟨rfl, bel⟩
  · have hi0 : ¬ (0 : Int) < data.size := by omega
    have hL' : data.data.toList.length = data.data.toList.length := rfl
    generalize hLd : data.data.toList = L' at ho hlen hL'
    replace hL' : L'.length = L'.length := rfl
    have hso := stringOfOwn (n := data.size) ho hlen.symm
    have hD' : (⟨L'.toArray⟩ : ByteArray).size = data.size := by show L'.toArray.size = data.size; simp [hlen]
    have hDL : (⟨L'.toArray⟩ : ByteArray).data.toList = L' := by simp
    generalize (⟨L'.toArray⟩ : ByteArray) = D' at hso hD' hDL
    go_wp2_with fail
    have bel4 := bel3
    clear hcv bel3
    generalize w3 = w4 at hso ho bel4 ⊢
    refine (Close_ok key nonce title D' w4 hk hn (by omega) (by omega)).mono ?_
    rintro e w7 ⟨rfl, b7⟩
    have ho7 := ho.below b7 ho.lt
    have bel7 := bel4.trans (b7.mono bel4.size)
    have za := Cc.CloseB_size key nonce title data
    have zc := Cc.CloseB_size key nonce title D'
    have HX : Hid (∀ i, i < data.size → ∃ (h1 : i < (Cc.CloseB key nonce title data).size) (h2 : i < (Cc.CloseB key nonce title D').size) (h3 : i < data.size), (Cc.CloseB key nonce title data)[i] ^^^ (Cc.CloseB key nonce title D')[i] = data[i] ^^^ L'.getD i 0) := fun i hi => close_xor key nonce title data D' L' i hi hD' hDL
    generalize Cc.CloseB key nonce title data = a at za HX ⊢
    generalize Cc.CloseB key nonce title D' = c at zc HX ⊢
    have s1 : (a.size : Int) = (data.size : Int) + 16 := by omega
    have s2 : (c.size : Int) = (a.size : Int) := by omega
    have s3 : a.size = data.size + 16 := za
    have s4 : c.size = data.size + 16 := by omega
    clear hso ho bel4 b7
    go_wp2_with fail
    go_loopw [19] (fun i wr => ∃ k : Nat, k ≤ data.size ∧ i = .int .i64 k ∧ OwnR wr g cap L' ∧ Below w.heap.size w wr) (fun i _ => data.size - (intOf i).toNat)
    case atStart => exact ⟨0, by omega, rfl, ho7, bel7⟩
    case round =>
      clear ho7 bel7
      obtain ⟨j, hj, rfl, ho, bel⟩ := hrel
      by_cases hlt : j < data.size
      · obtain ⟨g1, g2, g3, hx⟩ := HX.out j hlt
        have hc := ho.cell j (by omega)
        generalize L'.getD j 0 = y at hc hx
        generalize ha : a[j] = x1 at hx
        generalize hcc : c[j] = x2 at hx
        generalize hdd : data[j] = x3 at hx
        have HX1 : Hid (bits .xor .u8 (x1.toNat : Int) (x2.toNat : Int) = bits .xor .u8 (x3.toNat : Int) (y.toNat : Int)) := by
          have : bits .xor .u8 (x1.toNat : Int) (x2.toNat : Int) = bits .xor .u8 (x3.toNat : Int) (y.toNat : Int) := by rw [xor_byte, xor_byte, hx]
          exact this
        have e0 : bits .xor .u8 (x1.toNat : Int) (x2.toNat : Int) = bits .xor .u8 (x3.toNat : Int) (y.toNat : Int) := HX1.out
        have i1 : (j : Int) < data.size := by omega
        have i2 : (j : Int) < a.size := by omega
        have i3 : (j : Int) < c.size := by omega
        go_wp2_with fail
        go_quiet (fail)
        go_wp2
        go_roundw
        case rel => exact ⟨j + 1, by omega, by go_num, ho, below_drewN bel _⟩
        case measure => simp [intOf]; omega
      · go_wp2
        go_ret
        exact ⟨rfl, bel⟩

end Go.Proofs.Ytclpbaokadfhhaa
