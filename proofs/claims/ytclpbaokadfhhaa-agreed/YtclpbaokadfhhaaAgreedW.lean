/- The walk of the statement Agreed. -/
import Derived.Test.YtclpbaokadfhhaaPub
import Derived.Test.YtclpbaokadfhhaaKeep
import Derived.Deep.DeepCutAuto
namespace Go.Proofs.Ytclpbaokadfhhaa
open Go.RowKit

theorem size_mk (l : List UInt8) : (⟨l.toArray⟩ : ByteArray).size = l.length := rfl
theorem data_mk (l : List UInt8) : (⟨l.toArray⟩ : ByteArray).data.toList = l := rfl
theorem agreed_length (a b : List UInt8) : (agreed a b).length = 32 := by unfold agreed ladBytes; exact Ff.bytes_length _
theorem AgreeR_of (s p : ByteArray) (R : List UInt8) (hs : s.size = 32) (hp : p.size = 32) (hR : agreed s.data.toList p.data.toList = R) : AgreeR s p = if R = zeros 32 then (⟨#[]⟩, 2) else (⟨R.toArray⟩, 0) := by
  unfold AgreeR
  rw [if_pos ⟨hs, hp⟩, hR]
/-- what both answers are -/
theorem agreeR_both (k1 k2 : ByteArray) (h1 : k1.size = 32) (h2 : k2.size = 32) (Q1 Q2 : List UInt8) (hQ1 : publicOf k1.data.toList = Q1) (hQ2 : publicOf k2.data.toList = Q2) (z1 : Q1.length = 32) (z2 : Q2.length = 32) :
    ∃ A G, ((G = 0 ∧ A.size = 32) ∨ (G = 2 ∧ A = ⟨#[]⟩)) ∧ AgreeR k1 ⟨Q2.toArray⟩ = (A, G) ∧ AgreeR k2 ⟨Q1.toArray⟩ = (A, G)
      ∧ ∀ a b : UInt8, a &&& 248 = 0 → b &&& 63 = 0 → AgreeR ⟨((k1.data.toList.set 0 (k1.data.toList.getD 0 0 ^^^ a)).set 31 (k1.data.toList.getD 31 0 ^^^ b)).toArray⟩ ⟨(Q2.set 31 (Q2.getD 31 0 ^^^ 128)).toArray⟩ = (A, G) := by
  have l1 : k1.data.toList.length = 32 := by rw [← h1]; simp
  have l2 : k2.data.toList.length = 32 := by rw [← h2]; simp
  have hb := agreed_both k1.data.toList k2.data.toList l1 l2
  rw [hQ1, hQ2] at hb
  have hf := agreed_free k1.data.toList Q2 l1 z2
  have hal := agreed_length k1.data.toList Q2
  have e1 := AgreeR_of k1 ⟨Q2.toArray⟩ _ h1 (by rw [size_mk, z2]) rfl
  have e2 := AgreeR_of k2 ⟨Q1.toArray⟩ _ h2 (by rw [size_mk, z1]) rfl
  rw [data_mk] at e1 e2
  rw [← hb] at e2
  generalize agreed k1.data.toList Q2 = R at e1 e2 hf hal
  clear hb hQ1 hQ2
  have e3 : ∀ a b : UInt8, a &&& 248 = 0 → b &&& 63 = 0 → AgreeR ⟨((k1.data.toList.set 0 (k1.data.toList.getD 0 0 ^^^ a)).set 31 (k1.data.toList.getD 31 0 ^^^ b)).toArray⟩ ⟨(Q2.set 31 (Q2.getD 31 0 ^^^ 128)).toArray⟩ = if R = zeros 32 then (⟨#[]⟩, 2) else (⟨R.toArray⟩, 0) := by
    intro a b ha hb
    refine AgreeR_of _ _ R ?_ ?_ ?_
    · rw [size_mk, List.length_set, List.length_set, l1]
    · rw [size_mk, List.length_set, z2]
    · rw [data_mk, data_mk]; exact hf a b ha hb
  by_cases hz : R = zeros 32
  · rw [if_pos hz] at e1 e2
    exact ⟨_, _, Or.inr ⟨rfl, rfl⟩, e1, e2, fun a b ha hb => by rw [e3 a b ha hb, if_pos hz]⟩
  · rw [if_neg hz] at e1 e2
    exact ⟨⟨R.toArray⟩, 0, Or.inl ⟨rfl, by rw [size_mk, hal]⟩, e1, e2, fun a b ha hb => by rw [e3 a b ha hb, if_neg hz]⟩

set_option maxRecDepth 100000 in
set_option maxHeartbeats 4000000 in
theorem agreed_any (a0 a1 : ByteArray) (a2 : Int) (w : World) (h0 : a0.size ≤ 140737488351232) (h1 : a1.size ≤ 140737488351232) (c1 : -9223372036854775808 ≤ a2) (c2 : a2 ≤ 9223372036854775807) :
    Calls Try.prog 4 #[.string a0, .string a1, .int .i64 a2] w fun e w' => e = .returned (.bool true) ∧ Below w.heap.size w w' := by
  go_enter Try.func4, Try.ntmps4
  go_wp2_with fail
  refine (sized_any a0 32 w h0 (by decide) (by decide)).mono ?_
  rintro e w' ⟨k1, hk1, rfl, hw⟩
  obtain rfl := hw.symm
  rw [show (32 : Int).toNat = 32 from rfl] at hk1
  go_wp2_with fail
  refine (sized_any a1 32 w h1 (by decide) (by decide)).mono ?_
  rintro e w' ⟨k2, hk2, rfl, hw⟩
  obtain rfl := hw.symm
  rw [show (32 : Int).toNat = 32 from rfl] at hk2
  have P1 : Hid (∀ wx : World, Calls Try.prog 11 #[.string k1] wx fun e w' => e = .returned (.tuple #[.string ⟨(publicOf k1.data.toList).toArray⟩, .int .i64 0]) ∧ Below wx.heap.size wx w') := fun wx => Public_any k1 wx hk1
  have P2 : Hid (∀ wx : World, Calls Try.prog 11 #[.string k2] wx fun e w' => e = .returned (.tuple #[.string ⟨(publicOf k2.data.toList).toArray⟩, .int .i64 0]) ∧ Below wx.heap.size wx w') := fun wx => Public_any k2 wx hk2
  have m1 := publicOf_length k1.data.toList
  have l2 := publicOf_length k2.data.toList
  have RB := agreeR_both k1 k2 hk1 hk2 _ _ rfl rfl m1 l2
  generalize publicOf k1.data.toList = pl at P1 m1 RB
  generalize publicOf k2.data.toList = ql at P2 l2 RB
  obtain ⟨A, G, hG, r1, r2, r3⟩ := RB
  have s1 : (⟨pl.toArray⟩ : ByteArray).size = 32 := m1
  have s2 : (⟨ql.toArray⟩ : ByteArray).size = 32 := l2
  have d2 : (⟨ql.toArray⟩ : ByteArray).data.toList = ql := rfl
  have l1 : k1.data.toList.length = 32 := by rw [← hk1]; simp
  have A3 : Hid (∀ (a b : UInt8) (wx : World), a &&& 248 = 0 → b &&& 63 = 0 → Calls Try.prog 12 #[.string ⟨((k1.data.toList.set 0 (k1.data.toList.getD 0 0 ^^^ a)).set 31 (k1.data.toList.getD 31 0 ^^^ b)).toArray⟩, .string ⟨(ql.set 31 (ql.getD 31 0 ^^^ 128)).toArray⟩] wx fun e w' => e = .returned (.tuple #[.string A, .int .i64 G]) ∧ Below wx.heap.size wx w') := fun a b wx ha hb => by
    have e1 : (⟨((k1.data.toList.set 0 (k1.data.toList.getD 0 0 ^^^ a)).set 31 (k1.data.toList.getD 31 0 ^^^ b)).toArray⟩ : ByteArray).size = 32 := by rw [size_mk, List.length_set, List.length_set, l1]
    have e2 : (⟨(ql.set 31 (ql.getD 31 0 ^^^ 128)).toArray⟩ : ByteArray).size = 32 := by rw [size_mk, List.length_set, l2]
    have := Agree_any ⟨((k1.data.toList.set 0 (k1.data.toList.getD 0 0 ^^^ a)).set 31 (k1.data.toList.getD 31 0 ^^^ b)).toArray⟩ ⟨(ql.set 31 (ql.getD 31 0 ^^^ 128)).toArray⟩ wx (by rw [e1]; decide) (by rw [e2]; decide)
    rw [r3 a b ha hb] at this
    exact this
  generalize (⟨pl.toArray⟩ : ByteArray) = p at s1 P1 r2
  generalize (⟨ql.toArray⟩ : ByteArray) = q at s2 P2 r1 d2
  have A1 : Hid (∀ wx : World, Calls Try.prog 12 #[.string k1, .string q] wx fun e w' => e = .returned (.tuple #[.string A, .int .i64 G]) ∧ Below wx.heap.size wx w') := fun wx => by
    have := Agree_any k1 q wx (by omega) (by omega)
    rw [r1] at this
    exact this
  have A2 : Hid (∀ wx : World, Calls Try.prog 12 #[.string k2, .string p] wx fun e w' => e = .returned (.tuple #[.string A, .int .i64 G]) ∧ Below wx.heap.size wx w') := fun wx => by
    have := Agree_any k2 p wx (by omega) (by omega)
    rw [r2] at this
    exact this
  clear r1 r2 r3 m1
  go_wp2_with fail
  refine (P1.out _).mono ?_
  rintro e w1 ⟨rfl, b1⟩
  go_wp2_with fail
  refine (P2.out _).mono ?_
  rintro e w2 ⟨rfl, b2⟩
  have bel2 := b1.trans (b2.mono b1.size)
  clear b1 b2 P1 P2
  go_wp2_with fail
  refine (A1.out _).mono ?_
  rintro e w3 ⟨rfl, b3⟩
  have bel3 := bel2.trans (b3.mono bel2.size)
  clear b3 bel2 A1
  go_wp2_with fail
  refine (A2.out _).mono ?_
  rintro e w4 ⟨rfl, b4⟩
  have bel4 := bel3.trans (b4.mono bel3.size)
  clear b4 bel3 A2
  obtain ⟨cap, w5, hcv, ho, b5⟩ := bytesOf k1 w.heap.size w4 bel4.size
  replace ho := ho.at
  have bel5 := bel4.trans (b5.mono bel4.size)
  have hBg : w.heap.size ≤ w4.heap.size := bel4.size
  rw [hk1] at hcv
  clear bel4 b5
  generalize k1.data.toList = L at ho A3 l1
  have c0 := ho.cell 0 (by omega)
  have f0 := ho.frozen 0 (by omega)
  have hp := pickI_lo a2 8 (by decide)
  have HP : Hid (∀ wx : World, Calls Try.prog 10 #[.int .i64 a2, .int .i64 8] wx fun e w' => e = .returned (.int .i64 (pickI a2 8)) ∧ w' = wx) := fun wx => pick_any a2 8 wx c1 c2 (by decide) (by decide)
  generalize pickI a2 8 = m8 at hp HP
  obtain ⟨hp0, hp1⟩ := hp
  obtain ⟨ya, hya, hya8⟩ : ∃ y : UInt8, m8 = (y.toNat : Int) ∧ y &&& 248 = 0 := by
    obtain ⟨m, rfl⟩ := Int.eq_ofNat_of_zero_le hp0
    have hm8 : m < 8 := by omega
    have : ∀ i : Fin 8, i.val.toUInt8 &&& 248 = 0 ∧ i.val.toUInt8.toNat = i.val := by decide
    exact ⟨m.toUInt8, by rw [(this ⟨m, hm8⟩).2], (this ⟨m, hm8⟩).1⟩
  rw [hya] at HP
  clear hp0 hp1 hya
  have hp := pickI_lo a2 4 (by decide)
  have HQ : Hid (∀ wx : World, Calls Try.prog 10 #[.int .i64 a2, .int .i64 4] wx fun e w' => e = .returned (.int .i64 (pickI a2 4)) ∧ w' = wx) := fun wx => pick_any a2 4 wx c1 c2 (by decide) (by decide)
  generalize pickI a2 4 = m4 at hp HQ
  obtain ⟨hp0, hp1⟩ := hp
  obtain ⟨yb, hyb, hyb6⟩ : ∃ y : UInt8, m4 * 64 = (y.toNat : Int) ∧ y &&& 63 = 0 := by
    obtain ⟨m, rfl⟩ := Int.eq_ofNat_of_zero_le hp0
    have hm4 : m < 4 := by omega
    have : ∀ i : Fin 4, (i.val * 64).toUInt8 &&& 63 = 0 ∧ (i.val * 64).toUInt8.toNat = i.val * 64 := by decide
    exact ⟨(m * 64).toUInt8, by rw [(this ⟨m, hm4⟩).2]; simp, (this ⟨m, hm4⟩).1⟩
  have A4 : Hid (∀ wx : World, Calls Try.prog 12 #[.string ⟨((L.set 0 (L.getD 0 0 ^^^ ya)).set 31 (L.getD 31 0 ^^^ yb)).toArray⟩, .string ⟨(ql.set 31 (ql.getD 31 0 ^^^ 128)).toArray⟩] wx fun e w' => e = .returned (.tuple #[.string A, .int .i64 G]) ∧ Below wx.heap.size wx w') := fun wx => A3.out ya yb wx hya8 hyb6
  clear A3 hya8 hyb6
  have xr : bits BinOp.xor IntKind.u8 ((L.getD 0 0).toNat : Int) (ya.toNat : Int) = ((L.getD 0 0 ^^^ ya).toNat : Int) := xor_byte _ _
  have hl0 : (L.set 0 (L.getD 0 0 ^^^ ya)).length = 32 := by rw [List.length_set, l1]
  have h31 : (L.set 0 (L.getD 0 0 ^^^ ya)).getD 31 0 = L.getD 31 0 := by simp [List.getD, List.getElem?_set_ne (show 0 ≠ 31 by omega)]
  have ho1 := ho.set 0 (L.getD 0 0 ^^^ ya)
  have bel6 : Below w.heap.size w (w5.setCell ⟨w4.heap.size, 0, none⟩ (.int .u8 ((L.getD 0 0 ^^^ ya).toNat : Int))) := bel5.setCell (p := ⟨w4.heap.size, 0, none⟩) hBg _
  generalize hL1 : L.set 0 (L.getD 0 0 ^^^ ya) = L1 at ho1 A4 hl0 h31
  clear hL1
  generalize L.getD 0 0 ^^^ ya = v0 at xr ho1 bel6
  generalize L.getD 0 0 = x0 at c0 xr
  have hy0 := ya.toNat_lt
  have wr : IntKind.u8.wrap (ya.toNat : Int) = (ya.toNat : Int) := by rw [IntKind.wrap_u8]; omega
  go_wp2_with fail
  go_cut [] (fun wc => OwnR wc w4.heap.size cap L1 ∧ Below w.heap.size w wc)
  case first =>
    go_region_with (first | (go_at_call 10; refine (HP.out _).mono ?_; rintro e w' ⟨rfl, rfl⟩))
    all_goals
      go_wp2_with fail
      go_meet
      case rel => exact ⟨ho1.drew, bel6.drew⟩
  case rest =>
    clear ho bel5 ho1 bel6 c0 f0 xr wr HP hcv
    obtain ⟨ho, belc⟩ := hcut
    have c31 := ho.cell 31 (by omega)
    have f31 := ho.frozen 31 (by omega)
    rw [h31] at c31
    have xr : bits BinOp.xor IntKind.u8 ((L.getD 31 0).toNat : Int) (yb.toNat : Int) = ((L.getD 31 0 ^^^ yb).toNat : Int) := xor_byte _ _
    have hl2 : (L1.set 31 (L.getD 31 0 ^^^ yb)).length = 32 := by rw [List.length_set, hl0]
    have ho2 := ho.set 31 (L.getD 31 0 ^^^ yb)
    have bel7 : Below w.heap.size w (wc.setCell ⟨w4.heap.size, 31, none⟩ (.int .u8 ((L.getD 31 0 ^^^ yb).toNat : Int))) := belc.setCell (p := ⟨w4.heap.size, 31, none⟩) hBg _
    generalize hL2 : L1.set 31 (L.getD 31 0 ^^^ yb) = L2 at ho2 A4 hl2
    clear hL2 h31
    generalize L.getD 31 0 ^^^ yb = v1 at xr ho2 bel7
    generalize L.getD 31 0 = x1 at c31 xr
    have hy1 := yb.toNat_lt
    have wr : IntKind.u8.wrap (yb.toNat : Int) = (yb.toNat : Int) := by rw [IntKind.wrap_u8]; omega
    have wq : IntKind.i64.wrap (yb.toNat : Int) = (yb.toNat : Int) := by rw [IntKind.wrap_i64]; omega
    have wm : m4 * 64 = (yb.toNat : Int) := hyb
    clear hyb
    go_wp2_with fail
    go_cut [] (fun wd => OwnR wd w4.heap.size cap L2 ∧ Below w.heap.size w wd)
    case first =>
      go_region_with (first | (go_at_call 10; refine (HQ.out _).mono ?_; rintro e w' ⟨rfl, rfl⟩))
      all_goals
        go_wp2_with fail
        go_meet
        case rel =>
          try rw [wq, wr, xr]
          exact ⟨ho2.drew, bel7.drew⟩
    case rest =>
      clear ho belc ho2 bel7 c31 f31 xr wr wq wm HQ
      obtain ⟨ho, beld⟩ := hcut
      have hgl : w4.heap.size < wc.heap.size := ho.lt
      obtain ⟨cap2, w6, hcv, hq, b6⟩ := bytesOf q w.heap.size wc beld.size
      replace hq := hq.at
      have bel6 := beld.trans (b6.mono beld.size)
      have ho' := ho.below b6 hgl
      rw [d2] at hq
      rw [s2] at hcv
      have hBd : w.heap.size ≤ wc.heap.size := beld.size
      clear ho beld b6
      have c31 := hq.cell 31 (by omega)
      have f31 := hq.frozen 31 (by omega)
      have xr : bits BinOp.xor IntKind.u8 ((ql.getD 31 0).toNat : Int) 128 = ((ql.getD 31 0 ^^^ 128).toNat : Int) := xor_byte _ 128
      have hq2 := hq.set 31 (ql.getD 31 0 ^^^ 128)
      have hl3 : (ql.set 31 (ql.getD 31 0 ^^^ 128)).length = 32 := by rw [List.length_set, l2]
      have ho2 : OwnR (w6.setCell ⟨wc.heap.size, 31, none⟩ (.int .u8 ((ql.getD 31 0 ^^^ 128).toNat : Int))) w4.heap.size cap L2 := by
        obtain ⟨cur, fz, hh, _⟩ := hq
        rw [setCell_eq_setRow w6 wc.heap.size 31 cur _ fz _ hh]
        exact ho'.other (by omega) _
      have bel7 : Below w.heap.size w (w6.setCell ⟨wc.heap.size, 31, none⟩ (.int .u8 ((ql.getD 31 0 ^^^ 128).toNat : Int))) := bel6.setCell (p := ⟨wc.heap.size, 31, none⟩) hBd _
      generalize ql.set 31 (ql.getD 31 0 ^^^ 128) = M at hq2 A4 hl3
      generalize ql.getD 31 0 ^^^ 128 = v at xr hq2 ho2 bel7
      generalize ql.getD 31 0 = x at c31 xr
      have so1 := stringOfOwn (n := 32) ho2 hl2.symm
      have so2 := stringOfOwn (n := 32) hq2 hl3.symm
      generalize (⟨L2.toArray⟩ : ByteArray) = t1 at so1 A4
      generalize (⟨M.toArray⟩ : ByteArray) = t2 at so2 A4
      clear hq ho' bel6
      go_wp2_with fail
      refine (A4.out _).mono ?_
      rintro e w7 ⟨rfl, b7⟩
      have bel8 := bel7.trans (b7.mono bel7.size)
      clear ho2 hq2 so1 so2 bel7 b7
      rcases hG with ⟨rfl, hA⟩ | ⟨rfl, rfl⟩
      · have hA' : (A.size : Int) = 32 := by omega
        go_wp2
        go_ret
        exact ⟨rfl, bel8⟩
      · go_wp2
        go_ret
        exact ⟨rfl, bel8⟩

end Go.Proofs.Ytclpbaokadfhhaa
