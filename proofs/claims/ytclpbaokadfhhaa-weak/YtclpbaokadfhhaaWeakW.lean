/- The walk of the statement Weak. -/
import Derived.Test.YtclpbaokadfhhaaWkv
import Derived.Test.YtclpbaokadfhhaaHex
import Derived.Test.YtclpbaokadfhhaaKeep
namespace Go.Proofs.Ytclpbaokadfhhaa
open Go.RowKit
open Ff (fe Small)

def dg0 : ByteArray := ⟨#[48, 48, 48, 48, 48, 48, 48, 48, 48, 48, 48, 48, 48, 48, 48, 48, 48, 48, 48, 48, 48, 48, 48, 48, 48, 48, 48, 48, 48, 48, 48, 48, 48, 48, 48, 48, 48, 48, 48, 48, 48, 48, 48, 48, 48, 48, 48, 48, 48, 48, 48, 48, 48, 48, 48, 48, 48, 48, 48, 48, 48, 48, 48, 48]⟩
def dg1 : ByteArray := ⟨#[48, 49, 48, 48, 48, 48, 48, 48, 48, 48, 48, 48, 48, 48, 48, 48, 48, 48, 48, 48, 48, 48, 48, 48, 48, 48, 48, 48, 48, 48, 48, 48, 48, 48, 48, 48, 48, 48, 48, 48, 48, 48, 48, 48, 48, 48, 48, 48, 48, 48, 48, 48, 48, 48, 48, 48, 48, 48, 48, 48, 48, 48, 48, 48]⟩
def dg2 : ByteArray := ⟨#[101, 48, 101, 98, 55, 97, 55, 99, 51, 98, 52, 49, 98, 56, 97, 101, 49, 54, 53, 54, 101, 51, 102, 97, 102, 49, 57, 102, 99, 52, 54, 97, 100, 97, 48, 57, 56, 100, 101, 98, 57, 99, 51, 50, 98, 49, 102, 100, 56, 54, 54, 50, 48, 53, 49, 54, 53, 102, 52, 57, 98, 56, 48, 48]⟩
def dg3 : ByteArray := ⟨#[53, 102, 57, 99, 57, 53, 98, 99, 97, 51, 53, 48, 56, 99, 50, 52, 98, 49, 100, 48, 98, 49, 53, 53, 57, 99, 56, 51, 101, 102, 53, 98, 48, 52, 52, 52, 53, 99, 99, 52, 53, 56, 49, 99, 56, 101, 56, 54, 100, 56, 50, 50, 52, 101, 100, 100, 100, 48, 57, 102, 49, 49, 53, 55]⟩
def dg4 : ByteArray := ⟨#[101, 99, 102, 102, 102, 102, 102, 102, 102, 102, 102, 102, 102, 102, 102, 102, 102, 102, 102, 102, 102, 102, 102, 102, 102, 102, 102, 102, 102, 102, 102, 102, 102, 102, 102, 102, 102, 102, 102, 102, 102, 102, 102, 102, 102, 102, 102, 102, 102, 102, 102, 102, 102, 102, 102, 102, 102, 102, 102, 102, 102, 102, 55, 102]⟩
def dg5 : ByteArray := ⟨#[101, 100, 102, 102, 102, 102, 102, 102, 102, 102, 102, 102, 102, 102, 102, 102, 102, 102, 102, 102, 102, 102, 102, 102, 102, 102, 102, 102, 102, 102, 102, 102, 102, 102, 102, 102, 102, 102, 102, 102, 102, 102, 102, 102, 102, 102, 102, 102, 102, 102, 102, 102, 102, 102, 102, 102, 102, 102, 102, 102, 102, 102, 55, 102]⟩
def dg6 : ByteArray := ⟨#[101, 101, 102, 102, 102, 102, 102, 102, 102, 102, 102, 102, 102, 102, 102, 102, 102, 102, 102, 102, 102, 102, 102, 102, 102, 102, 102, 102, 102, 102, 102, 102, 102, 102, 102, 102, 102, 102, 102, 102, 102, 102, 102, 102, 102, 102, 102, 102, 102, 102, 102, 102, 102, 102, 102, 102, 102, 102, 102, 102, 102, 102, 55, 102]⟩
def dgs : List ByteArray := [dg0, dg1, dg2, dg3, dg4, dg5, dg6]
/-- the bytes of point k, its highest bit set or not -/
def weakOf (k : Nat) (high : Bool) : List UInt8 :=
  let l := hexL (dgs.getD k ⟨#[]⟩).data.toList
  if high then l.set 31 (l.getD 31 0 ||| 128) else l
theorem dg_len : ∀ k : Fin 7, (dgs.getD k.val ⟨#[]⟩).size = 64 ∧ (hexL (dgs.getD k.val ⟨#[]⟩).data.toList).length = 32 := by decide +kernel
theorem wv0false : Ff.val (Ff.of (weakOf 0 false)) % Pr.P = Wk.u0 % Pr.P := by decide +kernel
theorem wv0true : Ff.val (Ff.of (weakOf 0 true)) % Pr.P = Wk.u0 % Pr.P := by decide +kernel
theorem wv1false : Ff.val (Ff.of (weakOf 1 false)) % Pr.P = Wk.u1 % Pr.P := by decide +kernel
theorem wv1true : Ff.val (Ff.of (weakOf 1 true)) % Pr.P = Wk.u1 % Pr.P := by decide +kernel
theorem wv2false : Ff.val (Ff.of (weakOf 2 false)) % Pr.P = Wk.u2 % Pr.P := by decide +kernel
theorem wv2true : Ff.val (Ff.of (weakOf 2 true)) % Pr.P = Wk.u2 % Pr.P := by decide +kernel
theorem wv3false : Ff.val (Ff.of (weakOf 3 false)) % Pr.P = Wk.u3 % Pr.P := by decide +kernel
theorem wv3true : Ff.val (Ff.of (weakOf 3 true)) % Pr.P = Wk.u3 % Pr.P := by decide +kernel
theorem wv4false : Ff.val (Ff.of (weakOf 4 false)) % Pr.P = Wk.u4 % Pr.P := by decide +kernel
theorem wv4true : Ff.val (Ff.of (weakOf 4 true)) % Pr.P = Wk.u4 % Pr.P := by decide +kernel
theorem wv5false : Ff.val (Ff.of (weakOf 5 false)) % Pr.P = Wk.u0 % Pr.P := by decide +kernel
theorem wv5true : Ff.val (Ff.of (weakOf 5 true)) % Pr.P = Wk.u0 % Pr.P := by decide +kernel
theorem wv6false : Ff.val (Ff.of (weakOf 6 false)) % Pr.P = Wk.u1 % Pr.P := by decide +kernel
theorem wv6true : Ff.val (Ff.of (weakOf 6 true)) % Pr.P = Wk.u1 % Pr.P := by decide +kernel
theorem weak_end (k : Nat) (hk : k < 7) (high : Bool) (bits : List Bool) : (Wk.run (fe (Ff.of (weakOf k high))) (Wk.first (fe (Ff.of (weakOf k high)))) (bits ++ [false, false, false])).b = 0 := by
  match k, hk, high with
  | 0, _, false =>
    have e : fe (Ff.of (weakOf 0 false)) = Gf.ofN Wk.u0 := Gf.ofN_eq.2 wv0false
    rw [e]; exact Wk.end0 bits
  | 0, _, true =>
    have e : fe (Ff.of (weakOf 0 true)) = Gf.ofN Wk.u0 := Gf.ofN_eq.2 wv0true
    rw [e]; exact Wk.end0 bits
  | 1, _, false =>
    have e : fe (Ff.of (weakOf 1 false)) = Gf.ofN Wk.u1 := Gf.ofN_eq.2 wv1false
    rw [e]; exact Wk.end1 bits
  | 1, _, true =>
    have e : fe (Ff.of (weakOf 1 true)) = Gf.ofN Wk.u1 := Gf.ofN_eq.2 wv1true
    rw [e]; exact Wk.end1 bits
  | 2, _, false =>
    have e : fe (Ff.of (weakOf 2 false)) = Gf.ofN Wk.u2 := Gf.ofN_eq.2 wv2false
    rw [e]; exact Wk.end2 bits
  | 2, _, true =>
    have e : fe (Ff.of (weakOf 2 true)) = Gf.ofN Wk.u2 := Gf.ofN_eq.2 wv2true
    rw [e]; exact Wk.end2 bits
  | 3, _, false =>
    have e : fe (Ff.of (weakOf 3 false)) = Gf.ofN Wk.u3 := Gf.ofN_eq.2 wv3false
    rw [e]; exact Wk.end3 bits
  | 3, _, true =>
    have e : fe (Ff.of (weakOf 3 true)) = Gf.ofN Wk.u3 := Gf.ofN_eq.2 wv3true
    rw [e]; exact Wk.end3 bits
  | 4, _, false =>
    have e : fe (Ff.of (weakOf 4 false)) = Gf.ofN Wk.u4 := Gf.ofN_eq.2 wv4false
    rw [e]; exact Wk.end4 bits
  | 4, _, true =>
    have e : fe (Ff.of (weakOf 4 true)) = Gf.ofN Wk.u4 := Gf.ofN_eq.2 wv4true
    rw [e]; exact Wk.end4 bits
  | 5, _, false =>
    have e : fe (Ff.of (weakOf 5 false)) = Gf.ofN Wk.u0 := Gf.ofN_eq.2 wv5false
    rw [e]; exact Wk.end0 bits
  | 5, _, true =>
    have e : fe (Ff.of (weakOf 5 true)) = Gf.ofN Wk.u0 := Gf.ofN_eq.2 wv5true
    rw [e]; exact Wk.end0 bits
  | 6, _, false =>
    have e : fe (Ff.of (weakOf 6 false)) = Gf.ofN Wk.u1 := Gf.ofN_eq.2 wv6false
    rw [e]; exact Wk.end1 bits
  | 6, _, true =>
    have e : fe (Ff.of (weakOf 6 true)) = Gf.ofN Wk.u1 := Gf.ofN_eq.2 wv6true
    rw [e]; exact Wk.end1 bits
theorem weak_zero (secret : List UInt8) (hs : secret.length = 32) (k : Nat) (hk : k < 7) (high : Bool) : agreed secret (weakOf k high) = zeros 32 :=
  agreed_zero secret _ hs (weak_end k hk high)
theorem Ss7 : (#[.string dg0, .string dg1, .string dg2, .string dg3, .string dg4, .string dg5, .string dg6] : Array Value) = Ss dgs := rfl

set_option maxRecDepth 100000 in
set_option maxHeartbeats 4000000 in
theorem weak_any (a0 : ByteArray) (a1 : Int) (high : Bool) (w : World) (h0 : a0.size ≤ 140737488351232) (c1 : -9223372036854775808 ≤ a1) (c2 : a1 ≤ 9223372036854775807) :
    Calls Try.prog 5 #[.string a0, .int .i64 a1, .bool high] w fun e w' => e = .returned (.bool true) ∧ Below w.heap.size w w' := by
  go_enter Try.func5, Try.ntmps5
  go_wp2_with fail
  refine (sized_any a0 32 w h0 (by decide) (by decide)).mono ?_
  rintro e w' ⟨key, hk, rfl, hw⟩
  obtain rfl := hw.symm
  rw [show (32 : Int).toNat = 32 from rfl] at hk
  go_wp2_with fail
  generalize hw1 : w.alloc _ = w1
  have hB : Blk w1 w.heap.size (Ss dgs) 9 := by rw [← hw1]; exact Blk.new w (Ss dgs) _
  have bel1 : Below w.heap.size w w1 := by rw [← hw1]; exact (Below.refl _ _).alloc (Nat.le_refl _) _
  clear hw1
  refine (pick_any a1 7 w1 c1 c2 (by decide) (by decide)).mono ?_
  rintro e w' ⟨rfl, hw⟩
  obtain rfl := hw.symm
  have hp := pickI_lo a1 7 (by decide)
  generalize pickI a1 7 = kk at hp ⊢
  obtain ⟨hp0, hp1⟩ := hp
  obtain ⟨k, rfl⟩ := Int.eq_ofNat_of_zero_le hp0
  have hk7 : k < 7 := by omega
  have hcell := hB.cell k
  rw [Ss_at _ _ hk7] at hcell
  obtain ⟨z1, z2⟩ := dg_len ⟨k, hk7⟩
  dsimp only at z1 z2
  have hW : ∀ high, weakOf k high = if high then (hexL (dgs.getD k ⟨#[]⟩).data.toList).set 31 ((hexL (dgs.getD k ⟨#[]⟩).data.toList).getD 31 0 ||| 128) else hexL (dgs.getD k ⟨#[]⟩).data.toList := fun high => rfl
  replace hW : Hid (∀ high, weakOf k high = if high then (hexL (dgs.getD k ⟨#[]⟩).data.toList).set 31 ((hexL (dgs.getD k ⟨#[]⟩).data.toList).getD 31 0 ||| 128) else hexL (dgs.getD k ⟨#[]⟩).data.toList) := hW
  generalize dgs.getD k ⟨#[]⟩ = dg at hcell z1 z2 hW
  have HX : Hid (∀ wx : World, Calls Try.prog 13 #[.string dg] wx fun e w' => e = .returned (.string ⟨(hexL dg.data.toList).toArray⟩) ∧ Below wx.heap.size wx w') := fun wx => hex_any dg wx (by omega)
  generalize hexL dg.data.toList = l at z2 hW HX
  clear z1
  have hs32 : (⟨l.toArray⟩ : ByteArray).size = 32 := z2
  have hd32 : (⟨l.toArray⟩ : ByteArray).data.toList = l := rfl
  generalize (⟨l.toArray⟩ : ByteArray) = ps at HX hs32 hd32
  have hkk : (k : Int) < 7 := by omega
  go_wp2_with fail
  refine (HX.out _).mono ?_
  rintro e w2 ⟨rfl, b2⟩
  have bel2 := bel1.trans (b2.mono bel1.size)
  clear HX b2 hB hcell bel1
  obtain ⟨cap, w3, hcv, ho, b3⟩ := bytesOf ps w.heap.size w2 bel2.size
  replace ho := ho.at
  have bel3 := bel2.trans (b3.mono bel2.size)
  have hBg : w.heap.size ≤ w2.heap.size := bel2.size
  rw [hd32] at ho
  rw [hs32] at hcv
  have HA : Hid (∀ (h : Bool) (wx : World), Calls Try.prog 12 #[.string key, .string ⟨(weakOf k h).toArray⟩] wx fun e w' => e = .returned (.tuple #[.string ⟨#[]⟩, .int .i64 2]) ∧ Below wx.heap.size wx w') := fun h wx => by
    have hl : (weakOf k h).length = 32 := by rw [hW.out]; split <;> simp [z2]
    have hz : (⟨(weakOf k h).toArray⟩ : ByteArray).size = 32 := hl
    have := Agree_any key ⟨(weakOf k h).toArray⟩ wx (by omega) (by omega)
    have eR : AgreeR key ⟨(weakOf k h).toArray⟩ = (⟨#[]⟩, 2) := by
      unfold AgreeR
      rw [if_pos ⟨hk, hz⟩, if_pos (weak_zero key.data.toList (by rw [← hk]; simp) k hk7 h)]
    rw [eR] at this
    exact this
  clear bel2 b3
  cases high with
  | false =>
    have hw0 : weakOf k false = l := by rw [hW.out]; rfl
    have HA2 := HA.out false
    rw [hw0] at HA2
    replace HA2 : Hid (∀ wx : World, Calls Try.prog 12 #[.string key, .string ⟨l.toArray⟩] wx fun e w' => e = .returned (.tuple #[.string ⟨#[]⟩, .int .i64 2]) ∧ Below wx.heap.size wx w') := HA2
    have hso := stringOfOwn (n := 32) ho z2.symm
    generalize (⟨l.toArray⟩ : ByteArray) = qs at HA2 hso
    go_wp2_with fail
    refine (HA2.out _).mono ?_
    rintro e w4 ⟨rfl, b4⟩
    go_wp2
    go_ret
    exact ⟨rfl, bel3.trans (b4.mono bel3.size)⟩
  | true =>
    have hw0 : weakOf k true = l.set 31 (l.getD 31 0 ||| 128) := by rw [hW.out]; rfl
    have HA2 := HA.out true
    rw [hw0] at HA2
    replace HA2 : Hid (∀ wx : World, Calls Try.prog 12 #[.string key, .string ⟨(l.set 31 (l.getD 31 0 ||| 128)).toArray⟩] wx fun e w' => e = .returned (.tuple #[.string ⟨#[]⟩, .int .i64 2]) ∧ Below wx.heap.size wx w') := HA2
    have c31 := ho.cell 31 (by omega)
    have f31 := ho.frozen 31 (by omega)
    have o2 := ho.set 31 (l.getD 31 0 ||| 128)
    have a2 : bits BinOp.or IntKind.u8 ((l.getD 31 0).toNat : Int) 128 = ((l.getD 31 0 ||| 128).toNat : Int) := or_byte _ 128
    have hso := stringOfOwn (n := 32) o2 (by simp [z2])
    have bel4 : Below w.heap.size w (w3.setCell ⟨w2.heap.size, 31, none⟩ (.int .u8 ((l.getD 31 0 ||| 128).toNat : Int))) := bel3.setCell (p := ⟨w2.heap.size, 31, none⟩) hBg _
    generalize (⟨(l.set 31 (l.getD 31 0 ||| 128)).toArray⟩ : ByteArray) = qs at HA2 hso
    clear o2 hw0 HA hW
    generalize l.getD 31 0 ||| 128 = y at *
    generalize l.getD 31 0 = x at *
    go_wp2_with fail
    refine (HA2.out _).mono ?_
    rintro e w4 ⟨rfl, b4⟩
    go_wp2
    go_ret
    exact ⟨rfl, bel4.trans (b4.mono bel4.size)⟩

end Go.Proofs.Ytclpbaokadfhhaa
