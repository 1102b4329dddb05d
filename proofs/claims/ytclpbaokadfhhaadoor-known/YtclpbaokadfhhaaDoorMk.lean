/- Several texts as one: Upon, Wkv. -/
import Derived.Test.YtclpbaokadfhhaaDoorMf
import Derived.Test.YtclpbaokadfhhaaDoorNotKeys
import Derived.Test.YtclpbaokadfhhaaDoorFv
import Derived.Test.YtclpbaokadfhhaaDoorMe
namespace Go.Proofs.YtclpbaokadfhhaaDoor
open Go.RowKit

theorem of_length (s : List UInt8) : (Ff.of s).length = 5 := rfl
theorem bytes_zero : Ff.bytes [0, 0, 0, 0, 0] = zeros 32 := by decide +kernel
theorem buildZero (w : World) : (Instr.build 58 #[]).run Tryd.prog w = .ok (.agg (Ws [0, 0, 0, 0, 0])) w := run_build w _ _ _ (by kernel_rfl)
/-- what two agree upon -/
def agreed (secret point : List UInt8) : List UInt8 := ladBytes secret (Ff.of point)

set_option maxRecDepth 100000 in
set_option maxHeartbeats 2000000 in
theorem Upon_any (s p : ByteArray) (w : World) (hs : s.size = 32) (hp : p.size = 32) :
    Calls Tryd.prog 25 #[.string s, .string p] w fun e w' => e = .returned (.tuple #[.string ⟨(agreed s.data.toList p.data.toList).toArray⟩, .bool (!(agreed s.data.toList p.data.toList == zeros 32))]) ∧ Below w.heap.size w w' := by
  have H1 : Hid (∀ wx : World, Calls Tryd.prog 45 #[.string p] wx fun e w' => e = .returned (.agg (Ws (Ff.of p.data.toList))) ∧ Below wx.heap.size wx w') := fun wx => F_of p wx hp
  have H2 : Hid (∀ wx : World, Calls Tryd.prog 44 #[.string s, .agg (Ws (Ff.of p.data.toList))] wx fun e w' => e = .returned (.string ⟨(agreed s.data.toList p.data.toList).toArray⟩) ∧ Below wx.heap.size wx w') := fun wx => A_withNumber s _ wx hs (of_length _)
  have H3 : Hid (∀ wx : World, Calls Tryd.prog 46 #[.agg (Ws [0, 0, 0, 0, 0])] wx fun e w' => e = .returned (.string ⟨(zeros 32).toArray⟩) ∧ Below wx.heap.size wx w') := fun wx => by
    have := F_bytes [0, 0, 0, 0, 0] wx rfl
    rw [bytes_zero] at this
    exact this
  generalize agreed s.data.toList p.data.toList = R at H2 ⊢
  generalize Ff.of p.data.toList = V at H1 H2
  generalize hz : zeros 32 = Z at H3 ⊢
  replace hz : Hid (zeros 32 = Z) := hz
  go_enter Tryd.func25, Tryd.ntmps25
  go_wp2_with fail
  refine (H1.out _).mono ?_
  rintro e w1 ⟨rfl, b1⟩
  go_wp2_with fail
  refine (H2.out _).mono ?_
  rintro e w2 ⟨rfl, b2⟩
  have bel2 := b1.trans (b2.mono b1.size)
  clear b1 b2
  go_wp2_with (refine wpList_build rfl 58 _ rfl [] rfl _ (buildZero _) ?_)
  refine (H3.out _).mono ?_
  rintro e w3 ⟨rfl, b3⟩
  go_wp2
  go_ret2
  exact ⟨rfl, bel2.trans (b3.mono bel2.size)⟩

/-- what Agree answers -/
def AgreeR (s p : ByteArray) : ByteArray × Int :=
  if s.size = 32 ∧ p.size = 32 then (if agreed s.data.toList p.data.toList = zeros 32 then (⟨#[]⟩, 2) else (⟨(agreed s.data.toList p.data.toList).toArray⟩, 0)) else (⟨#[]⟩, 1)

set_option maxRecDepth 100000 in
set_option maxHeartbeats 2000000 in
theorem Agree_any (s p : ByteArray) (w : World) (hs : s.size ≤ 140737488351232) (hp : p.size ≤ 140737488351232) :
    Calls Tryd.prog 16 #[.string s, .string p] w fun e w' => e = .returned (.tuple #[.string (AgreeR s p).1, .int .i64 (AgreeR s p).2]) ∧ Below w.heap.size w w' := by
  have hbel : Below w.heap.size w (w.alloc (.cells (Ss [s, p]) 9)) := (Below.refl _ _).alloc (Nat.le_refl _) _
  have HT := notKeys_two s p w hs hp
  by_cases h : s.size = 32 ∧ p.size = 32
  · have e2 : decide (¬ (s.size = 32 ∧ p.size = 32)) = false := by simp [h.1, h.2]
    rw [e2] at HT
    replace HT : Hid (Calls Tryd.prog 21 #[.slice (some ⟨w.heap.size, 0, none⟩) 2 2] (w.alloc (.cells (Ss [s, p]) 9)) fun e w' => e = .returned (.bool false) ∧ w' = w.alloc (.cells (Ss [s, p]) 9)) := HT
    have HU : Hid (∀ wx : World, Calls Tryd.prog 25 #[.string s, .string p] wx fun e w' => e = .returned (.tuple #[.string ⟨(agreed s.data.toList p.data.toList).toArray⟩, .bool (!(agreed s.data.toList p.data.toList == zeros 32))]) ∧ Below wx.heap.size wx w') := fun wx => Upon_any s p wx h.1 h.2
    have e1 : AgreeR s p = if agreed s.data.toList p.data.toList = zeros 32 then (⟨#[]⟩, 2) else (⟨(agreed s.data.toList p.data.toList).toArray⟩, 0) := by unfold AgreeR; rw [if_pos h]
    rw [e1]
    generalize agreed s.data.toList p.data.toList = R at HU
    clear e1 e2
    by_cases hR : R = zeros 32
    · have hb : (!(R == zeros 32)) = false := by simp [hR]
      rw [hb] at HU
      rw [if_pos hR]
      clear hb hR
      go_enter Tryd.func16, Tryd.ntmps16
      go_wp2_with fail
      refine HT.out.mono ?_
      rintro e w' ⟨rfl, rfl⟩
      go_wp2_with fail
      refine (HU.out _).mono ?_
      rintro e w2 ⟨rfl, hb2⟩
      go_wp2
      go_ret2
      exact ⟨rfl, hbel.trans (hb2.mono hbel.size)⟩
    · have hb : (!(R == zeros 32)) = true := by simp [hR]
      rw [hb] at HU
      rw [if_neg hR]
      clear hb hR
      go_enter Tryd.func16, Tryd.ntmps16
      go_wp2_with fail
      refine HT.out.mono ?_
      rintro e w' ⟨rfl, rfl⟩
      go_wp2_with fail
      refine (HU.out _).mono ?_
      rintro e w2 ⟨rfl, hb2⟩
      go_wp2
      go_ret2
      exact ⟨rfl, hbel.trans (hb2.mono hbel.size)⟩
  · have e2 : decide (¬ (s.size = 32 ∧ p.size = 32)) = true := decide_eq_true h
    rw [e2] at HT
    replace HT : Hid (Calls Tryd.prog 21 #[.slice (some ⟨w.heap.size, 0, none⟩) 2 2] (w.alloc (.cells (Ss [s, p]) 9)) fun e w' => e = .returned (.bool true) ∧ w' = w.alloc (.cells (Ss [s, p]) 9)) := HT
    have e1 : AgreeR s p = (⟨#[]⟩, 1) := by unfold AgreeR; rw [if_neg h]
    rw [e1]
    clear e1 e2 h
    go_enter Tryd.func16, Tryd.ntmps16
    go_wp2_with fail
    refine HT.out.mono ?_
    rintro e w' ⟨rfl, rfl⟩
    go_wp2
    go_ret2
    exact ⟨rfl, hbel⟩

end Go.Proofs.YtclpbaokadfhhaaDoor

namespace Go.Proofs.YtclpbaokadfhhaaDoor
open Go.RowKit
open Gf (Fp ofN)
open Ff (fe Small)

/-- the ladder's numbers as elements -/
def Lad.st (s : Lad) : Wk.St := ⟨fe s.a, fe s.b, fe s.c, fe s.d⟩
def Lad.small (s : Lad) : Prop := Small s.a ∧ Small s.b ∧ Small s.c ∧ Small s.d
theorem kurve_small : Small Ff.kurve := ⟨rfl, by decide +kernel⟩
theorem kurve_fe : fe Ff.kurve = ofN 121665 := rfl
theorem step_fe {V : List (BitVec 64)} {s : Lad} (hV : Small V) (h : s.small) : (s.step V).small ∧ (s.step V).st = s.st.step (fe V) := by
  obtain ⟨A, B, C, D⟩ := s
  obtain ⟨hA, hB, hC, hD⟩ := h
  dsimp only at hA hB hC hD
  have e := Ff.plus_fe hA hB
  have f := Ff.minus_fe hA hB
  have g := Ff.plus_fe hC hD
  have i := Ff.minus_fe hC hD
  have he := Ff.times_fe i.1 e.1
  have gf := Ff.times_fe g.1 f.1
  have ee := Ff.times_fe e.1 e.1
  have ff := Ff.times_fe f.1 f.1
  have ap := Ff.minus_fe ee.1 ff.1
  have ra := Ff.times_fe ee.1 ff.1
  have x1 := Ff.times_fe ap.1 kurve_small
  have x2 := Ff.plus_fe ee.1 x1.1
  have rb := Ff.times_fe ap.1 x2.1
  have x3 := Ff.plus_fe he.1 gf.1
  have rc := Ff.times_fe x3.1 x3.1
  have x4 := Ff.minus_fe he.1 gf.1
  have x5 := Ff.times_fe x4.1 x4.1
  have rd := Ff.times_fe hV x5.1
  have sa : Small (Ff.stepA A B) ∧ fe (Ff.stepA A B) = Wk.fA (fe A) (fe B) := by
    unfold Ff.stepA Wk.fA
    refine ⟨ra.1, ?_⟩
    rw [ra.2, ee.2, ff.2, e.2, f.2]
  have sb : Small (Ff.stepB A B) ∧ fe (Ff.stepB A B) = Wk.fB (fe A) (fe B) := by
    unfold Ff.stepB Ff.apart Wk.fB
    refine ⟨rb.1, ?_⟩
    rw [rb.2, x2.2, x1.2, ap.2, ee.2, ff.2, e.2, f.2, kurve_fe]
  have sc : Small (Ff.stepC A B C D) ∧ fe (Ff.stepC A B C D) = Wk.fC (fe A) (fe B) (fe C) (fe D) := by
    unfold Ff.stepC Ff.he Ff.gf Wk.fC
    refine ⟨rc.1, ?_⟩
    rw [rc.2, x3.2, he.2, gf.2, e.2, f.2, g.2, i.2]
  have sd : Small (Ff.stepD A B C D V) ∧ fe (Ff.stepD A B C D V) = Wk.fD (fe V) (fe A) (fe B) (fe C) (fe D) := by
    unfold Ff.stepD Ff.he Ff.gf Wk.fD
    refine ⟨rd.1, ?_⟩
    rw [rd.2, x5.2, x4.2, he.2, gf.2, e.2, f.2, g.2, i.2]
  have hst : (Lad.mk A B C D).step V = ⟨Ff.stepA A B, Ff.stepB A B, Ff.stepC A B C D, Ff.stepD A B C D V⟩ := rfl
  rw [hst]
  generalize Ff.stepA A B = ZA at sa
  generalize Ff.stepB A B = ZB at sb
  generalize Ff.stepC A B C D = ZC at sc
  generalize Ff.stepD A B C D V = ZD at sd
  refine ⟨⟨sa.1, sb.1, sc.1, sd.1⟩, ?_⟩
  show (⟨fe ZA, fe ZB, fe ZC, fe ZD⟩ : Wk.St) = ⟨Wk.fA (fe A) (fe B), Wk.fB (fe A) (fe B), Wk.fC (fe A) (fe B) (fe C) (fe D), Wk.fD (fe V) (fe A) (fe B) (fe C) (fe D)⟩
  rw [sa.2, sb.2, sc.2, sd.2]
theorem bitW_two (x : UInt8) (r : Nat) : bitW x r = if (x.toNat / 2 ^ r % 2 == 1) then 1 else 0 := by
  unfold bitW
  have h : x.toNat / 2 ^ r % 2 = 0 ∨ x.toNat / 2 ^ r % 2 = 1 := by omega
  rcases h with h | h <;> rw [h] <;> rfl
theorem swap_fe {s : Lad} (h : s.small) (t : Bool) : (s.swap (if t then 1 else 0)).small ∧ (s.swap (if t then 1 else 0)).st = s.st.swap t := by
  obtain ⟨A, B, C, D⟩ := s
  obtain ⟨hA, hB, hC, hD⟩ := h
  dsimp only at hA hB hC hD
  cases t with
  | false =>
    unfold Lad.swap
    simp only [Bool.false_eq_true, if_false, Ff.swap_zero A C hA.1 hC.1, Ff.swap_zero B D hB.1 hD.1]
    exact ⟨⟨hA, hB, hC, hD⟩, rfl⟩
  | true =>
    unfold Lad.swap
    simp only [if_true, Ff.swap_one A C hA.1 hC.1, Ff.swap_one B D hB.1 hD.1]
    exact ⟨⟨hC, hD, hA, hB⟩, rfl⟩
/-- the bits of a key, n of them from 254 down -/
def keyBit (key : List UInt8) (at0 : Nat) : Bool := (key.getD (at0 / 8) 0).toNat / 2 ^ (at0 % 8) % 2 == 1
def keyBits (key : List UInt8) : Nat → List Bool
  | 0 => []
  | n + 1 => keyBits key n ++ [keyBit key (254 - n)]
theorem one_small : Small [1, 0, 0, 0, 0] := ⟨rfl, by decide +kernel⟩
theorem zero_small : Small [0, 0, 0, 0, 0] := ⟨rfl, by decide +kernel⟩
theorem first_small {V : List (BitVec 64)} (hV : Small V) : (Lad.first V).small := ⟨one_small, zero_small, hV, one_small⟩
theorem to_fe (key : List UInt8) {V : List (BitVec 64)} (hV : Small V) : ∀ n, (Lad.to key V n).small ∧ (Lad.to key V n).st = Wk.run (fe V) (Wk.first (fe V)) (keyBits key n)
  | 0 => ⟨first_small hV, rfl⟩
  | n + 1 => by
    obtain ⟨h1, h2⟩ := to_fe key hV n
    have hb : bitW (key.getD ((254 - n) / 8) 0) ((254 - n) % 8) = if keyBit key (254 - n) then 1 else 0 := bitW_two _ _
    rw [Lad.to, keyBits, hb]
    generalize keyBit key (254 - n) = t
    obtain ⟨s1, e1⟩ := swap_fe h1 t
    obtain ⟨s2, e2⟩ := step_fe hV s1
    obtain ⟨s3, e3⟩ := swap_fe s2 t
    refine ⟨s3, ?_⟩
    rw [e3, e2, e1, h2, Wk.run_append]
    rfl
theorem inv_zero : Gf.inv 0 = 0 := by
  unfold Gf.inv
  have e : ∀ n : Nat, Gf.pw (0 : Fp) (n + 1) = 0 := by
    intro n
    show Gf.pw 0 n * 0 = 0
    generalize Gf.pw (0 : Fp) n = x
    grind
  exact e 57896044618658097711785492504343953926634992332820282019728792003956564819946
/-- a key's three lowest bits are 0 -/
theorem low_bits (secret : List UInt8) (h : secret.length = 32) : keyBits (changed secret) 255 = keyBits (changed secret) 252 ++ [false, false, false] := by
  have h0 : (changed secret).getD 0 0 = secret.getD 0 0 &&& 248 := by
    unfold changed
    have hl : 0 < secret.length := by omega
    simp [List.getD, hl]
  have hb : ∀ x : UInt8, ((x &&& 248).toNat / 2 ^ 2 % 2 == 1) = false ∧ ((x &&& 248).toNat / 2 ^ 1 % 2 == 1) = false ∧ ((x &&& 248).toNat / 2 ^ 0 % 2 == 1) = false := by
    have : ∀ i : Fin 256, ((i.val.toUInt8 &&& 248).toNat / 2 ^ 2 % 2 == 1) = false ∧ ((i.val.toUInt8 &&& 248).toNat / 2 ^ 1 % 2 == 1) = false ∧ ((i.val.toUInt8 &&& 248).toNat / 2 ^ 0 % 2 == 1) = false := by decide +kernel
    intro x
    have := this ⟨x.toNat, x.toNat_lt⟩
    simpa using this
  obtain ⟨b2, b1, b0⟩ := hb (secret.getD 0 0)
  have k2 : keyBit (changed secret) (254 - 252) = false := by
    show (((changed secret).getD 0 0).toNat / 2 ^ 2 % 2 == 1) = false
    rw [h0]; exact b2
  have k1 : keyBit (changed secret) (254 - 253) = false := by
    show (((changed secret).getD 0 0).toNat / 2 ^ 1 % 2 == 1) = false
    rw [h0]; exact b1
  have k0 : keyBit (changed secret) (254 - 254) = false := by
    show (((changed secret).getD 0 0).toNat / 2 ^ 0 % 2 == 1) = false
    rw [h0]; exact b0
  show ((keyBits (changed secret) 252 ++ [keyBit (changed secret) (254 - 252)]) ++ [keyBit (changed secret) (254 - 253)]) ++ [keyBit (changed secret) (254 - 254)] = _
  rw [k2, k1, k0]; simp
theorem of_small (l : List UInt8) : Small (Ff.of l) := by
  refine ⟨rfl, ?_⟩
  have h : ∀ x : BitVec 64, (x &&& Ff.M51).toNat < 4503599627370496 := by
    intro x
    rw [Ff.and51]; omega
  intro k hk
  match k, hk with
  | 0, _ => exact h _
  | 1, _ => exact h _
  | 2, _ => exact h _
  | 3, _ => exact h _
  | 4, _ => exact h _
/-- b = 0 at the ladder's end: 32 bytes 0 -/
theorem agreed_zero (secret point : List UInt8) (hs : secret.length = 32) (hb : ∀ bits : List Bool, (Wk.run (fe (Ff.of point)) (Wk.first (fe (Ff.of point))) (bits ++ [false, false, false])).b = 0) : agreed secret point = zeros 32 := by
  obtain ⟨h1, h2⟩ := to_fe (changed secret) (of_small point) 255
  have h3 : fe (Lad.to (changed secret) (Ff.of point) 255).b = 0 := by
    have := congrArg Wk.St.b h2
    rw [low_bits secret hs, hb] at this
    exact this
  obtain ⟨hA, hB, _, _⟩ := h1
  obtain ⟨i1, i2⟩ := Ff.inverse_fe hB
  obtain ⟨t1, t2⟩ := Ff.times_fe hA i1
  have hz : Small [0, 0, 0, 0, 0] := ⟨rfl, by decide +kernel⟩
  have e0 : fe (Ff.times (Lad.to (changed secret) (Ff.of point) 255).a (Ff.inverse (Lad.to (changed secret) (Ff.of point) 255).b)) = fe [0, 0, 0, 0, 0] := by
    rw [t2, i2, h3, inv_zero]
    show _ * (0 : Fp) = ofN 0
    rw [Gf.ofN_zero]
    generalize fe (Lad.to (changed secret) (Ff.of point) 255).a = x
    grind
  unfold agreed ladBytes Ff.bytes
  rw [Ff.lowest_eq t1 hz e0]
  exact bytes_zero

end Go.Proofs.YtclpbaokadfhhaaDoor
