/- Points as bytes (package curve): told, and read again. No program in it. -/
import Derived.Test.YtclpbaokadfhhaaDoorVf
import Derived.Test.YtclpbaokadfhhaaDoorCv
namespace Go.Proofs.YtclpbaokadfhhaaDoor
namespace Ff
theorem getD_set (l : List UInt8) (k : Nat) (x : UInt8) (h : k < l.length) : (l.set k x).getD k 0 = x := by simp [List.getD, h]
theorem getD_set_ne (l : List UInt8) (k i : Nat) (x : UInt8) (h : k ≠ i) : (l.set k x).getD i 0 = l.getD i 0 := by simp [List.getD, List.getElem?_set_ne h]
/-- the last byte of a number below p leaves its highest bit free -/
theorem bytes_top {a : List W} (ha : Small a) : ((bytes a).getD 31 0).toNat < 128 := by
  have hl := (lowest_val a (ha.mono (by omega))).1
  unfold bytes
  rw [bytesTo_at _ 32 31 (by omega) (by omega)]
  unfold byteAt words4
  have h3 := hl.2 3 (by omega); have h4 := hl.2 4 (by omega)
  generalize lowest a = b at hl h3 h4
  show ((((b.getD 3 0 >>> 39) ||| (b.getD 4 0 <<< 12)) >>> 56).toNat.toUInt8).toNat < 128
  generalize b.getD 3 0 = x at h3
  generalize b.getD 4 0 = y at h4
  have e : ((x >>> 39) ||| (y <<< 12)).toNat < 9223372036854775808 := by
    have h1 : (x >>> 39).toNat < 2 ^ 63 := by
      rw [BitVec.toNat_ushiftRight, Nat.shiftRight_eq_div_pow]; have := x.isLt; omega
    have h2 : (y <<< 12).toNat < 2 ^ 63 := by
      rw [BitVec.toNat_shiftLeft, Nat.shiftLeft_eq]; omega
    rw [BitVec.toNat_or]
    exact Nat.or_lt_two_pow h1 h2
  generalize (x >>> 39) ||| (y <<< 12) = z at e
  rw [BitVec.toNat_ushiftRight, Nat.shiftRight_eq_div_pow]
  simp only [Nat.toUInt8, UInt8.toNat_ofNat']
  omega
theorem bytes_eq {a b : List W} (ha : Small a) (hb : Small b) (h : fe a = fe b) : bytes a = bytes b := by
  unfold bytes; rw [lowest_eq ha hb h]
theorem or_top : ∀ (x b : UInt8), (x ||| (b <<< 7)) &&& 127 = x &&& 127 := by
  have : ∀ (x : Fin 256) (b : Bool), ((x.val.toUInt8 ||| ((if b then 1 else 0 : UInt8) <<< 7)) &&& 127 = x.val.toUInt8 &&& 127) := by decide +kernel
  intro x b
  apply UInt8.toBitVec_inj.1
  rw [UInt8.toBitVec_and, UInt8.toBitVec_or, UInt8.toBitVec_shiftLeft, UInt8.toBitVec_and]
  have e : ∀ (x b : BitVec 8), (x ||| (b <<< (7 : BitVec 8))) &&& 127 = x &&& 127 := by
    intro x b
    apply BitVec.eq_of_getLsbD_eq
    intro i hi
    rw [BitVec.getLsbD_and, BitVec.getLsbD_and, BitVec.getLsbD_or]
    match i, hi with
    | 0, _ | 1, _ | 2, _ | 3, _ | 4, _ | 5, _ | 6, _ => simp
    | 7, _ => simp
  exact e _ _
theorem top_back (x b : UInt8) (hx : x.toNat < 128) (hb : b.toNat < 2) : (x ||| (b <<< 7)) >>> 7 = b := by
  have key : ∀ (x : Fin 128) (b : Fin 2), (x.val.toUInt8 ||| (b.val.toUInt8 <<< 7)) >>> 7 = b.val.toUInt8 := by decide +kernel
  have := key ⟨x.toNat, hx⟩ ⟨b.toNat, hb⟩
  simpa using this
end Ff

namespace Cv
open Gf (Fp ofN)
open Ff (W fe Small zero5 one5 times)
def yb (a : Pn) : List UInt8 := Ff.bytes (times a.y (Ff.inverse a.z))
def xb (a : Pn) : UInt8 := Ff.lowBit (times a.x (Ff.inverse a.z))
/-- a point's 32 bytes -/
def bytes (a : Pn) : List UInt8 := (yb a).set 31 ((yb a).getD 31 0 ||| (xb a <<< 7))
theorem yb_length (a : Pn) : (yb a).length = 32 := by unfold yb; exact Ff.bytes_length _
theorem bytes_length (a : Pn) : (bytes a).length = 32 := by unfold bytes; rw [List.length_set, yb_length]
theorem S_inv : Gf.S.inv = Gf.inv := rfl
theorem Is.xq {a : Pn} {p : Gf.Pt} (h : Is a p) : Small (Ff.times a.x (Ff.inverse a.z)) ∧ fe (Ff.times a.x (Ff.inverse a.z)) = p.x := by
  obtain ⟨a1, a2, a3, r⟩ := h
  obtain ⟨s1, v1⟩ := Ff.inverse_fe a3
  obtain ⟨s2, v2⟩ := Ff.times_fe a1 s1
  have := Ed.Rep.x Gf.S r
  rw [S_inv] at this
  exact ⟨s2, by rw [v2, v1, this]⟩
theorem Is.yq {a : Pn} {p : Gf.Pt} (h : Is a p) : Small (Ff.times a.y (Ff.inverse a.z)) ∧ fe (Ff.times a.y (Ff.inverse a.z)) = p.y := by
  obtain ⟨a1, a2, a3, r⟩ := h
  obtain ⟨s1, v1⟩ := Ff.inverse_fe a3
  obtain ⟨s2, v2⟩ := Ff.times_fe a2 s1
  have := Ed.Rep.y Gf.S r
  rw [S_inv] at this
  exact ⟨s2, by rw [v2, v1, this]⟩
/-- the bytes go by the point alone -/
theorem Is.bytes {a b : Pn} {p : Gf.Pt} (ha : Is a p) (hb : Is b p) : bytes a = bytes b := by
  obtain ⟨s1, v1⟩ := ha.xq
  obtain ⟨s2, v2⟩ := hb.xq
  obtain ⟨s3, v3⟩ := ha.yq
  obtain ⟨s4, v4⟩ := hb.yq
  have e1 : xb a = xb b := Ff.lowBit_eq s1 s2 (by rw [v1, v2])
  have e2 : yb a = yb b := Ff.bytes_eq s3 s4 (by rw [v3, v4])
  unfold Cv.bytes
  rw [e1, e2]
/-- the square of x that a y asks for -/
def tried (y : List W) : List W := times (Ff.minus (times y y) one5) (Ff.inverse (Ff.plus (times Ff.factor (times y y)) one5))
theorem tried_length (y : List W) : (tried y).length = 5 := by unfold tried; exact Ff.times_length _ _
/-- of the found root the one with that lowest bit -/
def turned (r : List W) (b : UInt8) : List W := if Ff.lowBit r = b then r else Ff.negated r
def made (s : List UInt8) : Pn := ⟨turned (Ff.root (tried (Ff.of s))).1 (s.getD 31 0 >>> 7), Ff.of s, one5⟩
def of (s : List UInt8) : Pn × Bool := if (Ff.root (tried (Ff.of s))).2 = true then (if bytes (made s) = s then (made s, true) else (none', false)) else (none', false)
theorem turned_length (r : List W) (b : UInt8) (h : r.length = 5) : (turned r b).length = 5 := by
  unfold turned
  have hn := Ff.negated_length r
  generalize Ff.negated r = n at hn ⊢
  by_cases hc : Ff.lowBit r = b
  · rw [if_pos hc]; exact h
  · rw [if_neg hc]; exact hn
theorem of_ok (s : List UInt8) : Ok (of s).1 := by
  have hl := turned_length (Ff.root (tried (Ff.of s))).1 (s.getD 31 0 >>> 7) (Ff.root_length _)
  have hm : Ok (made s) := by
    unfold made
    generalize turned (Ff.root (tried (Ff.of s))).1 (s.getD 31 0 >>> 7) = x at hl
    exact ⟨hl, rfl, rfl⟩
  unfold of
  generalize (Ff.root (tried (Ff.of s))).2 = f
  generalize made s = m at hm ⊢
  by_cases h1 : f = true
  · rw [if_pos h1]
    by_cases h2 : bytes m = s
    · rw [if_pos h2]; exact hm
    · rw [if_neg h2]; exact ⟨rfl, rfl, rfl⟩
  · rw [if_neg h1]; exact ⟨rfl, rfl, rfl⟩
theorem lin0 {pp : Nat} [NeZero pp] (d : Fin pp) (h : d * (0 * 0) + 1 = 0) : (1 : Fin pp) = 0 := by grind
theorem den_ne (y : Fp) : ofN Gf.D * (y * y) + 1 ≠ 0 := by
  intro h
  have hy : y ≠ 0 := by
    intro e
    rw [e] at h
    exact Ed.one_ne Gf.S (lin0 _ h)
  have hi := Gf.mul_inv y hy
  have hii := Gf.ii
  apply Gf.nonsq (ofN Gf.I * Gf.inv y)
  generalize ofN Gf.D = d at h ⊢
  generalize ofN Gf.I = i at hii ⊢
  generalize Gf.inv y = z at hi ⊢
  have e : d * (y * y) * (z * z) = -(z * z) := by
    have : d * (y * y) = -1 := by grind
    rw [this]; grind
  have e2 : d * (y * y) * (z * z) = d := by
    have : d * (y * y) * (z * z) = d * ((y * z) * (y * z)) := by grind
    rw [this, hi]; grind
  have e3 : i * z * (i * z) = (i * i) * (z * z) := by grind
  rw [e3, hii, ← e2, e]; grind
theorem tried_fe {y : List W} (hy : Small y) : Small (tried y) ∧ fe (tried y) * (ofN Gf.D * (fe y * fe y) + 1) = fe y * fe y - 1 := by
  obtain ⟨s1, v1⟩ := Ff.times_fe hy hy
  obtain ⟨s2, v2⟩ := Ff.minus_fe s1 Ff.one5_small
  obtain ⟨s3, v3⟩ := Ff.times_fe Ff.factor_small s1
  obtain ⟨s4, v4⟩ := Ff.plus_fe s3 Ff.one5_small
  obtain ⟨s5, v5⟩ := Ff.inverse_fe s4
  obtain ⟨s6, v6⟩ := Ff.times_fe s2 s5
  unfold tried
  refine ⟨s6, ?_⟩
  rw [v6, v2, v1, v5, v4, v3, v1, Ff.factor_fe, Ff.one5_fe]
  have hn := Gf.mul_inv _ (den_ne (fe y))
  generalize ofN Gf.D * (fe y * fe y) + 1 = n at hn ⊢
  generalize Gf.inv n = m at hn ⊢
  generalize fe y * fe y - 1 = t
  grind
theorem turned_fe {r : List W} (hr : Small r) {x : Fp} {b : UInt8} (h : fe r * fe r = x * x) (hb : b.toNat = Gf.toN x % 2) : Small (turned r b) ∧ fe (turned r b) = x := by
  have hz : (fe r - x) * (fe r + x) = 0 := by
    generalize fe r = y at h
    grind
  have hv := Ff.lowBit_val hr
  obtain ⟨sn, vn⟩ := Ff.negated_fe hr
  unfold turned
  rcases Ed.eq_zero Gf.S hz with e | e
  · have e : fe r = x := by
      generalize fe r = y at e
      grind
    have : Ff.lowBit r = b := UInt8.toNat.inj (by rw [hv, hb, e])
    rw [if_pos this]
    exact ⟨hr, e⟩
  · have e : fe r = -x := by
      generalize fe r = y at e
      grind
    by_cases hx : x = 0
    · have e0 : fe r = x := by rw [e, hx]; grind
      have : Ff.lowBit r = b := UInt8.toNat.inj (by rw [hv, hb, e0])
      rw [if_pos this]
      exact ⟨hr, e0⟩
    · have hne : Ff.lowBit r ≠ b := fun hh => Ff.toN_neg x hx (by rw [← e, ← hv, ← hb, hh])
      rw [if_neg hne]
      exact ⟨sn, by rw [vn, e]; grind⟩
theorem of_yb {a : Pn} {p : Gf.Pt} (h : Is a p) : fe (Ff.of (bytes a)) = p.y ∧ ((bytes a).getD 31 0 >>> 7).toNat = Gf.toN p.x % 2 := by
  obtain ⟨s1, v1⟩ := h.xq
  obtain ⟨s2, v2⟩ := h.yq
  have hl := yb_length a
  have e31 : (bytes a).getD 31 0 = (yb a).getD 31 0 ||| (xb a <<< 7) := by unfold bytes; exact Ff.getD_set _ _ _ (by omega)
  constructor
  · have e : Ff.of (bytes a) = Ff.of (yb a) := by
      unfold Ff.of
      refine Ff.of_high _ _ (fun i hi => ?_) ?_
      · show (bytes a).getD i 0 = (yb a).getD i 0
        unfold bytes; exact Ff.getD_set_ne _ _ _ _ (by omega)
      · show (bytes a).getD 31 0 &&& 127 = (yb a).getD 31 0 &&& 127
        rw [e31]; exact Ff.or_top _ _
    rw [e]
    unfold yb
    rw [Ff.of_bytes s2, v2]
  · have ht : ((yb a).getD 31 0).toNat < 128 := by unfold yb; exact Ff.bytes_top s2
    have hv : (xb a).toNat = Gf.toN p.x % 2 := by unfold xb; rw [Ff.lowBit_val s1, v1]
    rw [e31, Ff.top_back _ _ ht (by omega), hv]
/-- a point, told, is read again -/
theorem of_bytes {a : Pn} {p : Gf.Pt} (h : Is a p) : ∃ b, of (bytes a) = (b, true) ∧ Is b p := by
  obtain ⟨hy, hx⟩ := of_yb h
  obtain ⟨st, vt⟩ := tried_fe (Ff.of_little (bytes a))
  rw [hy] at vt
  have hon : p.y * p.y - p.x * p.x - 1 - ofN Gf.D * p.x * p.x * p.y * p.y = 0 := p.on
  have hsq : fe (tried (Ff.of (bytes a))) = p.x * p.x := by
    refine Ed.cancel Gf.S (den_ne p.y) ?_
    generalize fe (tried (Ff.of (bytes a))) = t at vt
    generalize ofN Gf.D = d at vt hon ⊢
    generalize p.x = x at vt hon ⊢
    generalize p.y = y at vt hon ⊢
    grind
  obtain ⟨hf, sr, vr⟩ := Ff.root_found st hsq
  obtain ⟨sx, vx⟩ := turned_fe sr vr hx
  have him : Is (made (bytes a)) p := by
    unfold Is made
    dsimp only
    refine ⟨sx, Ff.of_little _, Ff.one5_small, ?_⟩
    rw [vx, hy, Ff.one5_fe]
    exact Ed.Rep.of Gf.S p
  refine ⟨made (bytes a), ?_, him⟩
  unfold of
  rw [if_pos hf, if_pos (Is.bytes him h)]
end Cv
end Go.Proofs.YtclpbaokadfhhaaDoor
