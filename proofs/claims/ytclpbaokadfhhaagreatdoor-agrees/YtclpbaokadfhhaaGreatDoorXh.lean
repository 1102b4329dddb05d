/- Several texts as one: Vb, Pub. -/
import Derived.Test.YtclpbaokadfhhaaGreatDoorXg
import Derived.Test.YtclpbaokadfhhaaGreatDoorMg
import Derived.Test.YtclpbaokadfhhaaGreatDoorXs
namespace Go.Proofs.YtclpbaokadfhhaaGreatDoor
open Ff (W)

open Gf (Fp ofN)
open Ff (fe Small)
theorem xor_and (x a c : UInt8) (h : a &&& c = 0) : (x ^^^ a) &&& c = x &&& c := by
  apply UInt8.toBitVec_inj.1
  apply BitVec.eq_of_getLsbD_eq
  intro i hi
  have hb : (a &&& c).toBitVec.getLsbD i = false := by rw [h]; simp
  simp only [UInt8.toBitVec_and, UInt8.toBitVec_xor, BitVec.getLsbD_and, BitVec.getLsbD_xor] at hb ⊢
  generalize a.toBitVec.getLsbD i = p at hb ⊢
  generalize c.toBitVec.getLsbD i = q at hb ⊢
  generalize x.toBitVec.getLsbD i = r
  revert hb
  cases p <;> cases q <;> cases r <;> simp
/-- the free bits of a secret say nothing -/
theorem changed_free (l : List UInt8) (h : l.length = 32) (a b : UInt8) (ha : a &&& 248 = 0) (hb : b &&& 63 = 0) : changed ((l.set 0 (l.getD 0 0 ^^^ a)).set 31 (l.getD 31 0 ^^^ b)) = changed l := by
  have e0 : ((l.set 0 (l.getD 0 0 ^^^ a)).set 31 (l.getD 31 0 ^^^ b)).getD 0 0 = l.getD 0 0 ^^^ a := by simp [List.getD, h]
  have e31 : ((l.set 0 (l.getD 0 0 ^^^ a)).set 31 (l.getD 31 0 ^^^ b)).getD 31 0 = l.getD 31 0 ^^^ b := by simp [List.getD, h]
  unfold changed
  rw [e0, e31]
  have x0 : (l.getD 0 0 ^^^ a) &&& 248 = l.getD 0 0 &&& 248 := by
    exact xor_and _ _ _ ha
  have x1 : (l.getD 31 0 ^^^ b) &&& 63 = l.getD 31 0 &&& 63 := by
    exact xor_and _ _ _ hb
  rw [x0, x1]
  rw [List.set_comm _ _ (show (31 : Nat) ≠ 0 by omega)]
  simp
/-- a key's number -/
def keyNum (secret : List UInt8) : Nat := Ed.bitsVal (keyBits (changed secret) 255) 0
/-- what a secret and a number make, as an element -/
theorem lad_fe (secret : List UInt8) (hs : secret.length = 32) {V : List (BitVec 64)} (hV : Small V) (p : Ed.Pt Gf.S) (hp : fe V = Mg.U Gf.S p) :
    ∃ x, Small x ∧ fe x = Mg.U Gf.S (Ed.mul Gf.S (keyNum secret) p) ∧ ladBytes secret V = Ff.bytes x := by
  obtain ⟨h1, h2⟩ := to_fe (changed secret) hV 255
  have hlb : ladBytes secret V = Ff.bytes (Ff.times (Lad.to (changed secret) V 255).a (Ff.inverse (Lad.to (changed secret) V 255).b)) := rfl
  generalize Lad.to (changed secret) V 255 = L at h1 h2 hlb
  obtain ⟨hA, hB, _, _⟩ := h1
  obtain ⟨i1, i2⟩ := Ff.inverse_fe hB
  obtain ⟨t1, t2⟩ := Ff.times_fe hA i1
  refine ⟨_, t1, ?_, hlb⟩
  rw [t2, i2]
  have ea : fe L.a = (Wk.run (fe V) (Wk.first (fe V)) (keyBits (changed secret) 255)).a := congrArg Wk.St.a h2
  have eb : fe L.b = (Wk.run (fe V) (Wk.first (fe V)) (keyBits (changed secret) 255)).b := congrArg Wk.St.b h2
  rw [ea, eb]
  unfold keyNum
  rw [low_bits secret hs, ← Mg.S_inv]
  exact Mg.ladder p (fe V) hp _
def nine : List (BitVec 64) := [9, 0, 0, 0, 0]
theorem nine_small : Small nine := ⟨rfl, by decide +kernel⟩
theorem nine_fe : fe nine = Mg.U Gf.S Gf.B := Mg.base9
/-- a public key -/
def publicOf (secret : List UInt8) : List UInt8 := ladBytes secret nine
theorem publicOf_length (secret : List UInt8) : (publicOf secret).length = 32 := by unfold publicOf ladBytes; exact Ff.bytes_length _
/-- what two agree upon is the same -/
theorem agreed_both (one two : List UInt8) (h1 : one.length = 32) (h2 : two.length = 32) : agreed one (publicOf two) = agreed two (publicOf one) := by
  have e : ∀ a b : List UInt8, a.length = 32 → b.length = 32 → ∃ x, Small x ∧ fe x = Mg.U Gf.S (Ed.mul Gf.S (keyNum a) (Ed.mul Gf.S (keyNum b) Gf.B)) ∧ agreed a (publicOf b) = Ff.bytes x := by
    intro a b ha hb
    obtain ⟨y, s1, s2, s4⟩ := lad_fe b hb nine_small Gf.B nine_fe
    have s3 := Ff.of_bytes s1
    rw [s2, ← s4] at s3
    exact lad_fe a ha (of_small (publicOf b)) _ s3
  obtain ⟨x, x1, x2, x3⟩ := e one two h1 h2
  obtain ⟨y, y1, y2, y3⟩ := e two one h2 h1
  rw [x3, y3]
  unfold Ff.bytes
  rw [Ff.lowest_eq x1 y1 (by rw [x2, y2, ← Ed.mul_mul, ← Ed.mul_mul, Nat.mul_comm])]
theorem agreed_free (l p : List UInt8) (h : l.length = 32) (hp : p.length = 32) (a b : UInt8) (ha : a &&& 248 = 0) (hb : b &&& 63 = 0) : agreed ((l.set 0 (l.getD 0 0 ^^^ a)).set 31 (l.getD 31 0 ^^^ b)) (p.set 31 (p.getD 31 0 ^^^ 128)) = agreed l p := by
  unfold agreed ladBytes
  rw [changed_free l h a b ha hb, Ff.of_flip p hp]
end Go.Proofs.YtclpbaokadfhhaaGreatDoor

namespace Go.Proofs.YtclpbaokadfhhaaGreatDoor
open Go.RowKit

theorem buildNine (w : World) : (Instr.build 69 #[(0, .int .u64 9)]).run Tryz.prog w = .ok (.agg (Ws nine)) w := run_build w _ _ _ (by kernel_rfl)

set_option maxRecDepth 100000 in
set_option maxHeartbeats 2000000 in
theorem A_public (s : ByteArray) (w : World) (hs : s.size = 32) :
    Calls Tryz.prog 25 #[.string s] w fun e w' => e = .returned (.string ⟨(publicOf s.data.toList).toArray⟩) ∧ Below w.heap.size w w' := by
  have H2 : Hid (∀ wx : World, Calls Tryz.prog 50 #[.string s, .agg (Ws nine)] wx fun e w' => e = .returned (.string ⟨(publicOf s.data.toList).toArray⟩) ∧ Below wx.heap.size wx w') := fun wx => A_withNumber s _ wx hs rfl
  have HB := buildNine
  generalize publicOf s.data.toList = R at H2 ⊢
  generalize nine = V at H2 HB
  go_enter Tryz.func25, Tryz.ntmps25
  go_wp2_with (refine wpList_build rfl 69 _ rfl [(0, .int .u64 9)] rfl _ (HB _) ?_)
  refine (H2.out _).mono ?_
  rintro e w2 ⟨rfl, b2⟩
  go_wp2
  go_ret
  exact ⟨rfl, b2⟩

set_option maxRecDepth 100000 in
set_option maxHeartbeats 2000000 in
theorem Public_any (s : ByteArray) (w : World) (hs : s.size = 32) :
    Calls Tryz.prog 12 #[.string s] w fun e w' => e = .returned (.tuple #[.string ⟨(publicOf s.data.toList).toArray⟩, .int .i64 0]) ∧ Below w.heap.size w w' := by
  have hbel : Below w.heap.size w (w.alloc (.cells (Ss [s]) 9)) := (Below.refl _ _).alloc (Nat.le_refl _) _
  have HT := notKeys_one s w (by omega)
  have e2 : decide (¬ (s.size = 32)) = false := by simp [hs]
  rw [e2] at HT
  replace HT : Hid (Calls Tryz.prog 24 #[.slice (some ⟨w.heap.size, 0, none⟩) 1 1] (w.alloc (.cells (Ss [s]) 9)) fun e w' => e = .returned (.bool false) ∧ w' = w.alloc (.cells (Ss [s]) 9)) := HT
  have HU : Hid (∀ wx : World, Calls Tryz.prog 25 #[.string s] wx fun e w' => e = .returned (.string ⟨(publicOf s.data.toList).toArray⟩) ∧ Below wx.heap.size wx w') := fun wx => A_public s wx hs
  generalize publicOf s.data.toList = R at HU ⊢
  clear e2 hs
  go_enter Tryz.func12, Tryz.ntmps12
  go_wp2_with fail
  refine HT.out.mono ?_
  rintro e w' ⟨rfl, rfl⟩
  go_wp2_with fail
  refine (HU.out _).mono ?_
  rintro e w2 ⟨rfl, hb2⟩
  go_wp2
  go_ret2
  exact ⟨rfl, hbel.trans (hb2.mono hbel.size)⟩

end Go.Proofs.YtclpbaokadfhhaaGreatDoor
