/- Contracts of math/bits.Mul64 and field's wide.plus. -/
import Derived.Test.YtclpbaokadfhhaaDoorMd
import Derived.Laws.MathBits
namespace Go.Proofs.YtclpbaokadfhhaaDoor
open Go.RowKit

set_option maxRecDepth 100000 in
set_option maxHeartbeats 1000000 in
theorem mul64_any (x y : Int) (hx0 : 0 ≤ x) (hx : x < 18446744073709551616) (hy0 : 0 ≤ y) (hy : y < 18446744073709551616) (w : World) :
    Calls Tryd.prog 86 #[.int .u64 x, .int .u64 y] w fun e w' => e = .returned (.tuple #[.int .u64 (x * y / 18446744073709551616), .int .u64 (IntKind.u64.wrap (x * y))]) ∧ w' = w := by
  rw [← mul64_arith x y hx0 hx hy0 hy]
  have a1 := and_low32 x hx0 hx
  have a2 := and_low32 y hy0 hy
  have a3 := and_low32 (IntKind.u64.wrap (IntKind.u64.wrap (x / 4294967296 * (y % 4294967296)) + IntKind.u64.wrap (x % 4294967296 * (y % 4294967296)) / 4294967296)) (by rw [IntKind.wrap_u64]; omega) (by rw [IntKind.wrap_u64]; omega)
  go_enter Tryd.func86, Tryd.ntmps86
  go_wp2
  go_ret2
  exact ⟨by simp only [IntKind.wrap_u64]; rfl, rfl⟩

theorem Tryd.infoW2 : (Tryd.prog.info? 98).map (·.size) = some 2 := by kernel_rfl

namespace Ff
theorem hi_def (n : Nat) (h : n < 340282366920938463463374607431768211456) : (hi n).toNat = n / 18446744073709551616 := by
  unfold hi; rw [BitVec.toNat_ofNat, Nat.mod_eq_of_lt (by omega)]
theorem lo_def (n : Nat) : (lo n).toNat = n % 18446744073709551616 := by unfold lo; rw [BitVec.toNat_ofNat]
theorem wplus_lt (n : Nat) (a b : W) : wplus n a b < 340282366920938463463374607431768211456 := Nat.mod_lt _ (by omega)
end Ff

theorem F_add64 (x y c : BitVec 64) (h : c.toNat ≤ 1) (w : World) :
    (callFunc 62 #[.int .u64 (U x), .int .u64 (U y), .int .u64 (U c)]).run Tryd.prog w = .ok (.value (.tuple #[.int .u64 (U (x + y + c)), .int .u64 (U (BitVec.ofNat 64 ((x.toNat + y.toNat + c.toNat) / 18446744073709551616)))])) w := by
  rw [run_callFunc_extern Tryd.func62 (by kernel_rfl) (by kernel_rfl) (by kernel_rfl) (e := add64Entry) (by kernel_rfl), run_add64 (U x) (U y) (U c) (U_lo _) (U_lo _) (U_lo _) (by unfold U; omega)]
  have hx := x.isLt; have hy := y.isLt
  simp only [Result.andThen]
  have e1 : (U x + U y + U c) % 18446744073709551616 = U (x + y + c) := by
    unfold U; rw [BitVec.toNat_add, BitVec.toNat_add]; omega
  have e2 : (U x + U y + U c) / 18446744073709551616 = U (BitVec.ofNat 64 ((x.toNat + y.toNat + c.toNat) / 18446744073709551616)) := by
    rw [← U_of _ (by omega)]; unfold U; omega
  rw [e1, e2]

set_option maxRecDepth 100000 in
set_option maxHeartbeats 1000000 in
theorem F_wplus (n : Nat) (a b : BitVec 64) (w : World) :
    Calls Tryd.prog 78 #[.agg #[.int .u64 (U (Ff.hi n)), .int .u64 (U (Ff.lo n))], .int .u64 (U a), .int .u64 (U b)] w fun e w' => e = .returned (.agg #[.int .u64 (U (Ff.hi (Ff.wplus n a b))), .int .u64 (U (Ff.lo (Ff.wplus n a b)))]) ∧ Below w.heap.size w w' := by
  have ha := a.isLt; have hb := b.isLt
  have hml : a.toNat * b.toNat ≤ 18446744073709551615 * 18446744073709551615 := Nat.mul_le_mul (by omega) (by omega)
  have HM : Hid (∀ wx : World, Calls Tryd.prog 86 #[.int .u64 (U a), .int .u64 (U b)] wx fun e w' => e = .returned (.tuple #[.int .u64 (U (Ff.hi (a.toNat * b.toNat))), .int .u64 (U (Ff.lo (a.toNat * b.toNat)))]) ∧ w' = wx) := fun wx => by
    have := mul64_any (U a) (U b) (U_lo _) (U_hi _) (U_lo _) (U_hi _) wx
    have e0 : U a * U b = ((a.toNat * b.toNat : Nat) : Int) := by unfold U; simp
    rw [e0, IntKind.wrap_u64, show ((a.toNat * b.toNat : Nat) : Int) / 18446744073709551616 = U (Ff.hi (a.toNat * b.toNat)) by unfold U; rw [Ff.hi_def _ (by omega)]; omega,
      show ((a.toNat * b.toNat : Nat) : Int) % 18446744073709551616 = U (Ff.lo (a.toNat * b.toNat)) by unfold U; rw [Ff.lo_def]; omega] at this
    exact this
  have hA := F_add64 (Ff.lo n) (Ff.lo (a.toNat * b.toNat)) 0 (by decide)
  have o1 : ((Ff.lo n).toNat + (Ff.lo (a.toNat * b.toNat)).toNat + (0 : BitVec 64).toNat) / 18446744073709551616 ≤ 1 := by
    have := (Ff.lo n).isLt; have := (Ff.lo (a.toNat * b.toNat)).isLt; simp; omega
  have hB := F_add64 (Ff.hi n) (Ff.hi (a.toNat * b.toNat)) (BitVec.ofNat 64 (((Ff.lo n).toNat + (Ff.lo (a.toNat * b.toNat)).toNat + (0 : BitVec 64).toNat) / 18446744073709551616)) (by rw [BitVec.toNat_ofNat]; omega)
  have ER : Hid (Ff.lo (Ff.wplus n a b) = Ff.lo n + Ff.lo (a.toNat * b.toNat) + 0 ∧ Ff.hi (Ff.wplus n a b) = Ff.hi n + Ff.hi (a.toNat * b.toNat) + BitVec.ofNat 64 (((Ff.lo n).toNat + (Ff.lo (a.toNat * b.toNat)).toNat + (0 : BitVec 64).toNat) / 18446744073709551616)) := by
    have hw : Ff.wplus n a b = (n + a.toNat * b.toNat) % 340282366920938463463374607431768211456 := rfl
    have h2 : (Ff.hi n).toNat = n / 18446744073709551616 % 18446744073709551616 := by unfold Ff.hi; rw [BitVec.toNat_ofNat]
    have : Ff.lo (Ff.wplus n a b) = Ff.lo n + Ff.lo (a.toNat * b.toNat) + 0 ∧ Ff.hi (Ff.wplus n a b) = Ff.hi n + Ff.hi (a.toNat * b.toNat) + BitVec.ofNat 64 (((Ff.lo n).toNat + (Ff.lo (a.toNat * b.toNat)).toNat + (0 : BitVec 64).toNat) / 18446744073709551616) := by
      constructor
      · apply BitVec.eq_of_toNat_eq
        rw [BitVec.toNat_add, BitVec.toNat_add, Ff.lo_def, Ff.lo_def, Ff.lo_def, hw]
        rw [show (0 : BitVec 64).toNat = 0 from rfl]
        omega
      · apply BitVec.eq_of_toNat_eq
        rw [Ff.hi_def _ (Ff.wplus_lt _ _ _), BitVec.toNat_add, BitVec.toNat_add, h2, Ff.hi_def _ (by omega), BitVec.toNat_ofNat, Ff.lo_def, Ff.lo_def, hw]
        rw [show (0 : BitVec 64).toNat = 0 from rfl]
        omega
    exact this
  generalize BitVec.ofNat 64 (((Ff.lo n).toNat + (Ff.lo (a.toNat * b.toNat)).toNat + (0 : BitVec 64).toNat) / 18446744073709551616) = ov at hA hB ER
  generalize Ff.lo (Ff.wplus n a b) = RL at ER ⊢
  generalize Ff.hi (Ff.wplus n a b) = RH at ER ⊢
  generalize Ff.lo n = nl at hA ER o1 ⊢
  generalize Ff.hi n = nh at hB ER ⊢
  clear o1 hml
  generalize Ff.lo (a.toNat * b.toNat) = ml at HM hA ER
  generalize Ff.hi (a.toNat * b.toNat) = mh at HM hB ER
  rw [show U 0 = 0 from rfl] at hA
  generalize nl + ml + 0 = sl at hA ER
  generalize nh + mh + ov = sh at hB ER
  have hbel : Below w.heap.size w ((w.alloc (.cells #[.int .u64 (U nh), .int .u64 (U nl)] 98)).alloc (.cells #[.int .u64 0, .int .u64 0] 98)) := ((Below.refl _ _).alloc (Nat.le_refl _) _).alloc (by simp) _
  go_enter Tryd.func78, Tryd.ntmps78
  go_wp2_with fail
  refine (HM.out _).mono ?_
  rintro e w' ⟨rfl, rfl⟩
  go_wp2
  refine bodyPost_ret (v := .agg #[.int .u64 (U sh), .int .u64 (U sl)]) ?_ rfl ⟨by rw [ER.out.1, ER.out.2], ((Below.refl _ _).alloc (Nat.le_refl _) _).alloc (by simp) _⟩
  exact results_cell_row rfl _ _ (w.heap.size + 1) 98 _ (0, 0) _ rfl (heap_alloc2_new w _ _) Tryd.underlying98 rfl Tryd.infoW2

end Go.Proofs.YtclpbaokadfhhaaDoor
