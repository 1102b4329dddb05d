/- Package field's numbers as elements of the field: plain lemmas, no program. -/
import Derived.Test.YtclpbaokadfhhaaDoorFt
import Derived.Test.YtclpbaokadfhhaaDoorMa
namespace Go.Proofs.YtclpbaokadfhhaaDoor.Ff
open Gf (Fp ofN)

/-- the element that five parts stand for -/
def fe (a : List W) : Fp := ofN (val a)
theorem P_eq : P = Pr.P := rfl
theorem fe_of_cg {a b : Nat} (h : Cg a b) : ofN a = ofN b := Gf.ofN_eq.2 h
theorem plus_fe {a b : List W} (ha : Small a) (hb : Small b) : Small (plus a b) ∧ fe (plus a b) = fe a + fe b := by
  obtain ⟨h1, h2⟩ := plus_val a b ha hb
  refine ⟨h1.small, ?_⟩
  unfold fe
  rw [fe_of_cg h2, Gf.ofN_add]
theorem minus_fe {a b : List W} (ha : Small a) (hb : Small b) : Small (minus a b) ∧ fe (minus a b) = fe a - fe b := by
  obtain ⟨h1, h2⟩ := minus_val a b ha hb
  refine ⟨h1.small, ?_⟩
  unfold fe
  exact Gf.ofN_sub h2
theorem times_fe {a b : List W} (ha : Small a) (hb : Small b) : Small (times a b) ∧ fe (times a b) = fe a * fe b := by
  obtain ⟨h1, h2⟩ := times_val a b ha hb
  refine ⟨h1.small, ?_⟩
  unfold fe
  rw [fe_of_cg h2, Gf.ofN_mul]
theorem inverse_fe {a : List W} (ha : Small a) : Small (inverse a) ∧ fe (inverse a) = Gf.inv (fe a) := by
  obtain ⟨e, he⟩ : ∃ e, e + 2 = P := ⟨57896044618658097711785492504343953926634992332820282019728792003956564819947, rfl⟩
  obtain ⟨h1, h2⟩ := inverse_val a ha e he
  refine ⟨h1.small, ?_⟩
  unfold fe
  rw [fe_of_cg h2]
  exact Gf.ofN_inv _ _ he
theorem lowest_fe {a : List W} (ha : Small a) : val (lowest a) = Gf.toN (fe a) := by
  have := (lowest_val a (ha.mono (by omega))).2
  rw [this]; rfl
/-- equal elements have equal last forms -/
theorem sm_inj {a b : List W} (ha : Sm 2251799813685248 a) (hb : Sm 2251799813685248 b) (h : val a = val b) : a = b := by
  obtain ⟨a0, a1, a2, a3, a4, rfl⟩ := five a ha.1
  obtain ⟨b0, b1, b2, b3, b4, rfl⟩ := five b hb.1
  have p0 := ha.2 0 (by omega); have p1 := ha.2 1 (by omega); have p2 := ha.2 2 (by omega); have p3 := ha.2 3 (by omega); have p4 := ha.2 4 (by omega)
  have q0 := hb.2 0 (by omega); have q1 := hb.2 1 (by omega); have q2 := hb.2 2 (by omega); have q3 := hb.2 3 (by omega); have q4 := hb.2 4 (by omega)
  simp only [List.getD_cons_zero, List.getD_cons_succ] at p0 p1 p2 p3 p4 q0 q1 q2 q3 q4
  simp only [val, List.getD_cons_zero, List.getD_cons_succ] at h
  have e0 : a0.toNat = b0.toNat := by omega
  have e1 : a1.toNat = b1.toNat := by omega
  have e2 : a2.toNat = b2.toNat := by omega
  have e3 : a3.toNat = b3.toNat := by omega
  have e4 : a4.toNat = b4.toNat := by omega
  rw [BitVec.eq_of_toNat_eq e0, BitVec.eq_of_toNat_eq e1, BitVec.eq_of_toNat_eq e2, BitVec.eq_of_toNat_eq e3, BitVec.eq_of_toNat_eq e4]
theorem lowest_eq {a b : List W} (ha : Small a) (hb : Small b) (h : fe a = fe b) : lowest a = lowest b :=
  sm_inj (lowest_val a (ha.mono (by omega))).1 (lowest_val b (hb.mono (by omega))).1 (by rw [lowest_fe ha, lowest_fe hb, h])

end Go.Proofs.YtclpbaokadfhhaaDoor.Ff
