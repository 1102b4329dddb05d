/- The five points of few multiples: their states, closed reckonings. -/
import Derived.Test.YtclpbaokadfhhaaWk
namespace Go.Proofs.Ytclpbaokadfhhaa.Wk

def u0 : Nat := 0
def L0 : List Q4 := [(1, 0, 0, 1), (1, 0, 0, 0), (0, 0, 1, 0), (0, 0, 0, 0)]
theorem shut0 : shut u0 L0 = true := by decide +kernel
theorem ends0 : ends u0 L0 = true := by decide +kernel
theorem begins0 : Like (1, 0, 0, 1) (first (Gf.ofN u0)) := by
  have h : Like (1, 0, u0, 1) (first (Gf.ofN u0)) := ⟨1, 1, (by show (1 : Gf.Fp) = 1 * Gf.ofN 1; rw [Gf.ofN_one]; grind), (by show (0 : Gf.Fp) = 1 * Gf.ofN 0; rw [Gf.ofN_zero]; grind), (by show Gf.ofN u0 = 1 * Gf.ofN u0; generalize Gf.ofN u0 = x; grind), (by show (1 : Gf.Fp) = 1 * Gf.ofN 1; rw [Gf.ofN_one]; grind)⟩
  exact h.of (by decide +kernel)
theorem end0 (bits : List Bool) : (run (Gf.ofN u0) (first (Gf.ofN u0)) (bits ++ [false, false, false])).b = 0 :=
  run_ends u0 L0 shut0 ends0 bits _ ⟨_, List.mem_of_getElem? (i := 0) rfl, begins0⟩
def u1 : Nat := 1
def L1 : List Q4 := [(1, 0, 1, 1), (1, 1, 0, 1), (0, 1, 1, 1), (1, 1, 1, 0)]
theorem shut1 : shut u1 L1 = true := by decide +kernel
theorem ends1 : ends u1 L1 = true := by decide +kernel
theorem begins1 : Like (1, 0, 1, 1) (first (Gf.ofN u1)) := by
  have h : Like (1, 0, u1, 1) (first (Gf.ofN u1)) := ⟨1, 1, (by show (1 : Gf.Fp) = 1 * Gf.ofN 1; rw [Gf.ofN_one]; grind), (by show (0 : Gf.Fp) = 1 * Gf.ofN 0; rw [Gf.ofN_zero]; grind), (by show Gf.ofN u1 = 1 * Gf.ofN u1; generalize Gf.ofN u1 = x; grind), (by show (1 : Gf.Fp) = 1 * Gf.ofN 1; rw [Gf.ofN_one]; grind)⟩
  exact h.of (by decide +kernel)
theorem end1 (bits : List Bool) : (run (Gf.ofN u1) (first (Gf.ofN u1)) (bits ++ [false, false, false])).b = 0 :=
  run_ends u1 L1 shut1 ends1 bits _ ⟨_, List.mem_of_getElem? (i := 0) rfl, begins1⟩
def u2 : Nat := 325606250916557431795983626356110631294008115727848805560023387167927233504
def L2 : List Q4 := [(1, 0, 1, 39382357235489614581723060781553021112529911719440698176882885853963445705823), (1, 39382357235489614581723060781553021112529911719440698176882885853963445705823, 1, 1), (1, 1, 1, 325606250916557431795983626356110631294008115727848805560023387167927233504), (1, 325606250916557431795983626356110631294008115727848805560023387167927233504, 0, 1), (0, 1, 1, 325606250916557431795983626356110631294008115727848805560023387167927233504), (1, 325606250916557431795983626356110631294008115727848805560023387167927233504, 1, 1), (1, 1, 1, 39382357235489614581723060781553021112529911719440698176882885853963445705823), (1, 39382357235489614581723060781553021112529911719440698176882885853963445705823, 1, 0)]
theorem shut2 : shut u2 L2 = true := by decide +kernel
theorem ends2 : ends u2 L2 = true := by decide +kernel
theorem begins2 : Like (1, 0, 1, 39382357235489614581723060781553021112529911719440698176882885853963445705823) (first (Gf.ofN u2)) := by
  have h : Like (1, 0, u2, 1) (first (Gf.ofN u2)) := ⟨1, 1, (by show (1 : Gf.Fp) = 1 * Gf.ofN 1; rw [Gf.ofN_one]; grind), (by show (0 : Gf.Fp) = 1 * Gf.ofN 0; rw [Gf.ofN_zero]; grind), (by show Gf.ofN u2 = 1 * Gf.ofN u2; generalize Gf.ofN u2 = x; grind), (by show (1 : Gf.Fp) = 1 * Gf.ofN 1; rw [Gf.ofN_one]; grind)⟩
  exact h.of (by decide +kernel)
theorem end2 (bits : List Bool) : (run (Gf.ofN u2) (first (Gf.ofN u2)) (bits ++ [false, false, false])).b = 0 :=
  run_ends u2 L2 shut2 ends2 bits _ ⟨_, List.mem_of_getElem? (i := 0) rfl, begins2⟩
def u3 : Nat := 39382357235489614581723060781553021112529911719440698176882885853963445705823
def L3 : List Q4 := [(1, 0, 1, 325606250916557431795983626356110631294008115727848805560023387167927233504), (1, 325606250916557431795983626356110631294008115727848805560023387167927233504, 1, 1), (1, 1, 1, 39382357235489614581723060781553021112529911719440698176882885853963445705823), (1, 39382357235489614581723060781553021112529911719440698176882885853963445705823, 0, 1), (0, 1, 1, 39382357235489614581723060781553021112529911719440698176882885853963445705823), (1, 39382357235489614581723060781553021112529911719440698176882885853963445705823, 1, 1), (1, 1, 1, 325606250916557431795983626356110631294008115727848805560023387167927233504), (1, 325606250916557431795983626356110631294008115727848805560023387167927233504, 1, 0)]
theorem shut3 : shut u3 L3 = true := by decide +kernel
theorem ends3 : ends u3 L3 = true := by decide +kernel
theorem begins3 : Like (1, 0, 1, 325606250916557431795983626356110631294008115727848805560023387167927233504) (first (Gf.ofN u3)) := by
  have h : Like (1, 0, u3, 1) (first (Gf.ofN u3)) := ⟨1, 1, (by show (1 : Gf.Fp) = 1 * Gf.ofN 1; rw [Gf.ofN_one]; grind), (by show (0 : Gf.Fp) = 1 * Gf.ofN 0; rw [Gf.ofN_zero]; grind), (by show Gf.ofN u3 = 1 * Gf.ofN u3; generalize Gf.ofN u3 = x; grind), (by show (1 : Gf.Fp) = 1 * Gf.ofN 1; rw [Gf.ofN_one]; grind)⟩
  exact h.of (by decide +kernel)
theorem end3 (bits : List Bool) : (run (Gf.ofN u3) (first (Gf.ofN u3)) (bits ++ [false, false, false])).b = 0 :=
  run_ends u3 L3 shut3 ends3 bits _ ⟨_, List.mem_of_getElem? (i := 0) rfl, begins3⟩
def u4 : Nat := 57896044618658097711785492504343953926634992332820282019728792003956564819948
def L4 : List Q4 := [(1, 0, 1, 57896044618658097711785492504343953926634992332820282019728792003956564819948), (1, 57896044618658097711785492504343953926634992332820282019728792003956564819948, 0, 1), (0, 1, 1, 57896044618658097711785492504343953926634992332820282019728792003956564819948), (1, 57896044618658097711785492504343953926634992332820282019728792003956564819948, 1, 0)]
theorem shut4 : shut u4 L4 = true := by decide +kernel
theorem ends4 : ends u4 L4 = true := by decide +kernel
theorem begins4 : Like (1, 0, 1, 57896044618658097711785492504343953926634992332820282019728792003956564819948) (first (Gf.ofN u4)) := by
  have h : Like (1, 0, u4, 1) (first (Gf.ofN u4)) := ⟨1, 1, (by show (1 : Gf.Fp) = 1 * Gf.ofN 1; rw [Gf.ofN_one]; grind), (by show (0 : Gf.Fp) = 1 * Gf.ofN 0; rw [Gf.ofN_zero]; grind), (by show Gf.ofN u4 = 1 * Gf.ofN u4; generalize Gf.ofN u4 = x; grind), (by show (1 : Gf.Fp) = 1 * Gf.ofN 1; rw [Gf.ofN_one]; grind)⟩
  exact h.of (by decide +kernel)
theorem end4 (bits : List Bool) : (run (Gf.ofN u4) (first (Gf.ofN u4)) (bits ++ [false, false, false])).b = 0 :=
  run_ends u4 L4 shut4 ends4 bits _ ⟨_, List.mem_of_getElem? (i := 0) rfl, begins4⟩

end Go.Proofs.Ytclpbaokadfhhaa.Wk
