/- Several texts as one: Pr, Ed, Gf. -/
import Init
namespace Go.Proofs.YtclpbaokadfhhaaGreatDoor.Pr
def P : Nat := 57896044618658097711785492504343953926634992332820282019728792003956564819949
end Go.Proofs.YtclpbaokadfhhaaGreatDoor.Pr
namespace Go.Proofs.YtclpbaokadfhhaaGreatDoor.Ed
end Go.Proofs.YtclpbaokadfhhaaGreatDoor.Ed
namespace Go.Proofs.YtclpbaokadfhhaaGreatDoor.Gf
def Pm : Nat := 57896044618658097711785492504343953926634992332820282019728792003956564819948
abbrev Fp : Type := Fin (Pm + 1)
def ofN (n : Nat) : Fp := Fin.ofNat (Pm + 1) n
def toN (a : Fp) : Nat := Fin.val (n := Pm + 1) a
theorem toN_ofN (n : Nat) : toN (ofN n) = n % Pr.P := rfl
theorem toN_inj {a b : Fp} (h : toN a = toN b) : a = b := Fin.ext h
theorem ofN_eq {a b : Nat} : ofN a = ofN b ↔ a % Pr.P = b % Pr.P :=
  ⟨fun h => by rw [← toN_ofN, ← toN_ofN, h], fun h => toN_inj (by rw [toN_ofN, toN_ofN, h])⟩
theorem ofN_add (a b : Nat) : ofN (a + b) = ofN a + ofN b := by
  apply toN_inj
  show (a + b) % Pr.P = (a % Pr.P + b % Pr.P) % Pr.P
  rw [← Nat.add_mod]
theorem ofN_mul (a b : Nat) : ofN (a * b) = ofN a * ofN b := by
  apply toN_inj
  show (a * b) % Pr.P = (a % Pr.P * (b % Pr.P)) % Pr.P
  rw [← Nat.mul_mod]
theorem ofN_zero : ofN 0 = 0 := rfl
theorem ofN_one : ofN 1 = 1 := rfl
theorem ofN_mod (n : Nat) : ofN (n % Pr.P) = ofN n := by rw [ofN_eq, Nat.mod_mod]
theorem ofN_sub {a b c : Nat} (h : (c + b) % Pr.P = a % Pr.P) : ofN c = ofN a - ofN b := by
  have : ofN c + ofN b = ofN a := by rw [← ofN_add, ofN_eq, h]
  rw [← this]
  generalize ofN c = x
  generalize ofN b = y
  grind
def pw (a : Fp) : Nat → Fp
  | 0 => 1
  | n + 1 => pw a n * a
theorem ofN_pow (a : Nat) : ∀ n : Nat, ofN (a ^ n) = pw (ofN a) n
  | 0 => rfl
  | n + 1 => by rw [Nat.pow_succ, ofN_mul, ofN_pow a n]; rfl
theorem pw_add (a : Fp) (m : Nat) : ∀ n : Nat, pw a (m + n) = pw a m * pw a n
  | 0 => by
    show pw a m = pw a m * 1
    generalize pw a m = x
    grind
  | n + 1 => by
    show pw a (m + n) * a = pw a m * (pw a n * a)
    rw [pw_add a m n]
    generalize pw a m = x
    generalize pw a n = y
    grind
def inv (a : Fp) : Fp := pw a 57896044618658097711785492504343953926634992332820282019728792003956564819947
theorem ofN_inv (n e : Nat) (he : e + 2 = Pr.P) : ofN (n ^ e) = inv (ofN n) := by
  rw [ofN_pow]
  unfold inv
  have : e = 57896044618658097711785492504343953926634992332820282019728792003956564819947 := by unfold Pr.P at he; omega
  rw [this]
end Go.Proofs.YtclpbaokadfhhaaGreatDoor.Gf
