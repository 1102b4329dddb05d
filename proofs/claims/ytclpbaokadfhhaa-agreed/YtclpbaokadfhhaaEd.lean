/- Points of a curve y^2 - x^2 = 1 + d x^2 y^2 over a field in which -1 is a square and d is none: their sums: plain lemmas, no program. -/
import Init
namespace Go.Proofs.Ytclpbaokadfhhaa.Ed

set_option maxHeartbeats 4000000 in
theorem assoc_x {pp : Nat} [NeZero pp] (d x1 y1 x2 y2 x3 y3 nx12 ny12 p12 m12 nx23 ny23 p23 m23 : Fin pp)
    (h1 : nx12 = x1 * y2 + x2 * y1) (h2 : ny12 = y1 * y2 + x1 * x2) (h3 : p12 = 1 + d * x1 * x2 * y1 * y2) (h4 : m12 = 1 - d * x1 * x2 * y1 * y2)
    (h5 : nx23 = x2 * y3 + x3 * y2) (h6 : ny23 = y2 * y3 + x2 * x3) (h7 : p23 = 1 + d * x2 * x3 * y2 * y3) (h8 : m23 = 1 - d * x2 * x3 * y2 * y3)
    (E1 : y1*y1 - x1*x1 - 1 - d * x1*x1 * y1*y1 = 0) (E2 : y2*y2 - x2*x2 - 1 - d * x2*x2 * y2*y2 = 0) (E3 : y3*y3 - x3*x3 - 1 - d * x3*x3 * y3*y3 = 0) :
    (nx12 * m12 * y3 + x3 * ny12 * p12) * (p23 * m23 + d * nx23 * ny23 * x1 * y1) = (x1 * ny23 * p23 + nx23 * m23 * y1) * (p12 * m12 + d * nx12 * ny12 * x3 * y3) := by
  subst h1 h2 h3 h4 h5 h6 h7 h8
  have key : ((x1 * y2 + x2 * y1) * (1 - d * x1 * x2 * y1 * y2) * y3 + x3 * (y1 * y2 + x1 * x2) * (1 + d * x1 * x2 * y1 * y2)) * ((1 + d * x2 * x3 * y2 * y3) * (1 - d * x2 * x3 * y2 * y3) + d * (x2 * y3 + x3 * y2) * (y2 * y3 + x2 * x3) * x1 * y1)
      - (x1 * (y2 * y3 + x2 * x3) * (1 + d * x2 * x3 * y2 * y3) + (x2 * y3 + x3 * y2) * (1 - d * x2 * x3 * y2 * y3) * y1) * ((1 + d * x1 * x2 * y1 * y2) * (1 - d * x1 * x2 * y1 * y2) + d * (x1 * y2 + x2 * y1) * (y1 * y2 + x1 * x2) * x3 * y3)
      = (-d*d*x1*x2*x2*x2*x2*x3*x3*y2*y2*y2*y3 - d*d*x1*x2*x2*x2*x3*y2*y2*y2*y2*y3*y3 + d*d*x2*x2*x2*x2*x3*y1*y2*y2*y2*y3*y3 + d*d*x2*x2*x2*x3*x3*y1*y2*y2*y2*y2*y3 - d*x1*x2*x2*x2*x2*x3*x3*y2*y3 - d*x1*x2*x2*x2*x3*x3*x3*y2*y2 - d*x1*x2*x2*x2*x3*y2*y2 + d*x1*x2*x2*y2*y2*y2*y3*y3*y3 - d*x1*x2*x2*y2*y2*y2*y3 + d*x1*x2*x3*y2*y2*y2*y2*y3*y3 + d*x2*x2*x2*x2*x3*y1*y2*y3*y3 + d*x2*x2*x2*y1*y2*y2*y3*y3*y3 - d*x2*x2*x2*y1*y2*y2*y3 - d*x2*x2*x3*x3*x3*y1*y2*y2*y2 - d*x2*x2*x3*y1*y2*y2*y2 - d*x2*x3*x3*y1*y2*y2*y2*y2*y3) * (y1*y1 - x1*x1 - 1 - d * x1*x1 * y1*y1)
      + (d*d*x1*x1*x2*x2*x3*x3*x3*y1*y2*y3*y3 - d*d*x1*x1*x2*x3*x3*y1*y2*y2*y3*y3*y3 - d*d*x1*x2*x2*x3*x3*y1*y1*y2*y3*y3*y3 + d*d*x1*x2*x3*x3*x3*y1*y1*y2*y2*y3*y3 + d*x1*x1*x1*x2*x2*x3*x3*y2*y3 + d*x1*x1*x1*x2*x3*x3*x3*y3*y3 + d*x1*x1*x1*x2*x3*y2*y2*y3*y3 + d*x1*x1*x1*x3*x3*y2*y3*y3*y3 - d*x1*x1*x2*x2*x3*y1*y2*y3*y3 - d*x1*x1*x2*x3*x3*y1*y2*y2*y3 + d*x1*x1*x2*x3*x3*y1*y3*y3*y3 + d*x1*x1*x3*x3*x3*y1*y2*y3*y3 - d*x1*x2*x2*x3*x3*y1*y1*y2*y3 + d*x1*x2*x2*x3*x3*y2*y3 - d*x1*x2*x3*x3*x3*y1*y1*y3*y3 + d*x1*x2*x3*x3*x3*y3*y3 - d*x1*x2*x3*y1*y1*y2*y2*y3*y3 + d*x1*x2*x3*y2*y2*y3*y3 - d*x1*x3*x3*y1*y1*y2*y3*y3*y3 + d*x1*x3*x3*y2*y3*y3*y3 + d*x2*x2*x3*y1*y1*y1*y2*y3*y3 - d*x2*x2*x3*y1*y2*y3*y3 + d*x2*x3*x3*y1*y1*y1*y2*y2*y3 - d*x2*x3*x3*y1*y1*y1*y3*y3*y3 - d*x2*x3*x3*y1*y2*y2*y3 + d*x2*x3*x3*y1*y3*y3*y3 - d*x3*x3*x3*y1*y1*y1*y2*y3*y3 + d*x3*x3*x3*y1*y2*y3*y3 + x1*x1*x1*x2*x3*x3*x3 - x1*x1*x1*x2*x3*y3*y3 + x1*x1*x1*x2*x3 + x1*x1*x1*x3*x3*y2*y3 - x1*x1*x1*y2*y3*y3*y3 + x1*x1*x1*y2*y3 + x1*x1*x2*x3*x3*y1*y3 - x1*x1*x2*y1*y3*y3*y3 + x1*x1*x2*y1*y3 + x1*x1*x3*x3*x3*y1*y2 - x1*x1*x3*y1*y2*y3*y3 + x1*x1*x3*y1*y2 - x1*x2*x3*x3*x3*y1*y1 + x1*x2*x3*x3*x3 + x1*x2*x3*y1*y1*y3*y3 - x1*x2*x3*y1*y1 - x1*x2*x3*y3*y3 + x1*x2*x3 - x1*x3*x3*y1*y1*y2*y3 + x1*x3*x3*y2*y3 + x1*y1*y1*y2*y3*y3*y3 - x1*y1*y1*y2*y3 - x1*y2*y3*y3*y3 + x1*y2*y3 - x2*x3*x3*y1*y1*y1*y3 + x2*x3*x3*y1*y3 + x2*y1*y1*y1*y3*y3*y3 - x2*y1*y1*y1*y3 - x2*y1*y3*y3*y3 + x2*y1*y3 - x3*x3*x3*y1*y1*y1*y2 + x3*x3*x3*y1*y2 + x3*y1*y1*y1*y2*y3*y3 - x3*y1*y1*y1*y2 - x3*y1*y2*y3*y3 + x3*y1*y2) * (y2*y2 - x2*x2 - 1 - d * x2*x2 * y2*y2)
      + (-d*x1*x1*x2*x2*x3*y1*y2 + d*x1*x1*x2*y1*y2*y2*y3 + d*x1*x2*x2*y1*y1*y2*y3 - d*x1*x2*x3*y1*y1*y2*y2 - x1*x1*x1*x2*x2*x2*x3 - x1*x1*x1*x2*x2*y2*y3 + x1*x1*x1*x2*x3*y2*y2 - x1*x1*x1*x2*x3 + x1*x1*x1*y2*y2*y2*y3 - x1*x1*x1*y2*y3 - x1*x1*x2*x2*x2*y1*y3 - x1*x1*x2*x2*x3*y1*y2 + x1*x1*x2*y1*y2*y2*y3 - x1*x1*x2*y1*y3 + x1*x1*x3*y1*y2*y2*y2 - x1*x1*x3*y1*y2 + x1*x2*x2*x2*x3*y1*y1 - x1*x2*x2*x2*x3 + x1*x2*x2*y1*y1*y2*y3 - x1*x2*x2*y2*y3 - x1*x2*x3*y1*y1*y2*y2 + x1*x2*x3*y1*y1 + x1*x2*x3*y2*y2 - x1*x2*x3 - x1*y1*y1*y2*y2*y2*y3 + x1*y1*y1*y2*y3 + x1*y2*y2*y2*y3 - x1*y2*y3 + x2*x2*x2*y1*y1*y1*y3 - x2*x2*x2*y1*y3 + x2*x2*x3*y1*y1*y1*y2 - x2*x2*x3*y1*y2 - x2*y1*y1*y1*y2*y2*y3 + x2*y1*y1*y1*y3 + x2*y1*y2*y2*y3 - x2*y1*y3 - x3*y1*y1*y1*y2*y2*y2 + x3*y1*y1*y1*y2 + x3*y1*y2*y2*y2 - x3*y1*y2) * (y3*y3 - x3*x3 - 1 - d * x3*x3 * y3*y3) := by grind
  rw [E1, E2, E3] at key
  generalize (((x1 * y2 + x2 * y1) * (1 - d * x1 * x2 * y1 * y2) * y3 + x3 * (y1 * y2 + x1 * x2) * (1 + d * x1 * x2 * y1 * y2)) * ((1 + d * x2 * x3 * y2 * y3) * (1 - d * x2 * x3 * y2 * y3) + d * (x2 * y3 + x3 * y2) * (y2 * y3 + x2 * x3) * x1 * y1)) = A at key ⊢
  generalize ((x1 * (y2 * y3 + x2 * x3) * (1 + d * x2 * x3 * y2 * y3) + (x2 * y3 + x3 * y2) * (1 - d * x2 * x3 * y2 * y3) * y1) * ((1 + d * x1 * x2 * y1 * y2) * (1 - d * x1 * x2 * y1 * y2) + d * (x1 * y2 + x2 * y1) * (y1 * y2 + x1 * x2) * x3 * y3)) = B at key ⊢
  grind
set_option maxHeartbeats 4000000 in
theorem assoc_y {pp : Nat} [NeZero pp] (d x1 y1 x2 y2 x3 y3 nx12 ny12 p12 m12 nx23 ny23 p23 m23 : Fin pp)
    (h1 : nx12 = x1 * y2 + x2 * y1) (h2 : ny12 = y1 * y2 + x1 * x2) (h3 : p12 = 1 + d * x1 * x2 * y1 * y2) (h4 : m12 = 1 - d * x1 * x2 * y1 * y2)
    (h5 : nx23 = x2 * y3 + x3 * y2) (h6 : ny23 = y2 * y3 + x2 * x3) (h7 : p23 = 1 + d * x2 * x3 * y2 * y3) (h8 : m23 = 1 - d * x2 * x3 * y2 * y3)
    (E1 : y1*y1 - x1*x1 - 1 - d * x1*x1 * y1*y1 = 0) (E2 : y2*y2 - x2*x2 - 1 - d * x2*x2 * y2*y2 = 0) (E3 : y3*y3 - x3*x3 - 1 - d * x3*x3 * y3*y3 = 0) :
    (ny12 * p12 * y3 + nx12 * m12 * x3) * (p23 * m23 - d * nx23 * ny23 * x1 * y1) = (y1 * ny23 * p23 + x1 * nx23 * m23) * (p12 * m12 - d * nx12 * ny12 * x3 * y3) := by
  subst h1 h2 h3 h4 h5 h6 h7 h8
  have key : ((y1 * y2 + x1 * x2) * (1 + d * x1 * x2 * y1 * y2) * y3 + (x1 * y2 + x2 * y1) * (1 - d * x1 * x2 * y1 * y2) * x3) * ((1 + d * x2 * x3 * y2 * y3) * (1 - d * x2 * x3 * y2 * y3) - d * (x2 * y3 + x3 * y2) * (y2 * y3 + x2 * x3) * x1 * y1)
      - (y1 * (y2 * y3 + x2 * x3) * (1 + d * x2 * x3 * y2 * y3) + x1 * (x2 * y3 + x3 * y2) * (1 - d * x2 * x3 * y2 * y3)) * ((1 + d * x1 * x2 * y1 * y2) * (1 - d * x1 * x2 * y1 * y2) - d * (x1 * y2 + x2 * y1) * (y1 * y2 + x1 * x2) * x3 * y3)
      = (d*d*x1*x2*x2*x2*x2*x3*y2*y2*y2*y3*y3 + d*d*x1*x2*x2*x2*x3*x3*y2*y2*y2*y2*y3 - d*d*x2*x2*x2*x2*x3*x3*y1*y2*y2*y2*y3 - d*d*x2*x2*x2*x3*y1*y2*y2*y2*y2*y3*y3 + d*x1*x2*x2*x2*x2*x3*y2*y3*y3 + d*x1*x2*x2*x2*y2*y2*y3*y3*y3 - d*x1*x2*x2*x2*y2*y2*y3 - d*x1*x2*x2*x3*x3*x3*y2*y2*y2 - d*x1*x2*x2*x3*y2*y2*y2 - d*x1*x2*x3*x3*y2*y2*y2*y2*y3 - d*x2*x2*x2*x2*x3*x3*y1*y2*y3 - d*x2*x2*x2*x3*x3*x3*y1*y2*y2 - d*x2*x2*x2*x3*y1*y2*y2 + d*x2*x2*y1*y2*y2*y2*y3*y3*y3 - d*x2*x2*y1*y2*y2*y2*y3 + d*x2*x3*y1*y2*y2*y2*y2*y3*y3) * (y1*y1 - x1*x1 - 1 - d * x1*x1 * y1*y1)
      + (d*d*x1*x1*x2*x2*x3*x3*y1*y2*y3*y3*y3 - d*d*x1*x1*x2*x3*x3*x3*y1*y2*y2*y3*y3 - d*d*x1*x2*x2*x3*x3*x3*y1*y1*y2*y3*y3 + d*d*x1*x2*x3*x3*y1*y1*y2*y2*y3*y3*y3 - d*x1*x1*x1*x2*x2*x3*y2*y3*y3 - d*x1*x1*x1*x2*x3*x3*y2*y2*y3 + d*x1*x1*x1*x2*x3*x3*y3*y3*y3 + d*x1*x1*x1*x3*x3*x3*y2*y3*y3 + d*x1*x1*x2*x2*x3*x3*y1*y2*y3 + d*x1*x1*x2*x3*x3*x3*y1*y3*y3 + d*x1*x1*x2*x3*y1*y2*y2*y3*y3 + d*x1*x1*x3*x3*y1*y2*y3*y3*y3 + d*x1*x2*x2*x3*y1*y1*y2*y3*y3 - d*x1*x2*x2*x3*y2*y3*y3 + d*x1*x2*x3*x3*y1*y1*y2*y2*y3 - d*x1*x2*x3*x3*y1*y1*y3*y3*y3 - d*x1*x2*x3*x3*y2*y2*y3 + d*x1*x2*x3*x3*y3*y3*y3 - d*x1*x3*x3*x3*y1*y1*y2*y3*y3 + d*x1*x3*x3*x3*y2*y3*y3 - d*x2*x2*x3*x3*y1*y1*y1*y2*y3 + d*x2*x2*x3*x3*y1*y2*y3 - d*x2*x3*x3*x3*y1*y1*y1*y3*y3 + d*x2*x3*x3*x3*y1*y3*y3 - d*x2*x3*y1*y1*y1*y2*y2*y3*y3 + d*x2*x3*y1*y2*y2*y3*y3 - d*x3*x3*y1*y1*y1*y2*y3*y3*y3 + d*x3*x3*y1*y2*y3*y3*y3 + x1*x1*x1*x2*x3*x3*y3 - x1*x1*x1*x2*y3*y3*y3 + x1*x1*x1*x2*y3 + x1*x1*x1*x3*x3*x3*y2 - x1*x1*x1*x3*y2*y3*y3 + x1*x1*x1*x3*y2 + x1*x1*x2*x3*x3*x3*y1 - x1*x1*x2*x3*y1*y3*y3 + x1*x1*x2*x3*y1 + x1*x1*x3*x3*y1*y2*y3 - x1*x1*y1*y2*y3*y3*y3 + x1*x1*y1*y2*y3 - x1*x2*x3*x3*y1*y1*y3 + x1*x2*x3*x3*y3 + x1*x2*y1*y1*y3*y3*y3 - x1*x2*y1*y1*y3 - x1*x2*y3*y3*y3 + x1*x2*y3 - x1*x3*x3*x3*y1*y1*y2 + x1*x3*x3*x3*y2 + x1*x3*y1*y1*y2*y3*y3 - x1*x3*y1*y1*y2 - x1*x3*y2*y3*y3 + x1*x3*y2 - x2*x3*x3*x3*y1*y1*y1 + x2*x3*x3*x3*y1 + x2*x3*y1*y1*y1*y3*y3 - x2*x3*y1*y1*y1 - x2*x3*y1*y3*y3 + x2*x3*y1 - x3*x3*y1*y1*y1*y2*y3 + x3*x3*y1*y2*y3 + y1*y1*y1*y2*y3*y3*y3 - y1*y1*y1*y2*y3 - y1*y2*y3*y3*y3 + y1*y2*y3) * (y2*y2 - x2*x2 - 1 - d * x2*x2 * y2*y2)
      + (-d*x1*x1*x2*x2*y1*y2*y3 + d*x1*x1*x2*x3*y1*y2*y2 + d*x1*x2*x2*x3*y1*y1*y2 - d*x1*x2*y1*y1*y2*y2*y3 - x1*x1*x1*x2*x2*x2*y3 - x1*x1*x1*x2*x2*x3*y2 + x1*x1*x1*x2*y2*y2*y3 - x1*x1*x1*x2*y3 + x1*x1*x1*x3*y2*y2*y2 - x1*x1*x1*x3*y2 - x1*x1*x2*x2*x2*x3*y1 - x1*x1*x2*x2*y1*y2*y3 + x1*x1*x2*x3*y1*y2*y2 - x1*x1*x2*x3*y1 + x1*x1*y1*y2*y2*y2*y3 - x1*x1*y1*y2*y3 + x1*x2*x2*x2*y1*y1*y3 - x1*x2*x2*x2*y3 + x1*x2*x2*x3*y1*y1*y2 - x1*x2*x2*x3*y2 - x1*x2*y1*y1*y2*y2*y3 + x1*x2*y1*y1*y3 + x1*x2*y2*y2*y3 - x1*x2*y3 - x1*x3*y1*y1*y2*y2*y2 + x1*x3*y1*y1*y2 + x1*x3*y2*y2*y2 - x1*x3*y2 + x2*x2*x2*x3*y1*y1*y1 - x2*x2*x2*x3*y1 + x2*x2*y1*y1*y1*y2*y3 - x2*x2*y1*y2*y3 - x2*x3*y1*y1*y1*y2*y2 + x2*x3*y1*y1*y1 + x2*x3*y1*y2*y2 - x2*x3*y1 - y1*y1*y1*y2*y2*y2*y3 + y1*y1*y1*y2*y3 + y1*y2*y2*y2*y3 - y1*y2*y3) * (y3*y3 - x3*x3 - 1 - d * x3*x3 * y3*y3) := by grind
  rw [E1, E2, E3] at key
  generalize (((y1 * y2 + x1 * x2) * (1 + d * x1 * x2 * y1 * y2) * y3 + (x1 * y2 + x2 * y1) * (1 - d * x1 * x2 * y1 * y2) * x3) * ((1 + d * x2 * x3 * y2 * y3) * (1 - d * x2 * x3 * y2 * y3) - d * (x2 * y3 + x3 * y2) * (y2 * y3 + x2 * x3) * x1 * y1)) = A at key ⊢
  generalize ((y1 * (y2 * y3 + x2 * x3) * (1 + d * x2 * x3 * y2 * y3) + x1 * (x2 * y3 + x3 * y2) * (1 - d * x2 * x3 * y2 * y3)) * ((1 + d * x1 * x2 * y1 * y2) * (1 - d * x1 * x2 * y1 * y2) - d * (x1 * y2 + x2 * y1) * (y1 * y2 + x1 * x2) * x3 * y3)) = B at key ⊢
  grind

theorem closed_poly {pp : Nat} [NeZero pp] (d x1 y1 x2 y2 nx ny p m : Fin pp)
    (h1 : nx = x1 * y2 + x2 * y1) (h2 : ny = y1 * y2 + x1 * x2) (h3 : p = 1 + d * x1 * x2 * y1 * y2) (h4 : m = 1 - d * x1 * x2 * y1 * y2)
    (E1 : y1 * y1 - x1 * x1 - 1 - d * x1 * x1 * y1 * y1 = 0) (E2 : y2 * y2 - x2 * x2 - 1 - d * x2 * x2 * y2 * y2 = 0) :
    (ny * p) * (ny * p) - (nx * m) * (nx * m) = (p * m) * (p * m) + d * (nx * ny) * (nx * ny) := by
  subst h1 h2 h3 h4
  have key : ((y1 * y2 + x1 * x2) * (1 + d * x1 * x2 * y1 * y2)) * ((y1 * y2 + x1 * x2) * (1 + d * x1 * x2 * y1 * y2)) - ((x1 * y2 + x2 * y1) * (1 - d * x1 * x2 * y1 * y2)) * ((x1 * y2 + x2 * y1) * (1 - d * x1 * x2 * y1 * y2))
      - (((1 + d * x1 * x2 * y1 * y2) * (1 - d * x1 * x2 * y1 * y2)) * ((1 + d * x1 * x2 * y1 * y2) * (1 - d * x1 * x2 * y1 * y2)) + d * ((x1 * y2 + x2 * y1) * (y1 * y2 + x1 * x2)) * ((x1 * y2 + x2 * y1) * (y1 * y2 + x1 * x2)))
      = (d*d*d*x1*x1*x2*x2*x2*x2*y1*y1*y2*y2*y2*y2 - d*d*x1*x1*x2*x2*x2*x2*y2*y2*y2*y2 + d*d*x2*x2*x2*x2*y1*y1*y2*y2*y2*y2 - d*d*x2*x2*x2*x2*y2*y2*y2*y2 - d*x1*x1*x2*x2*x2*x2*y2*y2 + d*x1*x1*x2*x2*y2*y2*y2*y2 + d*x2*x2*x2*x2*y1*y1*y2*y2 - 2*d*x2*x2*x2*x2*y2*y2*y2*y2 - d*x2*x2*y1*y1*y2*y2*y2*y2 - 2*d*x2*x2*y2*y2 - 2*x2*x2*x2*x2*y2*y2 + x2*x2*x2*x2 + 2*x2*x2*y2*y2*y2*y2 - 4*x2*x2*y2*y2 + y2*y2*y2*y2) * (y1 * y1 - x1 * x1 - 1 - d * x1 * x1 * y1 * y1)
      + (d*x1*x1*x1*x1*x2*x2*y2*y2 + 2*d*x1*x1*x2*x2*y2*y2 + d*x2*x2*y1*y1*y1*y1*y2*y2 - 2*d*x2*x2*y1*y1*y2*y2 + d*x2*x2*y2*y2 + 2*x1*x1*x2*x2*y2*y2 - x1*x1*x2*x2 + x1*x1*y2*y2 - 2*x2*x2*y1*y1*y2*y2 + x2*x2*y1*y1 + 2*x2*x2*y2*y2 - x2*x2 - y1*y1*y2*y2 + y2*y2 + 1) * (y2 * y2 - x2 * x2 - 1 - d * x2 * x2 * y2 * y2) := by grind
  rw [E1, E2] at key
  generalize ((y1 * y2 + x1 * x2) * (1 + d * x1 * x2 * y1 * y2)) * ((y1 * y2 + x1 * x2) * (1 + d * x1 * x2 * y1 * y2)) - ((x1 * y2 + x2 * y1) * (1 - d * x1 * x2 * y1 * y2)) * ((x1 * y2 + x2 * y1) * (1 - d * x1 * x2 * y1 * y2)) = A at key ⊢
  generalize ((1 + d * x1 * x2 * y1 * y2) * (1 - d * x1 * x2 * y1 * y2)) * ((1 + d * x1 * x2 * y1 * y2) * (1 - d * x1 * x2 * y1 * y2)) + d * ((x1 * y2 + x2 * y1) * (y1 * y2 + x1 * x2)) * ((x1 * y2 + x2 * y1) * (y1 * y2 + x1 * x2)) = B at key ⊢
  grind

/-- what is asked of the field -/
structure Field' (pp : Nat) [NeZero pp] where
  inv : Fin pp → Fin pp
  mul_inv : ∀ a, a ≠ 0 → a * inv a = 1
  d : Fin pp
  i : Fin pp
  ii : i * i = -1
  nonsq : ∀ t, t * t ≠ d
  two : (1 : Fin pp) + 1 ≠ 0


theorem one_ne {pp : Nat} [NeZero pp] (S : Field' pp) : (1 : Fin pp) ≠ 0 := by
  intro h
  apply S.two
  grind
theorem cancel {pp : Nat} [NeZero pp] (S : Field' pp) {a b c : Fin pp} (ha : a ≠ 0) (h : a * b = a * c) : b = c := by
  have e := S.mul_inv a ha
  have : S.inv a * (a * b) = S.inv a * (a * c) := by rw [h]
  grind
theorem mul_ne {pp : Nat} [NeZero pp] (S : Field' pp) {a b : Fin pp} (ha : a ≠ 0) (hb : b ≠ 0) : a * b ≠ 0 := by
  intro h
  apply hb
  apply cancel S ha
  grind
theorem eq_zero {pp : Nat} [NeZero pp] (S : Field' pp) {a b : Fin pp} (h : a * b = 0) : a = 0 ∨ b = 0 := by
  by_cases ha : a = 0
  · exact .inl ha
  · right
    apply cancel S ha
    grind
theorem inv_one {pp : Nat} [NeZero pp] (S : Field' pp) : S.inv 1 = 1 := by
  have := S.mul_inv 1 (one_ne S)
  grind
theorem frac {pp : Nat} [NeZero pp] (S : Field' pp) {a b c f : Fin pp} (hb : b ≠ 0) (hf : f ≠ 0) (h : a * f = c * b) : a * S.inv b = c * S.inv f := by
  have e1 := S.mul_inv b hb
  have e2 := S.mul_inv f hf
  apply cancel S (mul_ne S hb hf)
  have : b * f * (a * S.inv b) = (b * S.inv b) * (a * f) := by grind
  rw [this, e1, h]
  have : b * f * (c * S.inv f) = (f * S.inv f) * (c * b) := by grind
  rw [this, e2]

/-- on the curve -/
def On {pp : Nat} [NeZero pp] (S : Field' pp) (x y : Fin pp) : Prop := y * y - x * x - 1 - S.d * x * x * y * y = 0

theorem square_no {pp : Nat} [NeZero pp] (S : Field' pp) {A B : Fin pp} (hB : B ≠ 0) (h : A * A = S.d * (B * B)) : False := by
  have e := S.mul_inv B hB
  apply S.nonsq (A * S.inv B)
  have : A * S.inv B * (A * S.inv B) = (A * A) * (S.inv B * S.inv B) := by grind
  rw [this, h]
  have : S.d * (B * B) * (S.inv B * S.inv B) = S.d * ((B * S.inv B) * (B * S.inv B)) := by grind
  rw [this, e]; grind

theorem complete_key {pp : Nat} [NeZero pp] (d i x1 y1 x2 y2 e : Fin pp) (ii : i * i = -1) (E1 : y1 * y1 - x1 * x1 - 1 - d * x1 * x1 * y1 * y1 = 0) (E2 : y2 * y2 - x2 * x2 - 1 - d * x2 * x2 * y2 * y2 = 0)
    (he : e = d * x1 * x2 * y1 * y2) (h1 : e * e = 1) (s : Fin pp) (hs : s * s = 1) :
    (i * x1 + s * e * y1) * (i * x1 + s * e * y1) = d * ((x1 * y1 * (i * x2 + s * y2)) * (x1 * y1 * (i * x2 + s * y2))) := by
  have a1 : (i * x1 + s * e * y1) * (i * x1 + s * e * y1) = (i * i) * (x1 * x1) + 2 * i * s * e * x1 * y1 + (s * s) * (e * e) * (y1 * y1) := by grind
  have a2 : d * ((x1 * y1 * (i * x2 + s * y2)) * (x1 * y1 * (i * x2 + s * y2))) = d * (x1 * x1) * (y1 * y1) * ((i * i) * (x2 * x2) + (s * s) * (y2 * y2)) + 2 * i * s * x1 * y1 * (d * x1 * x2 * y1 * y2) := by grind
  rw [a1, a2, ← he, ii, hs, h1]
  have a3 : y2 * y2 - x2 * x2 = 1 + d * x2 * x2 * y2 * y2 := by grind
  have a4 : d * (x1 * x1) * (y1 * y1) * (-1 * (x2 * x2) + 1 * (y2 * y2)) = d * (x1 * x1) * (y1 * y1) * (y2 * y2 - x2 * x2) := by grind
  rw [a4, a3]
  have a5 : d * (x1 * x1) * (y1 * y1) * (1 + d * x2 * x2 * y2 * y2) = d * (x1 * x1) * (y1 * y1) + (d * x1 * x2 * y1 * y2) * (d * x1 * x2 * y1 * y2) := by grind
  rw [a5, ← he, h1]
  grind

/-- no divisor of a sum is 0 -/
theorem complete {pp : Nat} [NeZero pp] (S : Field' pp) {x1 y1 x2 y2 : Fin pp} (h1 : On S x1 y1) (h2 : On S x2 y2) (he : (S.d * x1 * x2 * y1 * y2) * (S.d * x1 * x2 * y1 * y2) = 1) : False := by
  have hne : S.d * x1 * x2 * y1 * y2 ≠ 0 := by
    intro h
    rw [h] at he
    apply one_ne S
    grind
  have hxy : x1 * y1 ≠ 0 := by
    intro h
    apply hne
    have : S.d * x1 * x2 * y1 * y2 = S.d * x2 * y2 * (x1 * y1) := by grind
    rw [this, h]; grind
  have k1 := complete_key S.d S.i x1 y1 x2 y2 _ S.ii h1 h2 rfl he 1 (by grind)
  have k2 := complete_key S.d S.i x1 y1 x2 y2 _ S.ii h1 h2 rfl he (-1) (by grind)
  by_cases c1 : S.i * x2 + 1 * y2 = 0
  · by_cases c2 : S.i * x2 + -1 * y2 = 0
    · have e1 : ((1 : Fin pp) + 1) * y2 = 0 := by grind
      have y0 : y2 = 0 := by
        rcases eq_zero S e1 with h | h
        · exact absurd h S.two
        · exact h
      apply hne
      rw [y0]; grind
    · exact square_no S (mul_ne S hxy c2) k2
  · exact square_no S (mul_ne S hxy c1) k1
theorem plus_ne {pp : Nat} [NeZero pp] (S : Field' pp) {x1 y1 x2 y2 : Fin pp} (h1 : On S x1 y1) (h2 : On S x2 y2) : 1 + S.d * x1 * x2 * y1 * y2 ≠ 0 := by
  intro h
  apply complete S h1 h2
  have : S.d * x1 * x2 * y1 * y2 = -1 := by grind
  rw [this]; grind
theorem minus_ne {pp : Nat} [NeZero pp] (S : Field' pp) {x1 y1 x2 y2 : Fin pp} (h1 : On S x1 y1) (h2 : On S x2 y2) : 1 - S.d * x1 * x2 * y1 * y2 ≠ 0 := by
  intro h
  apply complete S h1 h2
  have : S.d * x1 * x2 * y1 * y2 = 1 := by grind
  rw [this]; grind

def addX {pp : Nat} [NeZero pp] (S : Field' pp) (x1 y1 x2 y2 : Fin pp) : Fin pp := (x1 * y2 + x2 * y1) * S.inv (1 + S.d * x1 * x2 * y1 * y2)
def addY {pp : Nat} [NeZero pp] (S : Field' pp) (x1 y1 x2 y2 : Fin pp) : Fin pp := (y1 * y2 + x1 * x2) * S.inv (1 - S.d * x1 * x2 * y1 * y2)

theorem addX_mul {pp : Nat} [NeZero pp] (S : Field' pp) {x1 y1 x2 y2 : Fin pp} (h1 : On S x1 y1) (h2 : On S x2 y2) : addX S x1 y1 x2 y2 * (1 + S.d * x1 * x2 * y1 * y2) = x1 * y2 + x2 * y1 := by
  have e := S.mul_inv _ (plus_ne S h1 h2)
  unfold addX
  generalize 1 + S.d * x1 * x2 * y1 * y2 = p at e ⊢
  grind
theorem addY_mul {pp : Nat} [NeZero pp] (S : Field' pp) {x1 y1 x2 y2 : Fin pp} (h1 : On S x1 y1) (h2 : On S x2 y2) : addY S x1 y1 x2 y2 * (1 - S.d * x1 * x2 * y1 * y2) = y1 * y2 + x1 * x2 := by
  have e := S.mul_inv _ (minus_ne S h1 h2)
  unfold addY
  generalize 1 - S.d * x1 * x2 * y1 * y2 = p at e ⊢
  grind

theorem closed {pp : Nat} [NeZero pp] (S : Field' pp) {x1 y1 x2 y2 : Fin pp} (h1 : On S x1 y1) (h2 : On S x2 y2) : On S (addX S x1 y1 x2 y2) (addY S x1 y1 x2 y2) := by
  have eX := addX_mul S h1 h2
  have eY := addY_mul S h1 h2
  have hp := plus_ne S h1 h2
  have hm := minus_ne S h1 h2
  have key := closed_poly S.d x1 y1 x2 y2 _ _ _ _ rfl rfl rfl rfl h1 h2
  rw [← eX, ← eY] at key
  generalize addX S x1 y1 x2 y2 = X at key ⊢
  generalize addY S x1 y1 x2 y2 = Y at key ⊢
  generalize 1 + S.d * x1 * x2 * y1 * y2 = p at key hp
  generalize 1 - S.d * x1 * x2 * y1 * y2 = m at key hm
  unfold On
  have hn := mul_ne S (mul_ne S hp hm) (mul_ne S hp hm)
  apply cancel S hn
  have : p * m * (p * m) * (Y * Y - X * X - 1 - S.d * X * X * Y * Y) = ((Y * m * p) * (Y * m * p) - (X * p * m) * (X * p * m)) - ((p * m) * (p * m) + S.d * ((X * p) * (Y * m)) * ((X * p) * (Y * m))) := by grind
  rw [this, key]; grind

theorem addX_comm {pp : Nat} [NeZero pp] (S : Field' pp) (x1 y1 x2 y2 : Fin pp) : addX S x1 y1 x2 y2 = addX S x2 y2 x1 y1 := by
  unfold addX
  have e1 : x1 * y2 + x2 * y1 = x2 * y1 + x1 * y2 := by grind
  have e2 : 1 + S.d * x1 * x2 * y1 * y2 = 1 + S.d * x2 * x1 * y2 * y1 := by grind
  rw [e1, e2]
theorem addY_comm {pp : Nat} [NeZero pp] (S : Field' pp) (x1 y1 x2 y2 : Fin pp) : addY S x1 y1 x2 y2 = addY S x2 y2 x1 y1 := by
  unfold addY
  have e1 : y1 * y2 + x1 * x2 = y2 * y1 + x2 * x1 := by grind
  have e2 : 1 - S.d * x1 * x2 * y1 * y2 = 1 - S.d * x2 * x1 * y2 * y1 := by grind
  rw [e1, e2]

theorem assoc_frac {pp : Nat} [NeZero pp] (S : Field' pp) (X12 Y12 X23 Y23 p12 m12 p23 m23 x1 y1 x3 y3 nx12 ny12 nx23 ny23 : Fin pp) (hp12 : p12 ≠ 0) (hm12 : m12 ≠ 0) (hp23 : p23 ≠ 0) (hm23 : m23 ≠ 0)
    (a1 : X12 * p12 = nx12) (a2 : Y12 * m12 = ny12) (a3 : X23 * p23 = nx23) (a4 : Y23 * m23 = ny23) (s : Fin pp)
    (L R : Fin pp) (hL : L * (p12 * m12) = nx12 * m12 * y3 + x3 * ny12 * p12) (hR : R * (p23 * m23) = x1 * ny23 * p23 + nx23 * m23 * y1)
    (key : (nx12 * m12 * y3 + x3 * ny12 * p12) * (p23 * m23 + s * S.d * nx23 * ny23 * x1 * y1) = (x1 * ny23 * p23 + nx23 * m23 * y1) * (p12 * m12 + s * S.d * nx12 * ny12 * x3 * y3)) :
    L * (1 + s * S.d * x1 * X23 * y1 * Y23) = R * (1 + s * S.d * X12 * x3 * Y12 * y3) := by
  have hn := mul_ne S (mul_ne S hp12 hm12) (mul_ne S hp23 hm23)
  apply cancel S hn
  have e1 : (1 + s * S.d * x1 * X23 * y1 * Y23) * (p23 * m23) = p23 * m23 + s * S.d * nx23 * ny23 * x1 * y1 := by rw [← a3, ← a4]; grind
  have e2 : (1 + s * S.d * X12 * x3 * Y12 * y3) * (p12 * m12) = p12 * m12 + s * S.d * nx12 * ny12 * x3 * y3 := by rw [← a1, ← a2]; grind
  have e3 : p12 * m12 * (p23 * m23) * (L * (1 + s * S.d * x1 * X23 * y1 * Y23)) = (L * (p12 * m12)) * ((1 + s * S.d * x1 * X23 * y1 * Y23) * (p23 * m23)) := by grind
  have e4 : p12 * m12 * (p23 * m23) * (R * (1 + s * S.d * X12 * x3 * Y12 * y3)) = (R * (p23 * m23)) * ((1 + s * S.d * X12 * x3 * Y12 * y3) * (p12 * m12)) := by grind
  rw [e3, e4, e1, e2, hL, hR, key]
theorem assoc_fracY {pp : Nat} [NeZero pp] (S : Field' pp) (X12 Y12 X23 Y23 p12 m12 p23 m23 x1 y1 x3 y3 nx12 ny12 nx23 ny23 : Fin pp) (hp12 : p12 ≠ 0) (hm12 : m12 ≠ 0) (hp23 : p23 ≠ 0) (hm23 : m23 ≠ 0)
    (a1 : X12 * p12 = nx12) (a2 : Y12 * m12 = ny12) (a3 : X23 * p23 = nx23) (a4 : Y23 * m23 = ny23)
    (L R : Fin pp) (hL : L * (p12 * m12) = ny12 * p12 * y3 + nx12 * m12 * x3) (hR : R * (p23 * m23) = y1 * ny23 * p23 + x1 * nx23 * m23)
    (key : (ny12 * p12 * y3 + nx12 * m12 * x3) * (p23 * m23 - S.d * nx23 * ny23 * x1 * y1) = (y1 * ny23 * p23 + x1 * nx23 * m23) * (p12 * m12 - S.d * nx12 * ny12 * x3 * y3)) :
    L * (1 - S.d * x1 * X23 * y1 * Y23) = R * (1 - S.d * X12 * x3 * Y12 * y3) := by
  have hn := mul_ne S (mul_ne S hp12 hm12) (mul_ne S hp23 hm23)
  apply cancel S hn
  have e1 : (1 - S.d * x1 * X23 * y1 * Y23) * (p23 * m23) = p23 * m23 - S.d * nx23 * ny23 * x1 * y1 := by rw [← a3, ← a4]; grind
  have e2 : (1 - S.d * X12 * x3 * Y12 * y3) * (p12 * m12) = p12 * m12 - S.d * nx12 * ny12 * x3 * y3 := by rw [← a1, ← a2]; grind
  have e3 : p12 * m12 * (p23 * m23) * (L * (1 - S.d * x1 * X23 * y1 * Y23)) = (L * (p12 * m12)) * ((1 - S.d * x1 * X23 * y1 * Y23) * (p23 * m23)) := by grind
  have e4 : p12 * m12 * (p23 * m23) * (R * (1 - S.d * X12 * x3 * Y12 * y3)) = (R * (p23 * m23)) * ((1 - S.d * X12 * x3 * Y12 * y3) * (p12 * m12)) := by grind
  rw [e3, e4, e1, e2, hL, hR, key]

theorem addX_assoc {pp : Nat} [NeZero pp] (S : Field' pp) {x1 y1 x2 y2 x3 y3 : Fin pp} (h1 : On S x1 y1) (h2 : On S x2 y2) (h3 : On S x3 y3) :
    addX S (addX S x1 y1 x2 y2) (addY S x1 y1 x2 y2) x3 y3 = addX S x1 y1 (addX S x2 y2 x3 y3) (addY S x2 y2 x3 y3) := by
  have c12 := closed S h1 h2
  have c23 := closed S h2 h3
  have d1 := plus_ne S c12 h3
  have d2 := plus_ne S h1 c23
  have eX12 := addX_mul S h1 h2
  have eY12 := addY_mul S h1 h2
  have eX23 := addX_mul S h2 h3
  have eY23 := addY_mul S h2 h3
  have hp12 := plus_ne S h1 h2
  have hm12 := minus_ne S h1 h2
  have hp23 := plus_ne S h2 h3
  have hm23 := minus_ne S h2 h3
  have key := assoc_x S.d x1 y1 x2 y2 x3 y3 _ _ _ _ _ _ _ _ rfl rfl rfl rfl rfl rfl rfl rfl h1 h2 h3
  unfold addX at d1 d2 ⊢
  refine frac S d1 d2 ?_
  change (addX S x1 y1 x2 y2 * y3 + x3 * addY S x1 y1 x2 y2) * (1 + S.d * x1 * addX S x2 y2 x3 y3 * y1 * addY S x2 y2 x3 y3) = (x1 * addY S x2 y2 x3 y3 + addX S x2 y2 x3 y3 * y1) * (1 + S.d * addX S x1 y1 x2 y2 * x3 * addY S x1 y1 x2 y2 * y3)
  generalize addX S x1 y1 x2 y2 = X12 at *
  generalize addY S x1 y1 x2 y2 = Y12 at *
  generalize addX S x2 y2 x3 y3 = X23 at *
  generalize addY S x2 y2 x3 y3 = Y23 at *
  generalize 1 + S.d * x1 * x2 * y1 * y2 = p12 at *
  generalize 1 - S.d * x1 * x2 * y1 * y2 = m12 at *
  generalize 1 + S.d * x2 * x3 * y2 * y3 = p23 at *
  generalize 1 - S.d * x2 * x3 * y2 * y3 = m23 at *
  have one1 : (1 : Fin pp) * S.d = S.d := by grind
  have := assoc_frac S X12 Y12 X23 Y23 p12 m12 p23 m23 x1 y1 x3 y3 _ _ _ _ hp12 hm12 hp23 hm23 eX12 eY12 eX23 eY23 1 (X12 * y3 + x3 * Y12) (x1 * Y23 + X23 * y1)
    (by rw [← eX12, ← eY12]; grind) (by rw [← eX23, ← eY23]; grind) (by rw [one1]; exact key)
  rw [one1] at this
  exact this
theorem addY_assoc {pp : Nat} [NeZero pp] (S : Field' pp) {x1 y1 x2 y2 x3 y3 : Fin pp} (h1 : On S x1 y1) (h2 : On S x2 y2) (h3 : On S x3 y3) :
    addY S (addX S x1 y1 x2 y2) (addY S x1 y1 x2 y2) x3 y3 = addY S x1 y1 (addX S x2 y2 x3 y3) (addY S x2 y2 x3 y3) := by
  have c12 := closed S h1 h2
  have c23 := closed S h2 h3
  have d1 := minus_ne S c12 h3
  have d2 := minus_ne S h1 c23
  have eX12 := addX_mul S h1 h2
  have eY12 := addY_mul S h1 h2
  have eX23 := addX_mul S h2 h3
  have eY23 := addY_mul S h2 h3
  have hp12 := plus_ne S h1 h2
  have hm12 := minus_ne S h1 h2
  have hp23 := plus_ne S h2 h3
  have hm23 := minus_ne S h2 h3
  have key := assoc_y S.d x1 y1 x2 y2 x3 y3 _ _ _ _ _ _ _ _ rfl rfl rfl rfl rfl rfl rfl rfl h1 h2 h3
  unfold addY at d1 d2 ⊢
  refine frac S d1 d2 ?_
  change (addY S x1 y1 x2 y2 * y3 + addX S x1 y1 x2 y2 * x3) * (1 - S.d * x1 * addX S x2 y2 x3 y3 * y1 * addY S x2 y2 x3 y3) = (y1 * addY S x2 y2 x3 y3 + x1 * addX S x2 y2 x3 y3) * (1 - S.d * addX S x1 y1 x2 y2 * x3 * addY S x1 y1 x2 y2 * y3)
  generalize addX S x1 y1 x2 y2 = X12 at *
  generalize addY S x1 y1 x2 y2 = Y12 at *
  generalize addX S x2 y2 x3 y3 = X23 at *
  generalize addY S x2 y2 x3 y3 = Y23 at *
  generalize 1 + S.d * x1 * x2 * y1 * y2 = p12 at *
  generalize 1 - S.d * x1 * x2 * y1 * y2 = m12 at *
  generalize 1 + S.d * x2 * x3 * y2 * y3 = p23 at *
  generalize 1 - S.d * x2 * x3 * y2 * y3 = m23 at *
  exact assoc_fracY S X12 Y12 X23 Y23 p12 m12 p23 m23 x1 y1 x3 y3 _ _ _ _ hp12 hm12 hp23 hm23 eX12 eY12 eX23 eY23 (Y12 * y3 + X12 * x3) (y1 * Y23 + x1 * X23)
    (by rw [← eX12, ← eY12]; grind) (by rw [← eX23, ← eY23]; grind) key

/-- points -/
structure Pt {pp : Nat} [NeZero pp] (S : Field' pp) where
  x : Fin pp
  y : Fin pp
  on : On S x y
theorem Pt.ext' {pp : Nat} [NeZero pp] (S : Field' pp) {a b : Pt S} (hx : a.x = b.x) (hy : a.y = b.y) : a = b := by
  obtain ⟨ax, ay, ah⟩ := a
  obtain ⟨bx, bY, bh⟩ := b
  simp only at hx hy
  subst hx hy
  rfl
def add {pp : Nat} [NeZero pp] (S : Field' pp) (a b : Pt S) : Pt S := ⟨addX S a.x a.y b.x b.y, addY S a.x a.y b.x b.y, closed S a.on b.on⟩
def zero {pp : Nat} [NeZero pp] (S : Field' pp) : Pt S := ⟨0, 1, by unfold On; grind⟩
def neg {pp : Nat} [NeZero pp] (S : Field' pp) (a : Pt S) : Pt S := ⟨-a.x, a.y, by have := a.on; unfold On at *; grind⟩
theorem add_assoc {pp : Nat} [NeZero pp] (S : Field' pp) (a b c : Pt S) : add S (add S a b) c = add S a (add S b c) := Pt.ext' S (addX_assoc S a.on b.on c.on) (addY_assoc S a.on b.on c.on)
theorem add_comm {pp : Nat} [NeZero pp] (S : Field' pp) (a b : Pt S) : add S a b = add S b a := Pt.ext' S (addX_comm S _ _ _ _) (addY_comm S _ _ _ _)
theorem add_zero {pp : Nat} [NeZero pp] (S : Field' pp) (a : Pt S) : add S a (zero S) = a := by
  refine Pt.ext' S ?_ ?_
  · show addX S a.x a.y 0 1 = a.x
    unfold addX
    have e1 : 1 + S.d * a.x * 0 * a.y * 1 = 1 := by grind
    rw [e1, inv_one S]; grind
  · show addY S a.x a.y 0 1 = a.y
    unfold addY
    have e1 : 1 - S.d * a.x * 0 * a.y * 1 = 1 := by grind
    rw [e1, inv_one S]; grind
theorem zero_add {pp : Nat} [NeZero pp] (S : Field' pp) (a : Pt S) : add S (zero S) a = a := by rw [add_comm, add_zero]
theorem add_neg {pp : Nat} [NeZero pp] (S : Field' pp) (a : Pt S) : add S a (neg S a) = zero S := by
  refine Pt.ext' S ?_ ?_
  · show addX S a.x a.y (-a.x) a.y = 0
    unfold addX
    have e1 : a.x * a.y + -a.x * a.y = 0 := by grind
    rw [e1]; grind
  · show addY S a.x a.y (-a.x) a.y = 1
    have h := a.on
    have hne : 1 - S.d * a.x * -a.x * a.y * a.y ≠ 0 := minus_ne S a.on (neg S a).on
    have e := S.mul_inv _ hne
    unfold addY
    unfold On at h
    have e1 : a.y * a.y + a.x * -a.x = 1 - S.d * a.x * -a.x * a.y * a.y := by grind
    rw [e1, e]
theorem neg_add {pp : Nat} [NeZero pp] (S : Field' pp) (a b : Pt S) : neg S (add S a b) = add S (neg S a) (neg S b) := by
  refine Pt.ext' S ?_ ?_
  · show -addX S a.x a.y b.x b.y = addX S (-a.x) a.y (-b.x) b.y
    unfold addX
    have e1 : 1 + S.d * -a.x * -b.x * a.y * b.y = 1 + S.d * a.x * b.x * a.y * b.y := by grind
    rw [e1]; grind
  · show addY S a.x a.y b.x b.y = addY S (-a.x) a.y (-b.x) b.y
    unfold addY
    have e1 : 1 - S.d * -a.x * -b.x * a.y * b.y = 1 - S.d * a.x * b.x * a.y * b.y := by grind
    have e2 : a.y * b.y + -a.x * -b.x = a.y * b.y + a.x * b.x := by grind
    rw [e1, e2]

/-- so many times a point -/
def mul {pp : Nat} [NeZero pp] (S : Field' pp) : Nat → Pt S → Pt S
  | 0, _ => zero S
  | n + 1, a => add S (mul S n a) a
theorem mul_add {pp : Nat} [NeZero pp] (S : Field' pp) (m n : Nat) (a : Pt S) : mul S (m + n) a = add S (mul S m a) (mul S n a) := by
  induction n with
  | zero => exact (add_zero S _).symm
  | succ n ih =>
    show add S (mul S (m + n) a) a = _
    rw [ih, add_assoc]; rfl
theorem mul_mul {pp : Nat} [NeZero pp] (S : Field' pp) (m n : Nat) (a : Pt S) : mul S (m * n) a = mul S m (mul S n a) := by
  induction m with
  | zero => rw [Nat.zero_mul]; rfl
  | succ m ih =>
    rw [Nat.succ_mul, mul_add, ih]; rfl
theorem mul_neg {pp : Nat} [NeZero pp] (S : Field' pp) (n : Nat) (a : Pt S) : mul S n (neg S a) = neg S (mul S n a) := by
  induction n with
  | zero =>
    refine Pt.ext' S ?_ rfl
    show (0 : Fin pp) = -0
    grind
  | succ n ih =>
    show add S (mul S n (neg S a)) (neg S a) = neg S (add S (mul S n a) a)
    rw [ih, neg_add]
theorem mul_zero {pp : Nat} [NeZero pp] (S : Field' pp) (n : Nat) : mul S n (zero S) = zero S := by
  induction n with
  | zero => rfl
  | succ n ih =>
    show add S (mul S n (zero S)) (zero S) = _
    rw [ih, add_zero]
theorem mul_one {pp : Nat} [NeZero pp] (S : Field' pp) (a : Pt S) : mul S 1 a = a := zero_add S a
theorem add_cancel {pp : Nat} [NeZero pp] (S : Field' pp) {a b c : Pt S} (h : add S a b = add S a c) : b = c := by
  have : add S (neg S a) (add S a b) = add S (neg S a) (add S a c) := by rw [h]
  rw [← add_assoc, ← add_assoc, add_comm S (neg S a) a, add_neg, zero_add, zero_add] at this
  exact this
/-- modulo a number of which the point's multiple is the zero -/
theorem mul_mod {pp : Nat} [NeZero pp] (S : Field' pp) {q : Nat} {a : Pt S} (h : mul S q a = zero S) (n : Nat) : mul S (n % q) a = mul S n a := by
  conv => rhs; rw [← Nat.div_add_mod n q, mul_add, Nat.mul_comm, mul_mul, h, mul_zero, zero_add]
/-- three numbers that stand for a point: x / z, y / z -/
def Rep {pp : Nat} [NeZero pp] (S : Field' pp) (X Y Z : Fin pp) (p : Pt S) : Prop := Z ≠ 0 ∧ X = p.x * Z ∧ Y = p.y * Z
theorem Rep.add {pp : Nat} [NeZero pp] (S : Field' pp) {X1 Y1 Z1 X2 Y2 Z2 : Fin pp} {p q : Pt S} (h1 : Rep S X1 Y1 Z1 p) (h2 : Rep S X2 Y2 Z2 q) (z whole change more less : Fin pp)
    (hz : z = Z1 * Z2) (hw : whole = z * z) (hc : change = S.d * (X1 * X2) * (Y1 * Y2)) (hm : more = whole + change) (hl : less = whole - change) :
    Rep S (z * (X1 * Y2 + X2 * Y1) * less) (z * (Y1 * Y2 + X1 * X2) * more) (more * less) (Ed.add S p q) := by
  obtain ⟨n1, rfl, rfl⟩ := h1
  obtain ⟨n2, rfl, rfl⟩ := h2
  have hp := plus_ne S p.on q.on
  have hq := minus_ne S p.on q.on
  have eX := addX_mul S p.on q.on
  have eY := addY_mul S p.on q.on
  have nz : z ≠ 0 := by rw [hz]; exact mul_ne S n1 n2
  have e1 : change = (S.d * p.x * q.x * p.y * q.y) * (z * z) := by rw [hc, hz]; grind
  have e2 : more = (1 + S.d * p.x * q.x * p.y * q.y) * (z * z) := by rw [hm, hw, e1]; grind
  have e3 : less = (1 - S.d * p.x * q.x * p.y * q.y) * (z * z) := by rw [hl, hw, e1]; grind
  refine ⟨?_, ?_, ?_⟩
  · rw [e2, e3]; exact mul_ne S (mul_ne S hp (mul_ne S nz nz)) (mul_ne S hq (mul_ne S nz nz))
  · show z * (p.x * Z1 * (q.y * Z2) + q.x * Z2 * (p.y * Z1)) * less = addX S p.x p.y q.x q.y * (more * less)
    rw [e2]
    have : addX S p.x p.y q.x q.y * ((1 + S.d * p.x * q.x * p.y * q.y) * (z * z) * less) = (addX S p.x p.y q.x q.y * (1 + S.d * p.x * q.x * p.y * q.y)) * (z * z) * less := by grind
    rw [this, eX, hz]; grind
  · show z * (p.y * Z1 * (q.y * Z2) + p.x * Z1 * (q.x * Z2)) * more = addY S p.x p.y q.x q.y * (more * less)
    rw [e3]
    have : addY S p.x p.y q.x q.y * (more * ((1 - S.d * p.x * q.x * p.y * q.y) * (z * z))) = (addY S p.x p.y q.x q.y * (1 - S.d * p.x * q.x * p.y * q.y)) * (z * z) * more := by grind
    rw [this, eY, hz]; grind
theorem Rep.zero {pp : Nat} [NeZero pp] (S : Field' pp) : Rep S 0 1 1 (Ed.zero S) := by
  refine ⟨one_ne S, ?_, ?_⟩
  · show (0 : Fin pp) = 0 * 1
    grind
  · show (1 : Fin pp) = 1 * 1
    grind
theorem Rep.neg {pp : Nat} [NeZero pp] (S : Field' pp) {X Y Z : Fin pp} {p : Pt S} (h : Rep S X Y Z p) : Rep S (-X) Y Z (Ed.neg S p) := by
  obtain ⟨n, rfl, rfl⟩ := h
  refine ⟨n, ?_, rfl⟩
  show -(p.x * Z) = -p.x * Z
  grind
theorem Rep.of {pp : Nat} [NeZero pp] (S : Field' pp) (p : Pt S) : Rep S p.x p.y 1 p := by
  refine ⟨one_ne S, ?_, ?_⟩ <;> grind
theorem Rep.x {pp : Nat} [NeZero pp] (S : Field' pp) {X Y Z : Fin pp} {p : Pt S} (h : Rep S X Y Z p) : X * S.inv Z = p.x := by
  obtain ⟨n, rfl, rfl⟩ := h
  have := S.mul_inv Z n
  grind
theorem Rep.y {pp : Nat} [NeZero pp] (S : Field' pp) {X Y Z : Fin pp} {p : Pt S} (h : Rep S X Y Z p) : Y * S.inv Z = p.y := by
  obtain ⟨n, rfl, rfl⟩ := h
  have := S.mul_inv Z n
  grind

/-- four numbers: x / z, y / z, and x y / z -/
def Rep4 {pp : Nat} [NeZero pp] (S : Field' pp) (X Y Z T : Fin pp) (p : Pt S) : Prop := Rep S X Y Z p ∧ T = p.x * p.y * Z
theorem Rep4.add {pp : Nat} [NeZero pp] (S : Field' pp) {X1 Y1 Z1 T1 X2 Y2 Z2 T2 : Fin pp} {p q : Pt S} (h1 : Rep4 S X1 Y1 Z1 T1 p) (h2 : Rep4 S X2 Y2 Z2 T2 q) (a b c d e f g h tw : Fin pp)
    (ht : tw = S.d + S.d) (ha : a = (Y1 - X1) * (Y2 - X2)) (hb : b = (Y1 + X1) * (Y2 + X2)) (hc : c = T1 * tw * T2) (hd : d = Z1 * Z2 + Z1 * Z2) (he : e = b - a) (hf : f = d - c) (hg : g = d + c) (hh : h = b + a) :
    Rep4 S (e * f) (g * h) (f * g) (e * h) (Ed.add S p q) := by
  obtain ⟨⟨n1, rfl, rfl⟩, rfl⟩ := h1
  obtain ⟨⟨n2, rfl, rfl⟩, rfl⟩ := h2
  have hp := plus_ne S p.on q.on
  have hq := minus_ne S p.on q.on
  have eX := addX_mul S p.on q.on
  have eY := addY_mul S p.on q.on
  have nz : Z1 * Z2 ≠ 0 := mul_ne S n1 n2
  have e1 : e = (1 + 1) * (Z1 * Z2) * (p.x * q.y + q.x * p.y) := by rw [he, hb, ha]; grind
  have e2 : h = (1 + 1) * (Z1 * Z2) * (p.y * q.y + p.x * q.x) := by rw [hh, hb, ha]; grind
  have e3 : f = (1 + 1) * (Z1 * Z2) * (1 - S.d * p.x * q.x * p.y * q.y) := by rw [hf, hd, hc, ht]; grind
  have e4 : g = (1 + 1) * (Z1 * Z2) * (1 + S.d * p.x * q.x * p.y * q.y) := by rw [hg, hd, hc, ht]; grind
  have n2' := mul_ne S S.two nz
  have nf : f ≠ 0 := by rw [e3]; exact mul_ne S n2' hq
  have ng : g ≠ 0 := by rw [e4]; exact mul_ne S n2' hp
  have k1 : addX S p.x p.y q.x q.y * g = e := by
    rw [e4, e1, ← eX]; grind
  have k2 : addY S p.x p.y q.x q.y * f = h := by
    rw [e3, e2, ← eY]; grind
  refine ⟨⟨mul_ne S nf ng, ?_, ?_⟩, ?_⟩
  · show e * f = addX S p.x p.y q.x q.y * (f * g)
    rw [← k1]; grind
  · show g * h = addY S p.x p.y q.x q.y * (f * g)
    rw [← k2]; grind
  · show e * h = addX S p.x p.y q.x q.y * addY S p.x p.y q.x q.y * (f * g)
    rw [← k1, ← k2]; grind
theorem Rep4.zero {pp : Nat} [NeZero pp] (S : Field' pp) : Rep4 S 0 1 1 0 (Ed.zero S) := by
  refine ⟨Rep.zero S, ?_⟩
  show (0 : Fin pp) = 0 * 1 * 1
  grind

/-- a number by its bits, the highest first -/
def bitsVal : List Bool → Nat → Nat
  | [], n => n
  | b :: l, n => bitsVal l (2 * n + (if b then 1 else 0))
theorem mul_twice {pp : Nat} [NeZero pp] (S : Field' pp) (n : Nat) (a : Pt S) : Ed.add S (mul S n a) (mul S n a) = mul S (2 * n) a := by
  rw [Nat.two_mul, mul_add]
theorem mul_succ {pp : Nat} [NeZero pp] (S : Field' pp) (n : Nat) (a : Pt S) : Ed.add S (mul S n a) a = mul S (n + 1) a := rfl

end Go.Proofs.Ytclpbaokadfhhaa.Ed
