/- The ladder tells the quotient (1 + y) / (1 - y) of a multiple of a point of the Edwards curve: plain lemmas, no program. -/
import Derived.Test.YtclpbaokadfhhaaGreatDoorXg
namespace Go.Proofs.YtclpbaokadfhhaaGreatDoor.Mg
open Ed
open Gf (Fp ofN)
end Go.Proofs.YtclpbaokadfhhaaGreatDoor.Mg
