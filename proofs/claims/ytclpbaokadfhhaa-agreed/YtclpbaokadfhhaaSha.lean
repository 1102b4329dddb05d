/- SHA-512 as plain functions on bit vectors: no program. -/
import Derived.Test.YtclpbaokadfhhaaBv
namespace Go.Proofs.Ytclpbaokadfhhaa
namespace Sha

def rot (x : BitVec 64) (n : Nat) : BitVec 64 := x <<< (64 - n) ||| x >>> n
def sm0 (x : BitVec 64) : BitVec 64 := rot x 1 ^^^ rot x 8 ^^^ x >>> 7
def sm1 (x : BitVec 64) : BitVec 64 := rot x 19 ^^^ rot x 61 ^^^ x >>> 6
def bg0 (x : BitVec 64) : BitVec 64 := rot x 28 ^^^ rot x 34 ^^^ rot x 39
def bg1 (x : BitVec 64) : BitVec 64 := rot x 14 ^^^ rot x 18 ^^^ rot x 41
def ch (e f g : BitVec 64) : BitVec 64 := e &&& f ||| ~~~e &&& g
def maj (a b c : BitVec 64) : BitVec 64 := a &&& b ||| a &&& c ||| b &&& c

end Sha
end Go.Proofs.Ytclpbaokadfhhaa
