/- The plain functions of layer 1: the truths with as little water as can be, and as much; droughts; bounds; faults. -/
import Derived.Test.YtfaboddhhepdiaaDoorPure
namespace Lens
def lohi (much : Bool) (lo hi : Int) : Int := if much then hi else lo
/-- The truth of a drought in which water is scarcest, or in which there is most. -/
def endTru (i : Isl) (much : Bool) (nd : Nat) (d : Nat → Bool) : Tru :=
  { start := lohi much i.sl i.sh, soak := lohi much i.kl i.kh, leak := lohi (!much) i.ll i.lh, nd := nd, dry := d,
    nr := i.nm, rains := fun k => lohi much (rlo (i.months k) (d k)) (rhi (i.months k) (d k)), nn := i.nm, needs := fun k => lohi (!much) (i.months k).nl (i.months k).nh }
/-- The drought that a number's bits tell, the first month being the highest. -/
def bitsDry (n bits k : Nat) : Bool := bits.testBit (n - 1 - k)
end Lens
