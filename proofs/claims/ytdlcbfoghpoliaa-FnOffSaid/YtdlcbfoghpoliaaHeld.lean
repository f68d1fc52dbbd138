/- An operation that is taken first, its destination told: else the frame keeps what is looked up unreduced. -/
import Derived.OrdersHeld
import Derived.Test.YtdlcbfoghpoliaaMath
namespace Go.Proofs.Ytdlcbfoghpoliaa
open Go
theorem wpAnyH_takeD {P : Program} {ops : Array Oper} {Q : Exit → Act → World → Prop} {md : Region.Mode} {S : World → Prop} {i : Nat} (d : Option Nat) {oi : Oper} {v : Value} {fuel : Nat} {listed : Array Bool} {a : Act} {w : World} (hi : ops[i]? = some oi) (hdst : oi.dst = d)
    (hs : Region.noSelect ops = true) (hf : Region.free md ops listed i = true) (hr : (Region.ready md ops listed).contains i = true)
    (hQ : ∀ c a w, Q (.panic c) (a.put d v) w → Q (.panic c) a w) (hy : YieldsIf P ops S oi v a) (hS : S w)
    (h : wpAnyH P md ops Q S fuel (listed.setIfInBounds i true) (a.put d v) w) : wpAnyH P md ops Q S (fuel + 1) listed a w := by
  subst hdst; exact wpAnyH_take hi hs hf hr hQ hy hS h
end Go.Proofs.Ytdlcbfoghpoliaa
