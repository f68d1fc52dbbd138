/- MovingWheels: the program's. -/
import Derived.Test.YtomhmkdfhhmenaaMwC
namespace Go.Proofs.Ytomhmkdfhhmenaa
open Go.RowKit
def mwR (zs : List Int) (js : List (Int × Int)) (turn : Int) : List Int × Int := if askR zs js turn = 0 then (movE (partsL zs js turn) 8, 0) else ([], askR zs js turn)
theorem mwR_no {zs : List Int} {js : List (Int × Int)} {turn : Int} (h : okM zs js = false) : mwR zs js turn = ([], 1) := by simp [mwR, askR, h]
theorem mwR_turn {zs : List Int} {js : List (Int × Int)} {turn : Int} (h : okM zs js = true) (k : turnOk zs turn = false) : mwR zs js turn = ([], 2) := by simp [mwR, askR, h, k]
theorem mwR_yes {zs : List Int} {js : List (Int × Int)} {turn : Int} (h : okM zs js = true) (k : turnOk zs turn = true) : mwR zs js turn = (movE (partsL zs js turn) 8, 0) := by simp [mwR, askR, h, k]
end Go.Proofs.Ytomhmkdfhhmenaa
