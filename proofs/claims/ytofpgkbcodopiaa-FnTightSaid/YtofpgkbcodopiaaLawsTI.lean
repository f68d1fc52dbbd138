/- The walk of the law over TightestFlow. -/
import Derived.Test.YtofpgkbcodopiaaTiS
import Derived.Test.YtofpgkbcodopiaaMgP
import Derived.Test.YtofpgkbcodopiaaSamG
namespace Go.Proofs.Ytofpgkbcodopiaa
open Go.RowKit
set_option linter.unusedVariables false
set_option linter.unusedSimpArgs false
theorem implTi_any (bS nS capS : Nat) (zs : List Int) (hnS : nS = zs.length) (b n cap : Nat) (js : List (Int × Int)) (hn : n = js.length) (most : Int) (w : World) (hS : Stk w bS zs) (hR : Rst w b js) : Calls Try.prog 6 #[.slice (some ⟨bS, 0, none⟩) nS capS, .slice (some ⟨b, 0, none⟩) n cap, .int .i64 most] w (GivesB w (.tuple #[.agg #[.int .i64 (tiR zs js most).1.1, .int .i64 (tiR zs js most).1.2], .int .i64 (tiR zs js most).2])) := by
  cases hg : okG zs js with
  | false => exact implTi_log bS nS capS zs hnS b n cap js hn most w hS hR hg
  | true =>
    by_cases h0 : most < 0
    · exact implTi_most_lo bS nS capS zs hnS b n cap js hn most w hS hR hg h0
    · by_cases h1 : 1000000 < most
      · exact implTi_most_hi bS nS capS zs hnS b n cap js hn most w hS hR hg h1
      · exact implTi_main bS nS capS zs hnS b n cap js hn most w hS hR hg (by omega) (by omega)
theorem specTi_any (bS nS capS : Nat) (zs : List Int) (hnS : nS = zs.length) (b n cap : Nat) (js : List (Int × Int)) (hn : n = js.length) (most : Int) (w : World) (hS : Stk w bS zs) (hR : Rst w b js) (hc : nS ≤ capS) : Calls Try.prog 7 #[.slice (some ⟨bS, 0, none⟩) nS capS, .slice (some ⟨b, 0, none⟩) n cap, .int .i64 most] w (GivesB w (.tuple #[.agg #[.int .i64 (tiR zs js most).1.1, .int .i64 (tiR zs js most).1.2], .int .i64 (tiR zs js most).2])) := by
  cases hg : okG zs js with
  | false => exact specTi_log bS nS capS zs hnS b n cap js hn most w hS hR hg
  | true =>
    by_cases h0 : 0 ≤ most ∧ most ≤ 1000000
    · exact specTi_main bS nS capS zs hnS b n cap js hn most w hS hR hc hg h0.1 h0.2
    · exact specTi_most bS nS capS zs hnS b n cap js hn most w hS hR hg h0
end Go.Proofs.Ytofpgkbcodopiaa
