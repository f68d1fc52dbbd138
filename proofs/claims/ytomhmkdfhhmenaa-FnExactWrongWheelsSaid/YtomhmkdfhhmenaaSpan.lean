/- SpanOf: the program's and the model's; a motion behind a pointer; what a turn is. -/
import Derived.Test.YtomhmkdfhhmenaaMoOk
import Derived.Test.YtomhmkdfhhmenaaSizes
import Derived.Test.YtomhmkdfhhmenaaTeeth
namespace Go.Proofs.Ytomhmkdfhhmenaa
open Go.RowKit

def spanL (zs : List Int) : Int := szL zs * 1000
theorem spanL_bd {zs : List Int} (h : okL zs = true) : 1000 ≤ spanL zs ∧ spanL zs ≤ 1000000000000000 := by
  obtain ⟨_, _, _, h1, h2⟩ := okL_out h
  unfold spanL
  omega
def spanR (zs : List Int) (js : List (Int × Int)) : Int × Int := if okM zs js then (spanL zs, 0) else (0, 1)
theorem spanR_no {zs : List Int} {js : List (Int × Int)} (h : okM zs js = false) : spanR zs js = (0, 1) := by simp [spanR, h]
theorem spanR_yes {zs : List Int} {js : List (Int × Int)} (h : okM zs js = true) : spanR zs js = (spanL zs, 0) := by simp [spanR, h]

/-- a motion in a box, with its stack and its joints -/
def MoAt (w : World) (B b n cap g m cap' : Nat) (zs : List Int) (js : List (Int × Int)) : Prop :=
  Row w B 33 [.slice (some ⟨b, 0, none⟩) n cap, .slice (some ⟨g, 0, none⟩) m cap'] ∧ Stk w b zs ∧ Jst w g js
theorem MoAt.below {w w' : World} {B b n cap g m cap' k : Nat} {zs : List Int} {js : List (Int × Int)} (h : MoAt w B b n cap g m cap' zs js) (hb : Below k w w') (h1 : B < k) (h2 : b < k) (h3 : g < k) : MoAt w' B b n cap g m cap' zs js :=
  ⟨h.1.below hb h1, h.2.1.below hb h2, h.2.2.below hb h3⟩
theorem MoAt.keep {w w' : World} {B b n cap g m cap' : Nat} {zs : List Int} {js : List (Int × Int)} (h : MoAt w B b n cap g m cap' zs js) (hb : Below w.heap.size w w') : MoAt w' B b n cap g m cap' zs js :=
  h.below hb h.1.lt h.2.1.1 h.2.2.1
theorem MoAt.drewN {w : World} {B b n cap g m cap' : Nat} {zs : List Int} {js : List (Int × Int)} (h : MoAt w B b n cap g m cap' zs js) (d : Nat) : MoAt (w.drewN d) B b n cap g m cap' zs js :=
  h.keep (below_drewN (Below.refl _ _) d)
theorem MoAt.cells {w : World} {B b n cap g m cap' : Nat} {zs : List Int} {js : List (Int × Int)} (h : MoAt w B b n cap g m cap' zs js) : w.cell? ⟨B, 0, none⟩ = some (.slice (some ⟨b, 0, none⟩) n cap) ∧ w.cell? ⟨B, 1, none⟩ = some (.slice (some ⟨g, 0, none⟩) m cap') :=
  ⟨h.1.cell 0, h.1.cell 1⟩
theorem MoAt.new (w : World) (b n cap g m cap' : Nat) (zs : List Int) (js : List (Int × Int)) (hS : Stk w b zs) (hJ : Jst w g js) : MoAt (w.alloc (.cells #[.slice (some ⟨b, 0, none⟩) n cap, .slice (some ⟨g, 0, none⟩) m cap'] 33)) w.heap.size b n cap g m cap' zs js :=
  ⟨Row.new w 33 [.slice (some ⟨b, 0, none⟩) n cap, .slice (some ⟨g, 0, none⟩) m cap'], hS.below ((Below.refl _ w).alloc (Nat.le_refl _) _) hS.1, hJ.below ((Below.refl _ w).alloc (Nat.le_refl _) _) hJ.1⟩

theorem moSpan_any (b n cap g m cap' : Nat) (zs : List Int) (js : List (Int × Int)) (w : World) (hS : Stk w b zs) (hn : n = zs.length) (hv : okL zs = true) :
    Calls Try.prog 46 #[.agg #[.slice (some ⟨b, 0, none⟩) n cap, .slice (some ⟨g, 0, none⟩) m cap']] w fun e w' => e = .returned (.int .i64 (spanL zs)) ∧ Below w.heap.size w w' := by
  have bel : Below w.heap.size w (w.alloc (.cells #[.slice (some ⟨b, 0, none⟩) n cap, .slice (some ⟨g, 0, none⟩) m cap'] 33)) := (Below.refl _ w).alloc (Nat.le_refl _) _
  have H := hid (size_any b n cap zs hn hv _ (hS.below bel hS.1))
  obtain ⟨_, _, _, h1, h2⟩ := okL_out hv
  unfold spanL
  obtain ⟨Z, hZ⟩ : ∃ Z, Z = szL zs := ⟨_, rfl⟩
  rw [← hZ] at H h1 h2
  rw [← hZ]
  clear hS hn hv hZ
  go_enter Try.func46, Try.ntmps46
  go_wp2_with fail
  refine H.out.mono ?_
  rintro e w1 ⟨rfl, hB⟩
  go_wp2_with fail
  go_ret
  exact ⟨rfl, bel.trans (hB.mono (by simp))⟩
theorem l02Span_any (B b n cap g m cap' : Nat) (zs : List Int) (js : List (Int × Int)) (w : World) (hM : MoAt w B b n cap g m cap' zs js) (hn : n = zs.length) (hv : okL zs = true) :
    Calls Try.prog 32 #[.pointer (some ⟨B, 0, none⟩)] w fun e w' => e = .returned (.int .i64 (spanL zs)) ∧ Below w.heap.size w w' := by
  have H := hid (specSizeOf_any b n cap zs w hM.2.1 hn)
  have HR : sizeR zs = (szL zs, 0) := sizeR_yes hv
  rw [HR] at H
  obtain ⟨p0, p1⟩ := hM.cells
  obtain ⟨_, _, _, h1, h2⟩ := okL_out hv
  unfold spanL
  obtain ⟨Z, hZ⟩ : ∃ Z, Z = szL zs := ⟨_, rfl⟩
  rw [← hZ] at H h1 h2
  rw [← hZ]
  clear hM hn hv hZ HR
  go_enter Try.func32, Try.ntmps32
  go_wp2_with fail
  refine H.out.mono ?_
  rintro e w1 ⟨rfl, hB⟩
  go_wp2_with fail
  go_ret
  exact ⟨rfl, hB⟩

def turnOk (zs : List Int) (turn : Int) : Bool := decide (0 ≤ turn) && decide (turn < spanL zs)
theorem turnOk_out {zs : List Int} {turn : Int} (h : turnOk zs turn = true) : 0 ≤ turn ∧ turn < spanL zs := by simpa [turnOk] using h
theorem turnOk_no {zs : List Int} {turn : Int} (h : turnOk zs turn = false) : turn < 0 ∨ spanL zs ≤ turn := by
  by_cases h1 : 0 ≤ turn
  · by_cases h2 : turn < spanL zs
    · simp [turnOk, h1, h2] at h
    · right; omega
  · left; omega
/-- impl.turn of a motion -/
theorem moTurn_ok (b n cap g m cap' : Nat) (zs : List Int) (js : List (Int × Int)) (turn : Int) (w : World) (hS : Stk w b zs) (hn : n = zs.length) (hv : okL zs = true) (ht : turnOk zs turn = true) :
    Calls Try.prog 25 #[.agg #[.slice (some ⟨b, 0, none⟩) n cap, .slice (some ⟨g, 0, none⟩) m cap'], .int .i64 turn] w fun e w' => e = .returned (.int .i64 turn) ∧ Below w.heap.size w w' := by
  have bel : Below w.heap.size w (w.alloc (.cells #[.slice (some ⟨b, 0, none⟩) n cap, .slice (some ⟨g, 0, none⟩) m cap'] 33)) := (Below.refl _ w).alloc (Nat.le_refl _) _
  have H := hid (moSpan_any b n cap g m cap' zs js _ (hS.below bel hS.1) hn hv)
  have HT := hid (fun w => turnBelow_ok turn (spanL zs) (turnOk_out ht) w)
  clear hS hn hv ht
  go_enter Try.func25, Try.ntmps25
  go_wp2_with fail
  refine H.out.mono ?_
  rintro e w1 ⟨rfl, hB⟩
  go_wp2_with fail
  refine (HT.out _).mono ?_
  rintro e w' ⟨rfl, rfl⟩
  go_wp2_with fail
  go_ret
  exact ⟨rfl, bel.trans (hB.mono (by simp))⟩
theorem moTurn_no (b n cap g m cap' : Nat) (zs : List Int) (js : List (Int × Int)) (turn : Int) (w : World) (hS : Stk w b zs) (hn : n = zs.length) (hv : okL zs = true) (ht : turnOk zs turn = false) :
    Calls Try.prog 25 #[.agg #[.slice (some ⟨b, 0, none⟩) n cap, .slice (some ⟨g, 0, none⟩) m cap'], .int .i64 turn] w fun e w' => e = .panicked [{ v := .iface 99 (.int .i64 turn), recovered := false }] ∧ Below w.heap.size w w' := by
  have bel : Below w.heap.size w (w.alloc (.cells #[.slice (some ⟨b, 0, none⟩) n cap, .slice (some ⟨g, 0, none⟩) m cap'] 33)) := (Below.refl _ w).alloc (Nat.le_refl _) _
  have H := hid (moSpan_any b n cap g m cap' zs js _ (hS.below bel hS.1) hn hv)
  have HT := hid (fun w => turnBelow_no turn (spanL zs) (turnOk_no ht) w)
  clear hS hn hv ht
  go_enter Try.func25, Try.ntmps25
  go_wp2_with fail
  refine H.out.mono ?_
  rintro e w1 ⟨rfl, hB⟩
  go_wp2_with fail
  refine (HT.out _).mono ?_
  rintro e w' ⟨rfl, rfl⟩
  exact ⟨rfl, rfl, bel.trans (hB.mono (by simp))⟩
/-- the model's code of a motion and a turn -/
def askR (zs : List Int) (js : List (Int × Int)) (turn : Int) : Int := if okM zs js then (if turnOk zs turn then 0 else 2) else 1
theorem l02Asked_any (B b n cap g m cap' : Nat) (zs : List Int) (js : List (Int × Int)) (turn : Int) (w : World) (hM : MoAt w B b n cap g m cap' zs js) (hn : n = zs.length) (hm : m = js.length) (hb : ∀ j, j < js.length → (-128 ≤ jk js j ∧ jk js j ≤ 127) ∧ (-32768 ≤ jf js j ∧ jf js j ≤ 32767)) :
    Calls Try.prog 15 #[.pointer (some ⟨B, 0, none⟩), .int .i64 turn] w fun e w' => e = .returned (.int .i64 (askR zs js turn)) ∧ Below w.heap.size w w' := by
  have HV := hid (l02Ok_any B b n cap g m cap' zs js w hM.1 hM.2.1 hM.2.2 hn hm hb)
  have M0 := hid hM
  cases hv : okM zs js with
  | false =>
    rw [show askR zs js turn = 1 from by simp [askR, hv]]
    rw [hv] at HV
    clear hM hn hm hb hv
    go_enter Try.func15, Try.ntmps15
    go_wp2_with fail
    refine HV.out.mono ?_
    rintro e w1 ⟨rfl, hB⟩
    go_wp2_with fail
    go_ret
    exact ⟨rfl, hB⟩
  | true =>
    rw [hv] at HV
    have hv1 := (okM_out hv).1
    have sb := spanL_bd hv1
    have HS := hid (fun w1 (h : MoAt w1 B b n cap g m cap' zs js) => l02Span_any B b n cap g m cap' zs js w1 h hn hv1)
    cases ht : turnOk zs turn with
    | true =>
      rw [show askR zs js turn = 0 from by simp [askR, hv, ht]]
      have tb := turnOk_out ht
      obtain ⟨Z, hZ⟩ : ∃ Z, Z = spanL zs := ⟨_, rfl⟩
      rw [← hZ] at HS sb tb
      have HI := hid (fun w => inr_yes turn 0 (Z - 1) w (by omega))
      clear hM hn hm hb hv ht hZ
      go_enter Try.func15, Try.ntmps15
      go_wp2_with fail
      refine HV.out.mono ?_
      rintro e w1 ⟨rfl, hB⟩
      have hz := hB.size
      go_wp2_with fail
      refine (HS.out w1 (M0.out.keep hB)).mono ?_
      rintro e w2 ⟨rfl, hB2⟩
      go_wp2_with fail
      refine (HI.out _).mono ?_
      rintro e w' ⟨rfl, rfl⟩
      go_wp2_with fail
      go_ret
      exact ⟨rfl, hB.trans (hB2.mono hz)⟩
    | false =>
      rw [show askR zs js turn = 2 from by simp [askR, hv, ht]]
      have tb := turnOk_no ht
      obtain ⟨Z, hZ⟩ : ∃ Z, Z = spanL zs := ⟨_, rfl⟩
      rw [← hZ] at HS sb tb
      have HI := hid (fun w => inr_no turn 0 (Z - 1) w (by omega))
      clear hM hn hm hb hv ht hZ tb
      go_enter Try.func15, Try.ntmps15
      go_wp2_with fail
      refine HV.out.mono ?_
      rintro e w1 ⟨rfl, hB⟩
      have hz := hB.size
      go_wp2_with fail
      refine (HS.out w1 (M0.out.keep hB)).mono ?_
      rintro e w2 ⟨rfl, hB2⟩
      go_wp2_with fail
      refine (HI.out _).mono ?_
      rintro e w' ⟨rfl, rfl⟩
      go_wp2_with fail
      go_ret
      exact ⟨rfl, hB.trans (hB2.mono hz)⟩
end Go.Proofs.Ytomhmkdfhhmenaa
