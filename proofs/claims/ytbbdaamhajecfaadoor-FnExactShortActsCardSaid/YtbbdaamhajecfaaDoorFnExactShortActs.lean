/- The law FnExactShortActs holds for every input: the call returns true and each argument reads behind it as it did before. No condition. This text is the frame; the walk lies in YtbbdaamhajecfaaDoorLawsSHO. -/
import Derived.Test.YtbbdaamhajecfaaDoorCards
import Derived.Test.YtbbdaamhajecfaaDoorTie
import Derived.SevenTiedAt
import Derived.ChangeSame
import Derived.ChangeVars
import Derived.LaidLaws
import Derived.LaidHandle
import Derived.Stop.Joined
import Derived.LaidMore
import Derived.Lay
import Derived.Lib.LaidTab
import Derived.Stop.LaidErr
import Derived.RowKitTokens
import Derived.Test.YtbbdaamhajecfaaDoorLd4
import Derived.Test.YtbbdaamhajecfaaDoorHead
import Derived.Test.YtbbdaamhajecfaaDoorLawsSHO
namespace Go.Proofs.YtbbdaamhajecfaaDoor.frameFnExactShortActs
open Go.ChangeShapes Go.WideShapes Go.ChangeAt Go.RowKit
set_option linter.unusedVariables false
theorem fact0 : (fun (P : Program) (f : FuncId) (fn : Func) (s : ChangeSpec) (c : OpenClaim) => (c.wf (OpenSpec.ofChange s) : Bool)) Tryd.prog 3 Tryd.f3 Rows.fnExactShortActsSpec Rows.fnExactShortActsRow = true := by kernel_rfl
theorem fact3 : (fun (P : Program) (f : FuncId) (fn : Func) (s : ChangeSpec) (c : OpenClaim) => (fn.params.all (P.readableRec ·) : Bool)) Tryd.prog 3 Tryd.f3 Rows.fnExactShortActsSpec Rows.fnExactShortActsRow = true := by kernel_rfl
theorem fact4 : (fun (P : Program) (f : FuncId) (fn : Func) (s : ChangeSpec) (c : OpenClaim) => (namedTie P c.named s.vars : Bool)) Tryd.prog 3 Tryd.f3 Rows.fnExactShortActsSpec Rows.fnExactShortActsRow = true := by kernel_rfl
theorem fact5 : (fun (P : Program) (f : FuncId) (fn : Func) (s : ChangeSpec) (c : OpenClaim) => ((c.stops == []) : Bool)) Tryd.prog 3 Tryd.f3 Rows.fnExactShortActsSpec Rows.fnExactShortActsRow = true := by kernel_rfl
theorem fact6 : (fun (P : Program) (f : FuncId) (fn : Func) (s : ChangeSpec) (c : OpenClaim) => ((P.stops == []) : Bool)) Tryd.prog 3 Tryd.f3 Rows.fnExactShortActsSpec Rows.fnExactShortActsRow = true := by kernel_rfl
theorem fact7 : (fun (P : Program) (f : FuncId) (fn : Func) (s : ChangeSpec) (c : OpenClaim) => ((c.knobs == []) : Bool)) Tryd.prog 3 Tryd.f3 Rows.fnExactShortActsSpec Rows.fnExactShortActsRow = true := by kernel_rfl
theorem fact8 : (fun (P : Program) (f : FuncId) (fn : Func) (s : ChangeSpec) (c : OpenClaim) => ((P.stopKnobs == []) : Bool)) Tryd.prog 3 Tryd.f3 Rows.fnExactShortActsSpec Rows.fnExactShortActsRow = true := by kernel_rfl
theorem fact9 : (fun (P : Program) (f : FuncId) (fn : Func) (s : ChangeSpec) (c : OpenClaim) => ((c.inPlace == P.inPlace f) : Bool)) Tryd.prog 3 Tryd.f3 Rows.fnExactShortActsSpec Rows.fnExactShortActsRow = true := by kernel_rfl
theorem fact10 : (fun (P : Program) (f : FuncId) (fn : Func) (s : ChangeSpec) (c : OpenClaim) => ((c.unfollowed == P.unfollowed f) : Bool)) Tryd.prog 3 Tryd.f3 Rows.fnExactShortActsSpec Rows.fnExactShortActsRow = true := by kernel_rfl
theorem fact11 : (fun (P : Program) (f : FuncId) (fn : Func) (s : ChangeSpec) (c : OpenClaim) => ((c.recurses == P.recurses f) : Bool)) Tryd.prog 3 Tryd.f3 Rows.fnExactShortActsSpec Rows.fnExactShortActsRow = true := by kernel_rfl
theorem fact12 : (fun (P : Program) (f : FuncId) (fn : Func) (s : ChangeSpec) (c : OpenClaim) => ((c.named == P.varsNamed f) : Bool)) Tryd.prog 3 Tryd.f3 Rows.fnExactShortActsSpec Rows.fnExactShortActsRow = true := by kernel_rfl
theorem fact13 : (fun (P : Program) (f : FuncId) (fn : Func) (s : ChangeSpec) (c : OpenClaim) => ((c.maps == (fn.params.toList ++ s.plain.varTypes P).any (P.mapsRec ·)) : Bool)) Tryd.prog 3 Tryd.f3 Rows.fnExactShortActsSpec Rows.fnExactShortActsRow = true := by kernel_rfl
theorem fact14 : (fun (P : Program) (f : FuncId) (fn : Func) (s : ChangeSpec) (c : OpenClaim) => ((c.ifaces == (fn.params.toList ++ s.plain.varTypes P).any (P.ifacesRec ·)) : Bool)) Tryd.prog 3 Tryd.f3 Rows.fnExactShortActsSpec Rows.fnExactShortActsRow = true := by kernel_rfl
theorem fact15 : (fun (P : Program) (f : FuncId) (fn : Func) (s : ChangeSpec) (c : OpenClaim) => ((c.mapsOut == P.mapsAmong fn.resultTypes.toList) : Bool)) Tryd.prog 3 Tryd.f3 Rows.fnExactShortActsSpec Rows.fnExactShortActsRow = true := by kernel_rfl
theorem fact16 : (fun (P : Program) (f : FuncId) (fn : Func) (s : ChangeSpec) (c : OpenClaim) => ((c.loops == (fn.params.toList ++ s.plain.varTypes P).any (P.loopsFrom ·)) : Bool)) Tryd.prog 3 Tryd.f3 Rows.fnExactShortActsSpec Rows.fnExactShortActsRow = true := by kernel_rfl
theorem fact17 : (fun (P : Program) (f : FuncId) (fn : Func) (s : ChangeSpec) (c : OpenClaim) => ((c.wideKeys == (fn.params.toList ++ s.plain.varTypes P ++ fn.resultTypes.toList).any (P.wideKeysFrom ·)) : Bool)) Tryd.prog 3 Tryd.f3 Rows.fnExactShortActsSpec Rows.fnExactShortActsRow = true := by kernel_rfl
theorem fact18 : (fun (P : Program) (f : FuncId) (fn : Func) (s : ChangeSpec) (c : OpenClaim) => (s.vars.all (P.varReadable ·) : Bool)) Tryd.prog 3 Tryd.f3 Rows.fnExactShortActsSpec Rows.fnExactShortActsRow = true := by kernel_rfl
theorem fact19 : (fun (P : Program) (f : FuncId) (fn : Func) (s : ChangeSpec) (c : OpenClaim) => (fn.resultTypes.all (fun t => P.readableRec t && decide (t < P.types.size)) : Bool)) Tryd.prog 3 Tryd.f3 Rows.fnExactShortActsSpec Rows.fnExactShortActsRow = true := by kernel_rfl
theorem fact20 : (fun (P : Program) (f : FuncId) (fn : Func) (s : ChangeSpec) (c : OpenClaim) => ((c.ifacesOut == fn.resultTypes.toList.any (P.ifacesRec ·)) : Bool)) Tryd.prog 3 Tryd.f3 Rows.fnExactShortActsSpec Rows.fnExactShortActsRow = true := by kernel_rfl
theorem fact21 : (fun (P : Program) (f : FuncId) (fn : Func) (s : ChangeSpec) (c : OpenClaim) => ((c.loopsOut == fn.resultTypes.toList.any (P.loopsFrom ·)) : Bool)) Tryd.prog 3 Tryd.f3 Rows.fnExactShortActsSpec Rows.fnExactShortActsRow = true := by kernel_rfl
theorem fact22 : (fun (P : Program) (f : FuncId) (fn : Func) (s : ChangeSpec) (c : OpenClaim) => ((c.plainKeys == P.plainKeys) : Bool)) Tryd.prog 3 Tryd.f3 Rows.fnExactShortActsSpec Rows.fnExactShortActsRow = true := by kernel_rfl
theorem fact23 : (fun (P : Program) (f : FuncId) (fn : Func) (s : ChangeSpec) (c : OpenClaim) => (c.shortTexts.isNone : Bool)) Tryd.prog 3 Tryd.f3 Rows.fnExactShortActsSpec Rows.fnExactShortActsRow = true := by kernel_rfl
theorem fact24 : (fun (P : Program) (f : FuncId) (fn : Func) (s : ChangeSpec) (c : OpenClaim) => (P.stopsHeard : Bool)) Tryd.prog 3 Tryd.f3 Rows.fnExactShortActsSpec Rows.fnExactShortActsRow = true := by kernel_rfl
theorem fact26 : (Rows.fnExactShortActsRow.lifted == Tryd.prog.liftsFinal) = true := by rw [lifts_ok]; rfl
theorem fact27 : (Tryd.prog.make == some Rows.fnExactShortActsRow.make) = true := by rw [make_cut]; rfl
theorem fact28 : (fun (P : Program) (f : FuncId) (fn : Func) (s : ChangeSpec) (c : OpenClaim) => ((c.kinds == (if c.domain.isEmpty then [] else fn.params.toList.map fun t => match P.underlying t with | some (.int k) => some k | _ => none)) : Bool)) Tryd.prog 3 Tryd.f3 Rows.fnExactShortActsSpec Rows.fnExactShortActsRow = true := by kernel_rfl
theorem fact29 : (fun (P : Program) (f : FuncId) (fn : Func) (s : ChangeSpec) (c : OpenClaim) => ((c.pinned == c.pinnedBy) : Bool)) Tryd.prog 3 Tryd.f3 Rows.fnExactShortActsSpec Rows.fnExactShortActsRow = true := by kernel_rfl
theorem fact30 : (fun (P : Program) (f : FuncId) (fn : Func) (s : ChangeSpec) (c : OpenClaim) => ((c.veiled == (fn.params.toList ++ s.plain.varTypes P ++ fn.resultTypes.toList).any (P.veiledRec ·)) : Bool)) Tryd.prog 3 Tryd.f3 Rows.fnExactShortActsSpec Rows.fnExactShortActsRow = true := by kernel_rfl
theorem fact31 : (fun (P : Program) (f : FuncId) (fn : Func) (s : ChangeSpec) (c : OpenClaim) => (c.veiledFits P fn.params.toList (fn.params.toList ++ s.plain.varTypes P ++ fn.resultTypes.toList) : Bool)) Tryd.prog 3 Tryd.f3 Rows.fnExactShortActsSpec Rows.fnExactShortActsRow = true := by kernel_rfl
set_option maxRecDepth 100000 in
theorem closed : joinedFacts Tryd.prog 3 Tryd.f3 Rows.fnExactShortActsSpec Rows.fnExactShortActsRow = true :=
  tt2 (tt2 (tt2 (tt2 (tt2 (tt2 (tt2 (tt2 (tt2 (tt2 (tt2 (tt2 (tt2 (tt2 (tt2 (tt2 (tt2 (tt2 (tt2 (tt2 (tt2 (tt2 (tt2 (tt2 (tt2 (tt2 (tt2 (tt2 (tt2 (tt2 (tt2 (fact0) laidOut) mapsRow) fact3) fact4) fact5) fact6) fact7) fact8) fact9) fact10) fact11) fact12) fact13) fact14) fact15) fact16) fact17) fact18) fact19) fact20) fact21) fact22) fact23) fact24) enter_ok) fact26) fact27) fact28) fact29) fact30) fact31
theorem params : Tryd.f3.params = #[22] := by kernel_rfl
theorem star_es : "*" ++ "errors.errorString" = "*errors.errorString" := by decide
theorem row_es (u : TypeId) (h : Tryd.prog.typeName? 3 u = some "*errors.errorString") : u = 77 :=
  typeName_ptr_named (nm := "errors.errorString") (by rw [star_es]; kernel_rfl) (by kernel_rfl) (by decide) u (by rw [star_es]; exact h)
theorem sent4 {W : World} (h : laidMetH Tryd.prog Rows.fnExactShortActsRow.laid W) : ∃ a0 a1 a2 a3 : Addr, W.var? Tryd.prog "loop.example/g01278/impl.errInvalid" = some #[.iface 77 (.pointer (some a0))] ∧ W.var? Tryd.prog "loop.example/g01278/impl.errLimit" = some #[.iface 77 (.pointer (some a1))] ∧ W.var? Tryd.prog "loop.example/g01278/impl.errRange" = some #[.iface 77 (.pointer (some a2))] ∧ W.var? Tryd.prog "loop.example/g01278/impl.errState" = some #[.iface 77 (.pointer (some a3))] ∧ SN W a0 a1 a2 a3 := by
  rw [MakeChecks.laidMetH_plain _ _ _ (by kernel_rfl)] at h
  obtain ⟨a0, a1, a2, a3, s0, s1, s2, s3, c0, c1, c2, c3, t0, t1, t2, t3, v0, v1, v2, v3, e0, e1, e2, e3, n01, n02, n03, n12, n13, n23, b0, b1, b2, b3⟩ := laid_sentinels4 (ti := 38) (tp := 77) (te := 104) (ts := 9) (h : laidMet Tryd.prog (("loop.example/g01278/impl.errInvalid", _) :: ("loop.example/g01278/impl.errLimit", _) :: ("loop.example/g01278/impl.errRange", _) :: ("loop.example/g01278/impl.errState", _) :: []) W) (show Tryd.prog.globalNamed "loop.example/g01278/impl.errInvalid" = some 0 by kernel_rfl) (by kernel_rfl) (show Tryd.prog.globalNamed "loop.example/g01278/impl.errLimit" = some 1 by kernel_rfl) (by kernel_rfl) (show Tryd.prog.globalNamed "loop.example/g01278/impl.errRange" = some 2 by kernel_rfl) (by kernel_rfl) (show Tryd.prog.globalNamed "loop.example/g01278/impl.errState" = some 3 by kernel_rfl) (by kernel_rfl) Tryd.underlying38 row_es Tryd.underlying77 Tryd.underlying104 rfl rfl Tryd.underlying9 (by kernel_rfl) (by kernel_rfl)
  exact ⟨a0, a1, a2, a3, v0, v1, v2, v3, trivial, ⟨by simpa [ES] using World.var?_cell (show Tryd.prog.globalNamed "loop.example/g01278/impl.errInvalid" = some 0 by kernel_rfl) v0 0, by simpa [ES] using World.var?_cell (show Tryd.prog.globalNamed "loop.example/g01278/impl.errLimit" = some 1 by kernel_rfl) v1 0, by simpa [ES] using World.var?_cell (show Tryd.prog.globalNamed "loop.example/g01278/impl.errRange" = some 2 by kernel_rfl) v2 0, by simpa [ES] using World.var?_cell (show Tryd.prog.globalNamed "loop.example/g01278/impl.errState" = some 3 by kernel_rfl) v3 0⟩, ⟨n01, n02, n03, n12, n13, n23⟩, ⟨⟨c0, t0, b0⟩, ⟨c1, t1, b1⟩, ⟨c2, t2, b2⟩, ⟨c3, t3, b3⟩⟩⟩
theorem lt_of_cell {w : World} {a : Addr} {v : Value} (h : w.cell? a = some v) : a.block < w.heap.size := by
  unfold World.cell? at h
  by_cases k : a.block < w.heap.size
  · exact k
  · simp [Array.getElem?_eq_none (by omega : w.heap.size ≤ a.block)] at h
theorem vars_nil {H : Type} (enc : TypeId × Value → H) (W : World) (sp : Nat → Bool) : DataW.TrodVars enc Tryd.prog W sp [] [] [] := rfl
theorem vars_cons {H : Type} (enc : TypeId × Value → H) {W : World} {n : String} {g : Nat} {x : Value} {ns : List String} {ds : List (DataW H)} {q : List MemPlace} {sp : Nat → Bool} (hg : Tryd.prog.globalNamed n = some g) (ht : (Tryd.prog.globals[g]?).map (·.type) = some 38) (h : W.var? Tryd.prog n = some #[x]) (ix : IsIface x) (hr : DataW.TrodVars enc Tryd.prog W sp ns ds q) :
    DataW.TrodVars enc Tryd.prog W sp (n :: ns) (tok enc x :: ds) (.cell g 0 :: q) :=
  ⟨g, 38, #[x], 1, [], q, hg, ht, h, trod_held Tryd.underlying38 ix 0, hr, rfl⟩
set_option maxRecDepth 100000 in
theorem lifted (os : Os) (started : os.Started) (H : Type) (enc : TypeId × Value → H) :
    ReturnsInHanded {} Tryd.checked os 3 .any (fun w args => (Rows.fnExactShortActsSpec.pre enc Tryd.prog Tryd.f3 [] false w args ∧ laidMetH Tryd.prog Rows.fnExactShortActsRow.laid w) ∧ sizedMet enc Tryd.prog Tryd.f3 (OpenSpec.ofChange Rows.fnExactShortActsSpec) false w args) (Rows.fnExactShortActsSpec.post enc Tryd.prog Tryd.f3 false true false false) := by
  refine returnsInHanded_of_change_and (C := Tryd.checked) (X := fun w _ => laidMetH Tryd.prog Rows.fnExactShortActsRow.laid w) (fun _ _ _ hh h => h.of_heap hh) own started (by kernel_rfl) Tryd.func3
    (ChangeSpec.witness_shaped (enc := enc) (C := Tryd.checked) (os := os) (X := fun w _ => laidMetH Tryd.prog Rows.fnExactShortActsRow.laid w) false (World.laidAll Tryd.prog os Rows.fnExactShortActsRow.laid) #[.slice none 0 0] 8 (World.laidAll_os _ _ _)
      (World.shaped_of_ZipB (by kernel_rfl) (by kernel_rfl)) (by kernel_rfl) (by kernel_rfl) (by kernel_rfl)
      (by rw [MakeChecks.laidMetH_plain _ _ _ (by kernel_rfl)]; exact laidMet_laidAll _ (by kernel_rfl) (by kernel_rfl))) ?_
  intro W base args ds gs before hval0 hW _ _ hLL _
  have hval : ∀ (j : Nat) t v, Tryd.f3.params[j]? = some t → args[j]? = some v → Value.okWide Tryd.prog W .any base t v := hval0
  have hW' := hW
  obtain ⟨p, q, hA0, hV, rfl, hfz, hnd⟩ := hW
  have hA : DataW.TrodAll enc Tryd.prog W 0 (fun _ => true) true Tryd.f3.params.toList args.toList ds p := hA0
  rw [params] at hA hval
  obtain ⟨v0, vs0, d0, ds0, p0, q0, hargs, rfl, rfl, h0, r0⟩ := trodAll_cons hA
  obtain ⟨rfl, rfl, rfl⟩ := trodAll_nil r0
  obtain rfl : args = #[v0] := by cases args; simp_all
  obtain ⟨a_errInvalid, a_errLimit, a_errRange, a_errState, hv_errInvalid, hv_errLimit, hv_errRange, hv_errState, hSN⟩ := sent4 hLL
  obtain ⟨hs_errInvalid, hs_errLimit, hs_errRange, hs_errState⟩ := hSN.2.1
  have VR : ∀ (W' : World), Below W.heap.size W W' → ∀ sp : Nat → Bool, DataW.TrodVars enc Tryd.prog W' sp _ _ _ := fun W' bel sp => vars_cons enc (show Tryd.prog.globalNamed "loop.example/g01278/impl.errInvalid" = some 0 by kernel_rfl) (by kernel_rfl) (var?_below bel (show Tryd.prog.globalNamed "loop.example/g01278/impl.errInvalid" = some 0 by kernel_rfl) (lt_of_cell hs_errInvalid) hv_errInvalid) trivial (vars_cons enc (show Tryd.prog.globalNamed "loop.example/g01278/impl.errLimit" = some 1 by kernel_rfl) (by kernel_rfl) (var?_below bel (show Tryd.prog.globalNamed "loop.example/g01278/impl.errLimit" = some 1 by kernel_rfl) (lt_of_cell hs_errLimit) hv_errLimit) trivial (vars_cons enc (show Tryd.prog.globalNamed "loop.example/g01278/impl.errRange" = some 2 by kernel_rfl) (by kernel_rfl) (var?_below bel (show Tryd.prog.globalNamed "loop.example/g01278/impl.errRange" = some 2 by kernel_rfl) (lt_of_cell hs_errRange) hv_errRange) trivial (vars_cons enc (show Tryd.prog.globalNamed "loop.example/g01278/impl.errState" = some 3 by kernel_rfl) (by kernel_rfl) (var?_below bel (show Tryd.prog.globalNamed "loop.example/g01278/impl.errState" = some 3 by kernel_rfl) (lt_of_cell hs_errState) hv_errState) trivial (vars_nil enc W' sp))))
  obtain ⟨rfl, rfl⟩ := DataW.TrodVars.unique hV (VR W (Below.refl _ _) _)
  obtain ⟨a0, len0, cap0, rfl⟩ := okWide_slice Tryd.underlying22 (hval 0 22 v0 rfl rfl)
  have k0 := h0
  have lt0 : ∀ x ∈ p0, x.block < W.heap.size := by obtain ⟨m, hm⟩ := k0; exact DataW.trod_lt m _ _ _ hm
  obtain ⟨z0, l0w, w0⟩ := open_acts Tryd.underlying22 Tryd.underlying36 (by kernel_rfl) (by kernel_rfl) (by kernel_rfl) (by kernel_rfl) h0
  clear hA0 hval0
  refine (law_FnExactShortActs a0 len0 cap0 z0 W l0w w0 _ _ _ _ hSN).mono fun e W' ⟨he, bel⟩ => ?_
  subst he
  exact ⟨_, rfl, _, _, _, [], _, _, hW', trodAll_mk1 (shut_bool Tryd.underlying4 _), (trodAll_cons_mk (Below.trod laidOut (by kernel_rfl) (of_decide_eq_true (by kernel_rfl)) k0 bel lt0) trodAll_mk0), VR W' bel _, bel.frame _, fun h => by cases h⟩
theorem over : Rows.fnExactShortActsRow.holds Tryd.pinned (OpenSpec.ofChange Rows.fnExactShortActsSpec) :=
  OpenClaim.holds_of_wide 3 Tryd.f3 rfl rfl rfl rfl rfl rfl rfl ⟨rfl, rfl, rfl, rfl, rfl⟩ rfl rfl rfl rfl rfl (by kernel_rfl) Tryd.func3 closed
    (of_decide_eq_true (by kernel_rfl)) (by unfold Func.isWrapper; rw [if_neg (by decide +kernel)]; exact ⟨rfl, rfl⟩)
    (fun os started H enc _ => lifted os started H enc)

theorem proved : Rows.FnExactShortActsCardSaid :=
  Claim7.holds_tied_plain_at .later [] [.sentinel, .sentinel, .sentinel, .sentinel] true (true, "8cca23c5c9a21566dd76dadb0db0f2684ee7910abae164682d02edfbe1418493") true
    over (fun _ h => by cases h) (by kernel_rfl) (fun _ h => by cases h) fnExactShortActs_row_tie rfl ⟨rfl, rfl⟩ (by kernel_rfl) rfl
    (fun f fn hf hfn => by
      obtain rfl : f = 3 := Option.some.inj ((show Tryd.prog.funcNamed "loop.example/g01278/laws.FnExactShortActs" = some 3 by kernel_rfl).symm.trans hf) |>.symm
      obtain rfl : fn = Tryd.f3 := (Option.some.inj (Tryd.func3.symm.trans hfn)).symm
      exact ⟨by kernel_rfl, fun j t ht => by
        rw [params] at ht
        have h3 : t ∈ [22] := by
          have := Array.mem_of_getElem? ht
          simpa using this
        have hall : ([22].all fun t => !Tryd.prog.wantsStandIn t) = true := by kernel_rfl
        have := List.all_eq_true.1 hall t h3
        exact (show Tryd.prog.wantsStandIn t = false by simpa using this)⟩)
    (by kernel_rfl)
#print axioms proved
end Go.Proofs.YtbbdaamhajecfaaDoor.frameFnExactShortActs
