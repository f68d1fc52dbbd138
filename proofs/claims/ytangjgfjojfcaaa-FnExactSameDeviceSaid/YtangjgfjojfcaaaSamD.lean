/- SameDevice: the program's and the model's answers. -/
import Derived.Test.YtangjgfjojfcaaaDev
import Derived.Test.YtangjgfjojfcaaaSame
import Derived.Test.YtangjgfjojfcaaaDigEq
namespace Go.Proofs.Ytangjgfjojfcaaa
open Go.RowKit
def samDev (zs ys ds es : List Int) (pr pr2 : Int) (st st2 : Bool) (tk tk2 : Int) : Bool := sameL zs ys && (sameQ ds es && ((pr == pr2) && ((st == st2) && (tk == tk2))))
set_option maxRecDepth 100000 in
set_option maxHeartbeats 4000000 in
theorem specSameDevice_any (b1 b2 n1 n2 c1 c2 : Nat) (zs ys : List Int) (d0 d1 d2 d3 d4 d5 d6 d7 : Int) (pr : Int) (st : Bool) (tk : Int) (e0 e1 e2 e3 e4 e5 e6 e7 : Int) (pr2 : Int) (st2 : Bool) (tk2 : Int) (w : World) (h1 : Stk w b1 zs) (h2 : Stk w b2 ys) (hn1 : n1 = zs.length) (hn2 : n2 = ys.length) :
    Calls Try.prog 16 #[.agg #[.slice (some ⟨b1, 0, none⟩) n1 c1, .int .u8 d0, .int .u8 d1, .int .u8 d2, .int .u8 d3, .int .u8 d4, .int .u8 d5, .int .u8 d6, .int .u8 d7, .int .i64 pr, .bool st, .int .i64 tk], .agg #[.slice (some ⟨b2, 0, none⟩) n2 c2, .int .u8 e0, .int .u8 e1, .int .u8 e2, .int .u8 e3, .int .u8 e4, .int .u8 e5, .int .u8 e6, .int .u8 e7, .int .i64 pr2, .bool st2, .int .i64 tk2]] w fun e w' => e = .returned (.bool (samDev zs ys [d0, d1, d2, d3, d4, d5, d6, d7] [e0, e1, e2, e3, e4, e5, e6, e7] pr pr2 st st2 tk tk2)) ∧ Below w.heap.size w w' := by
  obtain ⟨W, hW⟩ : ∃ W, W = (w.alloc (.cells #[.slice (some ⟨b1, 0, none⟩) n1 c1, .int .u8 d0, .int .u8 d1, .int .u8 d2, .int .u8 d3, .int .u8 d4, .int .u8 d5, .int .u8 d6, .int .u8 d7, .int .i64 pr, .bool st, .int .i64 tk] 31)).alloc (.cells #[.slice (some ⟨b2, 0, none⟩) n2 c2, .int .u8 e0, .int .u8 e1, .int .u8 e2, .int .u8 e3, .int .u8 e4, .int .u8 e5, .int .u8 e6, .int .u8 e7, .int .i64 pr2, .bool st2, .int .i64 tk2] 31) := ⟨_, rfl⟩
  have bel : Below w.heap.size w W := by rw [hW]; exact (boxD_bel w _ _).alloc (by simp) _
  have r1 : Row W w.heap.size 31 [.slice (some ⟨b1, 0, none⟩) n1 c1, .int .u8 d0, .int .u8 d1, .int .u8 d2, .int .u8 d3, .int .u8 d4, .int .u8 d5, .int .u8 d6, .int .u8 d7, .int .i64 pr, .bool st, .int .i64 tk] := by rw [hW]; exact (Row.new w _ _).alloc _
  have r2 : Row W (w.heap.size + 1) 31 [.slice (some ⟨b2, 0, none⟩) n2 c2, .int .u8 e0, .int .u8 e1, .int .u8 e2, .int .u8 e3, .int .u8 e4, .int .u8 e5, .int .u8 e6, .int .u8 e7, .int .i64 pr2, .bool st2, .int .i64 tk2] := by
    have h := Row.new (w.alloc (.cells #[.slice (some ⟨b1, 0, none⟩) n1 c1, .int .u8 d0, .int .u8 d1, .int .u8 d2, .int .u8 d3, .int .u8 d4, .int .u8 d5, .int .u8 d6, .int .u8 d7, .int .i64 pr, .bool st, .int .i64 tk] 31)) 31 [.slice (some ⟨b2, 0, none⟩) n2 c2, .int .u8 e0, .int .u8 e1, .int .u8 e2, .int .u8 e3, .int .u8 e4, .int .u8 e5, .int .u8 e6, .int .u8 e7, .int .i64 pr2, .bool st2, .int .i64 tk2]
    simp only [World.size_alloc] at h
    rw [hW]; exact h
  have R1 := hid r1
  have R2 := hid r2
  have HE := hid (l01Same_any b1 b2 n1 n2 c1 c2 zs ys _ (h1.below bel h1.1) (h2.below bel h2.1) hn1 hn2)
  have l1 := r1.lt
  have l2 := r2.lt
  have BE := hid bel
  have HW := hid hW
  have HEQ := fun w => eqlIn_digQ 9998 d0 d1 d2 d3 d4 d5 d6 d7 e0 e1 e2 e3 e4 e5 e6 e7 w
  have HEB : ∀ w, (binOp .eql 29 (.agg #[.int .u8 d0, .int .u8 d1, .int .u8 d2, .int .u8 d3, .int .u8 d4, .int .u8 d5, .int .u8 d6, .int .u8 d7]) (.agg #[.int .u8 e0, .int .u8 e1, .int .u8 e2, .int .u8 e3, .int .u8 e4, .int .u8 e5, .int .u8 e6, .int .u8 e7])).run Try.prog w = .ok (.bool (sameQ [d0, d1, d2, d3, d4, d5, d6, d7] [e0, e1, e2, e3, e4, e5, e6, e7])) w := fun w => by
    rw [run_eql_struct, show (10000 : Nat) = 9998 + 2 from rfl, HEQ]; rfl
  simp only [show (9998 : Nat) + 2 = 10000 from rfl] at HEQ
  unfold samDev
  cases hE : sameL zs ys with
  | false =>
    rw [hE] at HE
    rw [Bool.false_and]
    clear hE HEQ HEB h1 h2 hn1 hn2 r1 r2 bel hW
    go_enter Try.func16, Try.ntmps16
    go_wp2_with fail
    rw [← HW.out]
    refine HE.out.mono ?_
    rintro e w1 ⟨rfl, hB1⟩
    go_wp2_with fail
    go_ret
    exact ⟨rfl, BE.out.trans (hB1.mono BE.out.size)⟩
  | true =>
    rw [hE] at HE
    rw [Bool.true_and]
    obtain ⟨q, hq⟩ : ∃ q, sameQ [d0, d1, d2, d3, d4, d5, d6, d7] [e0, e1, e2, e3, e4, e5, e6, e7] = q := ⟨_, rfl⟩
    rw [hq] at HEQ HEB ⊢
    clear hE h1 h2 hn1 hn2 r1 r2 bel hW hq
    cases q
    · rw [Bool.false_and]
      skip
      go_enter Try.func16, Try.ntmps16
      go_wp2_with fail
      rw [← HW.out]
      refine HE.out.mono ?_
      rintro e w1 ⟨rfl, hB1⟩
      have s1 := R1.out.below hB1 l1
      have s2 := R2.out.below hB1 l2
      have p1 := s1.cell 1; have p2 := s1.cell 2; have p3 := s1.cell 3; have p4 := s1.cell 4; have p5 := s1.cell 5; have p6 := s1.cell 6; have p7 := s1.cell 7; have p8 := s1.cell 8; have p9 := s1.cell 9; have p10 := s1.cell 10; have p11 := s1.cell 11; have q1 := s2.cell 1; have q2 := s2.cell 2; have q3 := s2.cell 3; have q4 := s2.cell 4; have q5 := s2.cell 5; have q6 := s2.cell 6; have q7 := s2.cell 7; have q8 := s2.cell 8; have q9 := s2.cell 9; have q10 := s2.cell 10; have q11 := s2.cell 11
      simp only [List.getElem?_cons_zero, List.getElem?_cons_succ] at p1 p2 p3 p4 p5 p6 p7 p8 p9 p10 p11 q1 q2 q3 q4 q5 q6 q7 q8 q9 q10 q11
      clear s1 s2
      go_wp2_with fail
      go_ret
      exact ⟨rfl, BE.out.trans (hB1.mono BE.out.size)⟩
    · rw [Bool.true_and]
      by_cases k1 : pr = pr2
      · have e1 : (pr == pr2) = true := by simp [k1]
        rw [e1, Bool.true_and]
        by_cases k2 : st = st2
        · have e2 : (st == st2) = true := by simp [k2]
          rw [e2, Bool.true_and]
          clear k1 k2
          skip
          go_enter Try.func16, Try.ntmps16
          go_wp2_with fail
          rw [← HW.out]
          refine HE.out.mono ?_
          rintro e w1 ⟨rfl, hB1⟩
          have s1 := R1.out.below hB1 l1
          have s2 := R2.out.below hB1 l2
          have p1 := s1.cell 1; have p2 := s1.cell 2; have p3 := s1.cell 3; have p4 := s1.cell 4; have p5 := s1.cell 5; have p6 := s1.cell 6; have p7 := s1.cell 7; have p8 := s1.cell 8; have p9 := s1.cell 9; have p10 := s1.cell 10; have p11 := s1.cell 11; have q1 := s2.cell 1; have q2 := s2.cell 2; have q3 := s2.cell 3; have q4 := s2.cell 4; have q5 := s2.cell 5; have q6 := s2.cell 6; have q7 := s2.cell 7; have q8 := s2.cell 8; have q9 := s2.cell 9; have q10 := s2.cell 10; have q11 := s2.cell 11
          simp only [List.getElem?_cons_zero, List.getElem?_cons_succ] at p1 p2 p3 p4 p5 p6 p7 p8 p9 p10 p11 q1 q2 q3 q4 q5 q6 q7 q8 q9 q10 q11
          clear s1 s2
          go_wp2_with fail
          go_ret
          exact ⟨rfl, BE.out.trans (hB1.mono BE.out.size)⟩
        · have e2 : (st == st2) = false := by simp [k2]
          rw [e2, Bool.false_and]
          clear k1 k2
          skip
          go_enter Try.func16, Try.ntmps16
          go_wp2_with fail
          rw [← HW.out]
          refine HE.out.mono ?_
          rintro e w1 ⟨rfl, hB1⟩
          have s1 := R1.out.below hB1 l1
          have s2 := R2.out.below hB1 l2
          have p1 := s1.cell 1; have p2 := s1.cell 2; have p3 := s1.cell 3; have p4 := s1.cell 4; have p5 := s1.cell 5; have p6 := s1.cell 6; have p7 := s1.cell 7; have p8 := s1.cell 8; have p9 := s1.cell 9; have p10 := s1.cell 10; have p11 := s1.cell 11; have q1 := s2.cell 1; have q2 := s2.cell 2; have q3 := s2.cell 3; have q4 := s2.cell 4; have q5 := s2.cell 5; have q6 := s2.cell 6; have q7 := s2.cell 7; have q8 := s2.cell 8; have q9 := s2.cell 9; have q10 := s2.cell 10; have q11 := s2.cell 11
          simp only [List.getElem?_cons_zero, List.getElem?_cons_succ] at p1 p2 p3 p4 p5 p6 p7 p8 p9 p10 p11 q1 q2 q3 q4 q5 q6 q7 q8 q9 q10 q11
          clear s1 s2
          go_wp2_with fail
          go_ret
          exact ⟨rfl, BE.out.trans (hB1.mono BE.out.size)⟩
      · have e1 : (pr == pr2) = false := by simp [k1]
        rw [e1, Bool.false_and]
        clear k1
        skip
        go_enter Try.func16, Try.ntmps16
        go_wp2_with fail
        rw [← HW.out]
        refine HE.out.mono ?_
        rintro e w1 ⟨rfl, hB1⟩
        have s1 := R1.out.below hB1 l1
        have s2 := R2.out.below hB1 l2
        have p1 := s1.cell 1; have p2 := s1.cell 2; have p3 := s1.cell 3; have p4 := s1.cell 4; have p5 := s1.cell 5; have p6 := s1.cell 6; have p7 := s1.cell 7; have p8 := s1.cell 8; have p9 := s1.cell 9; have p10 := s1.cell 10; have p11 := s1.cell 11; have q1 := s2.cell 1; have q2 := s2.cell 2; have q3 := s2.cell 3; have q4 := s2.cell 4; have q5 := s2.cell 5; have q6 := s2.cell 6; have q7 := s2.cell 7; have q8 := s2.cell 8; have q9 := s2.cell 9; have q10 := s2.cell 10; have q11 := s2.cell 11
        simp only [List.getElem?_cons_zero, List.getElem?_cons_succ] at p1 p2 p3 p4 p5 p6 p7 p8 p9 p10 p11 q1 q2 q3 q4 q5 q6 q7 q8 q9 q10 q11
        clear s1 s2
        go_wp2_with fail
        go_ret
        exact ⟨rfl, BE.out.trans (hB1.mono BE.out.size)⟩
set_option maxRecDepth 100000 in
set_option maxHeartbeats 4000000 in
theorem implSameDevice_any (b1 b2 n1 n2 c1 c2 : Nat) (zs ys : List Int) (d0 d1 d2 d3 d4 d5 d6 d7 : Int) (pr : Int) (st : Bool) (tk : Int) (e0 e1 e2 e3 e4 e5 e6 e7 : Int) (pr2 : Int) (st2 : Bool) (tk2 : Int) (w : World) (h1 : Stk w b1 zs) (h2 : Stk w b2 ys) (hn1 : n1 = zs.length) (hn2 : n2 = ys.length) :
    Calls Try.prog 17 #[.agg #[.slice (some ⟨b1, 0, none⟩) n1 c1, .int .u8 d0, .int .u8 d1, .int .u8 d2, .int .u8 d3, .int .u8 d4, .int .u8 d5, .int .u8 d6, .int .u8 d7, .int .i64 pr, .bool st, .int .i64 tk], .agg #[.slice (some ⟨b2, 0, none⟩) n2 c2, .int .u8 e0, .int .u8 e1, .int .u8 e2, .int .u8 e3, .int .u8 e4, .int .u8 e5, .int .u8 e6, .int .u8 e7, .int .i64 pr2, .bool st2, .int .i64 tk2]] w fun e w' => e = .returned (.bool (samDev zs ys [d0, d1, d2, d3, d4, d5, d6, d7] [e0, e1, e2, e3, e4, e5, e6, e7] pr pr2 st st2 tk tk2)) ∧ Below w.heap.size w w' := by
  obtain ⟨W, hW⟩ : ∃ W, W = (w.alloc (.cells #[.slice (some ⟨b1, 0, none⟩) n1 c1, .int .u8 d0, .int .u8 d1, .int .u8 d2, .int .u8 d3, .int .u8 d4, .int .u8 d5, .int .u8 d6, .int .u8 d7, .int .i64 pr, .bool st, .int .i64 tk] 31)).alloc (.cells #[.slice (some ⟨b2, 0, none⟩) n2 c2, .int .u8 e0, .int .u8 e1, .int .u8 e2, .int .u8 e3, .int .u8 e4, .int .u8 e5, .int .u8 e6, .int .u8 e7, .int .i64 pr2, .bool st2, .int .i64 tk2] 31) := ⟨_, rfl⟩
  have bel : Below w.heap.size w W := by rw [hW]; exact (boxD_bel w _ _).alloc (by simp) _
  have r1 : Row W w.heap.size 31 [.slice (some ⟨b1, 0, none⟩) n1 c1, .int .u8 d0, .int .u8 d1, .int .u8 d2, .int .u8 d3, .int .u8 d4, .int .u8 d5, .int .u8 d6, .int .u8 d7, .int .i64 pr, .bool st, .int .i64 tk] := by rw [hW]; exact (Row.new w _ _).alloc _
  have r2 : Row W (w.heap.size + 1) 31 [.slice (some ⟨b2, 0, none⟩) n2 c2, .int .u8 e0, .int .u8 e1, .int .u8 e2, .int .u8 e3, .int .u8 e4, .int .u8 e5, .int .u8 e6, .int .u8 e7, .int .i64 pr2, .bool st2, .int .i64 tk2] := by
    have h := Row.new (w.alloc (.cells #[.slice (some ⟨b1, 0, none⟩) n1 c1, .int .u8 d0, .int .u8 d1, .int .u8 d2, .int .u8 d3, .int .u8 d4, .int .u8 d5, .int .u8 d6, .int .u8 d7, .int .i64 pr, .bool st, .int .i64 tk] 31)) 31 [.slice (some ⟨b2, 0, none⟩) n2 c2, .int .u8 e0, .int .u8 e1, .int .u8 e2, .int .u8 e3, .int .u8 e4, .int .u8 e5, .int .u8 e6, .int .u8 e7, .int .i64 pr2, .bool st2, .int .i64 tk2]
    simp only [World.size_alloc] at h
    rw [hW]; exact h
  have R1 := hid r1
  have R2 := hid r2
  have HE := hid (implSame_any b1 b2 n1 n2 c1 c2 zs ys _ (h1.below bel h1.1) (h2.below bel h2.1) hn1 hn2)
  have l1 := r1.lt
  have l2 := r2.lt
  have BE := hid bel
  have HW := hid hW
  have HEQ := fun w => eqlIn_digQ 9998 d0 d1 d2 d3 d4 d5 d6 d7 e0 e1 e2 e3 e4 e5 e6 e7 w
  have HEB : ∀ w, (binOp .eql 29 (.agg #[.int .u8 d0, .int .u8 d1, .int .u8 d2, .int .u8 d3, .int .u8 d4, .int .u8 d5, .int .u8 d6, .int .u8 d7]) (.agg #[.int .u8 e0, .int .u8 e1, .int .u8 e2, .int .u8 e3, .int .u8 e4, .int .u8 e5, .int .u8 e6, .int .u8 e7])).run Try.prog w = .ok (.bool (sameQ [d0, d1, d2, d3, d4, d5, d6, d7] [e0, e1, e2, e3, e4, e5, e6, e7])) w := fun w => by
    rw [run_eql_struct, show (10000 : Nat) = 9998 + 2 from rfl, HEQ]; rfl
  simp only [show (9998 : Nat) + 2 = 10000 from rfl] at HEQ
  unfold samDev
  cases hE : sameL zs ys with
  | false =>
    rw [hE] at HE
    rw [Bool.false_and]
    clear hE HEQ HEB h1 h2 hn1 hn2 r1 r2 bel hW
    go_enter Try.func17, Try.ntmps17
    go_wp2_with fail
    rw [← HW.out]
    refine HE.out.mono ?_
    rintro e w1 ⟨rfl, hB1⟩
    go_wp2_with fail
    go_ret
    exact ⟨rfl, BE.out.trans (hB1.mono BE.out.size)⟩
  | true =>
    rw [hE] at HE
    rw [Bool.true_and]
    obtain ⟨q, hq⟩ : ∃ q, sameQ [d0, d1, d2, d3, d4, d5, d6, d7] [e0, e1, e2, e3, e4, e5, e6, e7] = q := ⟨_, rfl⟩
    rw [hq] at HEQ HEB ⊢
    clear hE h1 h2 hn1 hn2 r1 r2 bel hW hq
    cases q
    · rw [Bool.false_and]
      skip
      go_enter Try.func17, Try.ntmps17
      go_wp2_with fail
      rw [← HW.out]
      refine HE.out.mono ?_
      rintro e w1 ⟨rfl, hB1⟩
      have s1 := R1.out.below hB1 l1
      have s2 := R2.out.below hB1 l2
      have p1 := s1.cell 1; have p2 := s1.cell 2; have p3 := s1.cell 3; have p4 := s1.cell 4; have p5 := s1.cell 5; have p6 := s1.cell 6; have p7 := s1.cell 7; have p8 := s1.cell 8; have p9 := s1.cell 9; have p10 := s1.cell 10; have p11 := s1.cell 11; have q1 := s2.cell 1; have q2 := s2.cell 2; have q3 := s2.cell 3; have q4 := s2.cell 4; have q5 := s2.cell 5; have q6 := s2.cell 6; have q7 := s2.cell 7; have q8 := s2.cell 8; have q9 := s2.cell 9; have q10 := s2.cell 10; have q11 := s2.cell 11
      simp only [List.getElem?_cons_zero, List.getElem?_cons_succ] at p1 p2 p3 p4 p5 p6 p7 p8 p9 p10 p11 q1 q2 q3 q4 q5 q6 q7 q8 q9 q10 q11
      clear s1 s2
      go_wp2_with fail
      go_ret
      exact ⟨rfl, BE.out.trans (hB1.mono BE.out.size)⟩
    · rw [Bool.true_and]
      by_cases k1 : pr = pr2
      · have e1 : (pr == pr2) = true := by simp [k1]
        rw [e1, Bool.true_and]
        by_cases k2 : st = st2
        · have e2 : (st == st2) = true := by simp [k2]
          rw [e2, Bool.true_and]
          clear k1 k2
          skip
          go_enter Try.func17, Try.ntmps17
          go_wp2_with fail
          rw [← HW.out]
          refine HE.out.mono ?_
          rintro e w1 ⟨rfl, hB1⟩
          have s1 := R1.out.below hB1 l1
          have s2 := R2.out.below hB1 l2
          have p1 := s1.cell 1; have p2 := s1.cell 2; have p3 := s1.cell 3; have p4 := s1.cell 4; have p5 := s1.cell 5; have p6 := s1.cell 6; have p7 := s1.cell 7; have p8 := s1.cell 8; have p9 := s1.cell 9; have p10 := s1.cell 10; have p11 := s1.cell 11; have q1 := s2.cell 1; have q2 := s2.cell 2; have q3 := s2.cell 3; have q4 := s2.cell 4; have q5 := s2.cell 5; have q6 := s2.cell 6; have q7 := s2.cell 7; have q8 := s2.cell 8; have q9 := s2.cell 9; have q10 := s2.cell 10; have q11 := s2.cell 11
          simp only [List.getElem?_cons_zero, List.getElem?_cons_succ] at p1 p2 p3 p4 p5 p6 p7 p8 p9 p10 p11 q1 q2 q3 q4 q5 q6 q7 q8 q9 q10 q11
          clear s1 s2
          go_wp2_with fail
          go_ret
          exact ⟨rfl, BE.out.trans (hB1.mono BE.out.size)⟩
        · have e2 : (st == st2) = false := by simp [k2]
          rw [e2, Bool.false_and]
          clear k1 k2
          skip
          go_enter Try.func17, Try.ntmps17
          go_wp2_with fail
          rw [← HW.out]
          refine HE.out.mono ?_
          rintro e w1 ⟨rfl, hB1⟩
          have s1 := R1.out.below hB1 l1
          have s2 := R2.out.below hB1 l2
          have p1 := s1.cell 1; have p2 := s1.cell 2; have p3 := s1.cell 3; have p4 := s1.cell 4; have p5 := s1.cell 5; have p6 := s1.cell 6; have p7 := s1.cell 7; have p8 := s1.cell 8; have p9 := s1.cell 9; have p10 := s1.cell 10; have p11 := s1.cell 11; have q1 := s2.cell 1; have q2 := s2.cell 2; have q3 := s2.cell 3; have q4 := s2.cell 4; have q5 := s2.cell 5; have q6 := s2.cell 6; have q7 := s2.cell 7; have q8 := s2.cell 8; have q9 := s2.cell 9; have q10 := s2.cell 10; have q11 := s2.cell 11
          simp only [List.getElem?_cons_zero, List.getElem?_cons_succ] at p1 p2 p3 p4 p5 p6 p7 p8 p9 p10 p11 q1 q2 q3 q4 q5 q6 q7 q8 q9 q10 q11
          clear s1 s2
          go_wp2_with fail
          go_ret
          exact ⟨rfl, BE.out.trans (hB1.mono BE.out.size)⟩
      · have e1 : (pr == pr2) = false := by simp [k1]
        rw [e1, Bool.false_and]
        clear k1
        skip
        go_enter Try.func17, Try.ntmps17
        go_wp2_with fail
        rw [← HW.out]
        refine HE.out.mono ?_
        rintro e w1 ⟨rfl, hB1⟩
        have s1 := R1.out.below hB1 l1
        have s2 := R2.out.below hB1 l2
        have p1 := s1.cell 1; have p2 := s1.cell 2; have p3 := s1.cell 3; have p4 := s1.cell 4; have p5 := s1.cell 5; have p6 := s1.cell 6; have p7 := s1.cell 7; have p8 := s1.cell 8; have p9 := s1.cell 9; have p10 := s1.cell 10; have p11 := s1.cell 11; have q1 := s2.cell 1; have q2 := s2.cell 2; have q3 := s2.cell 3; have q4 := s2.cell 4; have q5 := s2.cell 5; have q6 := s2.cell 6; have q7 := s2.cell 7; have q8 := s2.cell 8; have q9 := s2.cell 9; have q10 := s2.cell 10; have q11 := s2.cell 11
        simp only [List.getElem?_cons_zero, List.getElem?_cons_succ] at p1 p2 p3 p4 p5 p6 p7 p8 p9 p10 p11 q1 q2 q3 q4 q5 q6 q7 q8 q9 q10 q11
        clear s1 s2
        go_wp2_with fail
        go_ret
        exact ⟨rfl, BE.out.trans (hB1.mono BE.out.size)⟩
theorem szDevice_okL (a : Option Addr) (len cap : Nat) (d0 d1 d2 d3 d4 d5 d6 d7 : Int) (pr : Int) (st : Bool) (tk : Int) (m : Int) (w : World) (hm : m ≤ 1048576) (h : (len : Int) ≤ m) :
    Calls Try.prog 11 #[.agg #[.slice a len cap, .int .u8 d0, .int .u8 d1, .int .u8 d2, .int .u8 d3, .int .u8 d4, .int .u8 d5, .int .u8 d6, .int .u8 d7, .int .i64 pr, .bool st, .int .i64 tk], .int .i64 m] w fun e w' => e = .returned (.int .i64 (m - len)) ∧ w.alloc (.cells #[.slice a len cap, .int .u8 d0, .int .u8 d1, .int .u8 d2, .int .u8 d3, .int .u8 d4, .int .u8 d5, .int .u8 d6, .int .u8 d7, .int .i64 pr, .bool st, .int .i64 tk] 25) = w' := by
  have h1 : (0 : Int) ≤ m - (len : Int) := by omega
  have h2 : IntKind.i64.wrap (m - (len : Int)) = m - (len : Int) := IntWalk.i64_in _ (by omega)
  go_enter Try.func11, Try.ntmps11
  go_wp2
  go_ret
  exact ⟨rfl, rfl⟩
theorem szDevice_noL (a : Option Addr) (len cap : Nat) (d0 d1 d2 d3 d4 d5 d6 d7 : Int) (pr : Int) (st : Bool) (tk : Int) (m : Int) (w : World) (h0 : 0 ≤ m) (hm : m ≤ 1048576) (h : m < (len : Int)) (hl : len ≤ 9223372036854775807) :
    Calls Try.prog 11 #[.agg #[.slice a len cap, .int .u8 d0, .int .u8 d1, .int .u8 d2, .int .u8 d3, .int .u8 d4, .int .u8 d5, .int .u8 d6, .int .u8 d7, .int .i64 pr, .bool st, .int .i64 tk], .int .i64 m] w fun e w' => e = .returned (.int .i64 (-1)) ∧ w.alloc (.cells #[.slice a len cap, .int .u8 d0, .int .u8 d1, .int .u8 d2, .int .u8 d3, .int .u8 d4, .int .u8 d5, .int .u8 d6, .int .u8 d7, .int .i64 pr, .bool st, .int .i64 tk] 25) = w' := by
  have h1 : m - (len : Int) < 0 := by omega
  have h2 : IntKind.i64.wrap (m - (len : Int)) = m - (len : Int) := IntWalk.i64_in _ (by omega)
  go_enter Try.func11, Try.ntmps11
  go_wp2
  go_ret
  exact ⟨rfl, rfl⟩
end Go.Proofs.Ytangjgfjojfcaaa
