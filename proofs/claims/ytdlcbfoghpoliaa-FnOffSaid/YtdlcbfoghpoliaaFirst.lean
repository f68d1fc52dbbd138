/- FirstOff: the program's and the model's. -/
import Derived.Test.YtdlcbfoghpoliaaOff
import Derived.Test.YtdlcbfoghpoliaaTerms
namespace Go.Proofs.Ytdlcbfoghpoliaa
open Go.RowKit
def firstF (X Y p q : Int) (n : Nat) : Int × Int := match (List.range n).find? (fun (i : Nat) => decide (offI ((i : Int) + 1) X Y p q ≠ 0)) with
  | some i => ((i : Int) + 1, 0)
  | none => (0, 6)
theorem first_at {X Y p q : Int} {n k : Nat} (hk : k < n) (h : ∀ j, j < k → offI ((j : Int) + 1) X Y p q = 0) (h2 : offI ((k : Int) + 1) X Y p q ≠ 0) : firstF X Y p q n = ((k : Int) + 1, 0) := by
  have : (List.range n).find? (fun (i : Nat) => decide (offI ((i : Int) + 1) X Y p q ≠ 0)) = some k := by
    rw [List.find?_range_eq_some]
    exact ⟨by simp [h2], by simp [hk], fun j hj => by simp [h j hj]⟩
  simp only [firstF, this]
theorem first_none {X Y p q : Int} {n : Nat} (h : ∀ j, j < n → offI ((j : Int) + 1) X Y p q = 0) : firstF X Y p q n = (0, 6) := by
  have : (List.range n).find? (fun (i : Nat) => decide (offI ((i : Int) + 1) X Y p q ≠ 0)) = none := by
    rw [List.find?_range_eq_none]
    exact fun j hj => by simp [h j hj]
  simp only [firstF, this]
theorem off_same (c p q : Int) : offI c p q p q = 0 := by unfold offI; omega
def firR (js : List (Int × Int)) (p q m : Int) : Int × Int := if okT js && okR p q then (if 1 ≤ m ∧ m ≤ 100000 then firstF (redP (prD js js.length) (prN js js.length)) (redQ (prD js js.length) (prN js js.length)) p q m.toNat else (0, 2)) else (0, 1)
theorem firR_no1 {js : List (Int × Int)} {p q c : Int} (h : okT js = false) : firR js p q c = (0, 1) := by simp [firR, h]
theorem firR_no2 {js : List (Int × Int)} {p q c : Int} (h : okR p q = false) : firR js p q c = (0, 1) := by simp [firR, h]
theorem firR_range {js : List (Int × Int)} {p q c : Int} (h : okT js = true) (k : okR p q = true) (hc : ¬ (1 ≤ c ∧ c ≤ 100000)) : firR js p q c = (0, 2) := by rw [firR, h, k, if_pos (by rfl), if_neg hc]
theorem firR_yes {js : List (Int × Int)} {p q c : Int} (h : okT js = true) (k : okR p q = true) (hc : 1 ≤ c ∧ c ≤ 100000) : firR js p q c = firstF (redP (prD js js.length) (prN js js.length)) (redQ (prD js js.length) (prN js js.length)) p q c.toNat := by rw [firR, h, k, if_pos (by rfl), if_pos hc]
theorem off_bd {c X Y p q : Int} (h1 : 0 ≤ c) (h2 : c ≤ 1000000000) (hx : 1 ≤ X) (hx' : X ≤ 1000000000) (hy : 1 ≤ Y) (hp : 1 ≤ p) (hp' : p ≤ 1000000000) (hq : 1 ≤ q) : -1000000000000000000 ≤ offI c X Y p q ∧ offI c X Y p q ≤ 1000000000000000000 := by
  obtain ⟨_, _, z1, z2, _⟩ := turns_bd h1 h2 hx hx' hy
  obtain ⟨_, _, z3, z4, _⟩ := turns_bd h1 h2 hp hp' hq
  unfold offI
  omega
set_option maxRecDepth 100000 in
set_option maxHeartbeats 4000000 in
theorem implFirst_any (b n cap : Nat) (js : List (Int × Int)) (p q c : Int) (w : World) (hS : Pst w b js) (hn : n = js.length) (hbd : Bd16 js) (hp : I64 p) (hq : I64 q) (hc : I64 c) :
    Calls Try.prog 9 #[.slice (some ⟨b, 0, none⟩) n cap, .agg #[.int .i64 p, .int .i64 q], .int .i64 c] w (GivesB w (.tuple #[.int .i64 (firR js p q c).1, .int .i64 (firR js p q c).2])) := by
  have hbl := hS.1
  obtain ⟨hc1, hc2⟩ := hc
  have bE := hid (box2_bel w 28 (.int .i64 p) (.int .i64 q))
  have Q0 := hid (Row.new w 28 [.int .i64 p, .int .i64 q])
  have HS := hid hS
  have HV := hid (implValidTrain_any b n cap js _ (hS.below bE.out hbl) hn hbd)
  have HR := hid (fun w => implValidRatio_any p q hp hq w)
  cases hv : okT js with
  | false =>
    rw [firR_no1 hv]
    rw [hv] at HV
    clear hS hn hbd hv hp hq
    go_enter Try.func9, Try.ntmps9
    go_wp2_with fail
    refine HV.out.mono ?_
    rintro e w1 ⟨rfl, hB1⟩
    simp only [World.size_alloc] at hB1
    have hz1 := hB1.size
    simp only [World.size_alloc] at hz1
    have r1 := Q0.out.below hB1 (by omega)
    have b1 := hid (bE.out.trans (hB1.mono (by omega)))
    clear r1
    go_wp2_with fail
    go_ret2
    exact ⟨rfl, b1.out⟩
  | true =>
    rw [hv] at HV
    cases hk : okR p q with
    | false =>
      rw [firR_no2 hk]
      rw [hk] at HR
      clear hS hn hbd hv hp hq hk
      go_enter Try.func9, Try.ntmps9
      go_wp2_with fail
      refine HV.out.mono ?_
      rintro e w1 ⟨rfl, hB1⟩
      simp only [World.size_alloc] at hB1
      have hz1 := hB1.size
      simp only [World.size_alloc] at hz1
      have r1 := Q0.out.below hB1 (by omega)
      have b1 := hid (bE.out.trans (hB1.mono (by omega)))
      have c0 := r1.cell 0
      have c1 := r1.cell 1
      simp only [List.getElem?_cons_zero, List.getElem?_cons_succ] at c0 c1
      clear r1
      go_wp2_with fail
      refine (HR.out _).mono ?_
      rintro e w2 ⟨rfl, hB2⟩
      clear c0 c1
      go_wp2_with fail
      go_ret2
      exact ⟨rfl, b1.out.trans (hB2.mono (by omega))⟩
    | true =>
      rw [hk] at HR
      obtain ⟨o1, o2, o3, o4, _⟩ := okR_out hk
      by_cases hr : 1 ≤ c ∧ c ≤ 100000
      · have HG := hid (fun w1 (h : Pst w1 b js) => geared_any b n cap js w1 h hn hv)
        have RB := rat_bd hv
        rw [← hn] at RB
        obtain ⟨hr1, hr2⟩ := hr
        obtain ⟨m, hm⟩ := Int.eq_ofNat_of_zero_le (show 0 ≤ c by omega)
        subst hm
        have HM : Hid (firR js p q (m : Int) = firstF (redP (prD js n) (prN js n)) (redQ (prD js n) (prN js n)) p q m) := hid (by rw [firR_yes hv hk ⟨hr1, hr2⟩, ← hn]; rfl)
        obtain ⟨x, hx⟩ : ∃ z, redP (prD js n) (prN js n) = z := ⟨_, rfl⟩
        obtain ⟨y, hy⟩ : ∃ z, redQ (prD js n) (prN js n) = z := ⟨_, rfl⟩
        rw [hx, hy] at HG HM
        rw [hx, hy] at RB
        obtain ⟨rb1, rb2', rb3, rb4⟩ := RB
        have rb2 : x ≤ 1000000000 := by omega
        have hgt : Try.prog.eqGuardType Try.prog.depth 28 = false := by kernel_rfl
        clear hS hn hbd hv hk hp hq
        by_cases he : x = p ∧ y = q
        · obtain ⟨rfl, rfl⟩ := he
          have hE : ∀ w, Sem.run Try.prog (binOp .eql 28 (.agg #[.int .i64 x, .int .i64 y]) (.agg #[.int .i64 x, .int .i64 y])) w = .ok (.bool true) w := fun w => by rw [ratio_eql]; simp
          have HF := hid (first_none (X := x) (Y := y) (p := x) (q := y) (n := m) (fun j _ => off_same _ _ _))
          clear hx hy
          go_enter Try.func9, Try.ntmps9
          go_wp2_with fail
          refine HV.out.mono ?_
          rintro e w1 ⟨rfl, hB1⟩
          simp only [World.size_alloc] at hB1
          have hz1 := hB1.size
          simp only [World.size_alloc] at hz1
          have r1 := Q0.out.below hB1 (by omega)
          have b1 := hid (bE.out.trans (hB1.mono (by omega)))
          have c0 := r1.cell 0
          have c1 := r1.cell 1
          simp only [List.getElem?_cons_zero, List.getElem?_cons_succ] at c0 c1
          go_wp2_with fail
          refine (HR.out _).mono ?_
          rintro e w2 ⟨rfl, hB2⟩
          have hz2 := hB2.size
          have r2 := r1.below hB2 (by omega)
          have b2 := hid (b1.out.trans (hB2.mono (by omega)))
          clear c0 c1 r1 hB2
          go_wp2_with fail
          have W2R := hid r2
          have HSS := HS.out.below b2.out hbl
          refine (HG.out w2 HSS).mono ?_
          rintro e w3 ⟨rfl, hB3⟩
          have r3 := (W2R.out.below hB3 W2R.out.lt).alloc (.cells #[.int .i64 x, .int .i64 y, .slice (some ⟨b, 0, none⟩) n cap] 49)
          have g3 := Row.new w3 49 [.int .i64 x, .int .i64 y, .slice (some ⟨b, 0, none⟩) n cap]
          have b3 := b2.out.trans (hB3.mono b2.out.size)
          have b4 := b3.alloc b3.size (.cells #[.int .i64 x, .int .i64 y, .slice (some ⟨b, 0, none⟩) n cap] 49)
          obtain ⟨W, hW⟩ : ∃ W, W = w3.alloc (.cells #[.int .i64 x, .int .i64 y, .slice (some ⟨b, 0, none⟩) n cap] 49) := ⟨_, rfl⟩
          have RG : Hid (Row W w3.heap.size 49 [.int .i64 x, .int .i64 y, .slice (some ⟨b, 0, none⟩) n cap]) := hid (by rw [hW]; exact g3)
          have RR : Hid (Row W w.heap.size 28 [.int .i64 x, .int .i64 y]) := hid (by rw [hW]; exact r3)
          have bW : Hid (Below w.heap.size w W) := hid (by rw [hW]; exact b4)
          clear r2 hB3 HSS b3 b4 r3 g3
          have hg := hgt
          have qg := RG.out
          have qr := RR.out
          rw [hW] at qg qr
          have d0 := qg.cell 0
          have d1 := qg.cell 1
          have d2 := qg.cell 2
          simp only [List.getElem?_cons_zero, List.getElem?_cons_succ] at d0 d1 d2
          have e0 := qr.cell 0
          have e1 := qr.cell 1
          simp only [List.getElem?_cons_zero, List.getElem?_cons_succ] at e0 e1
          clear qg qr
          go_wp2_with fail
          go_ret2
          exact ⟨by rw [HM.out, HF.out]; rfl, by rw [← hW]; exact bW.out⟩
        · have hE : ∀ w, Sem.run Try.prog (binOp .eql 28 (.agg #[.int .i64 x, .int .i64 y]) (.agg #[.int .i64 p, .int .i64 q])) w = .ok (.bool false) w := fun w => by
            have e : (x == p && y == q) = false := by
              by_cases h1 : x = p
              · have h2 : ¬ y = q := fun h => he ⟨h1, h⟩
                simp [h2]
              · simp [h1]
            rw [ratio_eql, e]
          clear hx hy he
          go_enter Try.func9, Try.ntmps9
          go_wp2_with fail
          refine HV.out.mono ?_
          rintro e w1 ⟨rfl, hB1⟩
          simp only [World.size_alloc] at hB1
          have hz1 := hB1.size
          simp only [World.size_alloc] at hz1
          have r1 := Q0.out.below hB1 (by omega)
          have b1 := hid (bE.out.trans (hB1.mono (by omega)))
          have c0 := r1.cell 0
          have c1 := r1.cell 1
          simp only [List.getElem?_cons_zero, List.getElem?_cons_succ] at c0 c1
          go_wp2_with fail
          refine (HR.out _).mono ?_
          rintro e w2 ⟨rfl, hB2⟩
          have hz2 := hB2.size
          have r2 := r1.below hB2 (by omega)
          have b2 := hid (b1.out.trans (hB2.mono (by omega)))
          clear c0 c1 r1 hB2
          go_wp2_with fail
          have W2R := hid r2
          have HSS := HS.out.below b2.out hbl
          refine (HG.out w2 HSS).mono ?_
          rintro e w3 ⟨rfl, hB3⟩
          have r3 := (W2R.out.below hB3 W2R.out.lt).alloc (.cells #[.int .i64 x, .int .i64 y, .slice (some ⟨b, 0, none⟩) n cap] 49)
          have g3 := Row.new w3 49 [.int .i64 x, .int .i64 y, .slice (some ⟨b, 0, none⟩) n cap]
          have b3 := b2.out.trans (hB3.mono b2.out.size)
          have b4 := b3.alloc b3.size (.cells #[.int .i64 x, .int .i64 y, .slice (some ⟨b, 0, none⟩) n cap] 49)
          obtain ⟨W, hW⟩ : ∃ W, W = w3.alloc (.cells #[.int .i64 x, .int .i64 y, .slice (some ⟨b, 0, none⟩) n cap] 49) := ⟨_, rfl⟩
          have RG : Hid (Row W w3.heap.size 49 [.int .i64 x, .int .i64 y, .slice (some ⟨b, 0, none⟩) n cap]) := hid (by rw [hW]; exact g3)
          have RR : Hid (Row W w.heap.size 28 [.int .i64 p, .int .i64 q]) := hid (by rw [hW]; exact r3)
          have bW : Hid (Below w.heap.size w W) := hid (by rw [hW]; exact b4)
          clear r2 hB3 HSS b3 b4 r3 g3
          have hg := hgt
          have qg := RG.out
          have qr := RR.out
          rw [hW] at qg qr
          have d0 := qg.cell 0
          have d1 := qg.cell 1
          have d2 := qg.cell 2
          simp only [List.getElem?_cons_zero, List.getElem?_cons_succ] at d0 d1 d2
          have e0 := qr.cell 0
          have e1 := qr.cell 1
          simp only [List.getElem?_cons_zero, List.getElem?_cons_succ] at e0 e1
          clear qg qr
          go_wp2_with fail
          rw [← hW]
          clear d0 d1 d2 e0 e1 hW
          go_loopw [9] (fun i wr => ∃ k : Nat, k ≤ m ∧ i = .int .i64 ((k : Int) + 1) ∧ (∀ j, j < k → offI ((j : Int) + 1) x y p q = 0) ∧ Below W.heap.size W wr) (fun i _ => m + 1 - (intOf i).toNat)
          case atStart => exact ⟨0, Nat.zero_le _, rfl, fun j h => by omega, Below.refl _ _⟩
          case round =>
            obtain ⟨k, hk, rfl, hok, hB⟩ := hrel
            have HK := hid hok
            have hzr := hB.size
            have qg := RG.out.below hB RG.out.lt
            have qr := RR.out.below hB RR.out.lt
            have HB := hid hB
            clear hok hB
            by_cases hlt : k < m
            · have hlt' : (k : Int) + 1 ≤ (m : Int) := by omega
              have hk0 : (0 : Int) ≤ (k : Int) := by omega
              have d0 := qg.cell 0
              have d1 := qg.cell 1
              have d2 := qg.cell 2
              simp only [List.getElem?_cons_zero, List.getElem?_cons_succ] at d0 d1 d2
              have e0 := qr.cell 0
              have e1 := qr.cell 1
              simp only [List.getElem?_cons_zero, List.getElem?_cons_succ] at e0 e1
              have HO := hid (fun w => off_any ((k : Int) + 1) x y p q (.slice (some ⟨b, 0, none⟩) n cap) (by omega) (by omega) rb1 rb2 rb3 o1 o2 o3 w)
              have OB := off_bd (c := (k : Int) + 1) (X := x) (Y := y) (p := p) (q := q) (by omega) (by omega) rb1 rb2 rb3 o1 o2 o3
              have HZ := hid (fun h => first_at (X := x) (Y := y) (p := p) (q := q) (n := m) hlt HK.out h)
              obtain ⟨z, hz⟩ : ∃ z, offI ((k : Int) + 1) x y p q = z := ⟨_, rfl⟩
              rw [hz] at HO OB HZ
              have HZZ := hid hz
              clear hz qg qr
              by_cases h0 : z = 0
              · subst h0
                go_wp2_with fail
                refine (HO.out _).mono ?_
                rintro e w5 ⟨rfl, hB5⟩
                have B5 := hid (HB.out.trans (hB5.mono hzr))
                clear hB5 d0 d1 d2 e0 e1
                go_wp2_with fail
                go_roundw
                case rel => exact ⟨k + 1, by omega, by go_num, fun j hj => by
                  by_cases e : j = k
                  · subst e; exact HZZ.out
                  · exact HK.out j (by omega), B5.out⟩
                case measure => simp [intOf]; omega
              · have hz1 : (z != 0) = true := by simp [h0]
                have hz2 : (z == 0) = false := by simp [h0]
                have HF := hid (HZ.out h0)
                clear h0
                go_wp2_with fail
                refine (HO.out _).mono ?_
                rintro e w5 ⟨rfl, hB5⟩
                have B5 := hid (bW.out.trans ((HB.out.trans (hB5.mono hzr)).mono bW.out.size))
                clear hB5 d0 d1 d2 e0 e1
                go_wp2_with fail
                go_ret2
                exact ⟨by rw [HM.out, HF.out]; rfl, B5.out⟩
            · obtain rfl : k = m := by omega
              have HF := hid (first_none (X := x) (Y := y) (p := p) (q := q) (n := k) HK.out)
              have B5 := hid (bW.out.trans (HB.out.mono bW.out.size))
              go_wp2_with fail
              go_ret2
              exact ⟨by rw [HM.out, HF.out]; rfl, B5.out⟩
      · rw [firR_range hv hk hr]
        clear hS hn hbd hv hk hp hq
        by_cases h0 : c < 1
        · clear hr
          go_enter Try.func9, Try.ntmps9
          go_wp2_with fail
          refine HV.out.mono ?_
          rintro e w1 ⟨rfl, hB1⟩
          simp only [World.size_alloc] at hB1
          have hz1 := hB1.size
          simp only [World.size_alloc] at hz1
          have r1 := Q0.out.below hB1 (by omega)
          have b1 := hid (bE.out.trans (hB1.mono (by omega)))
          have c0 := r1.cell 0
          have c1 := r1.cell 1
          simp only [List.getElem?_cons_zero, List.getElem?_cons_succ] at c0 c1
          go_wp2_with fail
          refine (HR.out _).mono ?_
          rintro e w2 ⟨rfl, hB2⟩
          have hz2 := hB2.size
          have r2 := r1.below hB2 (by omega)
          have b2 := hid (b1.out.trans (hB2.mono (by omega)))
          clear c0 c1 r1 hB2
          go_wp2_with fail
          go_ret2
          exact ⟨rfl, b2.out⟩
        · have h1 : 100000 < c := by omega
          clear hr
          go_enter Try.func9, Try.ntmps9
          go_wp2_with fail
          refine HV.out.mono ?_
          rintro e w1 ⟨rfl, hB1⟩
          simp only [World.size_alloc] at hB1
          have hz1 := hB1.size
          simp only [World.size_alloc] at hz1
          have r1 := Q0.out.below hB1 (by omega)
          have b1 := hid (bE.out.trans (hB1.mono (by omega)))
          have c0 := r1.cell 0
          have c1 := r1.cell 1
          simp only [List.getElem?_cons_zero, List.getElem?_cons_succ] at c0 c1
          go_wp2_with fail
          refine (HR.out _).mono ?_
          rintro e w2 ⟨rfl, hB2⟩
          have hz2 := hB2.size
          have r2 := r1.below hB2 (by omega)
          have b2 := hid (b1.out.trans (hB2.mono (by omega)))
          clear c0 c1 r1 hB2
          go_wp2_with fail
          go_ret2
          exact ⟨rfl, b2.out⟩
set_option maxRecDepth 100000 in
set_option maxHeartbeats 4000000 in
theorem specFirst_any (b n cap : Nat) (js : List (Int × Int)) (p q c : Int) (w : World) (hS : Pst w b js) (hn : n = js.length) (hbd : Bd16 js) (hp : I64 p) (hq : I64 q) (hc : I64 c) :
    Calls Try.prog 10 #[.slice (some ⟨b, 0, none⟩) n cap, .agg #[.int .i64 p, .int .i64 q], .int .i64 c] w (GivesB w (.tuple #[.int .i64 (firR js p q c).1, .int .i64 (firR js p q c).2])) := by
  have hbl := hS.1
  obtain ⟨hc1, hc2⟩ := hc
  have bE := hid (box2_bel w 28 (.int .i64 p) (.int .i64 q))
  have Q0 := hid (Row.new w 28 [.int .i64 p, .int .i64 q])
  have HS := hid hS
  have HV := hid (l03Train_any b n cap js _ (hS.below bE.out hbl) hn hbd)
  have HR := hid (fun w => l03Ok_any p q hp hq w)
  cases hv : okT js with
  | false =>
    rw [firR_no1 hv]
    rw [hv] at HV
    clear hS hn hbd hv hp hq
    go_enter Try.func10, Try.ntmps10
    go_wp2_with fail
    refine HV.out.mono ?_
    rintro e w' ⟨rfl, d, rfl⟩
    obtain ⟨w1, hw1⟩ : ∃ z, z = World.drewN (w.alloc (.cells #[.int .i64 p, .int .i64 q] 28)) d := ⟨_, rfl⟩
    have r1 : Row w1 w.heap.size 28 [.int .i64 p, .int .i64 q] := by rw [hw1]; exact Row.drewN Q0.out d
    have b1 := hid (show Below w.heap.size w w1 by rw [hw1]; exact below_drewN bE.out d)
    have hz1 : w.heap.size + 1 ≤ w1.heap.size := by rw [hw1]; simp
    rw [← hw1]
    clear hw1
    clear r1
    go_wp2_with fail
    go_ret2
    exact ⟨rfl, b1.out⟩
  | true =>
    rw [hv] at HV
    cases hk : okR p q with
    | false =>
      rw [firR_no2 hk]
      rw [hk] at HR
      clear hS hn hbd hv hp hq hk
      go_enter Try.func10, Try.ntmps10
      go_wp2_with fail
      refine HV.out.mono ?_
      rintro e w' ⟨rfl, d, rfl⟩
      obtain ⟨w1, hw1⟩ : ∃ z, z = World.drewN (w.alloc (.cells #[.int .i64 p, .int .i64 q] 28)) d := ⟨_, rfl⟩
      have r1 : Row w1 w.heap.size 28 [.int .i64 p, .int .i64 q] := by rw [hw1]; exact Row.drewN Q0.out d
      have b1 := hid (show Below w.heap.size w w1 by rw [hw1]; exact below_drewN bE.out d)
      have hz1 : w.heap.size + 1 ≤ w1.heap.size := by rw [hw1]; simp
      rw [← hw1]
      clear hw1
      have c0 := r1.cell 0
      have c1 := r1.cell 1
      simp only [List.getElem?_cons_zero, List.getElem?_cons_succ] at c0 c1
      clear r1
      go_wp2_with fail
      refine (HR.out _).mono ?_
      rintro e w2 ⟨rfl, hB2⟩
      clear c0 c1
      go_wp2_with fail
      go_ret2
      exact ⟨rfl, b1.out.trans (hB2.mono (by omega))⟩
    | true =>
      rw [hk] at HR
      obtain ⟨o1, o2, o3, o4, _⟩ := okR_out hk
      by_cases hr : 1 ≤ c ∧ c ≤ 100000
      · have HC := hid (fun w => inr_yes c 1 100000 w hr)
        have HG := hid (fun w1 (h : Pst w1 b js) => l03Of_any b n cap js w1 h hn hv)
        have RB := rat_bd hv
        rw [← hn] at RB
        obtain ⟨hr1, hr2⟩ := hr
        obtain ⟨m, hm⟩ := Int.eq_ofNat_of_zero_le (show 0 ≤ c by omega)
        subst hm
        have HM : Hid (firR js p q (m : Int) = firstF (redP (prD js n) (prN js n)) (redQ (prD js n) (prN js n)) p q m) := hid (by rw [firR_yes hv hk ⟨hr1, hr2⟩, ← hn]; rfl)
        obtain ⟨x, hx⟩ : ∃ z, redP (prD js n) (prN js n) = z := ⟨_, rfl⟩
        obtain ⟨y, hy⟩ : ∃ z, redQ (prD js n) (prN js n) = z := ⟨_, rfl⟩
        rw [hx, hy] at HG HM
        rw [hx, hy] at RB
        obtain ⟨rb1, rb2', rb3, rb4⟩ := RB
        have rb2 : x ≤ 1000000000 := by omega
        clear hS hn hbd hv hk hp hq hx hy
        go_enter Try.func10, Try.ntmps10
        go_wp2_with fail
        refine HV.out.mono ?_
        rintro e w' ⟨rfl, d, rfl⟩
        obtain ⟨w1, hw1⟩ : ∃ z, z = World.drewN (w.alloc (.cells #[.int .i64 p, .int .i64 q] 28)) d := ⟨_, rfl⟩
        have r1 : Row w1 w.heap.size 28 [.int .i64 p, .int .i64 q] := by rw [hw1]; exact Row.drewN Q0.out d
        have b1 := hid (show Below w.heap.size w w1 by rw [hw1]; exact below_drewN bE.out d)
        have hz1 : w.heap.size + 1 ≤ w1.heap.size := by rw [hw1]; simp
        rw [← hw1]
        clear hw1
        have c0 := r1.cell 0
        have c1 := r1.cell 1
        simp only [List.getElem?_cons_zero, List.getElem?_cons_succ] at c0 c1
        go_wp2_with fail
        refine (HR.out _).mono ?_
        rintro e w2 ⟨rfl, hB2⟩
        have hz2 := hB2.size
        have r2 := r1.below hB2 (by omega)
        have b2 := hid (b1.out.trans (hB2.mono (by omega)))
        clear c0 c1 r1 hB2
        go_wp2_with fail
        refine (HC.out _).mono ?_
        rintro e w' ⟨rfl, rfl⟩
        go_wp2_with fail
        have W2R := hid r2
        have HSS := HS.out.below b2.out hbl
        refine (HG.out w2 HSS).mono ?_
        rintro e w3 ⟨rfl, hB3⟩
        have r3 := (W2R.out.below hB3 W2R.out.lt).alloc (.cells #[.int .i64 x, .int .i64 y] 28)
        have g3 := Row.new w3 28 [.int .i64 x, .int .i64 y]
        have b3 := b2.out.trans (hB3.mono b2.out.size)
        have b4 := b3.alloc b3.size (.cells #[.int .i64 x, .int .i64 y] 28)
        clear r2
        obtain ⟨W, hW⟩ : ∃ W, W = w3.alloc (.cells #[.int .i64 x, .int .i64 y] 28) := ⟨_, rfl⟩
        have RG : Hid (Row W w3.heap.size 28 [.int .i64 x, .int .i64 y]) := hid (by rw [hW]; exact g3)
        have RR : Hid (Row W w.heap.size 28 [.int .i64 p, .int .i64 q]) := hid (by rw [hW]; exact r3)
        have bW : Hid (Below w.heap.size w W) := hid (by rw [hW]; exact b4)
        clear hB3 HSS b3 b4 r3 g3
        go_wp2_with fail
        rw [← hW]
        clear hW
        go_loopw [9] (fun i wr => ∃ k : Nat, k ≤ m ∧ i = .int .i64 ((k : Int) + 1) ∧ (∀ j, j < k → offI ((j : Int) + 1) x y p q = 0) ∧ Below W.heap.size W wr) (fun i _ => m + 1 - (intOf i).toNat)
        case atStart => exact ⟨0, Nat.zero_le _, rfl, fun j h => by omega, Below.refl _ _⟩
        case round =>
          obtain ⟨k, hk, rfl, hok, hB⟩ := hrel
          have HK := hid hok
          have hzr := hB.size
          have qg := RG.out.below hB RG.out.lt
          have qr := RR.out.below hB RR.out.lt
          have HB := hid hB
          clear hok hB
          by_cases hlt : k < m
          · have hlt' : (k : Int) + 1 ≤ (m : Int) := by omega
            have hk0 : (0 : Int) ≤ (k : Int) := by omega
            have d0 := qg.cell 0
            have d1 := qg.cell 1
            simp only [List.getElem?_cons_zero, List.getElem?_cons_succ] at d0 d1
            have e0 := qr.cell 0
            have e1 := qr.cell 1
            simp only [List.getElem?_cons_zero, List.getElem?_cons_succ] at e0 e1
            have HO := hid (fun w => l03Off_any ((k : Int) + 1) x y p q (by omega) (by omega) rb1 rb2 rb3 o1 o2 o3 w)
            have OB := off_bd (c := (k : Int) + 1) (X := x) (Y := y) (p := p) (q := q) (by omega) (by omega) rb1 rb2 rb3 o1 o2 o3
            have HZ := hid (fun h => first_at (X := x) (Y := y) (p := p) (q := q) (n := m) hlt HK.out h)
            obtain ⟨z, hz⟩ : ∃ z, offI ((k : Int) + 1) x y p q = z := ⟨_, rfl⟩
            rw [hz] at HO OB HZ
            have HZZ := hid hz
            clear hz qg qr
            by_cases h0 : z = 0
            · subst h0
              go_wp2_with fail
              refine (HO.out _).mono ?_
              rintro e w5 ⟨rfl, hB5⟩
              have B5 := hid (HB.out.trans (hB5.mono hzr))
              clear hB5 d0 d1 e0 e1
              go_wp2_with fail
              go_roundw
              case rel => exact ⟨k + 1, by omega, by go_num, fun j hj => by
                by_cases e : j = k
                · subst e; exact HZZ.out
                · exact HK.out j (by omega), B5.out⟩
              case measure => simp [intOf]; omega
            · have hz1 : (z != 0) = true := by simp [h0]
              have hz2 : (z == 0) = false := by simp [h0]
              have HF := hid (HZ.out h0)
              clear h0
              go_wp2_with fail
              refine (HO.out _).mono ?_
              rintro e w5 ⟨rfl, hB5⟩
              have B5 := hid (bW.out.trans ((HB.out.trans (hB5.mono hzr)).mono bW.out.size))
              clear hB5 d0 d1 e0 e1
              go_wp2_with fail
              go_ret2
              exact ⟨by rw [HM.out, HF.out]; rfl, B5.out⟩
          · obtain rfl : k = m := by omega
            have HF := hid (first_none (X := x) (Y := y) (p := p) (q := q) (n := k) HK.out)
            have B5 := hid (bW.out.trans (HB.out.mono bW.out.size))
            go_wp2_with fail
            go_ret2
            exact ⟨by rw [HM.out, HF.out]; rfl, B5.out⟩
      · rw [firR_range hv hk hr]
        have HC := hid (fun w => inr_no c 1 100000 w (by omega))
        clear hS hn hbd hv hk hp hq hr
        go_enter Try.func10, Try.ntmps10
        go_wp2_with fail
        refine HV.out.mono ?_
        rintro e w' ⟨rfl, d, rfl⟩
        obtain ⟨w1, hw1⟩ : ∃ z, z = World.drewN (w.alloc (.cells #[.int .i64 p, .int .i64 q] 28)) d := ⟨_, rfl⟩
        have r1 : Row w1 w.heap.size 28 [.int .i64 p, .int .i64 q] := by rw [hw1]; exact Row.drewN Q0.out d
        have b1 := hid (show Below w.heap.size w w1 by rw [hw1]; exact below_drewN bE.out d)
        have hz1 : w.heap.size + 1 ≤ w1.heap.size := by rw [hw1]; simp
        rw [← hw1]
        clear hw1
        have c0 := r1.cell 0
        have c1 := r1.cell 1
        simp only [List.getElem?_cons_zero, List.getElem?_cons_succ] at c0 c1
        go_wp2_with fail
        refine (HR.out _).mono ?_
        rintro e w2 ⟨rfl, hB2⟩
        have hz2 := hB2.size
        have r2 := r1.below hB2 (by omega)
        have b2 := hid (b1.out.trans (hB2.mono (by omega)))
        clear c0 c1 r1 hB2
        go_wp2_with fail
        refine (HC.out _).mono ?_
        rintro e w' ⟨rfl, rfl⟩
        go_wp2_with fail
        go_ret2
        exact ⟨rfl, b2.out⟩
end Go.Proofs.Ytdlcbfoghpoliaa
