/- OffAfter: the program's and the model's, and the law's walk. -/
import Derived.Test.YtdlcbfoghpoliaaLawsRA
import Derived.Deep.DeepCutAuto
namespace Go.Proofs.Ytdlcbfoghpoliaa
open Go.RowKit
def offI (c x y p q : Int) : Int := turnsI c x y - turnsI c p q
set_option maxHeartbeats 4000000 in
theorem off_any (c x y p q : Int) (s : Value) (h1 : 0 ≤ c) (h2 : c ≤ 1000000000) (hx : 1 ≤ x) (hx' : x ≤ 1000000000) (hy : 1 ≤ y) (hp : 1 ≤ p) (hp' : p ≤ 1000000000) (hq : 1 ≤ q) (w : World) :
    Calls Try.prog 24 #[.agg #[.int .i64 x, .int .i64 y, s], .agg #[.int .i64 p, .int .i64 q], .int .i64 c] w (GivesB w (.int .i64 (offI c x y p q))) := by
  have H1 := hid (fun w => turns_any c x y h1 h2 hx hx' hy w)
  have H2 := hid (fun w => turns_any c p q h1 h2 hp hp' hq w)
  obtain ⟨_, _, z1, z2, _⟩ := turns_bd h1 h2 hx hx' hy
  obtain ⟨_, _, z3, z4, _⟩ := turns_bd h1 h2 hp hp' hq
  unfold offI
  obtain ⟨m, hm⟩ : ∃ z, turnsI c x y = z := ⟨_, rfl⟩
  obtain ⟨n, hn⟩ : ∃ z, turnsI c p q = z := ⟨_, rfl⟩
  rw [hm] at H1 z1 z2 ⊢
  rw [hn] at H2 z3 z4 ⊢
  have t1 : IntKind.i64.wrap (m - n) = m - n := IntWalk.i64_in _ (by omega)
  clear hm hn
  obtain ⟨W, hW⟩ : ∃ W, W = ((w.alloc (.cells #[.int .i64 x, .int .i64 y, s] 49)).alloc (.cells #[.int .i64 p, .int .i64 q] 28)) := ⟨_, rfl⟩
  have r0 : Row W w.heap.size 49 [.int .i64 x, .int .i64 y, s] := by rw [hW]; exact (Row.new w _ _).alloc _
  have r1 : Row W (w.heap.size + 1) 28 [.int .i64 p, .int .i64 q] := by
    have h := Row.new (w.alloc (.cells #[.int .i64 x, .int .i64 y, s] 49)) 28 [.int .i64 p, .int .i64 q]
    simp only [World.size_alloc] at h
    rw [hW]; exact h
  have bW : Below w.heap.size w W := by rw [hW]; exact ((Below.refl _ w).alloc (Nat.le_refl _) _).alloc (by simp) _
  have bE := hid bW
  have hW2 := hid hW
  have l0 := r0.lt
  have l1 := r1.lt
  have c0 := r0.cell 0
  have c1 := r0.cell 1
  have c2 := r1.cell 0
  have c3 := r1.cell 1
  simp only [List.getElem?_cons_zero, List.getElem?_cons_succ] at c0 c1 c2 c3
  have CC := hid (And.intro c0 (And.intro c1 (And.intro c2 c3)))
  clear r0 r1 bW hW c0 c1 c2 c3
  go_enter Try.func24, Try.ntmps24
  go_wp2_with fail
  rw [← hW2.out]
  obtain ⟨c0, c1, c2, c3⟩ := CC.out
  have hb0 := Below.refl W.heap.size W
  have SOF := hid (fun (v : World) (h : Below W.heap.size W v) => (And.intro ((h.cell (p := ⟨w.heap.size, 0, none⟩) l0).trans c0) (And.intro ((h.cell (p := ⟨w.heap.size, 1, none⟩) l0).trans c1) (And.intro ((h.cell (p := ⟨w.heap.size + 1, 0, none⟩) l1).trans c2) ((h.cell (p := ⟨w.heap.size + 1, 1, none⟩) l1).trans c3)))))
  go_region_held3 (fun w' => w'.cell? ⟨w.heap.size, 0, none⟩ = some (.int .i64 x) ∧ w'.cell? ⟨w.heap.size, 1, none⟩ = some (.int .i64 y) ∧ w'.cell? ⟨w.heap.size + 1, 0, none⟩ = some (.int .i64 p) ∧ w'.cell? ⟨w.heap.size + 1, 1, none⟩ = some (.int .i64 q)) (exact SOF.out _ (by (repeat (first | assumption | refine Below.drew ?_ | refine Below.setCell ?_ (by first | omega | (simp; done) | (simp; omega)) _ | refine Below.alloc ?_ (by first | omega | (simp; done) | (simp; omega)) _))))
    ((first | (go_at_call 35; have _t := hb1; (with_reducible refine (H2.out _).mono ?_); rintro e v2 ⟨rfl, hB2⟩; have hb2 : Below W.heap.size W v2 := bel_step (by (repeat (first | assumption | refine Below.drew ?_ | refine Below.setCell ?_ (by first | omega | (simp; done) | (simp; omega)) _ | refine Below.alloc ?_ (by first | omega | (simp; done) | (simp; omega)) _))) hB2; have hz2 := hb2.size; have hy2 := hB2.size; (try simp only [World.size_drew, World.size_alloc] at hy2); (first | skip)) | (go_at_call 35; have _t := hb0; (with_reducible refine (H1.out _).mono ?_); rintro e v1 ⟨rfl, hB1⟩; have hb1 : Below W.heap.size W v1 := bel_step (by (repeat (first | assumption | refine Below.drew ?_ | refine Below.setCell ?_ (by first | omega | (simp; done) | (simp; omega)) _ | refine Below.alloc ?_ (by first | omega | (simp; done) | (simp; omega)) _))) hB1; have hz1 := hb1.size; have hy1 := hB1.size; (try simp only [World.size_drew, World.size_alloc] at hy1); (first | skip))))
  go_wp2_with fail
  go_ret
  exact ⟨rfl, bE.out.trans (hb2.mono (by omega))⟩
set_option maxHeartbeats 2000000 in
theorem l03Off_any (c x y p q : Int) (h1 : 0 ≤ c) (h2 : c ≤ 1000000000) (hx : 1 ≤ x) (hx' : x ≤ 1000000000) (hy : 1 ≤ y) (hp : 1 ≤ p) (hp' : p ≤ 1000000000) (hq : 1 ≤ q) (w : World) :
    Calls Try.prog 25 #[.agg #[.int .i64 x, .int .i64 y], .agg #[.int .i64 p, .int .i64 q], .int .i64 c] w (GivesB w (.int .i64 (offI c x y p q))) := by
  obtain ⟨m1, m2, z1, z2, e1⟩ := turns_bd h1 h2 hx hx' hy
  obtain ⟨m3, m4, z3, z4, e2⟩ := turns_bd h1 h2 hp hp' hq
  have e3 : c * x / y = turnsI c x y := rfl
  have e4 : c * p / q = turnsI c p q := rfl
  unfold offI
  obtain ⟨m, hm⟩ : ∃ z, c * x = z := ⟨_, rfl⟩
  obtain ⟨n, hn⟩ : ∃ z, c * p = z := ⟨_, rfl⟩
  obtain ⟨u, hu⟩ : ∃ z, turnsI c x y = z := ⟨_, rfl⟩
  obtain ⟨v, hv⟩ : ∃ z, turnsI c p q = z := ⟨_, rfl⟩
  rw [hm] at m1 m2 e1 e3
  rw [hn] at m3 m4 e2 e4
  rw [hu] at z1 z2 e1 e3 ⊢
  rw [hv] at z3 z4 e2 e4 ⊢
  have t1 : IntKind.i64.wrap m = m := IntWalk.i64_in _ (by omega)
  have t2 : IntKind.i64.wrap n = n := IntWalk.i64_in _ (by omega)
  have t3 : IntKind.i64.wrap u = u := IntWalk.i64_in _ (by omega)
  have t4 : IntKind.i64.wrap v = v := IntWalk.i64_in _ (by omega)
  have t5 : IntKind.i64.wrap (u - v) = u - v := IntWalk.i64_in _ (by omega)
  have n1 : y ≠ 0 := by omega
  have n2 : q ≠ 0 := by omega
  obtain ⟨_, _, bW, _⟩ := two_ratios w 28 28 (.int .i64 x) (.int .i64 y) (.int .i64 p) (.int .i64 q) _ rfl
  have bE := hid bW
  clear hu hv bW
  go_enter Try.func25, Try.ntmps25
  go_wp2_with fail
  go_quiet (fail)
  go_wp2_with fail
  go_ret
  exact ⟨rfl, below_drewN bE.out _⟩
def offR (js : List (Int × Int)) (p q c : Int) : Int × Int := if okT js && okR p q then (if 0 ≤ c ∧ c ≤ 1000000000 then (offI c (redP (prD js js.length) (prN js js.length)) (redQ (prD js js.length) (prN js js.length)) p q, 0) else (0, 2)) else (0, 1)
theorem offR_no1 {js : List (Int × Int)} {p q c : Int} (h : okT js = false) : offR js p q c = (0, 1) := by simp [offR, h]
theorem offR_no2 {js : List (Int × Int)} {p q c : Int} (h : okR p q = false) : offR js p q c = (0, 1) := by simp [offR, h]
theorem offR_range {js : List (Int × Int)} {p q c : Int} (h : okT js = true) (k : okR p q = true) (hc : ¬ (0 ≤ c ∧ c ≤ 1000000000)) : offR js p q c = (0, 2) := by rw [offR, h, k, if_pos (by rfl), if_neg hc]
theorem offR_yes {js : List (Int × Int)} {p q c : Int} (h : okT js = true) (k : okR p q = true) (hc : 0 ≤ c ∧ c ≤ 1000000000) : offR js p q c = (offI c (redP (prD js js.length) (prN js js.length)) (redQ (prD js js.length) (prN js js.length)) p q, 0) := by rw [offR, h, k, if_pos (by rfl), if_pos hc]
set_option maxHeartbeats 4000000 in
theorem implOff_any (b n cap : Nat) (js : List (Int × Int)) (p q c : Int) (w : World) (hS : Pst w b js) (hn : n = js.length) (hbd : Bd16 js) (hp : I64 p) (hq : I64 q) (hc : I64 c) :
    Calls Try.prog 11 #[.slice (some ⟨b, 0, none⟩) n cap, .agg #[.int .i64 p, .int .i64 q], .int .i64 c] w (GivesB w (.tuple #[.int .i64 (offR js p q c).1, .int .i64 (offR js p q c).2])) := by
  have hbl := hS.1
  obtain ⟨hc1, hc2⟩ := hc
  have bE := hid (box2_bel w 28 (.int .i64 p) (.int .i64 q))
  have Q0 := hid (Row.new w 28 [.int .i64 p, .int .i64 q])
  have HS := hid hS
  have HV := hid (implValidTrain_any b n cap js _ (hS.below bE.out hbl) hn hbd)
  have HR := hid (fun w => implValidRatio_any p q hp hq w)
  cases hv : okT js with
  | false =>
    rw [offR_no1 hv]
    rw [hv] at HV
    clear hS hn hbd hv hp hq
    go_enter Try.func11, Try.ntmps11
    go_wp2_with fail
    refine HV.out.mono ?_
    rintro e w1 ⟨rfl, hB1⟩
    simp only [World.size_alloc] at hB1
    have hz1 := hB1.size
    simp only [World.size_alloc] at hz1
    have r1 := Q0.out.below hB1 (by omega)
    have b1 := hid (bE.out.trans (hB1.mono (by omega)))
    clear r1
    go_wp2_with fail
    go_ret2
    exact ⟨rfl, b1.out⟩
  | true =>
    rw [hv] at HV
    cases hk : okR p q with
    | false =>
      rw [offR_no2 hk]
      rw [hk] at HR
      clear hS hn hbd hv hp hq hk
      go_enter Try.func11, Try.ntmps11
      go_wp2_with fail
      refine HV.out.mono ?_
      rintro e w1 ⟨rfl, hB1⟩
      simp only [World.size_alloc] at hB1
      have hz1 := hB1.size
      simp only [World.size_alloc] at hz1
      have r1 := Q0.out.below hB1 (by omega)
      have b1 := hid (bE.out.trans (hB1.mono (by omega)))
      have c0 := r1.cell 0
      have c1 := r1.cell 1
      simp only [List.getElem?_cons_zero, List.getElem?_cons_succ] at c0 c1
      clear r1
      go_wp2_with fail
      refine (HR.out _).mono ?_
      rintro e w2 ⟨rfl, hB2⟩
      clear c0 c1
      go_wp2_with fail
      go_ret2
      exact ⟨rfl, b1.out.trans (hB2.mono (by omega))⟩
    | true =>
      rw [hk] at HR
      obtain ⟨o1, o2, o3, o4, _⟩ := okR_out hk
      by_cases hr : 0 ≤ c ∧ c ≤ 1000000000
      · rw [offR_yes hv hk hr, ← hn]
        have HG := hid (fun w1 (h : Pst w1 b js) => geared_any b n cap js w1 h hn hv)
        have RB := rat_bd hv
        rw [← hn] at RB
        have HO := hid (fun w => off_any c (redP (prD js n) (prN js n)) (redQ (prD js n) (prN js n)) p q (.slice (some ⟨b, 0, none⟩) n cap) hr.1 hr.2 RB.1 (by omega) RB.2.2.1 o1 o2 o3 w)
        obtain ⟨hr1, hr2⟩ := hr
        obtain ⟨z, hz⟩ : ∃ z, offI c (redP (prD js n) (prN js n)) (redQ (prD js n) (prN js n)) p q = z := ⟨_, rfl⟩
        rw [hz] at HO ⊢
        obtain ⟨x, hx⟩ : ∃ z, redP (prD js n) (prN js n) = z := ⟨_, rfl⟩
        obtain ⟨y, hy⟩ : ∃ z, redQ (prD js n) (prN js n) = z := ⟨_, rfl⟩
        rw [hx, hy] at HG HO
        clear hS hn hbd hv hx hy hz hk RB hp hq
        go_enter Try.func11, Try.ntmps11
        go_wp2_with fail
        refine HV.out.mono ?_
        rintro e w1 ⟨rfl, hB1⟩
        simp only [World.size_alloc] at hB1
        have hz1 := hB1.size
        simp only [World.size_alloc] at hz1
        have r1 := Q0.out.below hB1 (by omega)
        have b1 := hid (bE.out.trans (hB1.mono (by omega)))
        have c0 := r1.cell 0
        have c1 := r1.cell 1
        simp only [List.getElem?_cons_zero, List.getElem?_cons_succ] at c0 c1
        go_wp2_with fail
        refine (HR.out _).mono ?_
        rintro e w2 ⟨rfl, hB2⟩
        have hz2 := hB2.size
        have r2 := r1.below hB2 (by omega)
        have b2 := hid (b1.out.trans (hB2.mono (by omega)))
        clear c0 c1 r1 hB2
        go_wp2_with fail
        have l0 : w.heap.size < w2.heap.size := by omega
        have c0 := r2.cell 0
        have c1 := r2.cell 1
        simp only [List.getElem?_cons_zero, List.getElem?_cons_succ] at c0 c1
        have hb0 := Below.refl w2.heap.size w2
        have HSS := HS.out.below b2.out hbl
        have HG2 := hid (fun v (hb : Below w2.heap.size w2 v) => HG.out v (HSS.below hb (by omega)))
        clear r2
        have SOF := hid (fun (v : World) (h : Below w2.heap.size w2 v) => (And.intro ((h.cell (p := ⟨w.heap.size, 0, none⟩) l0).trans c0) ((h.cell (p := ⟨w.heap.size, 1, none⟩) l0).trans c1)))
        go_region_held3 (fun w' => w'.cell? ⟨w.heap.size, 0, none⟩ = some (.int .i64 p) ∧ w'.cell? ⟨w.heap.size, 1, none⟩ = some (.int .i64 q)) (exact SOF.out _ (by (repeat (first | assumption | refine Below.drew ?_ | refine Below.setCell ?_ (by first | omega | (simp; done) | (simp; omega)) _ | refine Below.alloc ?_ (by first | omega | (simp; done) | (simp; omega)) _))))
          ((first | (go_at_call 24; have _t := hb1; (with_reducible refine (HO.out _).mono ?_); rintro e v2 ⟨rfl, hB2⟩; have hb2 : Below w2.heap.size w2 v2 := bel_step (by (repeat (first | assumption | refine Below.drew ?_ | refine Below.setCell ?_ (by first | omega | (simp; done) | (simp; omega)) _ | refine Below.alloc ?_ (by first | omega | (simp; done) | (simp; omega)) _))) hB2; have hz2 := hb2.size; have hy2 := hB2.size; (try simp only [World.size_drew, World.size_alloc] at hy2); (first | skip)) | (go_at_call 23; have _t := hb0; (with_reducible refine (HG2.out _ (by (repeat (first | assumption | refine Below.drew ?_ | refine Below.setCell ?_ (by first | omega | (simp; done) | (simp; omega)) _ | refine Below.alloc ?_ (by first | omega | (simp; done) | (simp; omega)) _)))).mono ?_); rintro e v1 ⟨rfl, hB1⟩; have hb1 : Below w2.heap.size w2 v1 := bel_step (by (repeat (first | assumption | refine Below.drew ?_ | refine Below.setCell ?_ (by first | omega | (simp; done) | (simp; omega)) _ | refine Below.alloc ?_ (by first | omega | (simp; done) | (simp; omega)) _))) hB1; have hz1 := hb1.size; have hy1 := hB1.size; (try simp only [World.size_drew, World.size_alloc] at hy1); (first | skip))))
        go_wp2_with fail
        go_ret2
        exact ⟨rfl, b2.out.trans (hb2.mono (by omega))⟩
      · rw [offR_range hv hk hr]
        clear hS hn hbd hv hk hp hq
        by_cases h0 : c < 0
        · clear hr
          go_enter Try.func11, Try.ntmps11
          go_wp2_with fail
          refine HV.out.mono ?_
          rintro e w1 ⟨rfl, hB1⟩
          simp only [World.size_alloc] at hB1
          have hz1 := hB1.size
          simp only [World.size_alloc] at hz1
          have r1 := Q0.out.below hB1 (by omega)
          have b1 := hid (bE.out.trans (hB1.mono (by omega)))
          have c0 := r1.cell 0
          have c1 := r1.cell 1
          simp only [List.getElem?_cons_zero, List.getElem?_cons_succ] at c0 c1
          go_wp2_with fail
          refine (HR.out _).mono ?_
          rintro e w2 ⟨rfl, hB2⟩
          have hz2 := hB2.size
          have r2 := r1.below hB2 (by omega)
          have b2 := hid (b1.out.trans (hB2.mono (by omega)))
          clear c0 c1 r1 hB2
          go_wp2_with fail
          go_ret2
          exact ⟨rfl, b2.out⟩
        · have h1 : 1000000000 < c := by omega
          clear hr
          go_enter Try.func11, Try.ntmps11
          go_wp2_with fail
          refine HV.out.mono ?_
          rintro e w1 ⟨rfl, hB1⟩
          simp only [World.size_alloc] at hB1
          have hz1 := hB1.size
          simp only [World.size_alloc] at hz1
          have r1 := Q0.out.below hB1 (by omega)
          have b1 := hid (bE.out.trans (hB1.mono (by omega)))
          have c0 := r1.cell 0
          have c1 := r1.cell 1
          simp only [List.getElem?_cons_zero, List.getElem?_cons_succ] at c0 c1
          go_wp2_with fail
          refine (HR.out _).mono ?_
          rintro e w2 ⟨rfl, hB2⟩
          have hz2 := hB2.size
          have r2 := r1.below hB2 (by omega)
          have b2 := hid (b1.out.trans (hB2.mono (by omega)))
          clear c0 c1 r1 hB2
          go_wp2_with fail
          go_ret2
          exact ⟨rfl, b2.out⟩
end Go.Proofs.Ytdlcbfoghpoliaa
