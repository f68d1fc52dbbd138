/- impl.ReadActs. -/
import Derived.Test.YtoenefhobjpfdaaGreatDoorRaR
import Derived.Test.YtoenefhobjpfdaaGreatDoorRaN
namespace Go.Proofs.YtoenefhobjpfdaaGreatDoor
open Go.RowKit Go.Shelf
set_option linter.unusedVariables false
set_option linter.unusedSimpArgs false
set_option maxRecDepth 100000 in
set_option maxHeartbeats 2000000 in
theorem implReadActs_any (t : ByteArray) (ht : t.size ≤ 1048576) (w : World) {tS tR : TypeId} {pS pR : Value} {m : Int} {a0 a1 : Addr} (hL : LX w tS pS tR pR m a0 a1) : Calls Tryz.prog 5 #[.string t] w (RaR (rdR acWd acOk t.data.toList) w) := by
  have HRL := hid (implReadLines_any t ht w hL.1.1)
  have HLW := hid (fun W (h : Below w.heap.size w W) => hL.below h (Nat.le_refl _))
  have HBAD := hid (fun p (hp : p ∈ wLs t) hr => lined_ac.bad (t := t) hp hr)
  have HNOT := hid (fun (xs : List (Int × Int)) (hx : (wLs t).map acF = xs.map some) hn => lined_ac.not (t := t) hx hn)
  have HGOOD := hid (fun (xs : List (Int × Int)) (hx : (wLs t).map acF = xs.map some) hn => lined_ac.good (t := t) hx hn)
  have HLEN := hid (fun (xs : List (Int × Int)) (hx : (wLs t).map acF = xs.map some) => show xs.length ≤ 1048576 from by
    have := congrArg List.length hx
    simp only [List.length_map] at this
    have h2 := (wLn_len 61 t (by omega)).1
    unfold wLs at this
    rw [List.length_dropLast] at this
    omega)
  have hdt : t.toList = t.data.toList := Lib.toList_data t
  obtain ⟨R, hR⟩ : ∃ R, rdR acWd acOk t.data.toList = R := ⟨_, rfl⟩
  rw [hR] at HBAD HNOT HGOOD ⊢
  obtain ⟨l, hl⟩ : ∃ l, t.data.toList = l := ⟨_, rfl⟩
  rw [hl] at HNOT HGOOD hdt
  have HDT := hid hdt
  unfold RlQ at HRL
  clear hl hR hL ht hdt
  go_enter Tryz.func5, Tryz.ntmps5
  go_wp2_with fail
  with_reducible refine HRL.out.mono ?_
  rintro e w1 ⟨v, ok, rfl, hB, hc⟩
  have HB := hid hB
  clear hB
  rcases hc with ⟨rfl, xs, hx, hO⟩ | ⟨rfl, p, hp, hr⟩
  · have HX := hid hx
    have HO := hid (OwnA.of_owns hO (HLEN.out xs hx))
    have HTT := hid (implACT_own _ v xs w1 HO.out (HLW.out w1 HB.out))
    clear hO hx
    by_cases htx : acR xs = l
    · have HG := hid (HGOOD.out xs HX.out htx)
      have heq : ((⟨(acR xs).toArray⟩ : ByteArray).toList == t.toList) = true := by rw [Lib.toList_data, HDT.out, htx]; simp
      have heq2 : ((⟨(acR xs).toArray⟩ : ByteArray).toList != t.toList) = false := by rw [bne, heq]; rfl
      obtain ⟨T, hT⟩ : ∃ T, (⟨(acR xs).toArray⟩ : ByteArray) = T := ⟨_, rfl⟩
      rw [hT] at heq heq2 HTT
      clear htx hT
      go_wp2_with fail
      with_reducible refine HTT.out.mono ?_
      rintro e w3 ⟨rfl, hB3⟩
      have HB3 := hid hB3
      clear hB3
      go_wp2_with fail
      refine bodyPost_ret (v := .tuple #[v, .int .i64 0]) (by simp [results, Tryz.results5, go_sem]) rfl ⟨_, by rw [HG.out], ?_, HB.out.trans (HB3.out.mono HB.out.size)⟩
      rw [HG.out]
      exact HO.out.keep HB3.out
    · have HG := hid (HNOT.out xs HX.out htx)
      have heq : ((⟨(acR xs).toArray⟩ : ByteArray).toList == t.toList) = false := by rw [Lib.toList_data, HDT.out]; simpa using htx
      have heq2 : ((⟨(acR xs).toArray⟩ : ByteArray).toList != t.toList) = true := by rw [bne, heq]; rfl
      have heq3 : ¬ (⟨(acR xs).toArray⟩ : ByteArray).toList = t.toList := by simpa using heq
      obtain ⟨T, hT⟩ : ∃ T, (⟨(acR xs).toArray⟩ : ByteArray) = T := ⟨_, rfl⟩
      rw [hT] at heq heq2 heq3 HTT
      clear htx hT
      go_wp2_with fail
      with_reducible refine HTT.out.mono ?_
      rintro e w3 ⟨rfl, hB3⟩
      have HB3 := hid hB3
      clear hB3
      go_wp2_with fail
      exact bodyPost_ret (v := .tuple #[.slice none 0 0, .int .i64 5]) (by simp [results, Tryz.results5, go_sem]) rfl ⟨_, by rw [HG.out], by rw [HG.out]; exact OwnA.nil _ _ _ _, HB.out.trans (HB3.out.mono HB.out.size)⟩
  · have HG := hid (HBAD.out p hp hr)
    clear hp hr
    go_wp2_with fail
    exact bodyPost_ret (v := .tuple #[.slice none 0 0, .int .i64 5]) (by simp [results, Tryz.results5, go_sem]) rfl ⟨_, by rw [HG.out], by rw [HG.out]; exact OwnA.nil _ _ _ _, HB.out⟩
end Go.Proofs.YtoenefhobjpfdaaGreatDoor
