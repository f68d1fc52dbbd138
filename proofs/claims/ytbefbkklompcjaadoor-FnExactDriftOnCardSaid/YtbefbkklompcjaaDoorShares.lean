/- SharesOf: the model's, the program's, the law. -/
import Derived.Test.YtbefbkklompcjaaDoorGrow
import Derived.Deep.RegionHeld3
namespace Go.Proofs.YtbefbkklompcjaaDoor
open Go.RowKit
set_option linter.unusedVariables false
set_option linter.unusedSimpArgs false
theorem oper_append_own {P : Program} (w : World) {o : Oper} {a : Act} {K : Act → World → Prop} {Q : Exit → Act → World → Prop}
    (s x : Operand) (t : TypeId) (hop : o.op = Op.call { callee := Callee.builtin Builtin.append, args := #[s, x], argTypes := #[t, t] })
    (base : Nat) (e : TypeId) (i : TypeInfo) (z : Value) (size bytes : Nat) (h1 : P.underlying t = some (.slice e)) (h2 : P.info? e = some i) (h3 : i.zero = some z) (h4 : i.size = size) (h5 : i.bytes = bytes) (h6 : z.cells.size = size) (h7 : 0 < size)
    (v : Value) (k : Nat) (xs : List Value) (hs : a.eval s = v) (hown : w.ownsRow base e size v k xs) (ad : Addr) (m c : Nat) (news : List Value) (hx : a.eval x = .slice (some ad) m c) (hn : news.length = m * size)
    (hc : ∀ j u, news[j]? = some u → w.cell? (ad.add j) = some u) (h1c : ∀ u ∈ news, u.oneCell' = true) (b1 : k + m ≤ maxLen) (b2 : (k + m) * bytes ≤ 140737488355328) (b3 : base ≤ w.heap.size)
    (hK : ∀ v' w', w'.ownsRow base e size v' (k + m) (xs ++ news) → w.grownBy w' v.ownBlock → K (a.put o.dst v') w') : Oper.wp P o a w K Q := by
  obtain ⟨v', w', hrun, r1, r2, r3⟩ := run_append_own (P := P) w base t o.type e i z size bytes h1 h2 h3 h4 h5 h6 h7 v k xs hown ad m c news hn hc h1c b1 b2 b3
  unfold Oper.wp
  simp [execOp, hop, resolve, invoke, builtin, hs, hx, hrun, Result.andThen]
  exact hK _ _ r1 r2
def shR (c d : Int) : List Int × Int := if (0 ≤ c ∧ c ≤ 1000000000000) ∧ (1 ≤ d ∧ d ≤ 400) then (grL (fun a => a * c / d) 0 d.toNat, 0) else ([], 2)
theorem shR_no {c d : Int} (h : ¬ ((0 ≤ c ∧ c ≤ 1000000000000) ∧ (1 ≤ d ∧ d ≤ 400))) : shR c d = ([], 2) := by rw [shR, if_neg h]
theorem shR_yes {c d : Int} (h : 0 ≤ c ∧ c ≤ 1000000000000) (k : 1 ≤ d ∧ d ≤ 400) : shR c d = (grL (fun a => a * c / d) 0 d.toNat, 0) := by rw [shR, if_pos ⟨h, k⟩]
theorem share_bd {c d a : Int} (hc : 0 ≤ c ∧ c ≤ 1000000000000) (hd : 1 ≤ d ∧ d ≤ 400) (h0 : 0 ≤ a) (h1 : a ≤ 400) : 0 ≤ a * c ∧ a * c ≤ 400000000000000 ∧ (a * c).tdiv d = a * c / d ∧ 0 ≤ a * c / d ∧ a * c / d ≤ 400000000000000 := by
  have p := Int.mul_nonneg h0 hc.1
  have q : a * c ≤ 400 * 1000000000000 := Int.mul_le_mul h1 hc.2 hc.1 (by omega)
  obtain ⟨e1, e2, e3⟩ := quo_bd p hd.1
  exact ⟨p, by omega, e1, e2, by omega⟩
end Go.Proofs.YtbefbkklompcjaaDoor
