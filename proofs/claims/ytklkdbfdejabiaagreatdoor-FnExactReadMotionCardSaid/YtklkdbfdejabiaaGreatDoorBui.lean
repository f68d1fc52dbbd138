/- strings.Builder in memory of its own; numbers as texts. -/
import Derived.Test.YtklkdbfdejabiaaGreatDoorTxG
import Derived.Shelf.Strings.BuilderK
namespace Go.Proofs.YtklkdbfdejabiaaGreatDoor
open Go.RowKit Go.Shelf
set_option linter.unusedVariables false
set_option linter.unusedSimpArgs false
def renB : Go.Shelf.Ren := ⟨fun | 166 => 52 | 169 => 53 | 240 => 70 | 276 => 88 | n => n, fun | 0 => 0 | 3 => 3 | 4 => 4 | 5 => 5 | 9 => 9 | 20 => 20 | 37 => 22 | 70 => 89 | 72 => 91 | 75 => 62 | 80 => 95 | 127 => 113 | 164 => 125 | n => n, fun | n => n⟩
theorem laysW : Lays.n166 Tryz.prog renB := {
  mixed := by kernel_rfl
  f166 := by kernel_rfl
  f240 := by kernel_rfl
  f276 := by kernel_rfl
  t0 := by kernel_rfl
  a0 := fun _ => by kernel_rfl
  z0 := fun _ => by kernel_rfl
  v0 := fun _ => by kernel_rfl
  t3 := by kernel_rfl
  a3 := fun _ => by kernel_rfl
  z3 := fun _ => by kernel_rfl
  v3 := fun _ => by kernel_rfl
  t4 := by kernel_rfl
  a4 := fun _ => by kernel_rfl
  z4 := fun _ => by kernel_rfl
  v4 := fun _ => by kernel_rfl
  t9 := by kernel_rfl
  a9 := fun _ => by kernel_rfl
  z9 := fun _ => by kernel_rfl
  v9 := fun _ => by kernel_rfl
  t20 := by kernel_rfl
  a20 := fun _ => by kernel_rfl
  z20 := fun _ => by kernel_rfl
  v20 := fun _ => by kernel_rfl
  t37 := by kernel_rfl
  a37 := fun _ => by kernel_rfl
  z37 := fun _ => by kernel_rfl
  v37 := fun _ => by kernel_rfl
  t70 := by kernel_rfl
  a70 := fun _ => by kernel_rfl
  z70 := fun _ => by kernel_rfl
  v70 := fun _ => by kernel_rfl
  t72 := by kernel_rfl
  a72 := fun _ => by kernel_rfl
  z72 := fun _ => by kernel_rfl
  v72 := fun _ => by kernel_rfl
  t75 := by kernel_rfl
  a75 := fun _ => by kernel_rfl
  z75 := fun _ => by kernel_rfl
  v75 := fun _ => by kernel_rfl
  t164 := by kernel_rfl
  a164 := fun _ => by kernel_rfl
  z164 := fun _ => by kernel_rfl
  v164 := fun _ => by kernel_rfl }
theorem laysS : Lays.n169 Tryz.prog renB := {
  mixed := by kernel_rfl
  f169 := by kernel_rfl
  t0 := by kernel_rfl
  a0 := fun _ => by kernel_rfl
  z0 := fun _ => by kernel_rfl
  v0 := fun _ => by kernel_rfl
  t3 := by kernel_rfl
  a3 := fun _ => by kernel_rfl
  z3 := fun _ => by kernel_rfl
  v3 := fun _ => by kernel_rfl
  t9 := by kernel_rfl
  a9 := fun _ => by kernel_rfl
  z9 := fun _ => by kernel_rfl
  v9 := fun _ => by kernel_rfl
  t37 := by kernel_rfl
  a37 := fun _ => by kernel_rfl
  z37 := fun _ => by kernel_rfl
  v37 := fun _ => by kernel_rfl
  t70 := by kernel_rfl
  a70 := fun _ => by kernel_rfl
  z70 := fun _ => by kernel_rfl
  v70 := fun _ => by kernel_rfl
  t72 := by kernel_rfl
  a72 := fun _ => by kernel_rfl
  z72 := fun _ => by kernel_rfl
  v72 := fun _ => by kernel_rfl
  t127 := by kernel_rfl
  a127 := fun _ => by kernel_rfl
  z127 := fun _ => by kernel_rfl
  v127 := fun _ => by kernel_rfl }
theorem extraB : Builder.Extra Tryz.prog renB := {
  sizeBuilder := by kernel_rfl
  liesBuilder := by kernel_rfl
  t5 := by kernel_rfl
  a5 := fun _ => by kernel_rfl
  z5 := fun _ => by kernel_rfl
  v5 := fun _ => by kernel_rfl
  infoByte := by kernel_rfl
  cellsByte := by kernel_rfl
  sizeByte := by kernel_rfl
  neB5 := by decide }
theorem tab_belowO {W W' : World} {B : Nat} (h : Lib.TabIs Tryz.prog W "internal/strconv.uint64pow10" .u64 Lib.pow10Tab) (hb : Below B W W') (hB : 5 < B) : Lib.TabIs Tryz.prog W' "internal/strconv.uint64pow10" .u64 Lib.pow10Tab := var?_below hb (by kernel_rfl) hB h
theorem itoa_bigO (z : Int) (h : 0 ≤ z ∧ z ≤ 1000000000000) : (Lib.itoa z).length ≤ 14 := by
  obtain ⟨n, rfl⟩ : ∃ n : Nat, z = (n : Int) := ⟨z.toNat, by omega⟩
  rw [itoa_nat]
  exact dec_len 13 n (by omega)
theorem pad1O (z : Int) (h : 0 ≤ z) : padZ 1 (Lib.itoa z) = Lib.itoa z := by
  have e : ∀ l : List UInt8, 1 ≤ l.length → padZ 1 l = l := fun l hl => by rw [padZ, Nat.sub_eq_zero_of_le hl]; rfl
  apply e
  obtain ⟨m, rfl⟩ : ∃ m : Nat, z = (m : Int) := ⟨z.toNat, by omega⟩
  rw [itoa_nat, Lib.decDigits]
  split <;> simp
theorem dec_i64O (z : Int) (h : 0 ≤ z ∧ z ≤ 1000000000000) (w : World) (ht : Lib.TabIs Tryz.prog w "internal/strconv.uint64pow10" .u64 Lib.pow10Tab) : Calls Tryz.prog 50 #[.int .i64 z, .int .i64 1] w fun e w' => e = .returned (.string ⟨(Lib.itoa z).toArray⟩) ∧ Below w.heap.size w w' := by
  have := decimal64_any z (by omega) 1 (by omega) (by have := itoa_bigO z h; omega) w (fmt_tab z (by omega) (by omega) w ht)
  rw [pad1O z h.1] at this
  exact this
theorem app4 (A C : List UInt8) : (⟨A.toArray⟩ : ByteArray) ++ ⟨#[32]⟩ ++ ⟨C.toArray⟩ ++ ⟨#[10]⟩ = ⟨(A ++ [32] ++ C ++ [10]).toArray⟩ := by
  rw [show (⟨#[32]⟩ : ByteArray) = ⟨([32] : List UInt8).toArray⟩ from rfl, show (⟨#[10]⟩ : ByteArray) = ⟨([10] : List UInt8).toArray⟩ from rfl, app_mk, app_mk, app_mk]
theorem byte_app (a b : List UInt8) : Lib.byteCells a ++ Lib.strCells ⟨b.toArray⟩ = Lib.byteCells (a ++ b) := by simp [Lib.byteCells, Lib.strCells]
/-- a builder in memory of its own holds these bytes -/
def BuS (w : World) (b : Nat) (l : List UInt8) : Prop := b < w.heap.size ∧ Lib.IsBuilderF 91 5 b b (Lib.byteCells l) w
theorem BuS.below {w w' : World} {b : Nat} {l : List UInt8} (h : BuS w b l) (hb : Below w.heap.size w w') (_ : b < w.heap.size) : BuS w' b l := by
  refine ⟨Nat.lt_of_lt_of_le h.1 hb.size, ?_⟩
  have key : ∀ p, Lib.BuilderAtF 91 5 b b p (Lib.byteCells l) w → Lib.BuilderAtF 91 5 b b p (Lib.byteCells l) w' := fun p hp => by
    obtain ⟨hB, v, hbk, hown, hne⟩ := hp
    refine ⟨hB, v, (hb.block b h.1).trans hbk, ⟨hown.1, ?_⟩, hne⟩
    rcases hown.2 with h0 | ⟨g, cap, cur, fz, hv, h2, h3, h4⟩
    · exact .inl h0
    · exact .inr ⟨g, cap, cur, fz, hv, h2, (hb.block g (lt_of_block h3)).trans h3, h4⟩
  exact h.2.elim (fun x => .inl (key _ x)) (fun x => .inr (key _ x))
theorem BuS.new (w : World) : BuS (w.alloc (.cells #[.pointer none, .slice none 0 0] 91)) w.heap.size [] := by
  refine ⟨by simp, Lib.IsBuilderF.of (.inl ⟨Nat.le_refl _, .slice none 0 0, heap_alloc_new w _, ⟨rfl, .inl ⟨rfl, rfl⟩⟩, by simp [Value.ownBlock]⟩)⟩
theorem write_any (b : Nat) (l s : List UInt8) (w : World) (h : BuS w b l) (hl : l.length + s.length ≤ 100000) :
    Calls Tryz.prog 52 #[.pointer (some ⟨b, 0, none⟩), .string ⟨s.toArray⟩] w fun e w' => e = .returned (.tuple #[.int .i64 s.length, .nilIface]) ∧ BuS w' b (l ++ s) ∧ Below b w w' ∧ Lib.OthersKept 5 (some b) w w' := by
  have := Any.Builder_WriteString_k laysW extraB b b (Lib.byteCells l) ⟨s.toArray⟩ w h.2 (by simp [Lib.byteCells, ByteArray.size]; omega) (Nat.le_of_lt h.1)
  refine this.mono ?_
  rintro e w' ⟨rfl, h1, h2, h3⟩
  refine ⟨by simp [ByteArray.size], ⟨Nat.lt_of_lt_of_le h.1 h2.size, ?_⟩, h2, h3⟩
  rw [← byte_app]
  exact .inr h1
theorem bstring_any (b : Nat) (l : List UInt8) (w : World) (h : BuS w b l) :
    Calls Tryz.prog 53 #[.pointer (some ⟨b, 0, none⟩)] w fun e w' => e = .returned (.string ⟨l.toArray⟩) ∧ Below b w w' :=
  (Any.Builder_String_any_k laysS extraB b b l w h.2 (Nat.le_of_lt h.1)).mono fun e w' h => ⟨h.1, h.2.2.1⟩
theorem row_others {w w' : World} {g b : Nat} {e e' : TypeId} {xs : List Value} (h : Row w g e xs) (ho : Lib.OthersKept e' (some b) w w') (hg : g ≠ b) (he : e ≠ e') : Row w' g e xs :=
  ho g _ h (fun x => hg (Option.some.inj x)) (fun c fz x => he (by cases x; rfl))
end Go.Proofs.YtklkdbfdejabiaaGreatDoor
