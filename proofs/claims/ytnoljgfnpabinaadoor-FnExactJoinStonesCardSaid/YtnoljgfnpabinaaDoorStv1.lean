/- Contracts of what is told of a stone. No conditions beyond the ranges of the kinds. -/
import Derived.Test.YtnoljgfnpabinaaDoorAt1
set_option linter.unusedSimpArgs false
set_option linter.unusedVariables false
namespace Go.Proofs.YtnoljgfnpabinaaDoor
open Go.Sx Go.RowKit

variable {e : Nat → Value}

/-- What is told of a stone alone. -/
noncomputable def gV1 (R : Nat → List Int → LV) : Entry := fun args H => match args with
  | [.a (.c (.slc id b z s len _))] => match getB H id with
    | .cells _ t [.run ks n l] => if t = 35 then some (b = 0 ∧ z = 0 ∧ s = 2 ∧ ks = [.i16] ∧ 0 ≤ len ∧ len ≤ 1048576 ∧ len.toNat * 2 ≤ n ∧ l.length = n ∧ wfl (len.toNat * 2) l, R len.toNat l) else none
    | _ => none
  | _ => none
theorem gV1_inv {R : Nat → List Int → LV} {args : List LV} {H : List Blk} {p : Prop} {r : LV} (he : gV1 R args H = some (p, r)) (hp : p) : ∃ (id m n : Nat) (o : Bool) (l : List Int) (cap : Int),
    args = [.a (.c (.slc id 0 0 2 n cap))] ∧ getB H id = .cells o 35 [.run [.i16] m l] ∧ r = R n l ∧ n ≤ 1048576 ∧ n * 2 ≤ m ∧ l.length = m ∧ wfl (n * 2) l := by
  unfold gV1 at he
  split at he
  · split at he
    · rename_i id b z s len cap _ o t ks m l hg
      split at he
      · rename_i ht
        subst ht
        simp only [Option.some.injEq, Prod.mk.injEq] at he
        obtain ⟨rfl, rfl⟩ := he
        obtain ⟨rfl, rfl, rfl, rfl, h1, h2, h3, h4, h5⟩ := hp
        obtain ⟨n, rfl⟩ := Int.eq_ofNat_of_zero_le h1
        exact ⟨id, m, n, o, l, cap, rfl, hg, rfl, by omega, by simpa using h3, h4, by simpa using h5⟩
      · simp at he
    · simp at he
  · simp at he
/-- What is told of a stone and two numbers. -/
noncomputable def gV3 (R : Nat → List Int → Int → Int → LV) : Entry := fun args H => match args with
  | [.a (.c (.slc id b z s len _)), .a (.c (.int .i64 x)), .a (.c (.int .i64 y))] => match getB H id with
    | .cells _ t [.run ks n l] => if t = 35 then some (b = 0 ∧ z = 0 ∧ s = 2 ∧ ks = [.i16] ∧ 0 ≤ len ∧ len ≤ 1048576 ∧ len.toNat * 2 ≤ n ∧ l.length = n ∧ wfl (len.toNat * 2) l, R len.toNat l x y) else none
    | _ => none
  | _ => none
theorem gV3_inv {R : Nat → List Int → Int → Int → LV} {args : List LV} {H : List Blk} {p : Prop} {r : LV} (he : gV3 R args H = some (p, r)) (hp : p) : ∃ (id m n : Nat) (o : Bool) (l : List Int) (cap x y : Int),
    args = [.a (.c (.slc id 0 0 2 n cap)), .a (.c (.int .i64 x)), .a (.c (.int .i64 y))] ∧ getB H id = .cells o 35 [.run [.i16] m l] ∧ r = R n l x y ∧ n ≤ 1048576 ∧ n * 2 ≤ m ∧ l.length = m ∧ wfl (n * 2) l := by
  unfold gV3 at he
  split at he
  · split at he
    · rename_i id b z s len cap x y _ o t ks m l hg
      split at he
      · rename_i ht
        subst ht
        simp only [Option.some.injEq, Prod.mk.injEq] at he
        obtain ⟨rfl, rfl⟩ := he
        obtain ⟨rfl, rfl, rfl, rfl, h1, h2, h3, h4, h5⟩ := hp
        obtain ⟨n, rfl⟩ := Int.eq_ofNat_of_zero_le h1
        exact ⟨id, m, n, o, l, cap, x, y, rfl, hg, rfl, by omega, by simpa using h3, h4, by simpa using h5⟩
      · simp at he
    · simp at he
  · simp at he

end Go.Proofs.YtnoljgfnpabinaaDoor
