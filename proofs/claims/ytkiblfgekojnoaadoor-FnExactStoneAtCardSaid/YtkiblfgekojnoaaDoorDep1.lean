/- How far corners lie behind the edges of a stone. No conditions beyond the ranges of the kinds. -/
import Derived.Test.YtkiblfgekojnoaaDoorStv1
set_option linter.unusedSimpArgs false
set_option linter.unusedVariables false
namespace Go.Proofs.YtkiblfgekojnoaaDoor
open Go.Sx Go.RowKit

variable {e : Nat → Value}

theorem sd_bd {a b c : List Int} (ha : PlC a) (hb : PlC b) (hc : PlC c) : -8000000 ≤ sd a b c ∧ sd a b c ≤ 8000000 := by
  obtain ⟨a1, a2, a3, a4⟩ := ha
  obtain ⟨b1, b2, b3, b4⟩ := hb
  obtain ⟨c1, c2, c3, c4⟩ := hc
  have m1 := mul_bd (m := 2000) (a := b.getD 0 0 - a.getD 0 0) (b := c.getD 1 0 - a.getD 1 0) (by omega) (by omega) (by omega) (by omega)
  have m2 := mul_bd (m := 2000) (a := b.getD 1 0 - a.getD 1 0) (b := c.getD 0 0 - a.getD 0 0) (by omega) (by omega) (by omega) (by omega)
  unfold sd; omega

theorem x_next (n k : Nat) (cap : Int) (b : Nat) (i : Int) (s : Nat) (h0 : 0 < n) (h1 : n ≤ 1048576) (hk : k ≤ 1048576) : Fex true (TT e) (inlN true (TT e) C0 (lookI []) 4) C0 U0 Tryd.f93 [.a (.c (.slc 0 b i s n cap)), .a (.c (.int .i64 k))] [.dead] (fun lv _ => leL lv (.a (.c (.int .i64 (((k + 1) % n : Nat)))))) := by
  refine Go.Sx.by_eq (q := True ∧ True ∧ ((-9223372036854775808 : Int) ≤ (↑k : Int) + (1 : Int) ∧ (↑k : Int) + (1 : Int) ≤ (9223372036854775807 : Int)) ∧ True ∧ True ∧ (↑n : Int) ≠ (0 : Int) ∧ True ∧ Go.IntKind.i64 = Go.IntKind.i64 ∧ Int.tmod ((↑k : Int) + (1 : Int)) (↑n : Int) = (↑((k + (1 : Nat)) % n) : Int)) (by kernel_rfl) ?_
  simp only [true_and, and_true, and_self, decide_eq_true_eq, decide_eq_false_iff_not, Bool.not_eq_true', Bool.not_eq_false', Bool.not_true, Bool.not_false, beq_iff_eq, beq_eq_false_iff_ne, bne_iff_ne, bne_eq_false_iff_eq, ne_eq, not_true_eq_false, not_false_eq_true, false_implies, true_implies, implies_true, forall_const, exists_const, ↓reduceIte, Int.reduceEq, Int.toNat_natCast, Bool.false_eq_true, Bool.true_eq_false, reduceCtorEq, tmodN]
  have hm : (k + 1) % n < n := Nat.mod_lt _ h0
  exact ⟨by omega, fun h => by omega⟩
def gNx : Entry := fun args _ => match args with
  | [.a (.c (.slc _ _ _ _ len _)), .a (.c (.int .i64 k))] => some (0 < len ∧ len ≤ 1048576 ∧ 0 ≤ k ∧ k ≤ 1048576, .a (.c (.int .i64 (((k.toNat + 1) % len.toNat : Nat)))))
  | _ => none
theorem e_next : EntryOk Tryd.prog (TT e) 93 gNx := by
  refine ⟨fnOk Tryd.func93 (by kernel_rfl) rfl, ?_⟩
  intro args H p r he hp n0 w0 β w vals hG hH hA
  unfold gNx at he
  split at he
  · rename_i id b i s len cap k
    simp only [Option.some.injEq, Prod.mk.injEq] at he
    obtain ⟨rfl, rfl⟩ := he
    obtain ⟨h1, h2, h3, h4⟩ := hp
    obtain ⟨n, rfl⟩ := Int.eq_ofNat_of_zero_le (Int.le_of_lt h1)
    obtain ⟨k, rfl⟩ := Int.eq_ofNat_of_zero_le h3
    exact entry_view tt_ok (inlN_ok tt_ok C0_ok mixed (InlsOk.ok (L := []) trivial) 4) C0_ok mixed Tryd.func93 [id] (x_next n k cap b i s (by omega) (by omega) (by omega)) rfl rfl ⟨.inl rfl, trivial⟩ hG hH hA
  · simp at he

noncomputable def Ev2 : List (FuncId × Entry) := (112, gAt) :: (93, gNx) :: Ev
theorem Ev2_ok : EntriesOk Tryd.prog (TT e) Ev2 := ⟨e_at, e_next, Ev_ok⟩
noncomputable abbrev Cv2 : Ctr := ctrOfM Ev2 Mv
theorem Cv2_ok : CtrOk Tryd.prog (TT e) Cv2 := ctrOfM_ok Ev2_ok Mv_ok

/-- The greatest side of the first corners, seen from one edge; and the least of these over the first edges. -/
def grt (p q l2 : List Int) : Nat → Int
  | 0 => -9223372036854775808
  | j + 1 => max (grt p q l2 j) (sd p q (cor l2 j))
def dptG (n : Nat) (l : List Int) (n2 : Nat) (l2 : List Int) : Nat → Int
  | 0 => 9223372036854775807
  | k + 1 => min (dptG n l n2 l2 k) (grt (cor l k) (cor l ((k + 1) % n)) l2 n2)
/-- What lies where a slot points to: for annotations. -/
def Ptr.slL (st : St) (t : Nat) : List Int := match getL st.tmps t with
  | .a (.c (.ptr id _)) => match getB st.heap id with
    | .cells _ _ [.run _ _ l] => l
    | _ => []
  | _ => []
def lmDpE (n : Nat) (l : List Int) (n2 : Nat) (l2 : List Int) : LAnn := { ι := Nat, inv := fun _ k => k ≤ n, slots := fun _ k => [(7, .a (.c (.int .i64 k)))], blks := fun _ k => [(3, [.int .i64 (dptG n l n2 l2 k)])], μ := fun _ k => n - k }
def lmDpC (n2 : Nat) (l2 : List Int) : LAnn := { ι := Nat, inv := fun _ j => j ≤ n2, slots := fun st j => [(8, .a (.c (.int .i64 (grt (Ptr.slL st 6) (Ptr.slL st 7) l2 j)))), (17, .a (.c (.int .i64 j)))], blks := fun _ _ => [], μ := fun _ j => n2 - j }
noncomputable def ILdp (n : Nat) (l : List Int) (n2 : Nat) (l2 : List Int) : List (FuncId × Func × (Nat → LM)) := [
  (94, Tryd.f94, U0),
  (111, Tryd.f111, fun _ => .inv (lmDpE n l n2 l2))]
theorem ILdp_ok {n : Nat} {l : List Int} {n2 : Nat} {l2 : List Int} : InlsOk Tryd.prog (ILdp n l n2 l2) := ⟨⟨Tryd.func94, by kernel_rfl⟩, ⟨Tryd.func111, by kernel_rfl⟩, trivial⟩

theorem x_depthOf (m n : Nat) (l : List Int) (cap : Int) (h1 : n ≤ 1048576) (h3 : n * 2 ≤ m) (h4 : l.length = m) (ok : OkP n l) (m2 n2 : Nat) (l2 : List Int) (cap2 : Int) (g1 : n2 ≤ 1048576) (g3 : n2 * 2 ≤ m2) (g4 : l2.length = m2) (pl : ∀ j, j < n2 → PlC (cor l2 j)) :
    Fex true (TT e) (inlN true (TT e) Cv2 (lookI (ILdp n l n2 l2)) 4) Cv2 (fun _ => .inv (lmDpC n2 l2)) Tryd.f97 [.a (.c (.slc 0 0 0 2 n cap)), .a (.c (.slc 1 0 0 2 n2 cap2))] [.cells false 66 [.run [.i16] m l], .cells false 66 [.run [.i16] m2 l2]] (fun lv _ => leL lv (.a (.c (.int .i64 (dptG n l n2 l2 n))))) := by
  refine Go.Sx.by_eq (q := True ∧ True ∧ True ∧ True ∧ True ∧ True ∧ True ∧ True ∧ True ∧ True ∧ True ∧ True ∧ (∃ (x : Nat), x ≤ n ∧ (Go.Sx.Cel.yld (5 : Nat) = Go.Sx.Cel.yld (5 : Nat) ∧ Go.Sx.Cel.ptr (4 : Nat) (0 : Nat) = Go.Sx.Cel.ptr (4 : Nat) (0 : Nat) ∧ Go.Sx.Cel.val Go.undef = Go.Sx.Cel.val Go.undef ∧ True ∧ True ∧ Go.Sx.Cel.slc (0 : Nat) (0 : Nat) (0 : Int) (2 : Nat) (↑n : Int) cap = Go.Sx.Cel.slc (0 : Nat) (0 : Nat) (0 : Int) (2 : Nat) (↑n : Int) cap ∧ (Go.IntKind.i64 = Go.IntKind.i64 ∧ (↑n : Int) = (↑n : Int)) ∧ (Go.IntKind.i64 = Go.IntKind.i64 ∧ (0 : Int) = (↑x : Int)) ∧ True ∧ True ∧ True ∧ True ∧ True ∧ True ∧ True ∧ True ∧ True ∧ True ∧ True ∧ True ∧ True ∧ True) ∧ (Bool.false = Bool.false ∧ (66 : Nat) = (66 : Nat) ∧ ([Go.Sx.EK.i16] = [Go.Sx.EK.i16] ∧ m = m ∧ l = l) ∧ True) ∧ (Bool.false = Bool.false ∧ (66 : Nat) = (66 : Nat) ∧ ([Go.Sx.EK.i16] = [Go.Sx.EK.i16] ∧ m2 = m2 ∧ l2 = l2) ∧ True) ∧ (Bool.true = Bool.true ∧ (26 : Nat) = (26 : Nat) ∧ Go.Sx.Cel.slc (1 : Nat) (0 : Nat) (0 : Int) (2 : Nat) (↑n2 : Int) cap2 = Go.Sx.Cel.slc (1 : Nat) (0 : Nat) (0 : Int) (2 : Nat) (↑n2 : Int) cap2 ∧ True) ∧ (Bool.true = Bool.true ∧ (2 : Nat) = (2 : Nat) ∧ (Go.IntKind.i64 = Go.IntKind.i64 ∧ (9223372036854775807 : Int) = dptG n l n2 l2 x) ∧ True) ∧ (Bool.true = Bool.true ∧ (27 : Nat) = (27 : Nat) ∧ Go.Sx.Cel.slc (0 : Nat) (0 : Nat) (0 : Int) (2 : Nat) (↑n : Int) cap = Go.Sx.Cel.slc (0 : Nat) (0 : Nat) (0 : Int) (2 : Nat) (↑n : Int) cap ∧ True) ∧ (Go.LoopState.ready = Go.LoopState.ready ∧ (Option.none : Option Go.Code) = Option.none) ∧ True) ∧ ∀ (x : Nat), x ≤ n → True ∧ (Decidable.decide ((↑x : Int) < (↑n : Int)) = Bool.true → True ∧ ((0 : Int) ≤ (↑x : Int) ∧ (↑x : Int) < (↑n : Int)) ∧ ((0 : Int) ≤ (0 : Int) + (↑x : Int) ∧ Int.toNat ((0 : Int) + (↑x : Int)) * (2 : Nat) + (0 : Nat) + (2 : Nat) ≤ m) ∧ True ∧ True ∧ True ∧ True ∧ True ∧ True ∧ True ∧ ((-9223372036854775808 : Int) ≤ (↑x : Int) + (1 : Int) ∧ (↑x : Int) + (1 : Int) ≤ (9223372036854775807 : Int)) ∧ ((0 : Nat) = (0 : Nat) ∧ (0 : Int) = (0 : Int) ∧ (2 : Nat) = (2 : Nat) ∧ [Go.Sx.EK.i16] = [Go.Sx.EK.i16] ∧ (0 : Int) < (↑n : Int) ∧ (↑n : Int) ≤ (1048576 : Int) ∧ Int.toNat (↑n : Int) * (2 : Nat) ≤ m ∧ List.length l = m ∧ (0 : Int) ≤ (↑x : Int) + (1 : Int) ∧ (↑x : Int) + (1 : Int) ≤ (1048576 : Int)) ∧ True ∧ True ∧ True ∧ True ∧ True ∧ True ∧ True ∧ True ∧ (∃ (x_1 : Nat), x_1 ≤ n2 ∧ (Go.Sx.Cel.slc (0 : Nat) (0 : Nat) (0 : Int) (2 : Nat) (↑n : Int) cap = Go.Sx.Cel.slc (0 : Nat) (0 : Nat) (0 : Int) (2 : Nat) (↑n : Int) cap ∧ Go.Sx.Cel.slc (1 : Nat) (0 : Nat) (0 : Int) (2 : Nat) (↑n2 : Int) cap2 = Go.Sx.Cel.slc (1 : Nat) (0 : Nat) (0 : Int) (2 : Nat) (↑n2 : Int) cap2 ∧ Go.Sx.Cel.val Go.undef = Go.Sx.Cel.val Go.undef ∧ Go.Sx.Cel.ptr (2 : Nat) (0 : Nat) = Go.Sx.Cel.ptr (2 : Nat) (0 : Nat) ∧ (Go.IntKind.i64 = Go.IntKind.i64 ∧ (0 : Int) = (0 : Int)) ∧ Go.Sx.Cel.ptr (3 : Nat) (0 : Nat) = Go.Sx.Cel.ptr (3 : Nat) (0 : Nat) ∧ Go.Sx.Cel.ptr (7 : Nat) (0 : Nat) = Go.Sx.Cel.ptr (7 : Nat) (0 : Nat) ∧ Go.Sx.Cel.ptr (8 : Nat) (0 : Nat) = Go.Sx.Cel.ptr (8 : Nat) (0 : Nat) ∧ (Go.IntKind.i64 = Go.IntKind.i64 ∧ (-9223372036854775808 : Int) = grt (List.take (2 : Nat) (List.drop (Int.toNat ((0 : Int) + (↑x : Int)) * (2 : Nat) + (0 : Nat)) l)) (cor l (Int.toNat ((↑x : Int) + (1 : Int)) % Int.toNat (↑n : Int))) l2 x_1) ∧ Go.Sx.Cel.val Go.undef = Go.Sx.Cel.val Go.undef ∧ True ∧ Go.Sx.Cel.slc (0 : Nat) (0 : Nat) (0 : Int) (2 : Nat) (↑n : Int) cap = Go.Sx.Cel.slc (0 : Nat) (0 : Nat) (0 : Int) (2 : Nat) (↑n : Int) cap ∧ Go.Sx.Cel.fn (Go.Fn.func (111 : Nat)) [(4 : Nat)] = Go.Sx.Cel.fn (Go.Fn.func (111 : Nat)) [(4 : Nat)] ∧ (([Go.Sx.EK.i16] = [Go.Sx.EK.i16] ∧ (2 : Nat) = (2 : Nat) ∧ List.take (2 : Nat) (List.drop (Int.toNat ((0 : Int) + (↑x : Int)) * (2 : Nat) + (0 : Nat)) l) = List.take (2 : Nat) (List.drop (Int.toNat ((0 : Int) + (↑x : Int)) * (2 : Nat) + (0 : Nat)) l)) ∧ True) ∧ (([Go.Sx.EK.i16] = [Go.Sx.EK.i16] ∧ (2 : Nat) = (2 : Nat) ∧ cor l (Int.toNat ((↑x : Int) + (1 : Int)) % Int.toNat (↑n : Int)) = cor l (Int.toNat ((↑x : Int) + (1 : Int)) % Int.toNat (↑n : Int))) ∧ True) ∧ Go.Sx.Cel.slc (1 : Nat) (0 : Nat) (0 : Int) (2 : Nat) (↑n2 : Int) cap2 = Go.Sx.Cel.slc (1 : Nat) (0 : Nat) (0 : Int) (2 : Nat) (↑n2 : Int) cap2 ∧ (Go.IntKind.i64 = Go.IntKind.i64 ∧ (↑n2 : Int) = (↑n2 : Int)) ∧ (Go.IntKind.i64 = Go.IntKind.i64 ∧ (0 : Int) = (↑x_1 : Int)) ∧ True ∧ True ∧ True ∧ True ∧ True ∧ True ∧ True ∧ True ∧ True ∧ True ∧ Go.Sx.Cel.val Go.undef = Go.Sx.Cel.val Go.undef ∧ Go.Sx.Cel.val Go.undef = Go.Sx.Cel.val Go.undef ∧ Go.Sx.Cel.val Go.undef = Go.Sx.Cel.val Go.undef ∧ Go.Sx.Cel.val Go.undef = Go.Sx.Cel.val Go.undef ∧ True) ∧ (Bool.false = Bool.false ∧ (66 : Nat) = (66 : Nat) ∧ ([Go.Sx.EK.i16] = [Go.Sx.EK.i16] ∧ m = m ∧ l = l) ∧ True) ∧ (Bool.false = Bool.false ∧ (66 : Nat) = (66 : Nat) ∧ ([Go.Sx.EK.i16] = [Go.Sx.EK.i16] ∧ m2 = m2 ∧ l2 = l2) ∧ True) ∧ (Bool.true = Bool.true ∧ (26 : Nat) = (26 : Nat) ∧ Go.Sx.Cel.slc (1 : Nat) (0 : Nat) (0 : Int) (2 : Nat) (↑n2 : Int) cap2 = Go.Sx.Cel.slc (1 : Nat) (0 : Nat) (0 : Int) (2 : Nat) (↑n2 : Int) cap2 ∧ True) ∧ (Bool.true = Bool.true ∧ (2 : Nat) = (2 : Nat) ∧ (Go.IntKind.i64 = Go.IntKind.i64 ∧ dptG n l n2 l2 x = dptG n l n2 l2 x) ∧ True) ∧ (Bool.true = Bool.true ∧ (27 : Nat) = (27 : Nat) ∧ Go.Sx.Cel.slc (0 : Nat) (0 : Nat) (0 : Int) (2 : Nat) (↑n : Int) cap = Go.Sx.Cel.slc (0 : Nat) (0 : Nat) (0 : Int) (2 : Nat) (↑n : Int) cap ∧ True) ∧ (Go.LoopState.busy = Go.LoopState.busy ∧ (Option.none : Option Go.Code) = Option.none) ∧ (Bool.true = Bool.true ∧ (66 : Nat) = (66 : Nat) ∧ ([Go.Sx.EK.i16] = [Go.Sx.EK.i16] ∧ (2 : Nat) = (2 : Nat) ∧ List.take (2 : Nat) (List.drop (Int.toNat ((0 : Int) + (↑x : Int)) * (2 : Nat) + (0 : Nat)) l) = List.take (2 : Nat) (List.drop (Int.toNat ((0 : Int) + (↑x : Int)) * (2 : Nat) + (0 : Nat)) l)) ∧ True) ∧ (Bool.true = Bool.true ∧ (66 : Nat) = (66 : Nat) ∧ ([Go.Sx.EK.i16] = [Go.Sx.EK.i16] ∧ (2 : Nat) = (2 : Nat) ∧ List.take (2 : Nat) (List.drop (Int.toNat ((0 : Int) + (↑x : Int)) * (2 : Nat) + (0 : Nat)) l) = List.take (2 : Nat) (List.drop (Int.toNat ((0 : Int) + (↑x : Int)) * (2 : Nat) + (0 : Nat)) l)) ∧ True) ∧ (Bool.true = Bool.true ∧ (66 : Nat) = (66 : Nat) ∧ ([Go.Sx.EK.i16] = [Go.Sx.EK.i16] ∧ (2 : Nat) = (2 : Nat) ∧ cor l (Int.toNat ((↑x : Int) + (1 : Int)) % Int.toNat (↑n : Int)) = cor l (Int.toNat ((↑x : Int) + (1 : Int)) % Int.toNat (↑n : Int))) ∧ True) ∧ True) ∧ ∀ (x_1 : Nat), x_1 ≤ n2 → True ∧ (Decidable.decide ((↑x_1 : Int) < (↑n2 : Int)) = Bool.true → ((0 : Int) ≤ (↑x_1 : Int) ∧ (↑x_1 : Int) < (↑n2 : Int)) ∧ ((0 : Int) ≤ (0 : Int) + (↑x_1 : Int) ∧ Int.toNat ((0 : Int) + (↑x_1 : Int)) * (2 : Nat) + (0 : Nat) + (2 : Nat) ≤ m2) ∧ True ∧ True ∧ True ∧ True ∧ True ∧ True ∧ (PlC (List.take (2 : Nat) (List.drop (Int.toNat ((0 : Int) + (↑x : Int)) * (2 : Nat) + (0 : Nat)) l)) ∧ PlC (cor l (Int.toNat ((↑x : Int) + (1 : Int)) % Int.toNat (↑n : Int))) ∧ PlC (List.take (2 : Nat) (List.drop (Int.toNat ((0 : Int) + (↑x_1 : Int)) * (2 : Nat) + (0 : Nat)) l2))) ∧ True ∧ True ∧ ((-9223372036854775808 : Int) ≤ (↑x_1 : Int) + (1 : Int) ∧ (↑x_1 : Int) + (1 : Int) ≤ (9223372036854775807 : Int)) ∧ True ∧ ∃ (y : Nat), y ≤ n2 ∧ n2 - y < n2 - x_1 ∧ (Go.Sx.Cel.slc (0 : Nat) (0 : Nat) (0 : Int) (2 : Nat) (↑n : Int) cap = Go.Sx.Cel.slc (0 : Nat) (0 : Nat) (0 : Int) (2 : Nat) (↑n : Int) cap ∧ Go.Sx.Cel.slc (1 : Nat) (0 : Nat) (0 : Int) (2 : Nat) (↑n2 : Int) cap2 = Go.Sx.Cel.slc (1 : Nat) (0 : Nat) (0 : Int) (2 : Nat) (↑n2 : Int) cap2 ∧ Go.Sx.Cel.val Go.undef = Go.Sx.Cel.val Go.undef ∧ Go.Sx.Cel.ptr (2 : Nat) (0 : Nat) = Go.Sx.Cel.ptr (2 : Nat) (0 : Nat) ∧ (Go.IntKind.i64 = Go.IntKind.i64 ∧ (0 : Int) = (0 : Int)) ∧ Go.Sx.Cel.ptr (3 : Nat) (0 : Nat) = Go.Sx.Cel.ptr (3 : Nat) (0 : Nat) ∧ Go.Sx.Cel.ptr (7 : Nat) (0 : Nat) = Go.Sx.Cel.ptr (7 : Nat) (0 : Nat) ∧ Go.Sx.Cel.ptr (8 : Nat) (0 : Nat) = Go.Sx.Cel.ptr (8 : Nat) (0 : Nat) ∧ (Go.IntKind.i64 = Go.IntKind.i64 ∧ Max.max (grt (List.take (2 : Nat) (List.drop (Int.toNat ((0 : Int) + (↑x : Int)) * (2 : Nat) + (0 : Nat)) l)) (cor l (Int.toNat ((↑x : Int) + (1 : Int)) % Int.toNat (↑n : Int))) l2 x_1) (sd (List.take (2 : Nat) (List.drop (Int.toNat ((0 : Int) + (↑x : Int)) * (2 : Nat) + (0 : Nat)) l)) (cor l (Int.toNat ((↑x : Int) + (1 : Int)) % Int.toNat (↑n : Int))) (List.take (2 : Nat) (List.drop (Int.toNat ((0 : Int) + (↑x_1 : Int)) * (2 : Nat) + (0 : Nat)) l2))) = grt (List.take (2 : Nat) (List.drop (Int.toNat ((0 : Int) + (↑x : Int)) * (2 : Nat) + (0 : Nat)) l)) (cor l (Int.toNat ((↑x : Int) + (1 : Int)) % Int.toNat (↑n : Int))) l2 y) ∧ Go.Sx.Cel.val Go.undef = Go.Sx.Cel.val Go.undef ∧ True ∧ Go.Sx.Cel.slc (0 : Nat) (0 : Nat) (0 : Int) (2 : Nat) (↑n : Int) cap = Go.Sx.Cel.slc (0 : Nat) (0 : Nat) (0 : Int) (2 : Nat) (↑n : Int) cap ∧ Go.Sx.Cel.fn (Go.Fn.func (111 : Nat)) [(4 : Nat)] = Go.Sx.Cel.fn (Go.Fn.func (111 : Nat)) [(4 : Nat)] ∧ (([Go.Sx.EK.i16] = [Go.Sx.EK.i16] ∧ (2 : Nat) = (2 : Nat) ∧ List.take (2 : Nat) (List.drop (Int.toNat ((0 : Int) + (↑x : Int)) * (2 : Nat) + (0 : Nat)) l) = List.take (2 : Nat) (List.drop (Int.toNat ((0 : Int) + (↑x : Int)) * (2 : Nat) + (0 : Nat)) l)) ∧ True) ∧ (([Go.Sx.EK.i16] = [Go.Sx.EK.i16] ∧ (2 : Nat) = (2 : Nat) ∧ cor l (Int.toNat ((↑x : Int) + (1 : Int)) % Int.toNat (↑n : Int)) = cor l (Int.toNat ((↑x : Int) + (1 : Int)) % Int.toNat (↑n : Int))) ∧ True) ∧ Go.Sx.Cel.slc (1 : Nat) (0 : Nat) (0 : Int) (2 : Nat) (↑n2 : Int) cap2 = Go.Sx.Cel.slc (1 : Nat) (0 : Nat) (0 : Int) (2 : Nat) (↑n2 : Int) cap2 ∧ (Go.IntKind.i64 = Go.IntKind.i64 ∧ (↑n2 : Int) = (↑n2 : Int)) ∧ (Go.IntKind.i64 = Go.IntKind.i64 ∧ (↑x_1 : Int) + (1 : Int) = (↑y : Int)) ∧ True ∧ True ∧ True ∧ True ∧ True ∧ True ∧ True ∧ True ∧ True ∧ True ∧ Go.Sx.Cel.val Go.undef = Go.Sx.Cel.val Go.undef ∧ Go.Sx.Cel.val Go.undef = Go.Sx.Cel.val Go.undef ∧ Go.Sx.Cel.val Go.undef = Go.Sx.Cel.val Go.undef ∧ Go.Sx.Cel.val Go.undef = Go.Sx.Cel.val Go.undef ∧ True) ∧ (Bool.false = Bool.false ∧ (66 : Nat) = (66 : Nat) ∧ ([Go.Sx.EK.i16] = [Go.Sx.EK.i16] ∧ m = m ∧ l = l) ∧ True) ∧ (Bool.false = Bool.false ∧ (66 : Nat) = (66 : Nat) ∧ ([Go.Sx.EK.i16] = [Go.Sx.EK.i16] ∧ m2 = m2 ∧ l2 = l2) ∧ True) ∧ (Bool.true = Bool.true ∧ (26 : Nat) = (26 : Nat) ∧ Go.Sx.Cel.slc (1 : Nat) (0 : Nat) (0 : Int) (2 : Nat) (↑n2 : Int) cap2 = Go.Sx.Cel.slc (1 : Nat) (0 : Nat) (0 : Int) (2 : Nat) (↑n2 : Int) cap2 ∧ True) ∧ (Bool.true = Bool.true ∧ (2 : Nat) = (2 : Nat) ∧ (Go.IntKind.i64 = Go.IntKind.i64 ∧ dptG n l n2 l2 x = dptG n l n2 l2 x) ∧ True) ∧ (Bool.true = Bool.true ∧ (27 : Nat) = (27 : Nat) ∧ Go.Sx.Cel.slc (0 : Nat) (0 : Nat) (0 : Int) (2 : Nat) (↑n : Int) cap = Go.Sx.Cel.slc (0 : Nat) (0 : Nat) (0 : Int) (2 : Nat) (↑n : Int) cap ∧ True) ∧ (Go.LoopState.busy = Go.LoopState.busy ∧ (Option.none : Option Go.Code) = Option.none) ∧ (Bool.true = Bool.true ∧ (66 : Nat) = (66 : Nat) ∧ ([Go.Sx.EK.i16] = [Go.Sx.EK.i16] ∧ (2 : Nat) = (2 : Nat) ∧ List.take (2 : Nat) (List.drop (Int.toNat ((0 : Int) + (↑x : Int)) * (2 : Nat) + (0 : Nat)) l) = List.take (2 : Nat) (List.drop (Int.toNat ((0 : Int) + (↑x : Int)) * (2 : Nat) + (0 : Nat)) l)) ∧ True) ∧ (Bool.true = Bool.true ∧ (66 : Nat) = (66 : Nat) ∧ ([Go.Sx.EK.i16] = [Go.Sx.EK.i16] ∧ (2 : Nat) = (2 : Nat) ∧ List.take (2 : Nat) (List.drop (Int.toNat ((0 : Int) + (↑x : Int)) * (2 : Nat) + (0 : Nat)) l) = List.take (2 : Nat) (List.drop (Int.toNat ((0 : Int) + (↑x : Int)) * (2 : Nat) + (0 : Nat)) l)) ∧ True) ∧ (Bool.true = Bool.true ∧ (66 : Nat) = (66 : Nat) ∧ ([Go.Sx.EK.i16] = [Go.Sx.EK.i16] ∧ (2 : Nat) = (2 : Nat) ∧ cor l (Int.toNat ((↑x : Int) + (1 : Int)) % Int.toNat (↑n : Int)) = cor l (Int.toNat ((↑x : Int) + (1 : Int)) % Int.toNat (↑n : Int))) ∧ True) ∧ True) ∧ (Decidable.decide ((↑x_1 : Int) < (↑n2 : Int)) = Bool.false → True ∧ True ∧ True ∧ True ∧ True ∧ ((-9223372036854775808 : Int) ≤ (↑x : Int) + (1 : Int) ∧ (↑x : Int) + (1 : Int) ≤ (9223372036854775807 : Int)) ∧ True ∧ ∃ (y : Nat), y ≤ n ∧ n - y < n - x ∧ (Go.Sx.Cel.yld (5 : Nat) = Go.Sx.Cel.yld (5 : Nat) ∧ Go.Sx.Cel.ptr (4 : Nat) (0 : Nat) = Go.Sx.Cel.ptr (4 : Nat) (0 : Nat) ∧ Go.Sx.Cel.val Go.undef = Go.Sx.Cel.val Go.undef ∧ True ∧ True ∧ Go.Sx.Cel.slc (0 : Nat) (0 : Nat) (0 : Int) (2 : Nat) (↑n : Int) cap = Go.Sx.Cel.slc (0 : Nat) (0 : Nat) (0 : Int) (2 : Nat) (↑n : Int) cap ∧ (Go.IntKind.i64 = Go.IntKind.i64 ∧ (↑n : Int) = (↑n : Int)) ∧ (Go.IntKind.i64 = Go.IntKind.i64 ∧ (↑x : Int) + (1 : Int) = (↑y : Int)) ∧ True ∧ True ∧ True ∧ True ∧ True ∧ True ∧ True ∧ True ∧ True ∧ True ∧ True ∧ True ∧ True ∧ True) ∧ (Bool.false = Bool.false ∧ (66 : Nat) = (66 : Nat) ∧ ([Go.Sx.EK.i16] = [Go.Sx.EK.i16] ∧ m = m ∧ l = l) ∧ True) ∧ (Bool.false = Bool.false ∧ (66 : Nat) = (66 : Nat) ∧ ([Go.Sx.EK.i16] = [Go.Sx.EK.i16] ∧ m2 = m2 ∧ l2 = l2) ∧ True) ∧ (Bool.true = Bool.true ∧ (26 : Nat) = (26 : Nat) ∧ Go.Sx.Cel.slc (1 : Nat) (0 : Nat) (0 : Int) (2 : Nat) (↑n2 : Int) cap2 = Go.Sx.Cel.slc (1 : Nat) (0 : Nat) (0 : Int) (2 : Nat) (↑n2 : Int) cap2 ∧ True) ∧ (Bool.true = Bool.true ∧ (2 : Nat) = (2 : Nat) ∧ (Go.IntKind.i64 = Go.IntKind.i64 ∧ Min.min (dptG n l n2 l2 x) (grt (List.take (2 : Nat) (List.drop (Int.toNat ((0 : Int) + (↑x : Int)) * (2 : Nat) + (0 : Nat)) l)) (cor l (Int.toNat ((↑x : Int) + (1 : Int)) % Int.toNat (↑n : Int))) l2 x_1) = dptG n l n2 l2 y) ∧ True) ∧ (Bool.true = Bool.true ∧ (27 : Nat) = (27 : Nat) ∧ Go.Sx.Cel.slc (0 : Nat) (0 : Nat) (0 : Int) (2 : Nat) (↑n : Int) cap = Go.Sx.Cel.slc (0 : Nat) (0 : Nat) (0 : Int) (2 : Nat) (↑n : Int) cap ∧ True) ∧ (Go.LoopState.ready = Go.LoopState.ready ∧ (Option.none : Option Go.Code) = Option.none) ∧ True)) ∧ (Decidable.decide ((↑x : Int) < (↑n : Int)) = Bool.false → True ∧ True ∧ Go.IntKind.i64 = Go.IntKind.i64 ∧ dptG n l n2 l2 x = dptG n l n2 l2 n)) (by kernel_rfl) ?_
  have ec : ∀ i, List.take 2 (List.drop (i * 2) l) = cor l i := fun _ => rfl
  have ec2 : ∀ i, List.take 2 (List.drop (i * 2) l2) = cor l2 i := fun _ => rfl
  simp only [true_and, and_true, and_self, decide_eq_true_eq, decide_eq_false_iff_not, Bool.not_eq_true', Bool.not_eq_false', Bool.not_true, Bool.not_false, beq_iff_eq, beq_eq_false_iff_ne, bne_iff_ne, bne_eq_false_iff_eq, ne_eq, not_true_eq_false, not_false_eq_true, false_implies, true_implies, implies_true, forall_const, exists_const, ↓reduceIte, Int.reduceEq, Int.toNat_natCast, Bool.false_eq_true, Bool.true_eq_false, reduceCtorEq, Int.zero_add, Nat.add_zero, ec, ec2, Int.ofNat_eq_natCast, Int.toNat_natCast]
  refine ⟨⟨0, by omega, rfl, rfl⟩, ?_⟩
  intro k hk
  refine ⟨fun hlt => ?_, fun hge => by obtain rfl : k = n := by omega
                                       rfl⟩
  have e1 : ((k : Int) + 1).toNat = k + 1 := by omega
  simp only [e1]
  have lo := ok.lo
  have hm : (k + 1) % n < n := Nat.mod_lt _ (by omega)
  refine ⟨by omega, by omega, by omega, ⟨by omega, by omega, h3, h4, by omega, by omega⟩, ⟨0, by omega, rfl, rfl⟩, ?_⟩
  intro j hj
  refine ⟨fun hlj => ⟨by omega, by omega, ⟨ok.pl k (by omega), ok.pl _ hm, pl j (by omega)⟩, by omega, j + 1, by omega, by omega, rfl, by omega⟩, fun hgj => ⟨by omega, k + 1, by omega, by omega, by omega, ?_⟩⟩
  obtain rfl : j = n2 := by omega
  rfl

open Classical in
noncomputable def gDp : Entry := fun args H => match args with
  | [.a (.c (.slc i1 b1 z1 s1 len1 _)), .a (.c (.slc i2 b2 z2 s2 len2 _))] => match getB H i1, getB H i2 with
    | .cells _ t1 [.run k1 m1 l1], .cells _ t2 [.run k2 m2 l2] => if t1 = 66 ∧ t2 = 66 then some ((b1 = 0 ∧ z1 = 0 ∧ s1 = 2 ∧ k1 = [.i16] ∧ b2 = 0 ∧ z2 = 0 ∧ s2 = 2 ∧ k2 = [.i16]) ∧ (0 ≤ len1 ∧ len1.toNat * 2 ≤ m1 ∧ l1.length = m1 ∧ OkP len1.toNat l1) ∧ (0 ≤ len2 ∧ len2 ≤ 1048576 ∧ len2.toNat * 2 ≤ m2 ∧ l2.length = m2 ∧ ∀ j, j < len2.toNat → PlC (cor l2 j)), .a (.c (.int .i64 (dptG len1.toNat l1 len2.toNat l2 len1.toNat)))) else none
    | _, _ => none
  | _ => none
theorem gDp_inv {args : List LV} {H : List Blk} {p : Prop} {r : LV} (he : gDp args H = some (p, r)) (hp : p) : ∃ (i1 i2 : Nat) (o1 o2 : Bool) (m1 m2 n1 n2 : Nat) (l1 l2 : List Int) (c1 c2 : Int),
    args = [.a (.c (.slc i1 0 0 2 n1 c1)), .a (.c (.slc i2 0 0 2 n2 c2))] ∧ getB H i1 = .cells o1 66 [.run [.i16] m1 l1] ∧ getB H i2 = .cells o2 66 [.run [.i16] m2 l2] ∧ r = .a (.c (.int .i64 (dptG n1 l1 n2 l2 n1))) ∧
    n1 * 2 ≤ m1 ∧ l1.length = m1 ∧ OkP n1 l1 ∧ n2 ≤ 1048576 ∧ n2 * 2 ≤ m2 ∧ l2.length = m2 ∧ ∀ j, j < n2 → PlC (cor l2 j) := by
  unfold gDp at he
  split at he
  · split at he
    · rename_i hg1 hg2
      split at he
      · rename_i ht
        obtain ⟨rfl, rfl⟩ := ht
        simp only [Option.some.injEq, Prod.mk.injEq] at he
        obtain ⟨rfl, rfl⟩ := he
        obtain ⟨⟨rfl, rfl, rfl, rfl, rfl, rfl, rfl, rfl⟩, ⟨h1, h2, h3, h4⟩, ⟨h5, h6, h7, h8, h9⟩⟩ := hp
        obtain ⟨n1, rfl⟩ := Int.eq_ofNat_of_zero_le h1
        obtain ⟨n2, rfl⟩ := Int.eq_ofNat_of_zero_le h5
        exact ⟨_, _, _, _, _, _, n1, n2, _, _, _, _, rfl, hg1, hg2, rfl, by simpa using h2, h3, by simpa using h4, by omega, by simpa using h7, h8, by simpa using h9⟩
      · simp at he
    · simp at he
  · simp at he
theorem e_depthOf : EntryOk Tryd.prog (TT e) 97 gDp := by
  refine ⟨fnOk Tryd.func97 (by kernel_rfl) rfl, ?_⟩
  intro args H p r he hp n0 w0 β w vals hG hH hA
  obtain ⟨i1, i2, o1, o2, m1, m2, n1, n2, l1, l2, c1, c2, rfl, hg1, hg2, rfl, h1, h2, h3, h4, h5, h6, h7⟩ := gDp_inv he hp
  exact entry_view tt_ok (inlN_ok tt_ok Cv2_ok mixed ILdp_ok.ok 4) Cv2_ok mixed Tryd.func97 [i1, i2] (x_depthOf m1 n1 l1 c1 (by have := h3.hi; omega) h1 h2 h3 m2 n2 l2 c2 h4 h5 h6 h7) rfl rfl ⟨.inr (by rw [hg1]; rfl), .inr (by rw [hg2]; rfl), trivial⟩ hG hH hA

end Go.Proofs.YtkiblfgekojnoaaDoor
