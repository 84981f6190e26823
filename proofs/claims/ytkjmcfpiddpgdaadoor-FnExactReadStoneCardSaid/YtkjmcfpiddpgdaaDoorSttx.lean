/- StoneText, both sides. No conditions beyond the ranges of the kinds. -/
import Derived.Test.YtkjmcfpiddpgdaaDoorVal2
import Derived.Test.YtkjmcfpiddpgdaaDoorStr
set_option linter.unusedSimpArgs false
set_option linter.unusedVariables false
namespace Go.Proofs.YtkjmcfpiddpgdaaDoor
open Go.Sx Go.RowKit
variable {mx : Nat → Value}

variable {e : Nat → Value}

noncomputable def ILse  : List (FuncId × Func × (Nat → LM)) := [
  ]
theorem ILse_ok  : InlsOk Tryd.prog ILse := trivial

/-- The word of a corner. -/
def crW (l : List Int) (i : Nat) : List UInt8 := Lib.itoa (l.getD (i * 2) 0) ++ 44 :: Lib.itoa (l.getD (i * 2 + 1) 0)
theorem crW_len {l : List Int} {n : Nat} (h : wfl (n * 2) l) : ∀ i, i < n → (crW l i).length + [(32 : UInt8)].length ≤ 42 := fun i hi => by
  have a := h (i * 2) (by omega)
  have b := h (i * 2 + 1) (by omega)
  have := itoa_len (n := l.getD (i * 2) 0) (by omega) (by omega)
  have := itoa_len (n := l.getD (i * 2 + 1) 0) (by omega) (by omega)
  rw [crW, List.length_append, List.length_cons, List.length_singleton]; omega
def stoS (n : Nat) (l : List Int) : ByteArray := bsl (jnL (crW l) [32] n)
noncomputable def stxS (n : Nat) (l : List Int) : ByteArray := if okB n l then stoS n l else bsl []
theorem stx_no {n : Nat} {l : List Int} (h : okB n l = false) : bsl [] = stxS n l := by simp [stxS, h]
theorem stx_ok {n : Nat} {l : List Int} (h : okB n l = true) : stoS n l = stxS n l := by simp [stxS, h]

noncomputable def Est : List (FuncId × Entry) := (27, gItoa) :: (28, gJoin) :: Ev
theorem Est_ok : EntriesOk Tryd.prog (TT e) Est := ⟨e_Itoa, e_Join, Ev_ok⟩
noncomputable abbrev Cst : Ctr := ctrOfM Est Mv
theorem Cst_ok : CtrOk Tryd.prog (TT e) Cst := ctrOfM_ok Est_ok Mv_ok


def cwF (l : List Int) (k i : Nat) : Int := if i < k then encS (bsl (crW l i)) else 0
def lmStI (n : Nat) (l : List Int) : LAnn := { ι := Nat, inv := fun _ k => k ≤ n, slots := fun _ k => [(14, .a (.c (.int .i64 k)))], blks := fun _ k => [(1, [.run [.str] n (mkN n (cwF l k))])], μ := fun _ k => n - k }
theorem x_StoneTextI (m n : Nat) (l : List Int) (cap : Int) (h1 : n ≤ 1048576) (h3 : n * 2 ≤ m) (h4 : l.length = m) (hw : wfl (n * 2) l) : Fex true (TT e) (inlN true (TT e) Cst (lookI []) 4) Cst (fun _ => .inv (lmStI n l)) Tryd.f16 [.a (.c (.slc 0 0 0 2 n cap))] [.cells false 36 [.run [.i16] m l]] (fun lv _ => leL lv (.a (.c (.str (stxS n l))))) := by
  refine Go.Sx.by_eq (q := True ∧ True ∧ ((0 : Nat) = (0 : Nat) ∧ (0 : Int) = (0 : Int) ∧ (2 : Nat) = (2 : Nat) ∧ [Go.Sx.EK.i16] = [Go.Sx.EK.i16] ∧ (0 : Int) ≤ (↑n : Int) ∧ (↑n : Int) ≤ (1048576 : Int) ∧ Int.toNat (↑n : Int) * (2 : Nat) ≤ m ∧ List.length l = m ∧ ∀ (i : Nat), i < Int.toNat (↑n : Int) * (2 : Nat) → (-32768 : Int) ≤ List.getD l i (0 : Int) ∧ List.getD l i (0 : Int) ≤ (32767 : Int)) ∧ True ∧ ((!okB (Int.toNat (↑n : Int)) l) = Bool.true → True ∧ ByteArray.mk #[] = stxS n l) ∧ ((!okB (Int.toNat (↑n : Int)) l) = Bool.false → True ∧ True ∧ ((0 : Int) ≤ (↑n : Int) ∧ (↑n : Int) ≤ (↑n : Int) ∧ (↑n : Int) ≤ (9223372036854775807 : Int) ∧ (↑(16 : Nat) : Int) * (↑n : Int) ≤ (281474976710656 : Int)) ∧ True ∧ True ∧ True ∧ True ∧ (∃ (x : Nat), x ≤ n ∧ (Go.Sx.Cel.slc (0 : Nat) (0 : Nat) (0 : Int) (2 : Nat) (↑n : Int) cap = Go.Sx.Cel.slc (0 : Nat) (0 : Nat) (0 : Int) (2 : Nat) (↑n : Int) cap ∧ Go.Sx.Cel.val Go.undef = Go.Sx.Cel.val Go.undef ∧ ByteArray.mk #[] = ByteArray.mk #[] ∧ Go.Sx.Cel.slc (1 : Nat) (0 : Nat) (0 : Int) (1 : Nat) (↑n : Int) (↑n : Int) = Go.Sx.Cel.slc (1 : Nat) (0 : Nat) (0 : Int) (1 : Nat) (↑n : Int) (↑n : Int) ∧ True ∧ True ∧ Go.Sx.Cel.slc (0 : Nat) (0 : Nat) (0 : Int) (2 : Nat) (↑n : Int) cap = Go.Sx.Cel.slc (0 : Nat) (0 : Nat) (0 : Int) (2 : Nat) (↑n : Int) cap ∧ okB (Int.toNat (↑n : Int)) l = okB (Int.toNat (↑n : Int)) l ∧ (!okB (Int.toNat (↑n : Int)) l) = !okB (Int.toNat (↑n : Int)) l ∧ Go.Sx.Cel.slc (0 : Nat) (0 : Nat) (0 : Int) (2 : Nat) (↑n : Int) cap = Go.Sx.Cel.slc (0 : Nat) (0 : Nat) (0 : Int) (2 : Nat) (↑n : Int) cap ∧ (Go.IntKind.i64 = Go.IntKind.i64 ∧ (↑n : Int) = (↑n : Int)) ∧ Go.Sx.Cel.slc (1 : Nat) (0 : Nat) (0 : Int) (1 : Nat) (↑n : Int) (↑n : Int) = Go.Sx.Cel.slc (1 : Nat) (0 : Nat) (0 : Int) (1 : Nat) (↑n : Int) (↑n : Int) ∧ Go.Sx.Cel.slc (0 : Nat) (0 : Nat) (0 : Int) (2 : Nat) (↑n : Int) cap = Go.Sx.Cel.slc (0 : Nat) (0 : Nat) (0 : Int) (2 : Nat) (↑n : Int) cap ∧ (Go.IntKind.i64 = Go.IntKind.i64 ∧ (↑n : Int) = (↑n : Int)) ∧ (Go.IntKind.i64 = Go.IntKind.i64 ∧ (0 : Int) = (↑x : Int)) ∧ True ∧ True ∧ True ∧ True ∧ True ∧ True ∧ True ∧ True ∧ True ∧ True ∧ True ∧ True ∧ True ∧ True ∧ True ∧ True ∧ True ∧ True ∧ Go.Sx.Cel.val Go.undef = Go.Sx.Cel.val Go.undef ∧ Go.Sx.Cel.val Go.undef = Go.Sx.Cel.val Go.undef ∧ True) ∧ (Bool.false = Bool.false ∧ (36 : Nat) = (36 : Nat) ∧ ([Go.Sx.EK.i16] = [Go.Sx.EK.i16] ∧ m = m ∧ l = l) ∧ True) ∧ (Bool.true = Bool.true ∧ (9 : Nat) = (9 : Nat) ∧ ([Go.Sx.EK.str] = [Go.Sx.EK.str] ∧ Int.toNat (↑n : Int) * (1 : Nat) = n ∧ List.replicate (Int.toNat (↑n : Int) * (1 : Nat)) (0 : Int) = mkN n (cwF l x)) ∧ True) ∧ True) ∧ ∀ (x : Nat), x ≤ n → True ∧ (Decidable.decide ((↑x : Int) < (↑n : Int)) = Bool.true → True ∧ ((0 : Int) ≤ (↑x : Int) ∧ (↑x : Int) < (↑n : Int)) ∧ ((0 : Int) ≤ (0 : Int) + (↑x : Int) ∧ Int.toNat ((0 : Int) + (↑x : Int)) * (2 : Nat) + (0 : Nat) + (2 : Nat) ≤ m) ∧ True ∧ True ∧ True ∧ True ∧ True ∧ True ∧ True ∧ ((-9223372036854775808 : Int) ≤ List.getD (List.take (2 : Nat) (List.drop (Int.toNat ((0 : Int) + (↑x : Int)) * (2 : Nat) + (0 : Nat)) l)) (0 : Nat) (0 : Int) ∧ List.getD (List.take (2 : Nat) (List.drop (Int.toNat ((0 : Int) + (↑x : Int)) * (2 : Nat) + (0 : Nat)) l)) (0 : Nat) (0 : Int) ≤ (9223372036854775807 : Int)) ∧ ((-9223372036854775808 : Int) ≤ List.getD (List.take (2 : Nat) (List.drop (Int.toNat ((0 : Int) + (↑x : Int)) * (2 : Nat) + (0 : Nat)) l)) (0 : Nat) (0 : Int) ∧ List.getD (List.take (2 : Nat) (List.drop (Int.toNat ((0 : Int) + (↑x : Int)) * (2 : Nat) + (0 : Nat)) l)) (0 : Nat) (0 : Int) ≤ (9223372036854775807 : Int)) ∧ ByteArray.size (itoaS (List.getD (List.take (2 : Nat) (List.drop (Int.toNat ((0 : Int) + (↑x : Int)) * (2 : Nat) + (0 : Nat)) l)) (0 : Nat) (0 : Int))) + ByteArray.size (ByteArray.mk #[(44 : UInt8)]) ≤ (9223372036854775807 : Nat) ∧ True ∧ True ∧ ((-9223372036854775808 : Int) ≤ List.getD (List.take (2 : Nat) (List.drop (Int.toNat ((0 : Int) + (↑x : Int)) * (2 : Nat) + (0 : Nat)) l)) (1 : Nat) (0 : Int) ∧ List.getD (List.take (2 : Nat) (List.drop (Int.toNat ((0 : Int) + (↑x : Int)) * (2 : Nat) + (0 : Nat)) l)) (1 : Nat) (0 : Int) ≤ (9223372036854775807 : Int)) ∧ ((-9223372036854775808 : Int) ≤ List.getD (List.take (2 : Nat) (List.drop (Int.toNat ((0 : Int) + (↑x : Int)) * (2 : Nat) + (0 : Nat)) l)) (1 : Nat) (0 : Int) ∧ List.getD (List.take (2 : Nat) (List.drop (Int.toNat ((0 : Int) + (↑x : Int)) * (2 : Nat) + (0 : Nat)) l)) (1 : Nat) (0 : Int) ≤ (9223372036854775807 : Int)) ∧ ByteArray.size (itoaS (List.getD (List.take (2 : Nat) (List.drop (Int.toNat ((0 : Int) + (↑x : Int)) * (2 : Nat) + (0 : Nat)) l)) (0 : Nat) (0 : Int)) ++ ByteArray.mk #[(44 : UInt8)]) + ByteArray.size (itoaS (List.getD (List.take (2 : Nat) (List.drop (Int.toNat ((0 : Int) + (↑x : Int)) * (2 : Nat) + (0 : Nat)) l)) (1 : Nat) (0 : Int))) ≤ (9223372036854775807 : Nat) ∧ ((0 : Int) ≤ (↑x : Int) ∧ (↑x : Int) < (↑n : Int)) ∧ ((0 : Int) ≤ (0 : Int) + (↑x : Int) ∧ Int.toNat ((0 : Int) + (↑x : Int)) < n) ∧ ((-9223372036854775808 : Int) ≤ (↑x : Int) + (1 : Int) ∧ (↑x : Int) + (1 : Int) ≤ (9223372036854775807 : Int)) ∧ True ∧ ∃ (y : Nat), y ≤ n ∧ n - y < n - x ∧ (Go.Sx.Cel.slc (0 : Nat) (0 : Nat) (0 : Int) (2 : Nat) (↑n : Int) cap = Go.Sx.Cel.slc (0 : Nat) (0 : Nat) (0 : Int) (2 : Nat) (↑n : Int) cap ∧ Go.Sx.Cel.val Go.undef = Go.Sx.Cel.val Go.undef ∧ ByteArray.mk #[] = ByteArray.mk #[] ∧ Go.Sx.Cel.slc (1 : Nat) (0 : Nat) (0 : Int) (1 : Nat) (↑n : Int) (↑n : Int) = Go.Sx.Cel.slc (1 : Nat) (0 : Nat) (0 : Int) (1 : Nat) (↑n : Int) (↑n : Int) ∧ True ∧ True ∧ Go.Sx.Cel.slc (0 : Nat) (0 : Nat) (0 : Int) (2 : Nat) (↑n : Int) cap = Go.Sx.Cel.slc (0 : Nat) (0 : Nat) (0 : Int) (2 : Nat) (↑n : Int) cap ∧ okB (Int.toNat (↑n : Int)) l = okB (Int.toNat (↑n : Int)) l ∧ (!okB (Int.toNat (↑n : Int)) l) = !okB (Int.toNat (↑n : Int)) l ∧ Go.Sx.Cel.slc (0 : Nat) (0 : Nat) (0 : Int) (2 : Nat) (↑n : Int) cap = Go.Sx.Cel.slc (0 : Nat) (0 : Nat) (0 : Int) (2 : Nat) (↑n : Int) cap ∧ (Go.IntKind.i64 = Go.IntKind.i64 ∧ (↑n : Int) = (↑n : Int)) ∧ Go.Sx.Cel.slc (1 : Nat) (0 : Nat) (0 : Int) (1 : Nat) (↑n : Int) (↑n : Int) = Go.Sx.Cel.slc (1 : Nat) (0 : Nat) (0 : Int) (1 : Nat) (↑n : Int) (↑n : Int) ∧ Go.Sx.Cel.slc (0 : Nat) (0 : Nat) (0 : Int) (2 : Nat) (↑n : Int) cap = Go.Sx.Cel.slc (0 : Nat) (0 : Nat) (0 : Int) (2 : Nat) (↑n : Int) cap ∧ (Go.IntKind.i64 = Go.IntKind.i64 ∧ (↑n : Int) = (↑n : Int)) ∧ (Go.IntKind.i64 = Go.IntKind.i64 ∧ (↑x : Int) + (1 : Int) = (↑y : Int)) ∧ True ∧ True ∧ True ∧ True ∧ True ∧ True ∧ True ∧ True ∧ True ∧ True ∧ True ∧ True ∧ True ∧ True ∧ True ∧ True ∧ True ∧ True ∧ Go.Sx.Cel.val Go.undef = Go.Sx.Cel.val Go.undef ∧ Go.Sx.Cel.val Go.undef = Go.Sx.Cel.val Go.undef ∧ True) ∧ (Bool.false = Bool.false ∧ (36 : Nat) = (36 : Nat) ∧ ([Go.Sx.EK.i16] = [Go.Sx.EK.i16] ∧ m = m ∧ l = l) ∧ True) ∧ (Bool.true = Bool.true ∧ (9 : Nat) = (9 : Nat) ∧ ([Go.Sx.EK.str] = [Go.Sx.EK.str] ∧ n = n ∧ List.set (mkN n (cwF l x)) (Int.toNat ((0 : Int) + (↑x : Int))) (Go.Sx.encS (itoaS (List.getD (List.take (2 : Nat) (List.drop (Int.toNat ((0 : Int) + (↑x : Int)) * (2 : Nat) + (0 : Nat)) l)) (0 : Nat) (0 : Int)) ++ ByteArray.mk #[(44 : UInt8)] ++ itoaS (List.getD (List.take (2 : Nat) (List.drop (Int.toNat ((0 : Int) + (↑x : Int)) * (2 : Nat) + (0 : Nat)) l)) (1 : Nat) (0 : Int)))) = mkN n (cwF l y)) ∧ True) ∧ True) ∧ (Decidable.decide ((↑x : Int) < (↑n : Int)) = Bool.false → True ∧ (((0 : Nat) = (0 : Nat) ∧ (0 : Int) = (0 : Int) ∧ (1 : Nat) = (1 : Nat) ∧ [Go.Sx.EK.str] = [Go.Sx.EK.str]) ∧ (0 : Int) ≤ (↑n : Int) ∧ Int.toNat (↑n : Int) ≤ n ∧ List.length (mkN n (cwF l x)) = n ∧ (↑n : Int) ≤ (1048576 : Int) ∧ List.length (Go.Lib.join (wordsL (List.take (Int.toNat (↑n : Int)) (mkN n (cwF l x)))) (ByteArray.mk #[(32 : UInt8)]).data.toList) ≤ (140737488355328 : Nat)) ∧ True ∧ joinS (List.take (Int.toNat (↑n : Int)) (mkN n (cwF l x))) (ByteArray.mk #[(32 : UInt8)]) = stxS n l))) (by kernel_rfl) ?_
  simp only [true_and, and_true, and_self, decide_eq_true_eq, decide_eq_false_iff_not, Bool.not_eq_true', Bool.not_eq_false', Bool.not_true, Bool.not_false, beq_iff_eq, beq_eq_false_iff_ne, bne_iff_ne, bne_eq_false_iff_eq, ne_eq, not_true_eq_false, not_false_eq_true, false_implies, true_implies, implies_true, forall_const, exists_const, ↓reduceIte, Int.reduceEq, Int.toNat_natCast, Bool.false_eq_true, Bool.true_eq_false, reduceCtorEq, Int.zero_add, Nat.add_zero, Int.ofNat_eq_natCast, Int.toNat_natCast]
  refine ⟨⟨by omega, by omega, by omega, h4, hw⟩, fun q => stx_no q, fun q => ?_⟩
  have hr := okB_t.1 q
  have hi := hr.hi
  rw [Nat.mul_one]
  refine ⟨by omega, ⟨0, by omega, rfl, rfl, mkN_zero fun i hi => by rw [cwF, if_neg (by omega)]⟩, fun k hk => ⟨fun hlt => ?_, fun hge => ?_⟩⟩
  · have ba := hw (k * 2) (by omega)
    have bb := hw (k * 2 + 1) (by omega)
    have g0 : (List.take 2 (List.drop (k * 2) l)).getD 0 0 = l.getD (k * 2) 0 := by rw [getD_take' (by omega), getD_drop', Nat.add_zero]
    have g1 : (List.take 2 (List.drop (k * 2) l)).getD 1 0 = l.getD (k * 2 + 1) 0 := by rw [getD_take' (by omega), getD_drop']
    rw [g0, g1]
    have c2 : (itoaS (l.getD (k * 2) 0)).size ≤ 20 := by rw [itoaS, bsl_size]; exact itoa_len (by omega) (by omega)
    have c3 : (itoaS (l.getD (k * 2 + 1) 0)).size ≤ 20 := by rw [itoaS, bsl_size]; exact itoa_len (by omega) (by omega)
    have e1 : itoaS (l.getD (k * 2) 0) ++ (⟨#[44]⟩ : ByteArray) ++ itoaS (l.getD (k * 2 + 1) 0) = bsl (crW l k) := by
      rw [itoaS, itoaS, show (⟨#[44]⟩ : ByteArray) = bsl [44] from rfl, bsl_app, bsl_app, crW, List.append_assoc, List.singleton_append]
    have e2 : (itoaS (l.getD (k * 2) 0) ++ (⟨#[44]⟩ : ByteArray)).size ≤ 21 := by
      rw [itoaS, show (⟨#[44]⟩ : ByteArray) = bsl [44] from rfl, bsl_app, bsl_size, List.length_append, List.length_singleton]
      rw [itoaS, bsl_size] at c2; omega
    have s1 : (⟨#[44]⟩ : ByteArray).size = 1 := rfl
    rw [e1, s1]
    refine ⟨by omega, by omega, by omega, by omega, by omega, by omega, by omega, by omega, by omega, by omega, by omega, k + 1, by omega, by omega, by omega, mkN_set (fun _ => by rw [cwF, if_pos (by omega)]) fun i hi hne => ?_⟩
    by_cases c : i < k
    · rw [cwF, cwF, if_pos c, if_pos (by omega)]
    · rw [cwF, cwF, if_neg c, if_neg (by omega)]
  · obtain rfl : k = n := by omega
    have hwd : wordsL (List.take k (mkN k (cwF l k))) = (List.range k).map (crW l) := words_whole fun i hi => by rw [cwF, if_pos hi]
    have c1 := jnL_len (crW_len hw) (Nat.le_refl k)
    refine ⟨⟨by omega, Nat.le_refl _, mkN_len _ _, by omega, ?_⟩, ?_⟩
    · rw [hwd, join_range]; omega
    · rw [joinS, hwd, join_range, ← stx_ok q]; rfl

noncomputable def gStx : Entry := fun args H => match args with
  | [.a (.c (.slc id b z s len _))] => match getB H id with
    | .cells _ t [.run ks n l] => if t = 36 then some (b = 0 ∧ z = 0 ∧ s = 2 ∧ ks = [.i16] ∧ 0 ≤ len ∧ len ≤ 1048576 ∧ len.toNat * 2 ≤ n ∧ l.length = n ∧ wfl (len.toNat * 2) l, .a (.c (.str (stxS len.toNat l)))) else none
    | _ => none
  | _ => none
theorem gStx_inv {args : List LV} {H : List Blk} {p : Prop} {r : LV} (he : gStx args H = some (p, r)) (hp : p) : ∃ (id m n : Nat) (o : Bool) (l : List Int) (cap : Int),
    args = [.a (.c (.slc id 0 0 2 n cap))] ∧ getB H id = .cells o 36 [.run [.i16] m l] ∧ r = .a (.c (.str (stxS n l))) ∧ n ≤ 1048576 ∧ n * 2 ≤ m ∧ l.length = m ∧ wfl (n * 2) l := by
  unfold gStx at he
  split at he
  · split at he
    · rename_i id b z s len cap _ o t ks m l hg
      split at he
      · rename_i ht
        subst ht
        simp only [Option.some.injEq, Prod.mk.injEq] at he
        obtain ⟨rfl, rfl⟩ := he
        obtain ⟨rfl, rfl, rfl, rfl, h1, h2, h3, h4, h5⟩ := hp
        obtain ⟨n, rfl⟩ := Int.eq_ofNat_of_zero_le h1
        exact ⟨id, m, n, o, l, cap, rfl, hg, rfl, by omega, by simpa using h3, h4, by simpa using h5⟩
      · simp at he
    · simp at he
  · simp at he
theorem e_StoneTextI : EntryOk Tryd.prog (TT e) 16 gStx := by
  refine ⟨fnOk Tryd.func16 (by kernel_rfl) rfl, ?_⟩
  intro args H p r he hp n0 w0 β w vals hG hH hA
  obtain ⟨id, m, n, o, l, cap, rfl, hg, rfl, h1, h2, h3, h4⟩ := gStx_inv he hp
  exact entry_view tt_ok (inlN_ok tt_ok Cst_ok mixed (ILse_ok).ok 4) Cst_ok mixed Tryd.func16 [id] (x_StoneTextI m n l cap h1 h2 h3 h4) rfl rfl ⟨.inr (by rw [hg]; rfl), trivial⟩ hG hH hA

noncomputable def Est2 : List (FuncId × Entry) := (16, gStx) :: Ev
theorem Est2_ok : EntriesOk Tryd.prog (TT e) Est2 := ⟨e_StoneTextI, Ev_ok⟩
noncomputable abbrev Cst2 : Ctr := ctrOfM Est2 Mv
theorem Cst2_ok : CtrOk Tryd.prog (TT e) Cst2 := ctrOfM_ok Est2_ok Mv_ok

end Go.Proofs.YtkjmcfpiddpgdaaDoor
