/- Strings as lists of bytes; decimal numerals and joined words as the shelf's contracts tell them. No conditions beyond the ranges of the kinds. -/
import Derived.Test.YtghphlgfgblbeaaDoorI64
import Derived.Shelf.Strconv.Itoa4
import Derived.Lib.Join
import Derived.Lib.ItoaNum
import Derived.WalkSmall
set_option linter.unusedSimpArgs false
set_option linter.unusedVariables false
namespace Go.Proofs.YtghphlgfgblbeaaDoor
open Go.Sx Go.RowKit


/-- A string by its bytes. -/
def bsl (l : List UInt8) : ByteArray := ⟨l.toArray⟩
theorem bsl_app (a b : List UInt8) : bsl a ++ bsl b = bsl (a ++ b) := by
  have : (bsl a ++ bsl b).data = (bsl (a ++ b)).data := by
    rw [show (bsl a ++ bsl b).data = (bsl a).data ++ (bsl b).data from ByteArray.data_append ..]
    simp [bsl]
  cases h1 : bsl a ++ bsl b with | mk d1 => cases h2 : bsl (a ++ b) with | mk d2 => rw [h1, h2] at this; exact congrArg ByteArray.mk this
theorem bsl_size (a : List UInt8) : (bsl a).size = a.length := by simp [bsl, ByteArray.size]
theorem bsl_list (a : List UInt8) : (bsl a).data.toList = a := rfl
theorem bsl_of (s : ByteArray) : bsl s.data.toList = s := rfl
theorem bsl_empty : ByteArray.empty = bsl [] := rfl
theorem bsl_nil : (⟨#[]⟩ : ByteArray) = bsl [] := rfl
theorem bstr_bsl : ∀ l : List Int, bstr l = bsl (l.map fun n => UInt8.ofNat n.toNat) := by
  suffices h : ∀ (l : List Int) (a : ByteArray), l.foldl (fun r n => r.push (UInt8.ofNat n.toNat)) a = a ++ bsl (l.map fun n => UInt8.ofNat n.toNat) by
    intro l
    rw [bstr, h, bsl_empty, bsl_app, List.nil_append]
  intro l
  induction l with
  | nil => intro a; rw [List.foldl_nil, List.map_nil, ← bsl_of a, bsl_app, List.append_nil]
  | cons n r ih =>
    intro a
    rw [List.foldl_cons, ih, List.map_cons, ← bsl_of a]
    have e : (bsl a.data.toList).push (UInt8.ofNat n.toNat) = bsl (a.data.toList ++ [UInt8.ofNat n.toNat]) := by
      simp only [bsl, ByteArray.push, ByteArray.mk.injEq]
      exact Array.toList_inj.1 (by simp)
    rw [e, bsl_app, bsl_app, List.append_assoc]; rfl

/-! ### Numerals -/
def itoaS (n : Int) : ByteArray := bsl (Lib.itoa n)
theorem itoa_nat (n : Nat) : Lib.itoa (n : Int) = Lib.decDigits n := by
  rw [Lib.itoa, if_neg (by omega), Int.toNat_natCast]
theorem itoa_one {n : Int} (h : 0 ≤ n) (h2 : n < 10) : Lib.itoa n = [UInt8.ofNat (48 + n).toNat] := by
  obtain ⟨k, rfl⟩ := Int.eq_ofNat_of_zero_le h
  rw [itoa_nat, Lib.decDigits, dif_pos (by omega), show (48 + (k : Int)).toNat = 48 + k by omega]
theorem itoa_more {n : Int} (h : 10 ≤ n) : Lib.itoa n = Lib.itoa (n / 10) ++ [UInt8.ofNat (48 + n % 10).toNat] := by
  obtain ⟨k, rfl⟩ := Int.eq_ofNat_of_zero_le (show 0 ≤ n by omega)
  rw [itoa_nat, Lib.decDigits, dif_neg (by omega), show ((k : Int) / 10) = ((k / 10 : Nat) : Int) by omega, itoa_nat, show (48 + (k : Int) % 10).toNat = 48 + k % 10 by omega]
theorem itoa_neg {n : Int} (h : n < 0) : Lib.itoa n = 45 :: Lib.itoa (-n) := by
  rw [Lib.itoa, if_pos h, Lib.itoa, if_neg (by omega), show (-n).toNat = n.natAbs by omega]
theorem nDig_le : ∀ (k u : Nat), u < 10 ^ (k + 1) → Lib.nDigits u ≤ k + 1
  | 0, u, h => by rw [Lib.nDigits_small (by simpa using h)]; omega
  | k + 1, u, h => by
    by_cases c : u < 10
    · rw [Lib.nDigits_small c]; omega
    · rw [Lib.nDigits_big c]
      have := nDig_le k (u / 10) (by rw [Nat.pow_succ] at h; omega)
      omega
theorem itoa_len {n : Int} (h : -9223372036854775808 ≤ n) (h2 : n ≤ 9223372036854775807) : (Lib.itoa n).length ≤ 20 := by
  unfold Lib.itoa
  split
  · rw [List.length_cons, Lib.decDigits_length]
    have := nDig_le 18 n.natAbs (by omega)
    omega
  · rw [Lib.decDigits_length]
    have := nDig_le 18 n.toNat (by omega)
    omega

theorem Below_grow (w : World) (os : Array Obj) : Below w.heap.size w (Sort.grow w os) := ⟨rfl, rfl, rfl, by simp, fun k hk => Sort.heap_grow_old w os hk⟩
theorem pow_tab {w0 : Base} {n0 : Nat} {β : List Nat} {H : List Blk} {w : World} (hG : GOk TT w0) (hH : HR n0 w0 β H w) : Lib.TabIs Tryd.prog w "internal/strconv.uint64pow10" .u64 Lib.pow10Tab := by
  obtain ⟨t, fr, cs, h1, _, _, h4⟩ := hG 0 (.int .u64 1) rfl w hH.ext
  have h4 := h4 _ rfl
  have hn : Tryd.prog.globalNamed "internal/strconv.uint64pow10" = some 0 := by kernel_rfl
  unfold Lib.TabIs World.var?
  rw [hn, Option.bind_some, h1]
  simp only [Option.some.injEq]
  rw [← h4]
def layFormat_ren : Go.Shelf.Ren := ⟨fun | 173 => 14 | 246 => 21 | 283 => 23 | 284 => 24 | 285 => 25 | 286 => 26 | 129 => 28 | 317 => 27 | 318 => 29 | 319 => 30 | 320 => 31 | 337 => 32 | 338 => 33 | n => n, fun | 2 => 2 | 3 => 3 | 9 => 9 | 4 => 4 | 171 => 49 | 0 => 0 | 53 => 50 | 37 => 32 | 5 => 5 | 173 => 53 | 212 => 57 | 51 => 58 | 20 => 20 | 213 => 59 | 46 => 61 | 232 => 64 | 233 => 65 | n => n, fun | 17 => 0 | 18 => 1 | 19 => 2 | n => n⟩
theorem layFormat : Go.Proofs.LaysM.n173 Tryd.prog layFormat_ren := {
  mixed := by kernel_rfl
  f129 := Tryd.func28.trans (congrArg some (by kernel_rfl))
  f173 := Tryd.func14.trans (congrArg some (by kernel_rfl))
  f246 := Tryd.func21.trans (congrArg some (by kernel_rfl))
  f283 := Tryd.func23.trans (congrArg some (by kernel_rfl))
  f284 := Tryd.func24.trans (congrArg some (by kernel_rfl))
  f285 := Tryd.func25.trans (congrArg some (by kernel_rfl))
  f286 := Tryd.func26.trans (congrArg some (by kernel_rfl))
  f317 := Tryd.func27.trans (congrArg some (by kernel_rfl))
  f318 := Tryd.func29.trans (congrArg some (by kernel_rfl))
  f319 := Tryd.func30.trans (congrArg some (by kernel_rfl))
  f320 := Tryd.func31.trans (congrArg some (by kernel_rfl))
  f337 := Tryd.func32.trans (congrArg some (by kernel_rfl))
  f338 := Tryd.func33.trans (congrArg some (by kernel_rfl))
  t0 := Tryd.underlying0
  a0 := Tryd.isAgg0
  z0 := Tryd.sizeOf0
  v0 := Tryd.zeroValue0
  t2 := Tryd.underlying2
  a2 := Tryd.isAgg2
  z2 := Tryd.sizeOf2
  v2 := Tryd.zeroValue2
  t3 := Tryd.underlying3
  a3 := Tryd.isAgg3
  z3 := Tryd.sizeOf3
  v3 := Tryd.zeroValue3
  t4 := Tryd.underlying4
  a4 := Tryd.isAgg4
  z4 := Tryd.sizeOf4
  v4 := Tryd.zeroValue4
  t5 := Tryd.underlying5
  a5 := Tryd.isAgg5
  z5 := Tryd.sizeOf5
  v5 := Tryd.zeroValue5
  t9 := Tryd.underlying9
  a9 := Tryd.isAgg9
  z9 := Tryd.sizeOf9
  v9 := Tryd.zeroValue9
  t20 := Tryd.underlying20
  a20 := Tryd.isAgg20
  z20 := Tryd.sizeOf20
  v20 := Tryd.zeroValue20
  t37 := Tryd.underlying32
  a37 := Tryd.isAgg32
  z37 := Tryd.sizeOf32
  v37 := Tryd.zeroValue32
  t46 := Tryd.underlying61
  a46 := Tryd.isAgg61
  z46 := Tryd.sizeOf61
  v46 := Tryd.zeroValue61
  t51 := Tryd.underlying58
  a51 := Tryd.isAgg58
  z51 := Tryd.sizeOf58
  v51 := Tryd.zeroValue58
  t53 := Tryd.underlying50
  a53 := Tryd.isAgg50
  z53 := Tryd.sizeOf50
  v53 := Tryd.zeroValue50
  t171 := Tryd.underlying49
  a171 := Tryd.isAgg49
  z171 := Tryd.sizeOf49
  v171 := Tryd.zeroValue49
  t173 := Tryd.underlying53
  a173 := Tryd.isAgg53
  z173 := Tryd.sizeOf53
  v173 := Tryd.zeroValue53
  t212 := Tryd.underlying57
  a212 := Tryd.isAgg57
  z212 := Tryd.sizeOf57
  v212 := Tryd.zeroValue57
  t213 := Tryd.underlying59
  a213 := Tryd.isAgg59
  z213 := Tryd.sizeOf59
  t232 := Tryd.underlying64
  a232 := Tryd.isAgg64
  z232 := Tryd.sizeOf64
  v232 := Tryd.zeroValue64
  t233 := Tryd.underlying65
  a233 := Tryd.isAgg65
  z233 := Tryd.sizeOf65
  v233 := Tryd.zeroValue65
  g17 := by kernel_rfl
  g18 := by kernel_rfl
  g19 := by kernel_rfl
  i0 := by kernel_rfl
  i2 := by kernel_rfl
  i3 := by kernel_rfl
  i4 := by kernel_rfl
  i5 := by kernel_rfl
  i9 := by kernel_rfl
  i20 := by kernel_rfl
  i37 := by kernel_rfl
  i46 := by kernel_rfl
  i51 := by kernel_rfl
  i53 := by kernel_rfl
  i171 := by kernel_rfl
  i173 := by kernel_rfl
  i212 := by kernel_rfl
  i232 := by kernel_rfl
  i233 := by kernel_rfl
  m17 := by kernel_rfl
  m18 := by kernel_rfl
  m19 := by kernel_rfl }

def gFormat : Entry := fun args _ => match args with
  | [.a (.c (.int .i64 n)), .a (.c (.lit .i64 10))] => some (-9223372036854775808 ≤ n ∧ n ≤ 9223372036854775807, .a (.c (.str (itoaS n))))
  | [.a (.c (.int .i64 n)), .a (.c (.int .i64 b))] => some (b = 10 ∧ -9223372036854775808 ≤ n ∧ n ≤ 9223372036854775807, .a (.c (.str (itoaS n))))
  | _ => none
theorem e_Format : EntryOk Tryd.prog TT 14 gFormat := by
  refine ⟨fnOk Tryd.func14 (by kernel_rfl) rfl, ?_⟩
  intro args H p r he hp n0 w0 β w vals hG hH hA
  have key : ∀ {n : Int} {v1 v2 : Value} {rest : List Value}, -9223372036854775808 ≤ n ∧ n ≤ 9223372036854775807 → vals.toList = v1 :: v2 :: rest → v1 = .int .i64 n → v2 = .int .i64 10 → rest = [] →
      Calls Tryd.prog 14 vals w fun e w' => ∃ v, e = .returned v ∧ Below w.heap.size w w' ∧ LVR β (.a (.c (.str (itoaS n)))) v := by
    rintro n v1 v2 rest hb ev rfl rfl rfl
    obtain rfl : vals = #[.int .i64 n, .int .i64 10] := Array.toList_inj.1 ev
    refine (Any.strconv_FormatInt_10 layFormat n hb.1 hb.2 w (pow_tab hG hH)).mono ?_
    rintro e w' ⟨rfl, k, os, rfl⟩
    exact ⟨_, rfl, (below_drewN (Below.refl _ _) k).trans (Below_grow (w.drewN k) os), rfl⟩
  unfold gFormat at he
  split at he
  · simp only [Option.some.injEq, Prod.mk.injEq] at he
    obtain ⟨rfl, rfl⟩ := he
    obtain ⟨v, rest, ev, hv, v2, r2, rfl, hv2, hr⟩ := hA
    exact key hp ev hv hv2 hr
  · simp only [Option.some.injEq, Prod.mk.injEq] at he
    obtain ⟨rfl, rfl⟩ := he
    obtain ⟨rfl, hp⟩ := hp
    obtain ⟨v, rest, ev, hv, v2, r2, rfl, hv2, hr⟩ := hA
    exact key hp ev hv hv2 hr
  · simp at he

/-! ### Words -/
def wordsL (l : List Int) : List (List UInt8) := l.map fun n => (decS n).data.toList
def joinS (l : List Int) (sep : ByteArray) : ByteArray := bsl (Lib.join (wordsL l) sep.data.toList)
/-- Words, one behind the other, with a separator between. -/
def jnL (W : Nat → List UInt8) (sep : List UInt8) : Nat → List UInt8
  | 0 => []
  | 1 => W 0
  | k + 2 => jnL W sep (k + 1) ++ (sep ++ W (k + 1))
theorem jnL_one (W : Nat → List UInt8) (sep : List UInt8) : jnL W sep 1 = W 0 := rfl
theorem jnL_succ (W : Nat → List UInt8) (sep : List UInt8) {k : Nat} (h : 1 ≤ k) : jnL W sep (k + 1) = jnL W sep k ++ (sep ++ W k) := by
  obtain ⟨k, rfl⟩ := Nat.exists_eq_add_of_le' h
  rfl
theorem jnL_len {W : Nat → List UInt8} {sep : List UInt8} {c n : Nat} (h : ∀ i, i < n → (W i).length + sep.length ≤ c) : ∀ {k : Nat}, k ≤ n → (jnL W sep k).length ≤ c * k
  | 0, _ => Nat.zero_le _
  | 1, hk => by have := h 0 (by omega); rw [jnL_one]; omega
  | k + 2, hk => by
    have h1 := jnL_len h (k := k + 1) (by omega)
    have h2 := h (k + 1) (by omega)
    rw [jnL, List.length_append, List.length_append, Nat.mul_succ c (k + 1)]
    omega
theorem jnL_congr {W V : Nat → List UInt8} {sep : List UInt8} {n : Nat} (h : ∀ i, i < n → W i = V i) : ∀ {k : Nat}, k ≤ n → jnL W sep k = jnL V sep k
  | 0, _ => rfl
  | 1, hk => h 0 (by omega)
  | k + 2, hk => by rw [jnL, jnL, jnL_congr h (by omega), h (k + 1) (by omega)]
theorem join_range (W : Nat → List UInt8) (sep : List UInt8) : ∀ n, Lib.join ((List.range n).map W) sep = jnL W sep n
  | 0 => rfl
  | 1 => Lib.join_one _ _
  | n + 2 => by
    have ih := join_range W sep (n + 1)
    rw [jnL, ← ih, List.range_succ (n := n + 1), List.map_append]
    have e : (List.range (n + 1)).map W = W 0 :: (List.range n).map fun i => W (i + 1) := by
      rw [List.range_succ_eq_map, List.map_cons, List.map_map]; rfl
    rw [e, List.cons_append, Lib.join_cons, Lib.join_cons, List.append_assoc]
    congr 1
    simp [Lib.joinTail]
theorem wordsL_mk (W : Nat → List UInt8) (n : Nat) : wordsL (mkN n fun i => encS (bsl (W i))) = (List.range n).map W := by
  simp only [wordsL, mkN, List.map_map]
  refine List.map_congr_left fun i _ => ?_
  simp only [Function.comp, decS_encS, bsl_list]
/-- What the contract of joined words is asked at a list of words that is whole. -/
theorem words_whole {W : Nat → List UInt8} {n : Nat} {f : Nat → Int} (h : ∀ i, i < n → f i = encS (bsl (W i))) : wordsL (List.take n (mkN n f)) = (List.range n).map W := by
  rw [List.take_of_length_le (by rw [mkN_len]; omega), mkN_congr h, wordsL_mk]

end Go.Proofs.YtghphlgfgblbeaaDoor

