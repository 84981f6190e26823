/- strings.Builder: what the executor does not run in place, as contracts. No conditions beyond the ranges of the kinds. -/
import Derived.Test.YtghphlgfgblbeaaDoorSpl
import Derived.Shelf.Strings.BuilderK
import Derived.Shelf.LaysM
import Derived.WalkKit
import Derived.RowKitTokens
import Derived.OwnWalk
set_option linter.unusedSimpArgs false
set_option linter.unusedVariables false
namespace Go.Proofs.YtghphlgfgblbeaaDoor
open Go.Sx Go.RowKit

def layBS_ren : Go.Shelf.Ren := ⟨fun | 169 => 16 | n => n, fun | 70 => 31 | 9 => 9 | 0 => 0 | 72 => 34 | 37 => 32 | 127 => 45 | 3 => 3 | 5 => 5 | n => n, fun | n => n⟩
theorem layBS : Go.Proofs.Lays.n169 Tryd.prog layBS_ren := {
  mixed := by kernel_rfl
  f169 := Tryd.func16.trans (congrArg some (by kernel_rfl))
  t0 := Tryd.underlying0
  a0 := Tryd.isAgg0
  z0 := Tryd.sizeOf0
  v0 := Tryd.zeroValue0
  t3 := Tryd.underlying3
  a3 := Tryd.isAgg3
  z3 := Tryd.sizeOf3
  v3 := Tryd.zeroValue3
  t9 := Tryd.underlying9
  a9 := Tryd.isAgg9
  z9 := Tryd.sizeOf9
  v9 := Tryd.zeroValue9
  t37 := Tryd.underlying32
  a37 := Tryd.isAgg32
  z37 := Tryd.sizeOf32
  v37 := Tryd.zeroValue32
  t70 := Tryd.underlying31
  a70 := Tryd.isAgg31
  z70 := Tryd.sizeOf31
  v70 := Tryd.zeroValue31
  t72 := Tryd.underlying34
  a72 := Tryd.isAgg34
  z72 := Tryd.sizeOf34
  v72 := Tryd.zeroValue34
  t127 := Tryd.underlying45
  a127 := Tryd.isAgg45
  z127 := Tryd.sizeOf45
  v127 := Tryd.zeroValue45 }

theorem layBSX : Builder.Extra Tryd.prog layBS_ren := {
  sizeBuilder := by kernel_rfl
  liesBuilder := by kernel_rfl
  t5 := Tryd.underlying5
  a5 := Tryd.isAgg5
  z5 := Tryd.sizeOf5
  v5 := Tryd.zeroValue5
  infoByte := by kernel_rfl
  cellsByte := by kernel_rfl
  sizeByte := by kernel_rfl
  neB5 := by decide }
theorem szB : (Tryd.prog.info? 34).map (·.size) = some 2 := by kernel_rfl
theorem liB : liesAt Tryd.prog Tryd.prog.depth 34 (2 / Tryd.prog.cellsOf 34) 0 34 1 = true := by kernel_rfl
set_option maxHeartbeats 1000000 in
set_option maxRecDepth 100000 in
theorem cc_used (b : Nat) (w : World) (h0 : w.cell? ⟨b, 0, none⟩ = some (.pointer (some ⟨b, 0, none⟩))) :
    Calls Tryd.prog 20 #[.pointer (some ⟨b, 0, none⟩)] w fun e w' => e = .returned (.tuple #[]) ∧ w' = w := by
  obtain ⟨j, hj, _⟩ := Option.map_eq_some_iff.1 szB
  go_enter Tryd.func20, Tryd.ntmps20
  go_wp2
  rw [Lib.run_neq_ptr_same w _ Tryd.underlying31 hj]
  go_wp2
  go_end0
  exact ⟨rfl, rfl⟩
set_option maxHeartbeats 1000000 in
set_option maxRecDepth 100000 in
theorem cc_fresh (b : Nat) (w : World) (h0 : w.cell? ⟨b, 0, none⟩ = some (.pointer none)) (hsh : w.shape? b = some (34, 2)) (hfz : w.frozen? ⟨b, 0, none⟩ = false) :
    Calls Tryd.prog 20 #[.pointer (some ⟨b, 0, none⟩)] w fun e w' => e = .returned (.tuple #[]) ∧ w' = w.setCell ⟨b, 0, none⟩ (.pointer (some ⟨b, 0, none⟩)) := by
  obtain ⟨j, hj, hjs⟩ := Option.map_eq_some_iff.1 szB
  go_enter Tryd.func20, Tryd.ntmps20
  go_wp2
  rw [Lib.run_to_unsafe w ⟨b, 0, none⟩ Tryd.underlying31 Tryd.underlying46 hj (by rw [hjs]; decide) hsh (Nat.zero_lt_succ 1)]
  simp only [Result.andThen]
  rw [Oper.upon_value]
  go_wp2
  rw [run_callFunc_extern Tryd.func22 (by kernel_rfl) (by kernel_rfl) (by kernel_rfl) (e := Extern.AbiNoEscape.same) (by kernel_rfl)]
  rw [Lib.run_noEscape]
  simp only [Result.andThen]
  rw [Oper.upon_value]
  go_wp2
  rw [Lib.run_from_unsafe w ⟨b, 0, none⟩ Tryd.underlying46 Tryd.underlying31 hj hsh liB]
  simp only [Result.andThen]
  rw [Oper.upon_value]
  go_wp2
  go_end0
  exact ⟨rfl, rfl⟩

/-- The builder's own address is nil or itself. -/
def ownC (c : Cel) (id : Nat) : Prop := c = .val (.pointer none) ∨ c = .ptr id 0 ∨ ∃ b, c = .sp b id
theorem ownC_val {c : Cel} {id b : Nat} {β : List Nat} {v : Value} (hc : ownC c id) (hb : β[id]? = some b) (hr : CelR β c v) : v = .pointer none ∨ v = .pointer (some ⟨b, 0, none⟩) := by
  rcases hc with rfl | rfl | ⟨u, rfl⟩
  · exact .inl hr
  · obtain ⟨x, h1, h2⟩ := hr
    rw [hb] at h1
    obtain rfl := Option.some.inj h1
    exact .inr h2
  · rcases hr with ⟨_, h⟩ | ⟨x, h1, _, h2⟩
    · exact .inl h
    · rw [hb] at h1
      obtain rfl := Option.some.inj h1
      exact .inr h2
def gCC : EntryC := fun args H K => match args with
  | [.a (.c (.ptr id 0))] => match getB H id with
    | .cells true t [c0, c1] => (t = 34 ∧ ownC c0 id ∧ c0.w = 1 ∧ c1.w = 1) ∧ K (.tup []) (H.set id (.cells true t [.sp true id, c1]))
    | _ => Stuck "builder"
  | _ => Stuck "builder"
theorem cel1_one {β : List Nat} {c : Cel} {vs : List Value} (h : Cel1 β c vs) (hr : ∀ ks n l, c ≠ .run ks n l) : ∃ v, vs = [v] ∧ CelR β c v := by
  cases c <;> simp only [Cel1] at h <;> first
    | exact h
    | exact absurd rfl (hr _ _ _)
theorem setCell_row {w : World} {b : Nat} {p u q : Value} {T : TypeId} {fr : Nat × Nat} (hh : w.heap[b]? = some (.cells #[p, u] T fr)) : w.setCell ⟨b, 0, none⟩ q = w.setRow b #[q, u] := by
  unfold World.setCell World.setRow
  have : ∀ f g : Obj → Obj, f (.cells #[p, u] T fr) = g (.cells #[p, u] T fr) → w.heap.modify b f = w.heap.modify b g := fun f g e => by
    apply Array.ext_getElem?
    intro i
    rw [Array.getElem?_modify, Array.getElem?_modify]
    by_cases h : b = i
    · subst h; rw [if_pos rfl, if_pos rfl, hh, Option.map_some, Option.map_some, e]
    · rw [if_neg h, if_neg h]
  refine congrArg (fun z : Array Obj => ({ w with heap := z } : World)) (this _ _ ?_)
  rfl
theorem e_copyCheck : EntryCOk Tryd.prog TT 20 gCC := by
  refine ⟨fnOk Tryd.func20 (by kernel_rfl) rfl, ?_⟩
  intro args H K h n0 w0 β w vals hG hH hA
  unfold gCC at h
  split at h
  · rename_i id
    split at h
    · rename_i t c0 c1 hg
      obtain ⟨⟨rfl, hc, hw0, hw1⟩, hk⟩ := h
      obtain ⟨v1, r1, e1, ⟨b, hb, hv1⟩, hr⟩ := hA
      have hr : r1 = [] := hr
      subst hr hv1
      obtain rfl : vals = #[.pointer (some ⟨b, 0, none⟩)] := Array.toList_inj.1 e1
      obtain ⟨b', arr, hb', hh, hcs⟩ := hH.get hg
      rw [hb] at hb'
      obtain rfl := Option.some.inj hb'
      have hcs' := hcs
      obtain ⟨p, r, ea, hc0, p2, r2, er, hc1, hn⟩ := hcs
      have hn : r2 = [] := hn
      have hnr : ∀ ks n l, c0 ≠ .run ks n l := fun ks n l e => by rcases hc with h | h | ⟨_, h⟩ <;> rw [h] at e <;> cases e
      obtain ⟨v0, rfl, hv0⟩ := cel1_one hc0 hnr
      have l2 := hc1.len
      rw [hw1] at l2
      obtain ⟨u, rfl⟩ := List.length_eq_one_iff.1 l2
      subst hn er
      have ear : arr = #[v0, u] := Array.toList_inj.1 (by rw [ea]; rfl)
      subst ear
      obtain ⟨hn0, hheap⟩ := hh (Nat.zero_lt_succ 1)
      have hcell : w.cell? ⟨b, 0, none⟩ = some v0 := by rw [cell_at hheap]; rfl
      have fin : ∀ w', w' = w.setRow b #[.pointer (some ⟨b, 0, none⟩), u] → HR n0 w0 (β ++ []) (H.set id (.cells true 34 [.sp true id, c1])) w' := fun w' e => by
        rw [e, List.append_nil]
        exact hH.set hg hb hcs' (Nat.zero_lt_succ 1) hh ⟨[.pointer (some ⟨b, 0, none⟩)], [u], rfl, ⟨_, rfl, .inr ⟨b, hb, rfl, rfl⟩⟩, [u], [], rfl, hc1, rfl⟩
      rcases ownC_val hc hb hv0 with rfl | rfl
      · refine (cc_fresh b w hcell (by simp [World.shape?, hheap]) (by simp [World.frozen?, hheap])).mono ?_
        rintro e w' ⟨rfl, rfl⟩
        exact ⟨_, [], _, _, rfl, hk, fin _ (setCell_row hheap), #[], rfl, rfl⟩
      · refine (cc_used b w hcell).mono ?_
        rintro e w' ⟨rfl, rfl⟩
        refine ⟨_, [], _, _, rfl, hk, ?_, #[], rfl, rfl⟩
        rw [List.append_nil]
        exact hH.same hg hb ⟨[.pointer (some ⟨b, 0, none⟩)], [u], rfl, ⟨_, rfl, .inr ⟨b, hb, rfl, rfl⟩⟩, [u], [], rfl, hc1, rfl⟩ hh (by simp only [width, hw0, hw1]; rfl)
    · exact h.elim
  · exact h.elim

/-! ### What has been written -/
set_option maxHeartbeats 2000000 in
set_option maxRecDepth 100000 in
theorem bs_calls (B b g cap : Nat) (p : Value) (cur : Array Value) (l : List UInt8) (w : World) (hbk : w.heap[b]? = some (.cells #[p, .slice (some ⟨g, 0, none⟩) l.length cap] 34 (0, 0))) (hg : w.heap[g]? = some (.cells cur 5 (0, 0))) (h0 : l ≠ []) (hm : l.length ≤ 1099511627776) (hnc : l.length ≤ cap) (hsz : cur.size = cap) (hbg : B ≤ g)
    (hj : ∀ (j : Nat) (x : UInt8), l[j]? = some x → w.cell? ⟨g, j, none⟩ = some (.int .u8 x.toNat)) :
    Calls Tryd.prog 16 #[.pointer (some ⟨b, 0, none⟩)] w fun e w' => e = .returned (.string ⟨l.toArray⟩) ∧ Below B w w' ∧ Lib.OthersKept 5 (some b) w w' := by
  have hl0 : l.length ≠ 0 := by simpa using h0
  have c1 : w.drew.cell? ⟨b, 1, none⟩ = some (.slice (some ⟨g, 0, none⟩) l.length cap) := by
    have : w.drew.heap[b]? = some (.cells #[p, .slice (some ⟨g, 0, none⟩) l.length cap] 34 (0, 0)) := hbk
    rw [Lib.cell_of_heap this]; rfl
  have hSD : (Builtin.unsafeSliceData_ #[32] 45 #[.slice (some ⟨g, 0, none⟩) l.length cap]).run Tryd.prog w.drew = .ok (.pointer (some ⟨g, 0, none⟩)) w.drew :=
    Lib.run_unsafeSliceData_row _ _ _ _ _ _ (by omega)
  have hUS : (Builtin.unsafeString_ #[45, 3] 9 #[.pointer (some ⟨g, 0, none⟩), .int .i64 l.length]).run Tryd.prog w.drew = .ok (.string ⟨l.toArray⟩) (w.drew.freeze ⟨g, 0, none⟩ l.length) := by
    refine Lib.run_unsafeString_row w.drew 45 3 9 5 Tryd.underlying45 (by kernel_rfl) g cur.size (by have hg' : w.drew.heap[g]? = some (.cells cur 5 (0, 0)) := hg; simp [World.shape?, hg']) l h0 (by omega) (by omega) ?_
    intro j x hx
    rw [Addr.add_lit, Nat.zero_add]
    exact hj j x hx
  have mixed : Tryd.prog.follows .mixedOrders = true := by kernel_rfl
  go_enter Tryd.func16, Tryd.ntmps16
  go_wp2
  go_region_o
  all_goals (go_wp2; go_ret; exact ⟨rfl, Lib.below_freeze (Below.drew (Below.refl B w)) (p := ⟨g, 0, none⟩) hbg _, ((Lib.OthersKept.refl _ _ w).drew).freeze ⟨g, 0, none⟩ _ ⟨cur, (0, 0), hg⟩⟩)
def gBS : EntryC := fun args H K => match args with
  | [.a (.c (.ptr id 0))] => match getB H id with
    | .cells true t [c0, .slc m b i st len cap] => match getB H m with
      | .cells true t2 [.run ks N l] => (t = 34 ∧ t2 = 5 ∧ ks = [.u8] ∧ b = 0 ∧ i = 0 ∧ st = 1 ∧ ownC c0 id) ∧ (0 < len ∧ len ≤ cap ∧ len ≤ 1099511627776 ∧ N = cap.toNat ∧ l.length = N ∧ ∀ x ∈ l.take len.toNat, 0 ≤ x ∧ x ≤ 255) ∧ K (.a (.c (.str (bsl ((l.take len.toNat).map fun x => UInt8.ofNat x.toNat))))) (H.map fun _ => .dead)
      | _ => Stuck "builder"
    | .cells true t [c0, .val (.slice none 0 0)] => (t = 34 ∧ ownC c0 id) ∧ K (.a (.c (.str (bsl [])))) (H.map fun _ => .dead)
    | _ => Stuck "builder"
  | _ => Stuck "builder"
theorem hr_allDead {n0 : Nat} {w0 : Base} {w w' : World} {β : List Nat} {H : List Blk} (h : HR n0 w0 β H w) (hb : Below n0 w w') (hk : ∀ (k : Nat) (o : Obj), w.heap[k]? = some o → (∀ a t s, o ≠ .cells a t s) → w'.heap[k]? = some o) : HR n0 w0 β (H.map fun _ => .dead) w' := by
  have gr : Grow n0 w0.m w w' := ⟨hb, fun k o _ ho hc _ _ => hk k o ho hc, fun k r ho => ⟨r, hk k _ ho (fun _ _ _ e => by cases e)⟩⟩
  have all : ∀ {i : Nat} {B : Blk}, (H.map fun _ => Blk.dead)[i]? = some B → B = .dead := fun {i B} e => by
    rw [List.getElem?_map] at e
    cases hq : H[i]? with
    | none => rw [hq] at e; cases e
    | some x => rw [hq] at e; exact (Option.some.inj e).symm
  refine ⟨Nat.le_trans h.base hb.size, by rw [List.length_map]; exact h.len, ?_, ?_, Nat.le_trans h.ms hb.size, h.st, h.st _ _ gr h.ext, fun i B b hB _ => by obtain rfl := all hB; trivial⟩
  · intro i j c B C hB ho
    obtain rfl := all hB
    cases ho
  · intro i b B x hB hb2 hx
    obtain rfl := all hB
    exact hx.elim
theorem e_BString : EntryCOk Tryd.prog TT 16 gBS := by
  refine ⟨fnOk Tryd.func16 (by kernel_rfl) rfl, ?_⟩
  intro args H K h n0 w0 β w vals hG hH hA
  unfold gBS at h
  split at h
  · rename_i id
    split at h
    · rename_i t c0 m b0 i0 st len cap hg
      split at h
      · rename_i t2 ks N l hg2
        obtain ⟨⟨rfl, rfl, rfl, rfl, rfl, rfl, hc⟩, ⟨p1, p2, p3, rfl, p5, p6⟩, hk⟩ := h
        obtain ⟨v1, r1, e1, ⟨b, hb, hv1⟩, hr⟩ := hA
        have hr : r1 = [] := hr
        subst hr hv1
        obtain rfl : vals = #[.pointer (some ⟨b, 0, none⟩)] := Array.toList_inj.1 e1
        obtain ⟨b', arr, hb', hh, hcs⟩ := hH.get hg
        rw [hb] at hb'
        obtain rfl := Option.some.inj hb'
        obtain ⟨p, r, ea, hc0, q, r2, er, hc1, hn⟩ := hcs
        have hn : r2 = [] := hn
        have hnr : ∀ ks n l, c0 ≠ .run ks n l := fun ks n l e => by rcases hc with h | h | ⟨_, h⟩ <;> rw [h] at e <;> cases e
        obtain ⟨v0, rfl, hv0⟩ := cel1_one hc0 hnr
        obtain ⟨v2, rfl, hv2⟩ := cel1_one hc1 (fun _ _ _ e => by cases e)
        subst hn er
        have ear : arr = #[v0, v2] := Array.toList_inj.1 (by rw [ea]; rfl)
        subst ear
        obtain ⟨hn0, hheap⟩ := hh (Nat.zero_lt_succ 1)
        have hn0 := hn0 rfl
        obtain ⟨g, arr2, hbg, hh2, hcs2⟩ := hH.get hg2
        obtain ⟨q1, q2, q3, hq⟩ := hv2
        have hq : ∃ x, β[m]? = some x ∧ v2 = .slice (some ⟨x, 0, none⟩) len.toNat cap.toNat := by
          rcases hq with ⟨x, h1, h2⟩ | ⟨h1, _⟩
          · exact ⟨x, h1, by rw [h2]; rfl⟩
          · omega
        obtain ⟨x, hx, rfl⟩ := hq
        rw [hbg] at hx
        obtain rfl := Option.some.inj hx
        obtain ⟨a1, a2, ea2, hr2, ha2⟩ := hcs2
        have ha2 : a2 = [] := ha2
        subst ha2
        obtain ⟨hl, rfl⟩ := hr2
        have sz : arr2.size = cap.toNat := by rw [← Array.length_toList, ea2, List.append_nil, runV_one, List.length_map, p5]
        obtain ⟨hg0, hgh⟩ := hh2 (by omega)
        have hg0 := hg0 rfl
        generalize hB : (l.take len.toNat).map (fun x => UInt8.ofNat x.toNat) = B at *
        have eB : Lib.byteCells B = (l.take len.toNat).map (EK.u8.val) := by
          rw [← hB, Lib.byteCells, List.map_map]
          refine List.map_congr_left fun x hx => ?_
          have := p6 x hx
          show Value.int .u8 _ = Value.int .u8 x
          rw [UInt8.toNat_ofNat']
          congr 1
          omega
        have lB : (Lib.byteCells B).length = len.toNat := by rw [eB, List.length_map, List.length_take, p5]; omega
        have lB' : B.length = len.toNat := by rw [← lB, Lib.byteCells_length]
        have hcellj : ∀ (j : Nat) (x : UInt8), B[j]? = some x → w.cell? ⟨g, j, none⟩ = some (.int .u8 x.toNat) := fun j x hjx => by
          have hjl : j < len.toNat := by rw [← lB']; exact (List.getElem?_eq_some_iff.1 hjx).1
          have e1 : (Lib.byteCells B)[j]? = some (.int .u8 x.toNat) := by rw [Lib.byteCells, List.getElem?_map, hjx]; rfl
          rw [eB, List.map_take, List.getElem?_take, if_pos hjl] at e1
          rw [cell_at hgh, ← Array.getElem?_toList, ea2, List.append_nil, runV_one]
          exact e1
        have hbk : w.heap[b]? = some (.cells #[v0, .slice (some ⟨g, 0, none⟩) B.length cap.toNat] 34 (0, 0)) := by rw [lB']; exact hheap
        refine (bs_calls n0 b g cap.toNat v0 arr2 B w hbk hgh (by intro e; rw [e] at lB'; simp at lB'; omega) (by omega) (by omega) (by omega) hg0 hcellj).mono ?_
        rintro e w' ⟨rfl, hbel, hoth⟩
        refine ⟨_, [], _, _, rfl, hk, ?_, rfl⟩
        rw [List.append_nil]
        refine hr_allDead hH hbel fun k o ho hno => hoth k o ho (fun e => ?_) fun c fz => hno c _ fz
        rw [Option.some.inj e, hheap] at ho
        exact hno _ _ _ (Option.some.inj ho).symm
      · exact h.elim
    · rename_i t c0 hg
      obtain ⟨⟨rfl, hc⟩, hk⟩ := h
      obtain ⟨v1, r1, e1, ⟨b, hb, hv1⟩, hr⟩ := hA
      have hr : r1 = [] := hr
      subst hr hv1
      obtain rfl : vals = #[.pointer (some ⟨b, 0, none⟩)] := Array.toList_inj.1 e1
      obtain ⟨b', arr, hb', hh, hcs⟩ := hH.get hg
      rw [hb] at hb'
      obtain rfl := Option.some.inj hb'
      obtain ⟨p, r, ea, hc0, q, r2, er, hc1, hn⟩ := hcs
      have hn : r2 = [] := hn
      have hnr : ∀ ks n l, c0 ≠ .run ks n l := fun ks n l e => by rcases hc with h | h | ⟨_, h⟩ <;> rw [h] at e <;> cases e
      obtain ⟨v0, rfl, hv0⟩ := cel1_one hc0 hnr
      obtain ⟨v2, rfl, hv2⟩ := cel1_one hc1 (fun _ _ _ e => by cases e)
      subst hn er
      have hv2 : v2 = .slice none 0 0 := hv2
      subst hv2
      have ear : arr = #[v0, .slice none 0 0] := Array.toList_inj.1 (by rw [ea]; rfl)
      subst ear
      obtain ⟨hn0, hheap⟩ := hh (Nat.zero_lt_succ 1)
      have hn0 := hn0 rfl
      refine (Any.Builder_String_nil_k layBS layBSX n0 b v0 w hheap ⟨hn0, _, hheap, World.ownsRowF_nil _ _ _ _, by simp [Value.ownBlock]⟩).mono ?_
      rintro e w' ⟨rfl, _, hbel, hoth⟩
      refine ⟨_, [], _, _, rfl, hk, ?_, rfl⟩
      rw [List.append_nil]
      refine hr_allDead hH hbel fun k o ho hno => hoth k o ho (fun e => ?_) fun c fz => hno c _ fz
      rw [Option.some.inj e, hheap] at ho
      exact hno _ _ _ (Option.some.inj ho).symm
    · exact h.elim
  · exact h.elim

end Go.Proofs.YtghphlgfgblbeaaDoor
