/- The library's sort of numbers, as a contract: the shelf's, laid at this dump. No conditions. -/
import Derived.Test.YtepblgefgdllfaaTt
import Derived.Shelf.SortG.Plain
set_option linter.unusedSimpArgs false
set_option linter.unusedVariables false
namespace Go.Proofs.Ytepblgefgdllfaa
open Go.Sx Go.RowKit Go.Shelf Go.Sort

def rhoF (x : Nat) : Nat := if x = 53 then 55 else if x = 59 then 81 else if x = 63 then 68 else if x = 64 then 69 else if x = 68 then 91 else if x = 70 then 75 else if x = 71 then 76 else if x = 72 then 77 else if x = 73 then 78 else if x = 74 then 79 else if x = 75 then 80 else if x = 76 then 82 else if x = 77 then 83 else if x = 78 then 84 else if x = 79 then 85 else if x = 88 then 86 else if x = 89 then 87 else if x = 90 then 88 else if x = 91 then 89 else if x = 92 then 90 else if x = 96 then 92 else x
def rhoT (x : Nat) : Nat := if x = 0 then 0 else if x = 3 then 3 else if x = 4 then 4 else if x = 5 then 5 else if x = 9 then 9 else if x = 22 then 26 else if x = 23 then 2 else if x = 44 then 98 else if x = 51 then 90 else if x = 60 then 93 else if x = 61 then 94 else if x = 67 then 101 else if x = 69 then 103 else if x = 75 then 104 else if x = 79 then 108 else if x = 83 then 110 else if x = 84 then 111 else x
def rhoS : Ren := ⟨rhoF, rhoT, fun x => x⟩

theorem zvS {t : TypeId} {z : Value} (h : (Try.prog.info? t).bind (·.zero) = some z) (w : World) : (zeroValue t).run Try.prog w = .ok z w := by
  obtain ⟨inf, h1, hz⟩ := Option.bind_eq_some_iff.1 h
  simp [zeroValue, typeInfo, h1, hz]
theorem szS {t : TypeId} {n : Nat} (h : (Try.prog.info? t).map (·.size) = some n) (w : World) : (Go.sizeOf t).run Try.prog w = .ok n w := by
  obtain ⟨inf, h1, hz⟩ := Option.map_eq_some_iff.1 h
  simp [Go.sizeOf, typeInfo, h1, hz]

theorem laysSort : SlLaysN.n53 Try.prog rhoS where
  mixed := mixed
  f53 := ⟨Try.f55.name, by kernel_rfl, (Try.func55).trans (by kernel_rfl)⟩
  f59 := ⟨Try.f81.name, by kernel_rfl, (Try.func81).trans (by kernel_rfl)⟩
  f63 := ⟨Try.f68.name, by kernel_rfl, (Try.func68).trans (by kernel_rfl)⟩
  f64 := (Try.func69).trans (by kernel_rfl)
  f68 := ⟨Try.f91.name, by kernel_rfl, (Try.func91).trans (by kernel_rfl)⟩
  f70 := ⟨Try.f75.name, by kernel_rfl, (Try.func75).trans (by kernel_rfl)⟩
  f71 := ⟨Try.f76.name, by kernel_rfl, (Try.func76).trans (by kernel_rfl)⟩
  f72 := ⟨Try.f77.name, by kernel_rfl, (Try.func77).trans (by kernel_rfl)⟩
  f73 := ⟨Try.f78.name, by kernel_rfl, (Try.func78).trans (by kernel_rfl)⟩
  f74 := ⟨Try.f79.name, by kernel_rfl, (Try.func79).trans (by kernel_rfl)⟩
  f75 := ⟨Try.f80.name, by kernel_rfl, (Try.func80).trans (by kernel_rfl)⟩
  f76 := ⟨Try.f82.name, by kernel_rfl, (Try.func82).trans (by kernel_rfl)⟩
  f77 := ⟨Try.f83.name, by kernel_rfl, (Try.func83).trans (by kernel_rfl)⟩
  f78 := (Try.func84).trans (by kernel_rfl)
  f79 := (Try.func85).trans (by kernel_rfl)
  f88 := ⟨Try.f86.name, by kernel_rfl, (Try.func86).trans (by kernel_rfl)⟩
  f89 := (Try.func87).trans (by kernel_rfl)
  f90 := (Try.func88).trans (by kernel_rfl)
  f91 := ⟨Try.f89.name, by kernel_rfl, (Try.func89).trans (by kernel_rfl)⟩
  f92 := ⟨Try.f90.name, by kernel_rfl, (Try.func90).trans (by kernel_rfl)⟩
  f96 := ⟨Try.f92.name, by kernel_rfl, (Try.func92).trans (by kernel_rfl)⟩
  t0 := (show Try.prog.underlying 0 = some (TypeDesc.tuple #[]) by kernel_rfl)
  a0 := run_isAgg_plain (show Try.prog.underlying 0 = some (TypeDesc.tuple #[]) by kernel_rfl) rfl
  z0 := szS (by kernel_rfl)
  v0 := zvS (by kernel_rfl)
  t3 := (show Try.prog.underlying 3 = some (TypeDesc.int IntKind.i64) by kernel_rfl)
  a3 := run_isAgg_plain (show Try.prog.underlying 3 = some (TypeDesc.int IntKind.i64) by kernel_rfl) rfl
  z3 := szS (by kernel_rfl)
  v3 := zvS (by kernel_rfl)
  t4 := (show Try.prog.underlying 4 = some TypeDesc.bool by kernel_rfl)
  a4 := run_isAgg_plain (show Try.prog.underlying 4 = some TypeDesc.bool by kernel_rfl) rfl
  z4 := szS (by kernel_rfl)
  v4 := zvS (by kernel_rfl)
  t5 := (show Try.prog.underlying 5 = some (TypeDesc.int IntKind.u8) by kernel_rfl)
  a5 := run_isAgg_plain (show Try.prog.underlying 5 = some (TypeDesc.int IntKind.u8) by kernel_rfl) rfl
  z5 := szS (by kernel_rfl)
  v5 := zvS (by kernel_rfl)
  t9 := (show Try.prog.underlying 9 = some TypeDesc.string by kernel_rfl)
  a9 := run_isAgg_plain (show Try.prog.underlying 9 = some TypeDesc.string by kernel_rfl) rfl
  z9 := szS (by kernel_rfl)
  v9 := zvS (by kernel_rfl)
  t22 := (show Try.prog.underlying 26 = some (TypeDesc.slice 2) by kernel_rfl)
  a22 := run_isAgg_plain (show Try.prog.underlying 26 = some (TypeDesc.slice 2) by kernel_rfl) rfl
  z22 := szS (by kernel_rfl)
  v22 := zvS (by kernel_rfl)
  t23 := (show Try.prog.underlying 2 = some (TypeDesc.int IntKind.i64) by kernel_rfl)
  a23 := run_isAgg_plain (show Try.prog.underlying 2 = some (TypeDesc.int IntKind.i64) by kernel_rfl) rfl
  z23 := szS (by kernel_rfl)
  v23 := zvS (by kernel_rfl)
  t44 := (show Try.prog.underlying 98 = some (TypeDesc.tuple #[3, 4]) by kernel_rfl)
  a44 := run_isAgg_plain (show Try.prog.underlying 98 = some (TypeDesc.tuple #[3, 4]) by kernel_rfl) rfl
  z44 := szS (by kernel_rfl)
  v44 := zvS (by kernel_rfl)
  t51 := (show Try.prog.underlying 90 = some (TypeDesc.int IntKind.u64) by kernel_rfl)
  a51 := run_isAgg_plain (show Try.prog.underlying 90 = some (TypeDesc.int IntKind.u64) by kernel_rfl) rfl
  z51 := szS (by kernel_rfl)
  v51 := zvS (by kernel_rfl)
  t60 := (show Try.prog.underlying 93 = some (TypeDesc.int IntKind.i64) by kernel_rfl)
  a60 := run_isAgg_plain (show Try.prog.underlying 93 = some (TypeDesc.int IntKind.i64) by kernel_rfl) rfl
  z60 := szS (by kernel_rfl)
  v60 := zvS (by kernel_rfl)
  t61 := (show Try.prog.underlying 94 = some (TypeDesc.tuple #[3, 93]) by kernel_rfl)
  a61 := run_isAgg_plain (show Try.prog.underlying 94 = some (TypeDesc.tuple #[3, 93]) by kernel_rfl) rfl
  z61 := szS (by kernel_rfl)
  v61 := zvS (by kernel_rfl)
  t67 := (show Try.prog.underlying 101 = some (TypeDesc.int IntKind.u32) by kernel_rfl)
  a67 := run_isAgg_plain (show Try.prog.underlying 101 = some (TypeDesc.int IntKind.u32) by kernel_rfl) rfl
  z67 := szS (by kernel_rfl)
  v67 := zvS (by kernel_rfl)
  t69 := (show Try.prog.underlying 103 = some (TypeDesc.int IntKind.u64) by kernel_rfl)
  a69 := run_isAgg_plain (show Try.prog.underlying 103 = some (TypeDesc.int IntKind.u64) by kernel_rfl) rfl
  z69 := szS (by kernel_rfl)
  v69 := zvS (by kernel_rfl)
  t75 := (show Try.prog.underlying 104 = some (TypeDesc.int IntKind.u64) by kernel_rfl)
  a75 := run_isAgg_plain (show Try.prog.underlying 104 = some (TypeDesc.int IntKind.u64) by kernel_rfl) rfl
  z75 := szS (by kernel_rfl)
  v75 := zvS (by kernel_rfl)
  t79 := (show Try.prog.underlying 108 = some (TypeDesc.pointer 3) by kernel_rfl)
  a79 := run_isAgg_plain (show Try.prog.underlying 108 = some (TypeDesc.pointer 3) by kernel_rfl) rfl
  z79 := szS (by kernel_rfl)
  v79 := zvS (by kernel_rfl)
  t83 := (show Try.prog.underlying 110 = some (TypeDesc.pointer 104) by kernel_rfl)
  a83 := run_isAgg_plain (show Try.prog.underlying 110 = some (TypeDesc.pointer 104) by kernel_rfl) rfl
  z83 := szS (by kernel_rfl)
  v83 := zvS (by kernel_rfl)
  t84 := (show Try.prog.underlying 111 = some (TypeDesc.tuple #[3, 3]) by kernel_rfl)
  a84 := run_isAgg_plain (show Try.prog.underlying 111 = some (TypeDesc.tuple #[3, 3]) by kernel_rfl) rfl
  z84 := szS (by kernel_rfl)
  v84 := zvS (by kernel_rfl)

def srtL (k : Nat) (L : List Int) : List Int := ((L.take k).mergeSort fun x y => decide (x ≤ y)) ++ L.drop k
theorem srtL_len (k : Nat) (L : List Int) : (srtL k L).length = L.length := by
  simp only [srtL, List.length_append, List.length_mergeSort, List.length_take, List.length_drop]; omega

theorem HR_ahead {n0 : Nat} {w0 : Base} {β : List Nat} {H : List Blk} : ∀ (n : Nat) {w : World}, HR n0 w0 β H w → HR n0 w0 β H (Sort.ahead w n)
  | 0, w, h => h
  | n + 1, w, h => (HR_ahead n h).draw
theorem Below_grow (w : World) (os : Array Obj) : Below w.heap.size w (grow w os) := ⟨rfl, rfl, rfl, by simp, fun k hk => heap_grow_old w os hk⟩
theorem mapBlock_const (w : World) (b : Nat) (cs : Array Value) : mapBlock w b (fun _ => cs) = w.setRow b cs := by
  unfold mapBlock World.setRow
  congr 2
theorem mapBlock_setRow (w : World) (b : Nat) (f : Array Value → Array Value) (arr : Array Value) (t : TypeId) (fr : Nat × Nat) (hg : w.heap[b]? = some (.cells arr t fr)) : mapBlock w b f = w.setRow b (f arr) := by
  rw [← mapBlock_const]
  refine mapBlock_congr w b _ _ fun c e fr' h => ?_
  rw [hg] at h
  simp only [Option.some.injEq, Obj.cells.injEq] at h
  rw [h.1]
theorem put_toList (d L : List Int) (h : d.length ≤ L.length) : (putCells (Value.int .i64) 0 d.toArray (runV [.i64] L).toArray).toList = runV [.i64] (d ++ L.drop d.length) := by
  apply List.ext_getElem?
  intro k
  simp only [putCells, Array.getElem?_toList, Array.getElem?_mapIdx, List.getElem?_toArray, runV, List.getElem?_map, List.length_append, List.length_drop, List.size_toArray, Nat.zero_add, Nat.sub_zero, Nat.zero_le, true_and]
  by_cases hk : k < L.length
  · rw [List.getElem?_range hk, List.getElem?_range (by omega)]
    simp only [Option.map_some, List.length_singleton, Nat.mod_one, List.getD_cons_zero, Option.some.injEq]
    split
    · rename_i hd
      rw [List.getD_eq_getElem?_getD, List.getElem?_append_left hd, List.getElem!_toArray, List.getElem!_eq_getElem?_getD]
      rfl
    · rw [List.getD_eq_getElem?_getD, List.getD_eq_getElem?_getD, List.getElem?_append_right (by omega), List.getElem?_drop, show d.length + (k - d.length) = k by omega]
  · rw [List.getElem?_eq_none (l := List.range L.length) (by simpa using hk), List.getElem?_eq_none (l := List.range _) (by simp; omega)]
    rfl

def gSort : EntryC := fun args H K => match args with
  | [.a (.c (.slc id 0 i 1 len cap))] => match getB H id with
    | .cells true 2 [.run [.i64] n L] => (i = 0 ∧ 0 < len ∧ len.toNat ≤ n ∧ len < 4611686018427387904) ∧ K (.tup []) (H.set id (.cells true 2 [.run [.i64] n (srtL len.toNat L)]))
    | _ => Stuck "sort"
  | _ => Stuck "sort"
theorem e_Sort : EntryCOk Try.prog TT 55 gSort := by
  refine ⟨fnOk Try.func55 (by kernel_rfl) rfl, ?_⟩
  intro args H K h n0 w0 β w vals hG hH hA
  unfold gSort at h
  split at h
  · split at h
    · rename_i _ id i len cap _ n L hb
      obtain ⟨⟨rfl, hp, hn, hs⟩, hk⟩ := h
      obtain ⟨v1, r1, e1, h1, h2⟩ := hA
      obtain ⟨_, q2, q3, q4⟩ : SlcR β id 0 0 1 len cap v1 := h1
      have h2 : r1 = [] := h2
      subst h2
      obtain ⟨b, arr, hbb, hh, hc⟩ := hH.get hb
      obtain ⟨pre, rest, ec, ⟨hLn, hpre⟩, hrest⟩ := hc
      have hLL : len.toNat ≤ L.length := by rw [hLn]; exact hn
      have hrest : rest = [] := hrest
      subst hrest
      rw [List.append_nil, hpre] at ec
      have harr : arr = (runV [.i64] L).toArray := Array.toList_inj.1 (by rw [ec])
      subst harr
      have hsz : (runV [.i64] L).toArray.size = n := by simp [runV, hLn]
      obtain ⟨hbn, hheap⟩ := hh (by omega)
      rcases q4 with ⟨b', hb', rfl⟩ | ⟨q4, _⟩
      case inr => omega
      rw [hbb] at hb'
      simp only [Option.some.injEq] at hb'
      subst hb'
      have hv : vals = #[.slice (some ⟨b, 0, none⟩) ((L.take len.toNat).length : Nat) cap.toNat] := Array.toList_inj.1 (by rw [e1]; simp [List.length_take]; omega)
      subst hv
      have hlt : b < w.heap.size := (Array.getElem?_eq_some_iff.1 hheap).1
      have hold : Holds (Value.int .i64) w b 0 (L.take len.toNat).toArray := by
        intro j hj
        simp only [List.size_toArray, List.length_take] at hj
        refine ⟨?_, ?_⟩
        · rw [cell_at hheap, Nat.zero_add]
          rw [List.getElem?_toArray, runV, List.getElem?_map, List.getElem?_range (by omega)]
          simp only [Option.map_some, List.length_singleton, Nat.mod_one, List.getD_cons_zero, Option.some.injEq]
          rw [List.getElem!_toArray, List.getElem!_eq_getElem?_getD, List.getElem?_take_of_lt (by omega), List.getD_eq_getElem?_getD]
          rfl
        · simp [World.frozen?, hheap]
      refine (AnyG.slices_Sort_int laysSort b 0 cap.toNat (L.take len.toNat) w hold hlt (by simp only [List.length_take]; omega)).mono ?_
      rintro e w' ⟨rfl, nd, os, rfl⟩
      refine ⟨_, [], _, _, rfl, hk, ?_, ⟨#[], rfl, rfl⟩⟩
      rw [List.append_nil]
      have hheap' : (Sort.ahead w nd).heap[b]? = some (Obj.cells (runV [.i64] L).toArray 2 (0, 0)) := hheap
      refine HR.after ?_ (Below_grow _ _)
      unfold putRow
      rw [mapBlock_setRow _ _ _ _ _ _ hheap']
      refine HR.set (arr := (runV [.i64] L).toArray) (HR_ahead nd hH) hb hbb ⟨_, [], (List.append_nil _).symm, ⟨hLn, rfl⟩, rfl⟩ (by omega) (fun _ => ⟨fun _ => hbn rfl, hheap'⟩) ⟨_, [], (List.append_nil _).symm, ⟨?_, ?_⟩, rfl⟩
      · rw [srtL_len, hLn]
      · rw [put_toList ((L.take len.toNat).mergeSort fun x y => decide (x ≤ y)) L (by simp only [List.length_mergeSort, List.length_take]; omega)]
        simp only [srtL, List.length_mergeSort, List.length_take]
        rw [Nat.min_eq_left hLL]
    · exact h.elim
  · exact h.elim

end Go.Proofs.Ytepblgefgdllfaa
