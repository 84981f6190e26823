/- A part of a list deleted in place: what is of no function. No conditions. -/
import Derived.Test.YtnoljgfnpabinaaDoorSl
import Derived.WalkKit
import Derived.RowKitTokens
import Derived.OwnWalk
import Derived.Deep.RegionLaw
import Derived.Laws.IdiomCopy
import Derived.Shelf.Abstract
import Derived.Shelf.RegionOpenPlain
import Derived.Deep.LoopGhost
import Derived.Lib.Walk
import Derived.Sort.WalkB12
import Derived.Lib.SliceRun
set_option linter.unusedSimpArgs false
set_option linter.unusedVariables false
namespace Go.Proofs.YtnoljgfnpabinaaDoor
open Go.Sx Go.RowKit

theorem setCells_row (w : World) (b o : Nat) (vs : List Value) (cur : Array Value) (t : TypeId) (hg : w.heap[b]? = some (.cells cur t (0, 0))) (hl : o + vs.length ≤ cur.size) (h1 : ∀ v ∈ vs, v.oneCell' = true) :
    w.setCells b o vs = w.setRow b (cur.toList.take o ++ vs ++ cur.toList.drop (o + vs.length)).toArray := by
  have e1 := run_storeCells_cells (P := Tryd.prog) b o vs 0 w (fun j hj => by simp [World.cell?, hg]; omega) (fun j hj => by simp [World.frozen?, hg]) h1
  have e2 := run_storeCells_at Tryd.prog b o t vs 0 cur w hg (by simpa using hl) h1
  rw [e1] at e2
  simpa using e2
/-- clear of a slice of one element. -/
theorem run_clear1 (w : World) (t e ty : TypeId) (z : Value) (zs : List Value) (ht : Tryd.prog.underlying t = some (.slice e)) (hv : ∀ w, (zeroValue e).run Tryd.prog w = .ok z w) (hz : z.cells = zs.toArray) (hzl : zs.length = 2) (b o c : Nat) (cur : Array Value) (tt : TypeId) (hg : w.heap[b]? = some (.cells cur tt (0, 0))) (hl : o + zs.length ≤ cur.size) (h1 : ∀ v ∈ zs, v.oneCell' = true) :
    (Builtin.clear_ #[t] ty #[.slice (some ⟨b, o, none⟩) 1 c]).run Tryd.prog w = .ok (.tuple #[]) (w.setRow b (cur.toList.take o ++ zs ++ cur.toList.drop (o + zs.length)).toArray) := by
  have hzc : (Builtin.zeroCells z.cells 1).toList = zs := by
    rw [hz]
    match zs, hzl with
    | [x, y], _ => simp [Builtin.zeroCells]; rfl
  have hst := run_storeCells_at Tryd.prog b o tt zs 0 cur w hg (by simpa using hl) h1
  simp only [Nat.add_zero] at hst
  simp [Builtin.clear_, run_underlying ht, hv, hzc, hst]

/-- A list of pairs without its part i: what stands in its memory then. -/
def delX (i n : Nat) (L : List Int) : List Int := (L.take (n * 2)).drop ((i + 1) * 2)
def delA (i n : Nat) (L : List Int) : List Int := L.take (i * 2) ++ delX i n L ++ L.drop (i * 2 + (delX i n L).length)
def delL (i n : Nat) (L : List Int) : List Int := (delA i n L).take ((n - 1) * 2) ++ [0, 0] ++ (delA i n L).drop ((n - 1) * 2 + 2)
theorem delX_len {i n : Nat} {L : List Int} (hi : i < n) (hL : n * 2 ≤ L.length) : (delX i n L).length = (n - (i + 1)) * 2 := by
  rw [delX, List.length_drop, List.length_take]; omega
theorem delA_len {i n : Nat} {L : List Int} (hi : i < n) (hL : n * 2 ≤ L.length) : (delA i n L).length = L.length := by
  have := delX_len hi hL
  rw [delA, List.length_append, List.length_append, List.length_take, List.length_drop]; omega
theorem delL_len {i n : Nat} {L : List Int} (hi : i < n) (hL : n * 2 ≤ L.length) : (delL i n L).length = L.length := by
  have := delA_len hi hL
  rw [delL, List.length_append, List.length_append, List.length_take, List.length_drop, List.length_cons, List.length_singleton]; omega
theorem delL_take {i n : Nat} {L : List Int} (hi : i < n) (hL : n * 2 ≤ L.length) : (delL i n L).take ((n - 1) * 2) = L.take (i * 2) ++ delX i n L := by
  have h1 := delX_len hi hL
  have h2 := delA_len hi hL
  rw [delL, List.append_assoc, List.take_append_of_le_length (by rw [List.length_take]; omega), List.take_take, Nat.min_self, delA, List.take_append_of_le_length (by rw [List.length_append, List.length_take]; omega), List.take_of_length_le (by rw [List.length_append, List.length_take]; omega)]
theorem delL_get {i n k : Nat} {L : List Int} (hi : i < n) (hL : n * 2 ≤ L.length) (hk : k < (n - 1) * 2) : (delL i n L).getD k 0 = L.getD (if k < i * 2 then k else k + 2) 0 := by
  have h1 := delX_len hi hL
  rw [← getD_take' hk, delL_take hi hL]
  simp only [List.getD_eq_getElem?_getD]
  split
  · rw [List.getElem?_append_left (by rw [List.length_take]; omega), List.getElem?_take_of_lt (by omega)]
  · rw [List.getElem?_append_right (by rw [List.length_take]; omega), List.length_take, delX, List.getElem?_drop, List.getElem?_take_of_lt (by omega)]
    congr 2
    omega

theorem HR_ahead {n0 : Nat} {w0 : Base} {β : List Nat} {H : List Blk} : ∀ (n : Nat) {w : World}, HR n0 w0 β H w → HR n0 w0 β H (Sort.ahead w n)
  | 0, w, h => h
  | n + 1, w, h => (HR_ahead n h).draw

end Go.Proofs.YtnoljgfnpabinaaDoor
