/- A small symbolic executor over the walk calculus, and that it is sound: symbolic cells, operations, statements, loops, functions, contracts. No conditions. -/
import Derived.CallsIn
import Derived.Below
import Derived.Laws.Tables
import Derived.Laws.Cells
import Derived.Laws.CopyRow
import Derived.Laws.CopyOwn
import Derived.Laws.Sem
import Derived.Laws.World
import Derived.OneCell
import Derived.Laws.Entries
import Derived.Laws.Strings
import Derived.Laws.Rows
import Derived.IntWalk
import Derived.Laws.StructEq
import Derived.ChangeKeysEq
import Derived.TacticsIn
import Derived.Sort.QuietThIn
import Derived.RangeFuncRecord
import Derived.OpenShut
import Derived.WideShapes
import Derived.KernelRfl
namespace Go.Sx
open Go.RowKit

inductive Cel where
  | any
  | lit (k : IntKind) (n : Int)
  | int (k : IntKind) (n : Int)
  | tt
  | ff
  | bool (b : Bool)
  | str (s : ByteArray)
  | ptr (id off : Nat)
  | pti (id base : Nat) (i : Int) (stride fo : Nat)
  | slc (id base : Nat) (i : Int) (stride : Nat) (len cap : Int)
  | val (v : Value)
  | fn (f : Fn) (caps : List Nat)
  | yld (id : Nat)
  | run (ks : List IntKind) (n : Nat) (l : List Int)

inductive Av where
  | c (x : Cel)
  | agg (l : List Cel)

inductive LV where
  | a (v : Av)
  | tup (l : List Av)

inductive Blk where
  | dead
  | cells (own : Bool) (t : TypeId) (cs : List Cel)
  | gst (N : Nat) (gd : Nat → Bool) (el : Nat → Int) (i : Option Nat)

structure St where
  tmps : List LV
  heap : List Blk

def Cel.w : Cel → Nat
  | .run _ n _ => n
  | _ => 1

def runV (ks : List IntKind) (l : List Int) : List Value :=
  (List.range l.length).map fun j => .int (ks.getD (j % ks.length) .i64) (l.getD j 0)

/-- One cell stands for one value. -/
def CelR (β : List Nat) : Cel → Value → Prop
  | .any, _ => True
  | .lit k n, v => v = .int k n
  | .int k n, v => v = .int k n
  | .tt, v => v = .bool true
  | .ff, v => v = .bool false
  | .bool b, v => v = .bool b
  | .str s, v => v = .string s
  | .ptr id off, v => ∃ b, β[id]? = some b ∧ v = .pointer (some ⟨b, off, none⟩)
  | .pti id base i stride fo, v => ∃ b, β[id]? = some b ∧ v = .pointer (some ⟨b, base + i.toNat * stride + fo, none⟩)
  | .slc id base i stride len cap, v => 0 ≤ i ∧ 0 ≤ len ∧ len ≤ cap ∧ ∃ b, β[id]? = some b ∧
      (v = .slice (some ⟨b, base + i.toNat * stride, none⟩) len.toNat cap.toNat ∨ (cap = 0 ∧ ∃ o, v = .slice (some ⟨b, o, none⟩) 0 0))
  | .val x, v => v = x
  | .fn f caps, v => ∃ bs, caps.mapM (fun i => β[i]?) = some bs ∧ v = .func f #[] (bs.map fun b => Value.pointer (some ⟨b, 0, none⟩)).toArray
  | .yld id, v => ∃ b, β[id]? = some b ∧ v = .func (.yield b) #[] #[]
  | .run _ _ _, _ => False

def Cel1 (β : List Nat) (c : Cel) (vs : List Value) : Prop :=
  match c with
  | .run ks n l => l.length = n ∧ vs = runV ks l
  | c => ∃ v, vs = [v] ∧ CelR β c v

def CelsR (β : List Nat) : List Cel → List Value → Prop
  | [], vs => vs = []
  | c :: cs, vs => ∃ pre rest, vs = pre ++ rest ∧ Cel1 β c pre ∧ CelsR β cs rest

def AvR (β : List Nat) : Av → Value → Prop
  | .c x, v => CelR β x v
  | .agg l, v => ∃ arr : Array Value, v = .agg arr ∧ CelsR β l arr.toList

def AvsR (β : List Nat) : List Av → List Value → Prop
  | [], vs => vs = []
  | a :: as, vs => ∃ v rest, vs = v :: rest ∧ AvR β a v ∧ AvsR β as rest

def LVR (β : List Nat) : LV → Value → Prop
  | .a x, v => AvR β x v
  | .tup l, v => ∃ arr : Array Value, v = .tuple arr ∧ AvsR β l arr.toList

def TmR (β : List Nat) : List LV → List Value → Prop
  | [], vs => vs = []
  | a :: as, vs => ∃ v rest, vs = v :: rest ∧ LVR β a v ∧ TmR β as rest

/-- Are all cells of the list such as may be stored (one cell each)? -/
def Cel.plain : Cel → Bool
  | .any => false
  | .val v => v.oneCell'
  | _ => true

/-- A step that writes cells from block n0 on, or lays blocks: whatever is no cells and lies below m lies as it lay. -/
structure Grow (n0 m : Nat) (w w' : World) : Prop where
  below : Below n0 w w'
  ko : ∀ (k : Nat) (o : Obj), k < m → w.heap[k]? = some o → (∀ a t s, o ≠ .cells a t s) → w'.heap[k]? = some o

theorem Grow.refl (n0 m : Nat) (w : World) : Grow n0 m w w := ⟨Below.refl _ _, fun _ _ _ h _ => h⟩
theorem Grow.alloc {n0 m : Nat} {w : World} (h : n0 ≤ w.heap.size) (o : Obj) : Grow n0 m w (w.alloc o) :=
  ⟨(Below.refl _ _).alloc h o, fun k o' _ ho _ => (Below.heap_alloc w o k (Array.getElem?_eq_some_iff.1 ho).1).trans ho⟩
theorem Grow.drew (n0 m : Nat) (w : World) : Grow n0 m w { w with drawn := w.drawn + 1 } := ⟨(Below.refl n0 w).drew, fun _ _ _ h _ => h⟩
/-- What a callee leaves that turns nothing that lay there. -/
theorem Grow.of_below {n0 m n : Nat} {w w' : World} (hn : n0 ≤ n) (hm : m ≤ n) (h : Below n w w') : Grow n0 m w w' :=
  ⟨h.mono hn, fun k o hk ho _ => (h.block k (by omega)).trans ho⟩

/-- What is said of worlds beside the cells, and the rounds of a loop over an iterator whose body is not in sight. -/
structure Base where
  X : World → Prop
  m : Nat
  l : Nat
  J : Nat → (Nat → Bool) → (Nat → Int) → Option Nat → World → Prop

def Base.pl (w : World) : Base := ⟨Below w.heap.size w, 0, 0, fun _ _ _ _ _ => False⟩

def BlkR (n0 : Nat) (w0 : Base) (β : List Nat) (w : World) (b : Nat) : Blk → Prop
  | .dead => True
  | .gst N gd el i => b = w0.l ∧ w0.J N gd el i w
  | .cells own t cs => (own = true → n0 ≤ b) ∧ ∃ arr : Array Value, w.heap[b]? = some (.cells arr t (0, 0)) ∧ CelsR β cs arr.toList

structure HR (n0 : Nat) (w0 : Base) (β : List Nat) (H : List Blk) (w : World) : Prop where
  base : n0 ≤ w.heap.size
  len : β.length = H.length
  nd : β.Nodup
  lt : ∀ b ∈ β, b < w.heap.size
  ms : w0.m ≤ w.heap.size
  st : ∀ a b, Grow n0 w0.m a b → w0.X a → w0.X b
  sj : ∀ N gd el i a b, Below n0 a b → w0.J N gd el i a → w0.J N gd el i b
  ext : w0.X w
  blk : ∀ (i : Nat) (B : Blk) (b : Nat), H[i]? = some B → β[i]? = some b → BlkR n0 w0 β w b B

/-! ### The cells -/

theorem Cel1.len {β : List Nat} {c : Cel} {vs : List Value} (h : Cel1 β c vs) : vs.length = c.w := by
  cases c <;> simp only [Cel1, Cel.w] at * <;>
    first
      | (obtain ⟨v, rfl, _⟩ := h; rfl)
      | (obtain ⟨h1, rfl⟩ := h; simp [runV, h1])

def width : List Cel → Nat
  | [] => 0
  | c :: cs => c.w + width cs

theorem CelsR.len {β : List Nat} : ∀ {cs : List Cel} {vs : List Value}, CelsR β cs vs → vs.length = width cs
  | [], vs, h => by simp only [CelsR] at h; subst h; rfl
  | c :: cs, vs, h => by
    obtain ⟨pre, rest, rfl, h1, h2⟩ := h
    simp [width, h1.len, h2.len]

theorem getElem?_prefix {β γ : List Nat} {i b : Nat} (h : β[i]? = some b) : (β ++ γ)[i]? = some b := by
  rw [List.getElem?_append_left (by exact (List.getElem?_eq_some_iff.1 h).1)]; exact h

theorem mapM_prefix {β γ : List Nat} : ∀ {caps : List Nat} {bs : List Nat}, caps.mapM (fun i => β[i]?) = some bs → caps.mapM (fun i => (β ++ γ)[i]?) = some bs
  | [], bs, h => by simpa using h
  | c :: cs, bs, h => by
    simp only [List.mapM_cons, Option.bind_eq_bind, Option.bind_eq_some_iff, Option.pure_def] at h ⊢
    obtain ⟨x, hx, y, hy, e⟩ := h
    exact ⟨x, getElem?_prefix hx, y, mapM_prefix hy, e⟩

theorem CelR.mono {β γ : List Nat} {c : Cel} {v : Value} (h : CelR β c v) : CelR (β ++ γ) c v := by
  cases c <;> simp only [CelR] at * <;>
    first
      | exact h
      | (obtain ⟨b, h1, h2⟩ := h; exact ⟨b, getElem?_prefix h1, h2⟩)
      | (obtain ⟨h1, h2, h3, b, h4, h5⟩ := h; exact ⟨h1, h2, h3, b, getElem?_prefix h4, h5⟩)
      | (obtain ⟨bs, h1, h2⟩ := h; exact ⟨bs, mapM_prefix h1, h2⟩)

theorem Cel1.mono {β γ : List Nat} {c : Cel} {vs : List Value} (h : Cel1 β c vs) : Cel1 (β ++ γ) c vs := by
  cases c <;> simp only [Cel1] at * <;>
    first
      | exact h
      | (obtain ⟨v, h1, h2⟩ := h; exact ⟨v, h1, h2.mono⟩)

theorem CelsR.mono {β γ : List Nat} : ∀ {cs : List Cel} {vs : List Value}, CelsR β cs vs → CelsR (β ++ γ) cs vs
  | [], _, h => h
  | _ :: _, _, ⟨pre, rest, h, h1, h2⟩ => ⟨pre, rest, h, h1.mono, h2.mono⟩

theorem AvR.mono {β γ : List Nat} {a : Av} {v : Value} (h : AvR β a v) : AvR (β ++ γ) a v := by
  cases a with
  | c x => exact CelR.mono h
  | agg l => obtain ⟨arr, h1, h2⟩ := h; exact ⟨arr, h1, h2.mono⟩

theorem AvsR.mono {β γ : List Nat} : ∀ {as : List Av} {vs : List Value}, AvsR β as vs → AvsR (β ++ γ) as vs
  | [], _, h => h
  | _ :: _, _, ⟨v, rest, h, h1, h2⟩ => ⟨v, rest, h, h1.mono, h2.mono⟩

theorem LVR.mono {β γ : List Nat} {a : LV} {v : Value} (h : LVR β a v) : LVR (β ++ γ) a v := by
  cases a with
  | a x => exact AvR.mono h
  | tup l => obtain ⟨arr, h1, h2⟩ := h; exact ⟨arr, h1, h2.mono⟩

theorem TmR.mono {β γ : List Nat} : ∀ {as : List LV} {vs : List Value}, TmR β as vs → TmR (β ++ γ) as vs
  | [], _, h => h
  | _ :: _, _, ⟨v, rest, h, h1, h2⟩ => ⟨v, rest, h, h1.mono, h2.mono⟩

/-- The cell at an offset. -/
def cellAt : List Cel → Nat → Option Cel
  | [], _ => none
  | c :: cs, off =>
    if off < c.w then
      match c with
      | .run ks _ l => some (.int (ks.getD (off % ks.length) .i64) (l.getD off 0))
      | c => some c
    else cellAt cs (off - c.w)

theorem runV_get (ks : List IntKind) (l : List Int) (j : Nat) (h : j < l.length) :
    (runV ks l)[j]? = some (.int (ks.getD (j % ks.length) .i64) (l.getD j 0)) := by
  simp [runV, h]

theorem cellAt_sound {β : List Nat} : ∀ {cs : List Cel} {vs : List Value} {off : Nat} {c : Cel}, CelsR β cs vs → cellAt cs off = some c →
    ∃ v, vs[off]? = some v ∧ CelR β c v
  | [], _, _, _, _, h => by simp [cellAt] at h
  | c :: cs, vs, off, c', h, hc => by
    obtain ⟨pre, rest, rfl, h1, h2⟩ := h
    have hl := h1.len
    unfold cellAt at hc
    by_cases ho : off < c.w
    · rw [if_pos ho] at hc
      rw [List.getElem?_append_left (by omega)]
      cases c <;> simp only [Option.some.injEq] at hc <;> subst hc <;> simp only [Cel1, Cel.w] at * <;>
        first
          | (obtain ⟨v, rfl, hv⟩ := h1
             have : off = 0 := by omega
             subst this
             exact ⟨v, rfl, hv⟩)
          | (obtain ⟨h1, rfl⟩ := h1
             exact ⟨_, runV_get _ _ _ (by omega), rfl⟩)
    · rw [if_neg ho] at hc
      obtain ⟨v, hv, hr⟩ := cellAt_sound h2 hc
      exact ⟨v, by rw [List.getElem?_append_right (by omega), hl]; exact hv, hr⟩

/-- The run that begins at an offset. -/
def runAt : List Cel → Nat → Option (List IntKind × Nat × List Int)
  | [], _ => none
  | c :: _, 0 => match c with
    | .run ks n l => some (ks, n, l)
    | _ => none
  | c :: cs, off + 1 => if c.w ≤ off + 1 ∧ 0 < c.w then runAt cs (off + 1 - c.w) else none

theorem runAt_sound {β : List Nat} : ∀ {cs : List Cel} {vs : List Value} {off : Nat} {ks : List IntKind} {n : Nat} {l : List Int}, CelsR β cs vs → runAt cs off = some (ks, n, l) →
    l.length = n ∧ ∀ j, j < n → vs[off + j]? = some (.int (ks.getD (j % ks.length) .i64) (l.getD j 0))
  | [], _, _, _, _, _, _, h => by simp [runAt] at h
  | c :: cs, vs, 0, ks, n, l, h, hc => by
    obtain ⟨pre, rest, rfl, h1, h2⟩ := h
    cases c <;> simp only [runAt, Option.some.injEq, Prod.mk.injEq, reduceCtorEq] at hc
    obtain ⟨rfl, rfl, rfl⟩ := hc
    obtain ⟨h1, rfl⟩ := h1
    refine ⟨h1, fun j hj => ?_⟩
    rw [Nat.zero_add, List.getElem?_append_left (by simp [runV]; omega)]
    exact runV_get _ _ _ (by omega)
  | c :: cs, vs, off + 1, ks, n, l, h, hc => by
    obtain ⟨pre, rest, rfl, h1, h2⟩ := h
    have hl := h1.len
    simp only [runAt] at hc
    split at hc
    · rename_i hw
      obtain ⟨e1, e2⟩ := runAt_sound h2 hc
      refine ⟨e1, fun j hj => ?_⟩
      rw [List.getElem?_append_right (by omega), hl, show off + 1 + j - c.w = off + 1 - c.w + j by omega]
      exact e2 j hj
    · simp at hc

/-- n cells from an offset on, whole cells and pieces of runs. -/
def takeC : List Cel → Nat → Nat → Option (List Cel)
  | [], _, n => if n = 0 then some [] else none
  | c :: cs, off, n =>
    if n = 0 then some []
    else if off = 0 then
      if c.w ≤ n then (takeC cs 0 (n - c.w)).map (c :: ·)
      else match c with
        | .run ks _ l => some [.run ks n (l.take n)]
        | _ => none
    else if c.w ≤ off then takeC cs (off - c.w) n
    else match c with
      | .run ks m l => if off + n ≤ m ∧ off % ks.length = 0 then some [.run ks n ((l.drop off).take n)] else none
      | _ => none

theorem runV_take (ks : List IntKind) (l : List Int) (n : Nat) (h : n ≤ l.length) : (runV ks l).take n = runV ks (l.take n) := by
  apply List.ext_getElem?
  intro j
  by_cases hj : j < n
  · rw [List.getElem?_take_of_lt hj, runV_get _ _ _ (by omega), runV_get _ _ _ (by simp; omega)]
    simp [List.getD, List.getElem?_take_of_lt hj]
  · rw [List.getElem?_eq_none (by simp; omega), List.getElem?_eq_none (by simp [runV]; omega)]

theorem runV_drop (ks : List IntKind) (l : List Int) (n : Nat) (hk : n % ks.length = 0) : (runV ks l).drop n = runV ks (l.drop n) := by
  apply List.ext_getElem?
  intro j
  rw [List.getElem?_drop]
  by_cases hj : n + j < l.length
  · rw [runV_get _ _ _ hj, runV_get _ _ _ (by simp; omega)]
    simp [List.getD, Nat.add_mod, hk]
  · rw [List.getElem?_eq_none (by simp [runV]; omega), List.getElem?_eq_none (by simp [runV]; omega)]

theorem takeC_sound {β : List Nat} : ∀ {cs : List Cel} {vs : List Value} {off n : Nat} {r : List Cel}, CelsR β cs vs → takeC cs off n = some r →
    (n = 0 ∨ off + n ≤ vs.length) ∧ CelsR β r ((vs.drop off).take n)
  | [], vs, off, n, r, h, hc => by
    unfold takeC at hc
    split at hc
    · rename_i hn
      simp only [Option.some.injEq] at hc; subst hc
      subst hn
      exact ⟨.inl rfl, by simp [CelsR]⟩
    · simp at hc
  | c :: cs, vs, off, n, r, h, hc => by
    obtain ⟨pre, rest, rfl, h1, h2⟩ := h
    have hl := h1.len
    unfold takeC at hc
    split at hc
    · rename_i hn
      simp only [Option.some.injEq] at hc; subst hc
      subst hn
      exact ⟨.inl rfl, by simp [CelsR]⟩
    · rename_i hn
      split at hc
      · rename_i ho
        subst ho
        split at hc
        · rename_i hw
          obtain ⟨r', hr', rfl⟩ := Option.map_eq_some_iff.1 hc
          obtain ⟨g1, g2⟩ := takeC_sound h2 hr'
          refine ⟨.inr (by simp; omega), ⟨pre, (rest.drop 0).take (n - c.w), ?_, h1, g2⟩⟩
          simp [List.take_append, hl, List.take_of_length_le (show pre.length ≤ n by omega)]
        · rename_i hw
          cases c <;> simp only [Option.some.injEq, reduceCtorEq] at hc
          rename_i ks m l
          subst hc
          obtain ⟨e1, rfl⟩ := h1
          simp only [Cel.w] at *
          refine ⟨.inr (by simp; omega), ⟨runV ks (l.take n), [], ?_, ⟨by simp; omega, rfl⟩, rfl⟩⟩
          rw [List.drop_zero, List.take_append_of_le_length (by omega), runV_take _ _ _ (by omega), List.append_nil]
      · split at hc
        · rename_i ho hw
          obtain ⟨g1, g2⟩ := takeC_sound h2 hc
          refine ⟨by rcases g1 with g1 | g1; exact .inl g1; exact .inr (by simp; omega), ?_⟩
          rw [List.drop_append, List.drop_of_length_le (by omega), hl]
          simpa using g2
        · rename_i ho hw
          cases c <;> simp only [reduceCtorEq] at hc
          rename_i ks m l
          split at hc
          · rename_i hm
            simp only [Option.some.injEq] at hc
            subst hc
            obtain ⟨e1, rfl⟩ := h1
            simp only [Cel.w] at *
            refine ⟨.inr (by simp; omega), ⟨runV ks ((l.drop off).take n), [], ?_, ⟨by simp; omega, rfl⟩, rfl⟩⟩
            rw [List.drop_append_of_le_length (by omega), List.take_append_of_le_length (by simp; omega), runV_drop _ _ _ hm.2, runV_take _ _ _ (by simp; omega), List.append_nil]
          · simp at hc

/-- Whole cells put in the place of whole cells. -/
def dropC : List Cel → Nat → Option (List Cel)
  | cs, 0 => some cs
  | [], _ + 1 => none
  | c :: cs, n + 1 => if c.w ≤ n + 1 ∧ 0 < c.w then dropC cs (n + 1 - c.w) else none

def putC : List Cel → Nat → List Cel → Option (List Cel)
  | cs, 0, new => (dropC cs (width new)).map (new ++ ·)
  | [], _ + 1, _ => none
  | c :: cs, off + 1, new => if c.w ≤ off + 1 ∧ 0 < c.w then (putC cs (off + 1 - c.w) new).map (c :: ·) else none

theorem dropC_sound {β : List Nat} : ∀ {cs : List Cel} {vs : List Value} {n : Nat} {r : List Cel}, CelsR β cs vs → dropC cs n = some r → n ≤ vs.length ∧ CelsR β r (vs.drop n)
  | cs, vs, 0, r, h, hc => by simp only [dropC, Option.some.injEq] at hc; subst hc; exact ⟨by omega, by simpa using h⟩
  | [], vs, n + 1, r, h, hc => by simp [dropC] at hc
  | c :: cs, vs, n + 1, r, h, hc => by
    obtain ⟨pre, rest, rfl, h1, h2⟩ := h
    have hl := h1.len
    simp only [dropC] at hc
    split at hc
    · obtain ⟨g1, g2⟩ := dropC_sound h2 hc
      refine ⟨by simp; omega, ?_⟩
      rw [List.drop_append, List.drop_of_length_le (by omega), hl]
      simpa using g2
    · simp at hc

theorem CelsR.append {β : List Nat} : ∀ {cs ds : List Cel} {vs us : List Value}, CelsR β cs vs → CelsR β ds us → CelsR β (cs ++ ds) (vs ++ us)
  | [], _, _, _, h, k => by simp only [CelsR] at h; subst h; simpa using k
  | c :: cs, ds, vs, us, ⟨pre, rest, h, h1, h2⟩, k => ⟨pre, rest ++ us, by rw [h, List.append_assoc], h1, h2.append k⟩

theorem putC_sound {β : List Nat} : ∀ {cs : List Cel} {vs : List Value} {off : Nat} {new : List Cel} {r : List Cel} {us : List Value}, CelsR β cs vs → CelsR β new us → putC cs off new = some r →
    off + us.length ≤ vs.length ∧ CelsR β r (vs.take off ++ us ++ vs.drop (off + us.length))
  | cs, vs, 0, new, r, us, h, hn, hc => by
    simp only [putC] at hc
    obtain ⟨r', hr', rfl⟩ := Option.map_eq_some_iff.1 hc
    rw [← hn.len] at hr'
    obtain ⟨g1, g2⟩ := dropC_sound h hr'
    exact ⟨by omega, by simpa using hn.append g2⟩
  | [], vs, off + 1, new, r, us, h, hn, hc => by simp [putC] at hc
  | c :: cs, vs, off + 1, new, r, us, h, hn, hc => by
    obtain ⟨pre, rest, rfl, h1, h2⟩ := h
    have hl := h1.len
    simp only [putC] at hc
    split at hc
    · rename_i hw
      obtain ⟨r', hr', rfl⟩ := Option.map_eq_some_iff.1 hc
      obtain ⟨g1, g2⟩ := putC_sound h2 hn hr'
      refine ⟨by simp; omega, ⟨pre, _, ?_, h1, g2⟩⟩
      rw [List.take_append, List.drop_append, List.take_of_length_le (by omega), List.drop_of_length_le (by omega), hl]
      simp only [List.append_assoc, List.nil_append]
      rw [show off + 1 + us.length - c.w = off + 1 - c.w + us.length by omega]
    · simp at hc

/-- An integer put into a run at a computed place. -/
def putRun : List Cel → Nat → Nat → Int → Option (List Cel)
  | [], _, _, _ => none
  | c :: cs, 0, j, x => match c with
    | .run ks n l => some (.run ks n (l.set j x) :: cs)
    | _ => none
  | c :: cs, off + 1, j, x => if c.w ≤ off + 1 ∧ 0 < c.w then (putRun cs (off + 1 - c.w) j x).map (c :: ·) else none

theorem runV_set (ks : List IntKind) (l : List Int) (j : Nat) (x : Int) (h : j < l.length) :
    (runV ks l).set j (.int (ks.getD (j % ks.length) .i64) x) = runV ks (l.set j x) := by
  apply List.ext_getElem?
  intro i
  by_cases hi : i < l.length
  · rw [runV_get _ _ _ (by simpa using hi), List.getElem?_set]
    split
    · rename_i e; subst e; simp [runV, h, List.getD]
    · rename_i e; rw [runV_get _ _ _ hi]; simp [List.getD, e]
  · rw [List.getElem?_eq_none (by simp [runV]; omega), List.getElem?_eq_none (by simp [runV]; omega)]

theorem putRun_sound {β : List Nat} : ∀ {cs : List Cel} {vs : List Value} {off j : Nat} {x : Int} {r : List Cel} {ks : List IntKind} {n : Nat} {l : List Int},
    CelsR β cs vs → runAt cs off = some (ks, n, l) → j < n → putRun cs off j x = some r → CelsR β r (vs.set (off + j) (.int (ks.getD (j % ks.length) .i64) x))
  | [], _, _, _, _, _, _, _, _, _, h, _, _ => by simp [runAt] at h
  | c :: cs, vs, 0, j, x, r, ks, n, l, h, hr, hj, hc => by
    obtain ⟨pre, rest, rfl, h1, h2⟩ := h
    cases c <;> simp only [runAt, Option.some.injEq, Prod.mk.injEq, reduceCtorEq] at hr
    obtain ⟨rfl, rfl, rfl⟩ := hr
    simp only [putRun, Option.some.injEq] at hc
    subst hc
    obtain ⟨h1, rfl⟩ := h1
    refine ⟨_, rest, ?_, ⟨by simpa using h1, rfl⟩, h2⟩
    rw [Nat.zero_add, List.set_append_left _ _ (by simp [runV]; omega), runV_set _ _ _ _ (by omega)]
  | c :: cs, vs, off + 1, j, x, r, ks, n, l, h, hr, hj, hc => by
    obtain ⟨pre, rest, rfl, h1, h2⟩ := h
    have hl := h1.len
    simp only [runAt] at hr
    simp only [putRun] at hc
    split at hr
    · rename_i hw
      rw [if_pos hw] at hc
      obtain ⟨r', hr', rfl⟩ := Option.map_eq_some_iff.1 hc
      refine ⟨pre, _, ?_, h1, putRun_sound h2 hr hj hr'⟩
      rw [List.set_append_right _ _ (by omega), hl, show off + 1 + j - c.w = off + 1 - c.w + j by omega]
    · simp at hr



inductive TD where
  | int (k : IntKind)
  | bool
  | str
  | ptr
  | slice (e : TypeId)
  | arr (n : Nat) (e : TypeId)
  | struct (fs : List (Nat × TypeId))
  | fn
  | other

def TD.agg? : TD → Option Bool
  | .arr _ _ | .struct _ => some true
  | .other => none
  | _ => some false

structure TI where
  d : TD
  size : Nat
  zero : List Cel

abbrev Tab := List (TypeId × TI)

def look : Tab → TypeId → Option TI
  | [], _ => none
  | (t, ti) :: r, u => if t = u then some ti else look r u

def runEq (ks : List IntKind) : Nat → List Int → List Value → Option (List Value)
  | _, [], vs => some vs
  | j, x :: xs, .int k m :: vs => if k = ks.getD (j % ks.length) .i64 ∧ m = x then runEq ks (j + 1) xs vs else none
  | _, _, _ => none

def sameVal : Value → Value → Bool
  | .pointer none, .pointer none => true
  | .slice none 0 0, .slice none 0 0 => true
  | .map none, .map none => true
  | .chan none, .chan none => true
  | .nilFunc, .nilFunc => true
  | .nilIface, .nilIface => true
  | _, _ => false

def agrees : List Cel → List Value → Bool
  | [], [] => true
  | .lit k n :: cs, .int k' m :: vs => decide (k = k') && decide (n = m) && agrees cs vs
  | .ff :: cs, .bool b :: vs => !b && agrees cs vs
  | .str s :: cs, .string s' :: vs => decide (s.data.toList = []) && decide (s'.data.toList = []) && agrees cs vs
  | .val x :: cs, v :: vs => sameVal x v && agrees cs vs
  | .run ks n l :: cs, vs => decide (l.length = n) && (match runEq ks 0 l vs with | some rest => agrees cs rest | none => false)
  | _, _ => false

theorem sameVal_sound {x v : Value} (h : sameVal x v = true) : v = x := by
  unfold sameVal at h
  split at h <;> simp_all

theorem runEq_sound (ks : List IntKind) : ∀ (l : List Int) (j : Nat) (vs rest : List Value), runEq ks j l vs = some rest →
    vs = (List.range l.length).map (fun i => Value.int (ks.getD ((j + i) % ks.length) .i64) (l.getD i 0)) ++ rest
  | [], j, vs, rest, h => by simpa [runEq] using h
  | x :: xs, j, [], rest, h => by simp [runEq] at h
  | x :: xs, j, v :: vs, rest, h => by
    cases v <;> simp only [runEq, reduceCtorEq] at h
    rename_i k m
    split at h
    · rename_i hk
      obtain ⟨rfl, rfl⟩ := hk
      have ih := runEq_sound ks xs (j + 1) vs rest h
      rw [List.length_cons, List.range_succ_eq_map]
      simp only [List.map_cons, Nat.add_zero, List.map_map, List.cons_append]
      rw [ih]
      congr 2
      simp only [List.map_inj_left, Function.comp]
      intro i _
      rw [show j + 1 + i = j + (i + 1) by omega]
      rfl
    · simp at h

theorem byteArray_eq_empty {s : ByteArray} (h : s.data.toList = []) : s = ByteArray.empty := by
  cases s with
  | mk d => simp only at h; rw [show d = #[] by simpa using h]; rfl

theorem agrees_sound (β : List Nat) : ∀ (cs : List Cel) (vs : List Value), agrees cs vs = true → CelsR β cs vs
  | [], [], _ => rfl
  | [], _ :: _, h => by simp [agrees] at h
  | c :: cs, vs, h => by
    cases c with
    | lit k n =>
      cases vs with
      | nil => simp [agrees] at h
      | cons v vs =>
        cases v <;> simp only [agrees, Bool.and_eq_true, decide_eq_true_eq, Bool.false_eq_true] at h
        obtain ⟨⟨rfl, rfl⟩, h⟩ := h
        exact ⟨[_], vs, rfl, ⟨_, rfl, rfl⟩, agrees_sound β cs vs h⟩
    | ff =>
      cases vs with
      | nil => simp [agrees] at h
      | cons v vs =>
        cases v <;> simp only [agrees, Bool.and_eq_true, Bool.not_eq_true', Bool.false_eq_true] at h
        obtain ⟨rfl, h⟩ := h
        exact ⟨[_], vs, rfl, ⟨_, rfl, rfl⟩, agrees_sound β cs vs h⟩
    | str s =>
      cases vs with
      | nil => simp [agrees] at h
      | cons v vs =>
        cases v <;> simp only [agrees, Bool.and_eq_true, decide_eq_true_eq, Bool.false_eq_true] at h
        obtain ⟨⟨h1, h2⟩, h⟩ := h
        exact ⟨[_], vs, rfl, ⟨_, rfl, by rw [byteArray_eq_empty h1, byteArray_eq_empty h2]; rfl⟩, agrees_sound β cs vs h⟩
    | val x =>
      cases vs with
      | nil => simp [agrees] at h
      | cons v vs =>
        simp only [agrees, Bool.and_eq_true] at h
        exact ⟨[_], vs, rfl, ⟨_, rfl, sameVal_sound h.1⟩, agrees_sound β cs vs h.2⟩
    | run ks n l =>
      simp only [agrees, Bool.and_eq_true, decide_eq_true_eq] at h
      obtain ⟨h1, h2⟩ := h
      split at h2
      · rename_i rest hr
        refine ⟨runV ks l, rest, ?_, ⟨h1, rfl⟩, agrees_sound β cs rest h2⟩
        have := runEq_sound ks l 0 vs rest hr
        simpa [runV] using this
      · simp at h2
    | _ => simp [agrees] at h

/-- What a row of the table of types says of the program. -/
def TI.ok (P : Program) (t : TypeId) (ti : TI) : Prop :=
  (∃ inf, P.info? t = some inf ∧ inf.size = ti.size ∧ ∃ z, inf.zero = some z ∧ ∀ β, CelsR β ti.zero z.cells.toList) ∧
  match ti.d with
  | .int k => P.underlying t = some (.int k)
  | .bool => P.underlying t = some .bool
  | .str => P.underlying t = some .string
  | .ptr => ∃ e, P.underlying t = some (.pointer e)
  | .slice e => P.underlying t = some (.slice e)
  | .arr n e => P.underlying t = some (.array n e)
  | .struct fs => ∃ fields : Array Field, P.underlying t = some (.struct fields) ∧ fs = fields.toList.map fun f => (f.offset, f.type)
  | .fn => ∃ a b c, P.underlying t = some (.func a b c)
  | .other => True

def TabOk0 (P : Program) : Tab → Prop
  | [] => True
  | (t, ti) :: r => ti.ok P t ∧ TabOk0 P r

theorem TabOk0.look {P : Program} : ∀ {T : Tab} {t : TypeId} {ti : TI}, TabOk0 P T → Sx.look T t = some ti → ti.ok P t
  | [], _, _, _, h => by simp [Sx.look] at h
  | (u, ui) :: r, t, ti, h, hl => by
    unfold Sx.look at hl
    split at hl
    · rename_i e; simp only [Option.some.injEq] at hl; subst hl; subst e; exact h.1
    · exact TabOk0.look h.2 hl

/-- What is asked of a struct or an array that is compared. -/
def eqChk (P : Program) (t : TypeId) (ti : TI) : Bool :=
  match ti.d with
  | .struct _ => (match P.underlying t with | some (.struct fields) => fields.toList.all fun f => !(f.name == "_") | _ => false) && !(P.stoodInHeld t) && !(P.eqGuardType P.depth t)
  | .arr _ _ => !(P.eqGuardType P.depth t)
  | _ => true

def TabEq (P : Program) : Tab → Bool
  | [] => true
  | (t, ti) :: r => eqChk P t ti && TabEq P r

theorem TabEq.look {P : Program} : ∀ {T : Tab} {t : TypeId} {ti : TI}, TabEq P T = true → Sx.look T t = some ti → eqChk P t ti = true
  | [], _, _, _, h => by simp [Sx.look] at h
  | (u, ui) :: r, t, ti, h, hl => by
    unfold TabEq at h
    rw [Bool.and_eq_true] at h
    unfold Sx.look at hl
    split at hl
    · rename_i e; simp only [Option.some.injEq] at hl; subst hl; subst e; exact h.1
    · exact TabEq.look h.2 hl

structure TabOk (P : Program) (T : Tab) : Prop where
  ty : TabOk0 P T
  eq : TabEq P T = true

theorem TabOk.look {P : Program} {T : Tab} {t : TypeId} {ti : TI} (h : TabOk P T) (hl : Sx.look T t = some ti) : ti.ok P t := h.ty.look hl

def fieldsEq : List (Nat × TypeId) → List Field → Bool
  | [], [] => true
  | (o, t) :: r, f :: fs => decide (o = f.offset) && decide (t = f.type) && fieldsEq r fs
  | _, _ => false

theorem fieldsEq_sound : ∀ {l : List (Nat × TypeId)} {fs : List Field}, fieldsEq l fs = true → l = fs.map fun f => (f.offset, f.type)
  | [], [], _ => rfl
  | [], _ :: _, h => by simp [fieldsEq] at h
  | _ :: _, [], h => by simp [fieldsEq] at h
  | (o, t) :: r, f :: fs, h => by
    simp only [fieldsEq, Bool.and_eq_true, decide_eq_true_eq] at h
    obtain ⟨⟨rfl, rfl⟩, h⟩ := h
    rw [List.map_cons, fieldsEq_sound h]

/-- The row asked of the program by reckoning. -/
def TI.chk (P : Program) (t : TypeId) (ti : TI) : Bool :=
  (match P.info? t with
   | some inf => decide (inf.size = ti.size) && (match inf.zero with | some z => agrees ti.zero z.cells.toList | none => false)
   | none => false) &&
  match ti.d, P.underlying t with
  | .int k, some (.int k') => decide (k = k')
  | .bool, some .bool => true
  | .str, some .string => true
  | .ptr, some (.pointer _) => true
  | .slice e, some (.slice e') => decide (e = e')
  | .arr n e, some (.array n' e') => decide (n = n') && decide (e = e')
  | .struct fs, some (.struct fields) => fieldsEq fs fields.toList
  | .fn, some (.func _ _ _) => true
  | .other, _ => true
  | _, _ => false

theorem TI.chk_sound {P : Program} {t : TypeId} {ti : TI} (h : ti.chk P t = true) : ti.ok P t := by
  unfold TI.chk at h
  rw [Bool.and_eq_true] at h
  obtain ⟨h1, h2⟩ := h
  constructor
  · split at h1
    · rename_i inf hi
      rw [Bool.and_eq_true, decide_eq_true_eq] at h1
      obtain ⟨hs, h1⟩ := h1
      split at h1
      · rename_i z hz
        exact ⟨inf, hi, hs, z, hz, fun β => agrees_sound β _ _ h1⟩
      · simp at h1
    · simp at h1
  · generalize P.underlying t = u at *
    cases hd : ti.d <;> rw [hd] at h2 <;> simp only at h2 ⊢ <;> cases u <;> (try simp only [Bool.false_eq_true] at h2) <;> rename_i u <;> cases u <;>
      simp only [Bool.false_eq_true, decide_eq_true_eq, Bool.and_eq_true] at h2 <;>
      first
        | rfl
        | (subst h2; rfl)
        | (obtain ⟨rfl, rfl⟩ := h2; rfl)
        | exact ⟨_, rfl⟩
        | exact ⟨_, rfl, fieldsEq_sound h2⟩
        | exact ⟨_, _, _, rfl⟩
        | trivial

def Tab.chk0 (P : Program) : Tab → Bool
  | [] => true
  | (t, ti) :: r => ti.chk P t && Tab.chk0 P r

theorem Tab.chk0_sound {P : Program} : ∀ {T : Tab}, Tab.chk0 P T = true → TabOk0 P T
  | [], _ => trivial
  | (t, ti) :: r, h => by
    unfold Tab.chk0 at h
    rw [Bool.and_eq_true] at h
    exact ⟨TI.chk_sound h.1, Tab.chk0_sound h.2⟩

theorem Tab.chk_sound {P : Program} {T : Tab} (h : Tab.chk0 P T = true) (he : TabEq P T = true) : TabOk P T := ⟨Tab.chk0_sound h, he⟩

/-! ### Operands -/

def lvOf : Value → LV
  | .int k n => .a (.c (.lit k n))
  | .bool true => .a (.c .tt)
  | .bool false => .a (.c .ff)
  | .string s => .a (.c (.str s))
  | v => .a (.c (.val v))

def getL : List LV → Nat → LV
  | [], _ => .a (.c (.val undef))
  | x :: _, 0 => x
  | _ :: xs, n + 1 => getL xs n

def St.ev (st : St) : Operand → LV
  | .tmp t => getL st.tmps t
  | .const v => lvOf v
  | .global g => .a (.c (.val (.pointer (some ⟨g, 0, none⟩))))
  | .func f => .a (.c (.fn (.func f) []))

theorem lvOf_sound (β : List Nat) (v : Value) : LVR β (lvOf v) v := by
  unfold lvOf
  split <;> rfl

theorem getL_sound {β : List Nat} : ∀ {ts : List LV} {vs : List Value} (t : Nat), TmR β ts vs → LVR β (getL ts t) (vs.getD t undef)
  | [], vs, t, h => by simp only [TmR] at h; subst h; rfl
  | x :: xs, vs, 0, ⟨v, rest, h, h1, _⟩ => by subst h; simpa [getL] using h1
  | x :: xs, vs, t + 1, ⟨v, rest, h, _, h2⟩ => by subst h; simpa [getL] using getL_sound t h2

theorem ev_sound {β : List Nat} {st : St} {a : Act} (h : TmR β st.tmps a.tmps.toList) (x : Operand) : LVR β (st.ev x) (a.eval x) := by
  cases x with
  | tmp t =>
    have := getL_sound t h
    simpa [St.ev, Act.eval] using this
  | const v => exact lvOf_sound β v
  | global g => rfl
  | func f => exact ⟨[], rfl, rfl⟩

def asI : LV → Option (IntKind × Int × Bool)
  | .a (.c (.lit k n)) => some (k, n, true)
  | .a (.c (.int k n)) => some (k, n, false)
  | _ => none

theorem asI_sound {β : List Nat} {x : LV} {v : Value} {k : IntKind} {n : Int} {l : Bool} (h : LVR β x v) (hx : asI x = some (k, n, l)) : v = .int k n := by
  unfold asI at hx
  split at hx <;> simp at hx <;> obtain ⟨rfl, rfl, rfl⟩ := hx <;> exact h

def asB : LV → Option Bool
  | .a (.c .tt) => some true
  | .a (.c .ff) => some false
  | .a (.c (.bool b)) => some b
  | _ => none

theorem asB_sound {β : List Nat} {x : LV} {v : Value} {b : Bool} (h : LVR β x v) (hx : asB x = some b) : v = .bool b := by
  unfold asB at hx
  split at hx <;> simp at hx <;> subst hx <;> exact h

def mkI (k : IntKind) (n : Int) (l : Bool) : LV := if l then .a (.c (.lit k n)) else .a (.c (.int k n))
theorem mkI_sound (β : List Nat) (k : IntKind) (n : Int) (l : Bool) : LVR β (mkI k n l) (.int k n) := by
  unfold mkI; split <;> rfl
def mkB (b : Bool) (l : Bool) : LV := if l then (if b then .a (.c .tt) else .a (.c .ff)) else .a (.c (.bool b))
theorem mkB_sound (β : List Nat) (b : Bool) (l : Bool) : LVR β (mkB b l) (.bool b) := by
  unfold mkB; cases l <;> cases b <;> rfl

/-- A number that may leave its kind: known ones are wrapped; else, where o is set and the kind is i64, it is asked to fit; else the wrap stays. -/
def wrapN (o : Bool) (k : IntKind) (e : Int) (l : Bool) : Prop × LV :=
  if l then (True, .a (.c (.lit k (k.wrap e))))
  else if o && decide (k = .i64) then (-9223372036854775808 ≤ e ∧ e ≤ 9223372036854775807, .a (.c (.int k e)))
  else (True, .a (.c (.int k (k.wrap e))))

theorem wrap_i64 {e : Int} (h : -9223372036854775808 ≤ e ∧ e ≤ 9223372036854775807) : IntKind.i64.wrap e = e := IntWalk.i64_in e h

theorem wrapN_sound (β : List Nat) (o : Bool) (k : IntKind) (e : Int) (l : Bool) (h : (wrapN o k e l).1) : LVR β (wrapN o k e l).2 (.int k (k.wrap e)) := by
  unfold wrapN at *
  cases l with
  | true => rfl
  | false =>
    simp only [Bool.false_eq_true, if_false] at h ⊢
    by_cases hk : (o && decide (k = .i64)) = true
    · rw [if_pos hk] at h ⊢
      simp only [Bool.and_eq_true, decide_eq_true_eq] at hk
      obtain ⟨_, rfl⟩ := hk
      rw [wrap_i64 h]; rfl
    · rw [if_neg hk]; rfl



def getB : List Blk → Nat → Blk
  | [], _ => .dead
  | x :: _, 0 => x
  | _ :: xs, n + 1 => getB xs n

theorem getB_some : ∀ {H : List Blk} {i : Nat} {own : Bool} {t : TypeId} {cs : List Cel}, getB H i = .cells own t cs → H[i]? = some (.cells own t cs)
  | [], _, _, _, _, h => by simp [getB] at h
  | x :: xs, 0, _, _, _, h => by simpa [getB] using h
  | x :: xs, n + 1, _, _, _, h => by simpa using getB_some (H := xs) h

theorem HR.get {n0 : Nat} {w0 : Base} {w : World} {β : List Nat} {H : List Blk} (h : HR n0 w0 β H w) {i : Nat} {own : Bool} {t : TypeId} {cs : List Cel} (hb : getB H i = .cells own t cs) :
    ∃ b arr, β[i]? = some b ∧ b < w.heap.size ∧ (own = true → n0 ≤ b) ∧ w.heap[b]? = some (.cells arr t (0, 0)) ∧ CelsR β cs arr.toList := by
  have h1 := getB_some hb
  have hi : i < β.length := by rw [h.len]; exact (List.getElem?_eq_some_iff.1 h1).1
  have hb' : β[i]? = some β[i] := List.getElem?_eq_getElem hi
  obtain ⟨ho, arr, ha, hc⟩ := h.blk i _ _ h1 hb'
  exact ⟨_, arr, hb', h.lt _ (List.getElem_mem hi), ho, ha, hc⟩

theorem cell_at {w : World} {b : Nat} {arr : Array Value} {t : TypeId} {fr : Nat × Nat} (h : w.heap[b]? = some (.cells arr t fr)) (off : Nat) : w.cell? ⟨b, off, none⟩ = arr[off]? := by
  simp [World.cell?, h]

theorem addr_add (b off j : Nat) : (⟨b, off, none⟩ : Addr).add j = ⟨b, off + j, none⟩ := by
  unfold Addr.add; split <;> simp_all

section
variable {P : Program} {T : Tab} (hT : TabOk P T)
include hT

theorem run_sizeOf {t : TypeId} {ti : TI} (h : look T t = some ti) (w : World) : (sizeOf t).run P w = .ok ti.size w := by
  obtain ⟨⟨inf, h1, h2, _⟩, _⟩ := hT.look h
  simp [sizeOf, typeInfo, h1, h2]

theorem run_isAgg {t : TypeId} {ti : TI} {b : Bool} (h : look T t = some ti) (hb : ti.d.agg? = some b) (w : World) : (isAgg t).run P w = .ok b w := by
  obtain ⟨_, h2⟩ := hT.look h
  cases hd : ti.d <;> rw [hd] at h2 hb <;> simp only [TD.agg?, Option.some.injEq, reduceCtorEq] at hb <;> subst hb <;> simp only at h2 <;>
    first
      | (simp [isAgg, underlying, h2]; done)
      | (obtain ⟨e, h2⟩ := h2; simp [isAgg, underlying, h2]; done)
      | (obtain ⟨e, h2, _⟩ := h2; simp [isAgg, underlying, h2])
      | (obtain ⟨_, _, _, h2⟩ := h2; simp [isAgg, underlying, h2])

theorem run_load_scalar {t : TypeId} {ti : TI} (h : look T t = some ti) (hb : ti.d.agg? = some false) {w : World} {b off : Nat} {arr : Array Value} {e : TypeId} {v : Value}
    (hh : w.heap[b]? = some (.cells arr e (0, 0))) (hv : arr[off]? = some v) : (loadVar t ⟨b, off, none⟩).run P w = .ok v w := by
  simp [loadVar, run_isAgg hT h hb, cell_at hh, hv]

theorem run_load_agg {t : TypeId} {ti : TI} (h : look T t = some ti) (hb : ti.d.agg? = some true) {w : World} {b off : Nat} {arr : Array Value} {e : TypeId}
    (hh : w.heap[b]? = some (.cells arr e (0, 0))) (hv : off + ti.size ≤ arr.size) : (loadVar t ⟨b, off, none⟩).run P w = .ok (.agg ((arr.toList.drop off).take ti.size).toArray) w := by
  have hl : ((arr.toList.drop off).take ti.size).length = ti.size := by simp; omega
  have := run_loadCells_list (P := P) w ⟨b, off, none⟩ ((arr.toList.drop off).take ti.size) (fun j v hj => by
    rw [addr_add, cell_at hh, ← Array.getElem?_toList]
    have hjl : j < ti.size := by have := (List.getElem?_eq_some_iff.1 hj).1; omega
    rw [List.getElem?_take_of_lt hjl, List.getElem?_drop] at hj
    exact hj)
  rw [hl] at this
  simp [loadVar, run_isAgg hT h hb, run_sizeOf hT h, this]

end

/-- What is read at a known place of a block. -/
def loadC (cs : List Cel) (ti : TI) (off : Nat) : Option LV :=
  match ti.d.agg? with
  | some true => if ti.size = 0 then none else (takeC cs off ti.size).map fun l => .a (.agg l)
  | some false => (cellAt cs off).map fun c => .a (.c c)
  | none => none

/-- What is read at a computed place of a run. -/
def loadR (ks : List IntKind) (n : Nat) (l : List Int) (ti : TI) (i : Int) (s fo : Nat) : Option (Prop × LV) :=
  match ti.d.agg? with
  | some false =>
    if s = 1 ∧ fo = 0 then (if ks.length = 1 then some (0 ≤ i ∧ i.toNat < n, .a (.c (.int (ks.getD 0 .i64) (l.getD i.toNat 0)))) else none)
    else if s % ks.length = 0 then some (0 ≤ i ∧ i.toNat * s + fo < n, .a (.c (.int (ks.getD (fo % ks.length) .i64) (l.getD (i.toNat * s + fo) 0)))) else none
  | some true =>
    if ti.size = 0 then none
    else if s % ks.length = 0 ∧ fo % ks.length = 0 then some (0 ≤ i ∧ i.toNat * s + fo + ti.size ≤ n, .a (.agg [.run ks ti.size ((l.drop (i.toNat * s + fo)).take ti.size)])) else none
  | none => none

def evLoad (T : Tab) (H : List Blk) (t : TypeId) (x : LV) : Option (Prop × LV) :=
  match look T t with
  | none => none
  | some ti =>
    match x with
    | .a (.c (.ptr id off)) => match getB H id with
      | .cells _ _ cs => (loadC cs ti off).map fun v => (True, v)
      | _ => none
    | .a (.c (.pti id base i s fo)) => match getB H id with
      | .cells _ _ cs => match runAt cs base with
        | some (ks, n, l) => loadR ks n l ti i s fo
        | none => none
      | _ => none
    | _ => none

theorem evLoad_sound {P : Program} {T : Tab} (hT : TabOk P T) {n0 : Nat} {w0 : Base} {w : World} {β : List Nat} {H : List Blk} (hH : HR n0 w0 β H w) {t : TypeId} {x : LV} {xv : Value} {p : Prop} {r : LV}
    (hx : LVR β x xv) (he : evLoad T H t x = some (p, r)) (hp : p) : ∃ v, (Instr.loadAt t xv).run P w = .ok v w ∧ LVR β r v := by
  unfold evLoad at he
  split at he
  · simp at he
  rename_i ti hti
  split at he
  · rename_i id off
    obtain ⟨b, hb, rfl⟩ := hx
    split at he
    · rename_i own te cs hg
      obtain ⟨b', arr, hb', hlt, _, hh, hc⟩ := hH.get hg
      rw [hb] at hb'; simp only [Option.some.injEq] at hb'; subst hb'
      obtain ⟨v, hv, he⟩ := Option.map_eq_some_iff.1 he
      simp only [Prod.mk.injEq] at he
      obtain ⟨_, rfl⟩ := he
      unfold loadC at hv
      split at hv
      · rename_i ha
        split at hv
        · simp at hv
        obtain ⟨l, hl, rfl⟩ := Option.map_eq_some_iff.1 hv
        obtain ⟨g1, g2⟩ := takeC_sound hc hl
        refine ⟨_, ?_, ⟨_, rfl, by simpa using g2⟩⟩
        simp [Instr.loadAt, Instr.sureAddr, run_load_agg hT hti ha hh (by rcases g1 with g1 | g1 <;> simp at * <;> omega)]
      · rename_i ha
        obtain ⟨c, hc', rfl⟩ := Option.map_eq_some_iff.1 hv
        obtain ⟨v, hv', hr⟩ := cellAt_sound hc hc'
        refine ⟨v, ?_, hr⟩
        simp [Instr.loadAt, Instr.sureAddr, run_load_scalar hT hti ha hh (by rw [← Array.getElem?_toList]; exact hv')]
      · simp at hv
    · simp at he
  · rename_i id base i s fo
    obtain ⟨b, hb, rfl⟩ := hx
    split at he
    · rename_i own te cs hg
      obtain ⟨b', arr, hb', hlt, _, hh, hc⟩ := hH.get hg
      rw [hb] at hb'; simp only [Option.some.injEq] at hb'; subst hb'
      split at he
      · rename_i ks n l hr
        obtain ⟨hl, hget⟩ := runAt_sound hc hr
        unfold loadR at he
        split at he
        · rename_i ha
          split at he
          · rename_i hs
            obtain ⟨rfl, rfl⟩ := hs
            split at he
            · rename_i hk
              simp only [Option.some.injEq, Prod.mk.injEq] at he
              obtain ⟨rfl, rfl⟩ := he
              have := hget _ hp.2
              rw [hk, Nat.mod_one] at this
              refine ⟨_, ?_, rfl⟩
              simp only [Instr.loadAt, Instr.sureAddr, Sem.run_bind, Sem.run_pure, Result.andThen_ok]
              rw [run_load_scalar hT hti ha hh (by rw [← Array.getElem?_toList, Nat.mul_one, Nat.add_zero]; exact this)]
            · simp at he
          · split at he
            · rename_i hk
              simp only [Option.some.injEq, Prod.mk.injEq] at he
              obtain ⟨rfl, rfl⟩ := he
              have := hget _ hp.2
              rw [Nat.add_mod, Nat.mul_mod, hk, Nat.mul_zero, Nat.zero_mod, Nat.zero_add, Nat.mod_mod] at this
              refine ⟨_, ?_, rfl⟩
              simp only [Instr.loadAt, Instr.sureAddr, Sem.run_bind, Sem.run_pure, Result.andThen_ok]
              rw [run_load_scalar hT hti ha hh (by rw [← Array.getElem?_toList, Nat.add_assoc]; exact this)]
            · simp at he
        · rename_i ha
          split at he
          · simp at he
          split at he
          · rename_i hz hk
            simp only [Option.some.injEq, Prod.mk.injEq] at he
            obtain ⟨rfl, rfl⟩ := he
            have hsz : base + n ≤ arr.toList.length := by
              rcases Nat.eq_zero_or_pos n with h0 | h0
              · omega
              · have := hget (n - 1) (by omega)
                have := (List.getElem?_eq_some_iff.1 this).1
                omega
            have hk0 : (i.toNat * s + fo) % ks.length = 0 := by rw [Nat.add_mod, Nat.mul_mod, hk.1, hk.2, Nat.mul_zero, Nat.zero_mod, Nat.add_zero, Nat.zero_mod]
            refine ⟨_, by
              simp only [Instr.loadAt, Instr.sureAddr, Sem.run_bind, Sem.run_pure, Result.andThen_ok]
              rw [run_load_agg hT hti ha hh (by have := hp.2; simp at hsz; omega)], ⟨_, rfl, runV ks ((l.drop (i.toNat * s + fo)).take ti.size), [], ?_, ⟨?_, rfl⟩, rfl⟩⟩
            · simp only [List.append_nil]
              rw [← runV_take _ _ _ (by have := hp.2; simp; omega), ← runV_drop _ _ _ hk0]
              apply List.ext_getElem?
              intro j
              by_cases hj : j < ti.size
              · rw [List.getElem?_take_of_lt hj, List.getElem?_take_of_lt hj, List.getElem?_drop, List.getElem?_drop,
                  show base + i.toNat * s + fo + j = base + (i.toNat * s + fo + j) by omega, hget _ (by have := hp.2; omega), runV_get _ _ _ (by have := hp.2; omega)]
              · rw [List.getElem?_eq_none (by simp; omega), List.getElem?_eq_none (by simp; omega)]
            · have := hp.2; simp; omega
          · simp at he
        · simp at he
      · simp at he
    · simp at he
  · simp at he

/-- An arithmetic operation or a comparison. -/
def evBin (o : Bool) (op : BinOp) (x y : LV) : Option (Prop × LV) :=
  match asI x, asI y with
  | some (k, a, la), some (k', b, lb) =>
    if k = k' then
      match op with
      | .add => some (wrapN o k (a + b) (la && lb))
      | .sub => some (wrapN o k (a - b) (la && lb))
      | .mul => some (wrapN o k (a * b) (la && lb))
      | .quo => some (b ≠ 0 ∧ (wrapN o k (a.tdiv b) (la && lb)).1, (wrapN o k (a.tdiv b) (la && lb)).2)
      | .rem => some (b ≠ 0, mkI k (a.tmod b) (la && lb))
      | .eql => some (True, mkB (a == b) (la && lb))
      | .neq => some (True, mkB (a != b) (la && lb))
      | .lss => some (True, mkB (decide (a < b)) (la && lb))
      | .leq => some (True, mkB (decide (a ≤ b)) (la && lb))
      | .gtr => some (True, mkB (decide (b < a)) (la && lb))
      | .geq => some (True, mkB (decide (b ≤ a)) (la && lb))
      | _ => none
    else none
  | _, _ => match x, y with
    | .a (.c (.str s)), .a (.c (.str s')) => match op with
      | .eql => some (True, .a (.c (.bool (s.toList == s'.toList))))
      | .neq => some (True, .a (.c (.bool (!(s.toList == s'.toList)))))
      | _ => none
    | _, _ => none

theorem evBin_sound {P : Program} {β : List Nat} {o : Bool} {op : BinOp} {t : TypeId} {x y : LV} {xv yv : Value} {xo yo : Operand} {p : Prop} {r : LV} (w : World)
    (hx : LVR β x xv) (hy : LVR β y yv) (he : evBin o op x y = some (p, r)) (hp : p) :
    ∃ v, (do eqGuard op t xo yo xv yv; binOp op t xv yv : Sem Value).run P w = .ok v w ∧ LVR β r v := by
  unfold evBin at he
  split at he
  · rename_i k a la k' b lb hax hay
    have e1 := asI_sound hx hax
    have e2 := asI_sound hy hay
    subst e1; subst e2
    split at he
    · rename_i hk
      subst hk
      have hg : (eqGuard op t xo yo (.int k a) (.int k b)).run P w = .ok () w := by
        unfold eqGuard
        split <;> simp
      simp only [Sem.run_bind, hg, Result.andThen_ok]
      split at he <;> simp only [Option.some.injEq, Prod.mk.injEq, reduceCtorEq] at he
      · refine ⟨_, by simp [binOp, Op.intArith]; rfl, ?_⟩
        have e2 : r = (wrapN o k (a + b) (la && lb)).2 := by rw [he]
        rw [e2]; exact wrapN_sound β o k (a + b) _ (by rw [he]; exact hp)
      · refine ⟨_, by simp [binOp, Op.intArith]; rfl, ?_⟩
        have e2 : r = (wrapN o k (a - b) (la && lb)).2 := by rw [he]
        rw [e2]; exact wrapN_sound β o k (a - b) _ (by rw [he]; exact hp)
      · refine ⟨_, by simp [binOp, Op.intArith]; rfl, ?_⟩
        have e2 : r = (wrapN o k (a * b) (la && lb)).2 := by rw [he]
        rw [e2]; exact wrapN_sound β o k (a * b) _ (by rw [he]; exact hp)
      · obtain ⟨rfl, rfl⟩ := he
        refine ⟨_, by simp [binOp, Op.intDiv, hp.1], wrapN_sound β o k (a.tdiv b) _ hp.2⟩
      · obtain ⟨rfl, rfl⟩ := he
        refine ⟨_, by simp [binOp, Op.intDiv, hp], mkI_sound β k _ _⟩
      · obtain ⟨_, rfl⟩ := he
        exact ⟨_, by simp [binOp, Op.intCmp], mkB_sound β _ _⟩
      · obtain ⟨_, rfl⟩ := he
        exact ⟨_, by simp [binOp, Op.intCmp], mkB_sound β _ _⟩
      · obtain ⟨_, rfl⟩ := he
        exact ⟨_, by simp [binOp, Op.intCmp], mkB_sound β _ _⟩
      · obtain ⟨_, rfl⟩ := he
        exact ⟨_, by simp [binOp, Op.intCmp], mkB_sound β _ _⟩
      · obtain ⟨_, rfl⟩ := he
        exact ⟨_, by simp [binOp, Op.intCmp], mkB_sound β _ _⟩
      · obtain ⟨_, rfl⟩ := he
        exact ⟨_, by simp [binOp, Op.intCmp], mkB_sound β _ _⟩
    · simp at he
  · split at he
    · rename_i s s' _
      have e1 : xv = .string s := hx
      have e2 : yv = .string s' := hy
      subst e1; subst e2
      have hg : (eqGuard op t xo yo (.string s) (.string s')).run P w = .ok () w := by
        unfold eqGuard
        split <;> simp
      simp only [Sem.run_bind, hg, Result.andThen_ok]
      split at he <;> simp only [Option.some.injEq, Prod.mk.injEq, reduceCtorEq] at he
      · obtain ⟨_, rfl⟩ := he
        exact ⟨_, by simp [binOp, Op.stringOp], rfl⟩
      · obtain ⟨_, rfl⟩ := he
        exact ⟨_, by simp [binOp, Op.stringOp], rfl⟩
    · simp at he



theorem part_sound {P : Program} {T : Tab} (hT : TabOk P T) {t : TypeId} {ti : TI} (hti : look T t = some ti) {β : List Nat} {cs : List Cel} {arr : Array Value} (hc : CelsR β cs arr.toList) {off : Nat} {r : LV}
    (h : loadC cs ti off = some r) (w : World) : ∃ v, (part t arr off).run P w = .ok v w ∧ LVR β r v := by
  unfold loadC at h
  split at h
  · rename_i ha
    split at h
    · simp at h
    obtain ⟨l, hl, rfl⟩ := Option.map_eq_some_iff.1 h
    obtain ⟨g1, g2⟩ := takeC_sound hc hl
    refine ⟨.agg (arr.extract off (off + ti.size)), ?_, ⟨_, rfl, ?_⟩⟩
    · simp [part, run_isAgg hT hti ha, run_sizeOf hT hti]
    · rw [Array.toList_extract, List.extract_eq_take_drop, show off + ti.size - off = ti.size by omega]; exact g2
  · rename_i ha
    obtain ⟨c, hc', rfl⟩ := Option.map_eq_some_iff.1 h
    obtain ⟨v, hv', hr⟩ := cellAt_sound hc hc'
    refine ⟨v, ?_, hr⟩
    rw [Array.getElem?_toList] at hv'
    simp [part, run_isAgg hT hti ha, hv']
  · simp at h

theorem partR_sound {P : Program} {T : Tab} (hT : TabOk P T) {t : TypeId} {ti : TI} (hti : look T t = some ti) {β : List Nat} {cs : List Cel} {arr : Array Value} (hc : CelsR β cs arr.toList)
    {ks : List IntKind} {n : Nat} {l : List Int} (hr : runAt cs 0 = some (ks, n, l)) {i : Int} {s : Nat} {p : Prop} {r : LV}
    (h : loadR ks n l ti i s 0 = some (p, r)) (hp : p) (w : World) : ∃ v, (part t arr (i.toNat * s)).run P w = .ok v w ∧ LVR β r v := by
  obtain ⟨hl, hget⟩ := runAt_sound hc hr
  unfold loadR at h
  split at h
  · rename_i ha
    split at h
    · rename_i hs
      obtain ⟨rfl, _⟩ := hs
      split at h
      · rename_i hk
        simp only [Option.some.injEq, Prod.mk.injEq] at h
        obtain ⟨rfl, rfl⟩ := h
        have := hget _ hp.2
        rw [hk, Nat.mod_one, Nat.zero_add, Array.getElem?_toList] at this
        exact ⟨_, by simp [part, run_isAgg hT hti ha, this], rfl⟩
      · simp at h
    · split at h
      · rename_i hk
        simp only [Option.some.injEq, Prod.mk.injEq] at h
        obtain ⟨rfl, rfl⟩ := h
        have := hget _ hp.2
        rw [Nat.add_zero, Nat.mul_mod, hk, Nat.mul_zero, Nat.zero_mod, Nat.zero_add, Array.getElem?_toList] at this
        exact ⟨.int (ks.getD 0 .i64) (l.getD (i.toNat * s) 0), by simp [part, run_isAgg hT hti ha, this], by simp [LVR, AvR, CelR]⟩
      · simp at h
  · rename_i ha
    split at h
    · simp at h
    split at h
    · rename_i hz hk
      simp only [Option.some.injEq, Prod.mk.injEq] at h
      obtain ⟨rfl, rfl⟩ := h
      have hk0 : (i.toNat * s + 0) % ks.length = 0 := by rw [Nat.add_mod, Nat.mul_mod, hk.1, hk.2, Nat.mul_zero, Nat.zero_mod, Nat.add_zero, Nat.zero_mod]
      refine ⟨.agg (arr.extract (i.toNat * s) (i.toNat * s + ti.size)), by simp [part, run_isAgg hT hti ha, run_sizeOf hT hti], ⟨_, rfl, runV ks ((l.drop (i.toNat * s + 0)).take ti.size), [], ?_, ⟨?_, rfl⟩, rfl⟩⟩
      · rw [List.append_nil, Array.toList_extract, List.extract_eq_take_drop, show i.toNat * s + ti.size - i.toNat * s = ti.size by omega]
        rw [← runV_take _ _ _ (by have := hp.2; simp; omega), ← runV_drop _ _ _ hk0]
        apply List.ext_getElem?
        intro j
        by_cases hj : j < ti.size
        · have := hget (i.toNat * s + j) (by have := hp.2; omega)
          rw [List.getElem?_take_of_lt hj, List.getElem?_take_of_lt hj, List.getElem?_drop, List.getElem?_drop, Nat.add_zero,
            runV_get _ _ _ (by have := hp.2; omega), ← this, Nat.zero_add]
        · rw [List.getElem?_eq_none (by simp; omega), List.getElem?_eq_none (by simp; omega)]
      · have := hp.2; simp; omega
    · simp at h
  · simp at h

def evIdxA (T : Tab) (t : TypeId) (x i : LV) : Option (Prop × LV) :=
  match look T t, asI i with
  | some ti, some (_, iv, lit) =>
    match ti.d, x with
    | .arr n e, .a (.c (.ptr id off)) => match look T e with
      | some et =>
        if lit then (if 0 ≤ iv ∧ iv < n then some (True, .a (.c (.ptr id (off + iv.toNat * et.size)))) else none)
        else some (0 ≤ iv ∧ iv < n, .a (.c (.pti id off iv et.size 0)))
      | none => none
    | .arr n e, .a (.c (.pti id base j s fo)) => match look T e with
      | some et => if lit then (if 0 ≤ iv ∧ iv < n then some (True, .a (.c (.pti id base j s (fo + iv.toNat * et.size)))) else none) else none
      | none => none
    | .slice e, .a (.c (.slc id base j s len _)) => match look T e with
      | some et => if et.size = s then some (0 ≤ iv ∧ iv < len, .a (.c (.pti id base (j + iv) s 0))) else none
      | none => none
    | _, _ => none
  | _, _ => none

theorem evIdxA_sound {P : Program} {T : Tab} (hT : TabOk P T) {β : List Nat} {t : TypeId} {x i : LV} {xv iv : Value} {p : Prop} {r : LV} (w : World)
    (hx : LVR β x xv) (hi : LVR β i iv) (he : evIdxA T t x i = some (p, r)) (hp : p) : ∃ v, (Instr.indexAt t xv iv).run P w = .ok v w ∧ LVR β r v := by
  unfold evIdxA at he
  split at he
  · rename_i ti k n lit hti hai
    have e := asI_sound hi hai
    subst e
    obtain ⟨_, hu⟩ := hT.look hti
    split at he
    · rename_i m e id off hd
      rw [hd] at hu
      obtain ⟨b, hb, rfl⟩ := hx
      split at he
      · rename_i et het
        have hs := run_sizeOf hT het w
        split at he
        · split at he
          · rename_i hr
            simp only [Option.some.injEq, Prod.mk.injEq] at he
            obtain ⟨_, rfl⟩ := he
            exact ⟨_, by simp [Instr.indexAt, asIntOf, underlying, hu, Instr.sureAddr, hr, hs, addr_add], ⟨b, hb, rfl⟩⟩
          · simp at he
        · simp only [Option.some.injEq, Prod.mk.injEq] at he
          obtain ⟨rfl, rfl⟩ := he
          exact ⟨_, by simp [Instr.indexAt, asIntOf, underlying, hu, Instr.sureAddr, hp, hs, addr_add], ⟨b, hb, rfl⟩⟩
      · simp at he
    · rename_i m e id base j s fo hd
      rw [hd] at hu
      obtain ⟨b, hb, rfl⟩ := hx
      split at he
      · rename_i et het
        have hs := run_sizeOf hT het w
        split at he
        · split at he
          · rename_i hr
            simp only [Option.some.injEq, Prod.mk.injEq] at he
            obtain ⟨_, rfl⟩ := he
            exact ⟨_, by simp [Instr.indexAt, asIntOf, underlying, hu, Instr.sureAddr, hr, hs, addr_add]; rfl, ⟨b, hb, by rw [Nat.add_assoc]⟩⟩
          · simp at he
        · simp at he
      · simp at he
    · rename_i e id base j s len cap hd
      rw [hd] at hu
      obtain ⟨h1, h2, h3, b, hb, hx⟩ := hx
      split at he
      · rename_i et het
        have hs := run_sizeOf hT het w
        split at he
        · rename_i hss
          simp only [Option.some.injEq, Prod.mk.injEq] at he
          obtain ⟨rfl, rfl⟩ := he
          rcases hx with rfl | ⟨hc, o, rfl⟩
          · refine ⟨_, by simp [Instr.indexAt, asIntOf, underlying, hu, hs, addr_add, hp.1, show n < max len 0 by omega]; rfl, ⟨b, hb, ?_⟩⟩
            rw [hss, Nat.add_zero, show (j + n).toNat = j.toNat + n.toNat by omega, Nat.add_mul, Nat.add_assoc]
          · exfalso; omega
        · simp at he
      · simp at he
    · simp at he
  · simp at he

def byteAt (s : ByteArray) (i : Int) : Int := (s.data.toList.getD i.toNat 0).toNat

def evIdx (T : Tab) (t : TypeId) (x i : LV) : Option (Prop × LV) :=
  match look T t, asI i with
  | some ti, some (_, iv, lit) =>
    match ti.d, x with
    | .arr n e, .a (.agg cs) => match look T e with
      | some et =>
        if lit then (if 0 ≤ iv ∧ iv < n then (loadC cs et (iv.toNat * et.size)).map fun v => (True, v) else none)
        else match runAt cs 0 with
          | some (ks, m, l) => (loadR ks m l et iv et.size 0).map fun (q, v) => ((0 ≤ iv ∧ iv < n) ∧ q, v)
          | none => none
      | none => none
    | .str, .a (.c (.str s)) => some (0 ≤ iv ∧ iv < s.size, .a (.c (.int .u8 (byteAt s iv))))
    | _, _ => none
  | _, _ => none

theorem evIdx_sound {P : Program} {T : Tab} (hT : TabOk P T) {β : List Nat} {t : TypeId} {x i : LV} {xv iv : Value} {p : Prop} {r : LV} (w : World)
    (hx : LVR β x xv) (hi : LVR β i iv) (he : evIdx T t x i = some (p, r)) (hp : p) : ∃ v, (Instr.index t xv iv).run P w = .ok v w ∧ LVR β r v := by
  unfold evIdx at he
  split at he
  · rename_i ti k n lit hti hai
    have e := asI_sound hi hai
    subst e
    obtain ⟨_, hu⟩ := hT.look hti
    split at he
    · rename_i m e cs hd
      rw [hd] at hu
      obtain ⟨arr, rfl, hc⟩ := hx
      split at he
      · rename_i et het
        have hs := run_sizeOf hT het w
        split at he
        · split at he
          · rename_i hr
            obtain ⟨v, hv, he⟩ := Option.map_eq_some_iff.1 he
            simp only [Prod.mk.injEq] at he
            obtain ⟨_, rfl⟩ := he
            obtain ⟨v', h1, h2⟩ := part_sound hT het hc hv w
            exact ⟨v', by simp [Instr.index, asIntOf, underlying, hu, hr, hs, h1], h2⟩
          · simp at he
        · split at he
          · rename_i ks m' l hr
            obtain ⟨⟨q, v⟩, hv, he⟩ := Option.map_eq_some_iff.1 he
            simp only [Prod.mk.injEq] at he
            obtain ⟨rfl, rfl⟩ := he
            obtain ⟨v', h1, h2⟩ := partR_sound hT het hc hr hv hp.2 w
            exact ⟨v', by simp [Instr.index, asIntOf, underlying, hu, hp.1, hs, h1], h2⟩
          · simp at he
      · simp at he
    · rename_i s hd
      rw [hd] at hu
      have e : xv = .string s := hx
      subst e
      simp only [Option.some.injEq, Prod.mk.injEq] at he
      obtain ⟨rfl, rfl⟩ := he
      have hlt : n.toNat < s.size := by omega
      refine ⟨_, by rw [run_index_string (P := P) w t s k n hu, dif_pos ⟨hp.1, hp.2⟩], ?_⟩
      have e : s.data.toList.getD n.toNat 0 = s[n.toNat]'hlt := by
        rw [List.getD_eq_getElem?_getD, Array.getElem?_toList, Array.getElem?_eq_getElem (show n.toNat < s.data.size from hlt)]; rfl
      simp only [LVR, AvR, CelR, byteAt, e]
    · simp at he
  · simp at he



def cellsOf : LV → Option (List Cel)
  | .a (.agg l) => if l.all Cel.plain then some l else none
  | .a (.c x) => match x with
    | .run _ _ _ => none
    | x => if x.plain then some [x] else none
  | .tup _ => none

theorem oneCell_of {β : List Nat} {c : Cel} {v : Value} (h : CelR β c v) (hp : c.plain = true) : v.oneCell' = true := by
  cases c <;> simp only [CelR, Cel.plain, Bool.false_eq_true] at *
  case lit => subst h; rfl
  case int => subst h; rfl
  case tt => subst h; rfl
  case ff => subst h; rfl
  case bool => subst h; rfl
  case str => subst h; rfl
  case ptr => obtain ⟨_, _, rfl⟩ := h; rfl
  case pti => obtain ⟨_, _, rfl⟩ := h; rfl
  case slc => obtain ⟨_, _, _, b, _, h⟩ := h; rcases h with rfl | ⟨_, o, rfl⟩ <;> rfl
  case val => subst h; exact hp
  case fn => obtain ⟨_, _, rfl⟩ := h; rfl
  case yld => obtain ⟨_, _, rfl⟩ := h; rfl

theorem oneCell1 {β : List Nat} {c : Cel} {vs : List Value} (h : Cel1 β c vs) (hp : c.plain = true) : ∀ v ∈ vs, v.oneCell' = true := by
  cases c <;> simp only [Cel1] at h <;>
    first
      | (obtain ⟨v, rfl, h⟩ := h; intro u hu; rw [List.mem_singleton] at hu; subst hu; exact oneCell_of h hp)
      | (obtain ⟨_, rfl⟩ := h; intro u hu; simp only [runV, List.mem_map] at hu; obtain ⟨_, _, rfl⟩ := hu; rfl)

theorem oneCells {β : List Nat} : ∀ {cs : List Cel} {vs : List Value}, CelsR β cs vs → cs.all Cel.plain = true → ∀ v ∈ vs, v.oneCell' = true
  | [], vs, h, _ => by simp only [CelsR] at h; subst h; simp
  | c :: cs, vs, ⟨pre, rest, h, h1, h2⟩, hp => by
    subst h
    simp only [List.all_cons, Bool.and_eq_true] at hp
    intro v hv
    rcases List.mem_append.1 hv with hv | hv
    · exact oneCell1 h1 hp.1 v hv
    · exact oneCells h2 hp.2 v hv

theorem cells_one {v : Value} (h : v.oneCell' = true) : v.cells = #[v] := by
  cases v <;> first | rfl | simp [Value.oneCell'] at h

theorem cellsOf_sound {β : List Nat} {x : LV} {v : Value} {l : List Cel} (h : LVR β x v) (hl : cellsOf x = some l) : CelsR β l v.cells.toList ∧ l.all Cel.plain = true := by
  unfold cellsOf at hl
  split at hl
  · split at hl
    · rename_i hp
      simp only [Option.some.injEq] at hl; subst hl
      obtain ⟨arr, rfl, hc⟩ := h
      exact ⟨hc, hp⟩
    · simp at hl
  · rename_i x
    split at hl
    · simp at hl
    · rename_i hne
      split at hl
      · rename_i hp
        simp only [Option.some.injEq] at hl; subst hl
        have h' : CelR β x v := h
        rw [cells_one (oneCell_of h' hp)]
        refine ⟨⟨[v], [], rfl, ?_, rfl⟩, by simp [hp]⟩
        cases x <;> first | exact ⟨v, rfl, h'⟩ | exact absurd rfl (hne _ _ _)
      · simp at hl
  · simp at hl

theorem HR.push {n0 : Nat} {w0 : Base} {w : World} {β : List Nat} {H : List Blk} (h : HR n0 w0 β H w) {arr : Array Value} {t : TypeId} {cs : List Cel} (hc : CelsR β cs arr.toList) :
    HR n0 w0 (β ++ [w.heap.size]) (H ++ [.cells true t cs]) { w with heap := w.heap.push (.cells arr t) } := by
  have hgr : Grow n0 w0.m w (w.alloc (.cells arr t)) := Grow.alloc h.base _
  refine ⟨?_, by simp [h.len], ?_, ?_, by have := h.ms; simp; omega, h.st, h.sj, h.st _ _ hgr h.ext, ?_⟩
  · have := h.base; simp; omega
  · rw [List.nodup_append]
    exact ⟨h.nd, by simp, fun a ha b hb' e => by simp at hb'; have := h.lt a ha; omega⟩
  · intro b hb'
    rcases List.mem_append.1 hb' with hb' | hb'
    · have := h.lt b hb'; simp; omega
    · simp at hb'; subst hb'; simp
  · intro i B b hB hβ
    by_cases hi : i < H.length
    · rw [List.getElem?_append_left hi] at hB
      rw [List.getElem?_append_left (by rw [h.len]; exact hi)] at hβ
      have hlt := h.lt b (List.mem_of_getElem? hβ)
      have := h.blk i B b hB hβ
      cases B with
      | dead => trivial
      | gst N gd el j => exact ⟨this.1, h.sj _ _ _ _ _ _ hgr.below this.2⟩
      | cells own te ce =>
        obtain ⟨h1, ar, h2, h3⟩ := this
        refine ⟨h1, ar, ?_, h3.mono⟩
        simp only [Array.getElem?_push]
        rw [if_neg (by omega)]; exact h2
    · have hl : i = H.length := by
        have := (List.getElem?_eq_some_iff.1 hB).1
        simp at this; omega
      subst hl
      have e1 : (H ++ [Blk.cells true t cs])[H.length]? = some (.cells true t cs) := by simp
      have e2 : (β ++ [w.heap.size])[H.length]? = some w.heap.size := by rw [← h.len]; simp
      rw [e1] at hB; rw [e2] at hβ
      simp only [Option.some.injEq] at hB hβ
      subst hB; subst hβ
      exact ⟨fun _ => h.base, arr, by simp, hc.mono⟩

theorem HR.set {n0 : Nat} {w0 : Base} {w : World} {β : List Nat} {H : List Blk} (h : HR n0 w0 β H w) {i b : Nat} {t : TypeId} {cs cs' : List Cel} {arr arr' : Array Value}
    (hg : getB H i = .cells true t cs) (hb : β[i]? = some b) (hh : w.heap[b]? = some (.cells arr t (0, 0))) (hc : CelsR β cs' arr'.toList) :
    HR n0 w0 β (H.set i (.cells true t cs')) (w.setRow b arr') := by
  have hg' := getB_some hg
  have hbn : n0 ≤ b := (h.blk i _ b hg' hb).1 rfl
  have hgr : Grow n0 w0.m w (w.setRow b arr') := ⟨below_setRow (Below.refl n0 w) hbn _, fun k o _ ho hno => by
    by_cases hk : k = b
    · subst hk; rw [hh] at ho; simp only [Option.some.injEq] at ho; exact absurd ho.symm (hno _ _ _)
    · rw [setRow_other w b k arr' hk]; exact ho⟩
  refine ⟨by simpa using h.base, by simp [h.len], h.nd, fun b hb => by simpa using h.lt b hb, by simpa using h.ms, h.st, h.sj, h.st _ _ hgr h.ext, ?_⟩
  intro j B b' hB hβ
  rw [List.getElem?_set] at hB
  by_cases hij : i = j
  · subst hij
    rw [hb] at hβ; simp only [Option.some.injEq] at hβ; subst hβ
    have hlt : i < H.length := (List.getElem?_eq_some_iff.1 hg').1
    simp only [hlt, if_true, Option.some.injEq] at hB
    subst hB
    exact ⟨fun _ => hbn, arr', setRow_heap w b arr arr' t (0, 0) hh, hc⟩
  · rw [if_neg hij] at hB
    have hne : b' ≠ b := by
      intro e
      subst e
      exact hij ((List.getElem?_inj (List.getElem?_eq_some_iff.1 hb).1 h.nd).1 (hb.trans hβ.symm))
    have := h.blk j B b' hB hβ
    cases B with
    | dead => trivial
    | gst N gd el j => exact ⟨this.1, h.sj _ _ _ _ _ _ hgr.below this.2⟩
    | cells own te ce =>
      obtain ⟨h1, ar, h2, h3⟩ := this
      exact ⟨h1, ar, by rw [setRow_other w b b' arr' hne]; exact h2, h3⟩

/-- A list's length, handed on as a numeral. -/
def withLen {α γ : Type} : List α → List Nat → (Nat → Option γ) → Option γ
  | [], n :: _, k => k n
  | _ :: xs, _ :: ns, k => withLen xs ns k
  | _, [], _ => none

def numerals : List Nat := [0, 1, 2, 3, 4, 5, 6, 7, 8, 9, 10, 11, 12, 13, 14, 15, 16, 17, 18, 19, 20, 21, 22, 23, 24, 25, 26, 27, 28, 29, 30, 31, 32, 33, 34, 35, 36, 37, 38, 39, 40, 41, 42, 43, 44, 45, 46, 47, 48]

theorem withLen_go {α γ : Type} : ∀ (xs : List α) (ns : List Nat) (k : Nat → Option γ) (r : γ) (j : Nat), (∀ i n, ns[i]? = some n → n = j + i) → withLen xs ns k = some r → k (j + xs.length) = some r
  | [], [], k, r, j, _, h => by simp [withLen] at h
  | [], n :: ns, k, r, j, hn, h => by
    simp only [withLen] at h
    have := hn 0 n rfl
    rw [this] at h; exact h
  | x :: xs, [], k, r, j, _, h => by simp [withLen] at h
  | x :: xs, n :: ns, k, r, j, hn, h => by
    simp only [withLen] at h
    have := withLen_go xs ns k r (j + 1) (fun i n' hi => by have := hn (i + 1) n' (by simpa using hi); omega) h
    rw [List.length_cons, show j + (xs.length + 1) = j + 1 + xs.length by omega]; exact this

theorem withLen_sound {α γ : Type} {xs : List α} {k : Nat → Option γ} {r : γ} (h : withLen xs numerals k = some r) : k xs.length = some r := by
  have := withLen_go xs numerals k r 0 (by
    intro i n hi
    have hlt : i < numerals.length := (List.getElem?_eq_some_iff.1 hi).1
    have : ∀ i : Fin 49, numerals[i.val]? = some i.val := by decide
    have e := this ⟨i, hlt⟩
    simp only at e
    rw [e] at hi; simp at hi; omega) h
  simpa using this

def evAlloc (T : Tab) (H : List Blk) (t : TypeId) : Option (Prop × LV × List Blk) :=
  match look T t with
  | some ⟨_, _, z⟩ => withLen H numerals fun n => some (True, .a (.c (.ptr n 0)), H ++ [.cells true t z])
  | none => none

theorem evAlloc_sound {P : Program} {T : Tab} (hT : TabOk P T) {n0 : Nat} {w0 : Base} {w : World} {β : List Nat} {H H' : List Blk} (hH : HR n0 w0 β H w) {t : TypeId} {p : Prop} {r : LV}
    (he : evAlloc T H t = some (p, r, H')) : ∃ v w' γ, (Instr.alloc t true (.tuple #[])).run P w = .ok v w' ∧ HR n0 w0 (β ++ γ) H' w' ∧ LVR (β ++ γ) r v := by
  unfold evAlloc at he
  split at he
  · rename_i d sz z hti
    have he := withLen_sound he
    simp only [Option.some.injEq, Prod.mk.injEq] at he
    obtain ⟨_, rfl, rfl⟩ := he
    obtain ⟨⟨inf, h1, h2, z', hz, hc⟩, _⟩ := hT.look hti
    refine ⟨.pointer (some ⟨w.heap.size, 0, none⟩), _, [w.heap.size], ?_, hH.push (hc β), ⟨w.heap.size, by rw [← hH.len]; simp, rfl⟩⟩
    simp [Instr.alloc, zeroValue, typeInfo, h1, hz, newVar, newRow]
  · simp at he

def evBox (H : List Blk) (t : TypeId) (x : LV) : Option (Prop × LV × List Blk) :=
  match cellsOf x with
  | some l => withLen H numerals fun n => some (True, .a (.c (.ptr n 0)), H ++ [.cells true t l])
  | none => none

theorem evBox_sound {P : Program} {n0 : Nat} {w0 : Base} {w : World} {β : List Nat} {H H' : List Blk} (hH : HR n0 w0 β H w) {t : TypeId} {x : LV} {xv : Value} {p : Prop} {r : LV} (hx : LVR β x xv)
    (he : evBox H t x = some (p, r, H')) : ∃ v w' γ, (Instr.box t xv).run P w = .ok v w' ∧ HR n0 w0 (β ++ γ) H' w' ∧ LVR (β ++ γ) r v := by
  unfold evBox at he
  split at he
  · rename_i l hl
    have he := withLen_sound he
    simp only [Option.some.injEq, Prod.mk.injEq] at he
    obtain ⟨_, rfl, rfl⟩ := he
    obtain ⟨hc, _⟩ := cellsOf_sound hx hl
    refine ⟨.pointer (some ⟨w.heap.size, 0, none⟩), _, [w.heap.size], ?_, hH.push hc, ⟨w.heap.size, by rw [← hH.len]; simp, rfl⟩⟩
    simp [Instr.box, newVar, newRow]
  · simp at he

/-- An integer put into a run at a known place. -/
def putLit : List Cel → Nat → IntKind → Int → Option (List Cel)
  | [], _, _, _ => none
  | c :: cs, off, k, x =>
    if off < c.w then
      match c with
      | .run ks n l => if ks.getD (off % ks.length) .i64 = k then some (.run ks n (l.set off x) :: cs) else none
      | _ => none
    else (putLit cs (off - c.w) k x).map (c :: ·)

theorem putLit_sound {β : List Nat} : ∀ {cs : List Cel} {vs : List Value} {off : Nat} {k : IntKind} {x : Int} {r : List Cel}, CelsR β cs vs → putLit cs off k x = some r →
    off < vs.length ∧ CelsR β r (vs.set off (.int k x))
  | [], _, _, _, _, _, _, h => by simp [putLit] at h
  | c :: cs, vs, off, k, x, r, h, hc => by
    obtain ⟨pre, rest, rfl, h1, h2⟩ := h
    have hl := h1.len
    unfold putLit at hc
    split at hc
    · rename_i ho
      cases c <;> simp only [reduceCtorEq] at hc
      rename_i ks n l
      split at hc
      · rename_i hk
        simp only [Option.some.injEq] at hc
        subst hc
        obtain ⟨e1, rfl⟩ := h1
        simp only [Cel.w] at *
        refine ⟨by simp; omega, _, rest, ?_, ⟨by simpa using e1, rfl⟩, h2⟩
        rw [List.set_append_left _ _ (by omega), ← hk, runV_set _ _ _ _ (by omega)]
      · simp at hc
    · rename_i ho
      obtain ⟨r', hr', rfl⟩ := Option.map_eq_some_iff.1 hc
      obtain ⟨g1, g2⟩ := putLit_sound h2 hr'
      refine ⟨by simp; omega, pre, _, ?_, h1, g2⟩
      rw [List.set_append_right _ _ (by omega), hl]

/-- The one integer of a list of cells. -/
def oneI : List Cel → Option (IntKind × Int)
  | [.lit k n] => some (k, n)
  | [.int k n] => some (k, n)
  | _ => none

theorem oneI_sound {β : List Nat} {l : List Cel} {vs : List Value} {k : IntKind} {n : Int} (h : CelsR β l vs) (ho : oneI l = some (k, n)) : vs = [.int k n] := by
  unfold oneI at ho
  split at ho <;> simp at ho <;> obtain ⟨rfl, rfl⟩ := ho <;> obtain ⟨pre, rest, rfl, ⟨v, rfl, hv⟩, hr⟩ := h <;> simp only [CelsR] at hr <;> subst hr <;> simp only [CelR] at hv <;> subst hv <;> rfl

/-- What a store makes of a block's cells. -/
def storeAtC (cs : List Cel) (x : LV) (new : List Cel) : Option (Prop × List Cel) :=
  match x with
  | .a (.c (.ptr _ off)) =>
    match putC cs off new with
    | some r => some (True, r)
    | none => match oneI new with
      | some (k, n) => (putLit cs off k n).map fun r => (True, r)
      | none => none
  | .a (.c (.pti _ base i s fo)) =>
    match runAt cs base, oneI new with
    | some (ks, m, _), some (k, n) =>
      if s = 1 ∧ fo = 0 then
        if ks.length = 1 ∧ ks.getD 0 .i64 = k then (putRun cs base i.toNat n).map fun r => (0 ≤ i ∧ i.toNat < m, r) else none
      else if s % ks.length = 0 ∧ ks.getD (fo % ks.length) .i64 = k then (putRun cs base (i.toNat * s + fo) n).map fun r => (0 ≤ i ∧ i.toNat * s + fo < m, r)
      else none
    | _, _ => none
  | _ => none

def idOf : LV → Option Nat
  | .a (.c (.ptr id _)) => some id
  | .a (.c (.pti id _ _ _ _)) => some id
  | _ => none

def evStore (T : Tab) (H : List Blk) (t : TypeId) (x v : LV) : Option (Prop × LV × List Blk) :=
  match look T t, idOf x, cellsOf v with
  | some ti, some id, some new =>
    if width new = ti.size then
      match getB H id with
      | .cells true te cs => (storeAtC cs x new).map fun (p, r) => (p, .a (.c (.val undef)), H.set id (.cells true te r))
      | _ => none
    else none
  | _, _, _ => none

theorem run_storeVar {P : Program} {T : Tab} (hT : TabOk P T) {t : TypeId} {ti : TI} (hti : look T t = some ti) {w : World} {b off : Nat} {arr : Array Value} {te : TypeId} {v : Value}
    (hh : w.heap[b]? = some (.cells arr te (0, 0))) (hs : v.cells.size = ti.size) (hf : off + v.cells.size ≤ arr.size) (h1 : ∀ u ∈ v.cells.toList, u.oneCell' = true) :
    (storeVar t ⟨b, off, none⟩ v).run P w = .ok () (w.setRow b (arr.toList.take off ++ v.cells.toList ++ arr.toList.drop (off + v.cells.size)).toArray) := by
  have := run_storeCells_at P b off te v.cells.toList 0 arr w hh (by simpa using hf) h1
  simp only [Nat.add_zero, Array.length_toList] at this
  simp [storeVar, run_sizeOf hT hti, hs]
  simpa [hs] using this

theorem splice_one (l : List Value) (j : Nat) (v : Value) (h : j < l.length) : l.take j ++ [v] ++ l.drop (j + 1) = l.set j v := by
  rw [List.set_eq_take_append_cons_drop, if_pos h]; simp

theorem evStore_sound {P : Program} {T : Tab} (hT : TabOk P T) {n0 : Nat} {w0 : Base} {w : World} {β : List Nat} {H H' : List Blk} (hH : HR n0 w0 β H w) {t : TypeId} {x v : LV} {xv vv : Value} {p : Prop} {r : LV}
    (hx : LVR β x xv) (hv : LVR β v vv) (he : evStore T H t x v = some (p, r, H')) (hp : p) :
    ∃ w', (Instr.storeAt t xv vv).run P w = .ok () w' ∧ HR n0 w0 β H' w' ∧ r = .a (.c (.val undef)) := by
  unfold evStore at he
  split at he
  · rename_i ti id new hti hid hnew
    obtain ⟨hcn, hpl⟩ := cellsOf_sound hv hnew
    split at he
    · rename_i hw
      split at he
      · rename_i te cs hg
        obtain ⟨⟨q, cs'⟩, hq, he⟩ := Option.map_eq_some_iff.1 he
        simp only [Prod.mk.injEq] at he
        obtain ⟨rfl, rfl, rfl⟩ := he
        obtain ⟨b, arr, hb, hlt, _, hh, hc⟩ := hH.get hg
        have hsz : vv.cells.size = ti.size := by rw [← Array.length_toList, hcn.len, hw]
        have h1 := oneCells hcn hpl
        unfold storeAtC at hq
        split at hq
        · rename_i id' off
          simp only [idOf, Option.some.injEq] at hid
          subst hid
          obtain ⟨b', hb', rfl⟩ := hx
          rw [hb] at hb'; simp only [Option.some.injEq] at hb'; subst hb'
          split at hq
          · rename_i r' hr
            simp only [Option.some.injEq, Prod.mk.injEq] at hq
            obtain ⟨_, rfl⟩ := hq
            obtain ⟨g1, g2⟩ := putC_sound hc hcn hr
            simp only [Array.length_toList] at g1 g2
            refine ⟨_, ?_, hH.set hg hb hh (arr' := (arr.toList.take off ++ vv.cells.toList ++ arr.toList.drop (off + vv.cells.size)).toArray) (by simpa using g2), rfl⟩
            simp only [Instr.storeAt, Instr.sureAddr, Sem.run_bind, Sem.run_pure, Result.andThen_ok]
            exact run_storeVar hT hti hh hsz g1 h1
          · split at hq
            · rename_i k n ho
              obtain ⟨r', hr, he⟩ := Option.map_eq_some_iff.1 hq
              simp only [Prod.mk.injEq] at he
              obtain ⟨_, rfl⟩ := he
              have e1 := oneI_sound hcn ho
              obtain ⟨g1, g2⟩ := putLit_sound hc hr
              have hs1 : vv.cells.size = 1 := by rw [← Array.length_toList, e1]; rfl
              simp only [Array.length_toList] at g1
              refine ⟨_, ?_, hH.set hg hb hh (arr' := (arr.toList.take off ++ vv.cells.toList ++ arr.toList.drop (off + vv.cells.size)).toArray) (by rw [e1, hs1, splice_one _ _ _ (by simpa using g1)]; simpa using g2), rfl⟩
              simp only [Instr.storeAt, Instr.sureAddr, Sem.run_bind, Sem.run_pure, Result.andThen_ok]
              exact run_storeVar hT hti hh hsz (by omega) h1
            · simp at hq
        · rename_i id' base i s fo
          simp only [idOf, Option.some.injEq] at hid
          subst hid
          obtain ⟨b', hb', rfl⟩ := hx
          rw [hb] at hb'; simp only [Option.some.injEq] at hb'; subst hb'
          split at hq
          · rename_i ks m l k n hr ho
            have e1 := oneI_sound hcn ho
            have hs1 : vv.cells.size = 1 := by rw [← Array.length_toList, e1]; rfl
            obtain ⟨hl, hget⟩ := runAt_sound hc hr
            have key : ∀ j, j < m → ks.getD (j % ks.length) .i64 = k → ∀ r', putRun cs base j n = some r' →
                ∃ w', (Instr.storeAt t (.pointer (some ⟨b, base + j, none⟩)) vv).run P w = .ok () w' ∧ HR n0 w0 β (H.set id' (.cells true te r')) w' := by
              intro j hj hk r' hr'
              have g2 := putRun_sound hc hr hj hr'
              rw [hk] at g2
              have g1 : base + j < arr.size := by
                have := (List.getElem?_eq_some_iff.1 (hget j hj)).1
                simpa using this
              refine ⟨_, ?_, hH.set hg hb hh (arr' := (arr.toList.take (base + j) ++ vv.cells.toList ++ arr.toList.drop (base + j + vv.cells.size)).toArray) (by rw [e1, hs1, splice_one _ _ _ (by simpa using g1)]; simpa using g2)⟩
              simp only [Instr.storeAt, Instr.sureAddr, Sem.run_bind, Sem.run_pure, Result.andThen_ok]
              exact run_storeVar hT hti hh hsz (by omega) h1
            split at hq
            · rename_i hs
              obtain ⟨rfl, rfl⟩ := hs
              split at hq
              · rename_i hk
                obtain ⟨r', hr', he⟩ := Option.map_eq_some_iff.1 hq
                simp only [Prod.mk.injEq] at he
                obtain ⟨rfl, rfl⟩ := he
                obtain ⟨w', e2, e3⟩ := key i.toNat hp.2 (by rw [hk.1, Nat.mod_one]; exact hk.2) _ hr'
                exact ⟨w', by rw [Nat.mul_one, Nat.add_zero]; exact e2, e3, rfl⟩
              · simp at hq
            · split at hq
              · rename_i hk
                obtain ⟨r', hr', he⟩ := Option.map_eq_some_iff.1 hq
                simp only [Prod.mk.injEq] at he
                obtain ⟨rfl, rfl⟩ := he
                obtain ⟨w', e2, e3⟩ := key _ hp.2 (by rw [Nat.add_mod, Nat.mul_mod, hk.1, Nat.mul_zero, Nat.zero_mod, Nat.zero_add, Nat.mod_mod]; exact hk.2) _ hr'
                exact ⟨w', by rw [Nat.add_assoc]; exact e2, e3, rfl⟩
              · simp at hq
          · simp at hq
        · simp at hq
      · simp at he
    · simp at he
  · simp at he



def evField (T : Tab) (s : TypeId) (x : LV) (f : Nat) : Option (Prop × LV) :=
  match look T s, x with
  | some ti, .a (.agg cs) => match ti.d with
    | .struct fs => match fs[f]? with
      | some (o, ft) => match look T ft with
        | some fi => (loadC cs fi o).map fun v => (True, v)
        | none => none
      | none => none
    | _ => none
  | _, _ => none

theorem evField_sound {P : Program} {T : Tab} (hT : TabOk P T) {β : List Nat} {s : TypeId} {x : LV} {xv : Value} {f : Nat} {p : Prop} {r : LV} (w : World)
    (hx : LVR β x xv) (he : evField T s x f = some (p, r)) : ∃ v, (Instr.field s xv f).run P w = .ok v w ∧ LVR β r v := by
  unfold evField at he
  split at he
  · rename_i ti cs hti
    obtain ⟨_, hu⟩ := hT.look hti
    obtain ⟨arr, rfl, hc⟩ := hx
    split at he
    · rename_i fs hd
      rw [hd] at hu
      obtain ⟨fields, hu, hfs⟩ := hu
      split at he
      · rename_i o ft hf
        split at he
        · rename_i fi hfi
          obtain ⟨v, hv, he⟩ := Option.map_eq_some_iff.1 he
          simp only [Prod.mk.injEq] at he
          obtain ⟨_, rfl⟩ := he
          rw [hfs, List.getElem?_map] at hf
          obtain ⟨fld, hfld, e⟩ := Option.map_eq_some_iff.1 hf
          simp only [Prod.mk.injEq] at e
          obtain ⟨rfl, rfl⟩ := e
          obtain ⟨v', h1, h2⟩ := part_sound hT hfi hc hv w
          rw [Array.getElem?_toList] at hfld
          exact ⟨v', by simp [Instr.field, underlying, hu, hfld, asAgg, h1], h2⟩
        · simp at he
      · simp at he
    · simp at he
  · simp at he

def evFieldA (T : Tab) (s : TypeId) (x : LV) (f : Nat) : Option (Prop × LV) :=
  match look T s with
  | some ti => match ti.d with
    | .struct fs => match fs[f]? with
      | some (o, ft) => match look T ft with
        | some fi => if fi.size = 0 then none else
          match x with
          | .a (.c (.ptr id off)) => some (True, .a (.c (.ptr id (off + o))))
          | .a (.c (.pti id base i st fo)) => some (True, .a (.c (.pti id base i st (fo + o))))
          | _ => none
        | none => none
      | none => none
    | _ => none
  | none => none

theorem evFieldA_sound {P : Program} {T : Tab} (hT : TabOk P T) {β : List Nat} {s : TypeId} {x : LV} {xv : Value} {f : Nat} {p : Prop} {r : LV} (w : World)
    (hx : LVR β x xv) (he : evFieldA T s x f = some (p, r)) : ∃ v, (Instr.fieldAt s xv f).run P w = .ok v w ∧ LVR β r v := by
  unfold evFieldA at he
  split at he
  · rename_i ti hti
    obtain ⟨_, hu⟩ := hT.look hti
    split at he
    · rename_i fs hd
      rw [hd] at hu
      obtain ⟨fields, hu, hfs⟩ := hu
      split at he
      · rename_i o ft hf
        split at he
        · rename_i fi hfi
          split at he
          · simp at he
          rename_i hz
          rw [hfs, List.getElem?_map] at hf
          obtain ⟨fld, hfld, e⟩ := Option.map_eq_some_iff.1 hf
          simp only [Prod.mk.injEq] at e
          obtain ⟨rfl, rfl⟩ := e
          rw [Array.getElem?_toList] at hfld
          have hs := run_sizeOf hT hfi w
          split at he
          · simp only [Option.some.injEq, Prod.mk.injEq] at he
            obtain ⟨_, rfl⟩ := he
            obtain ⟨b, hb, rfl⟩ := hx
            exact ⟨_, by simp [Instr.fieldAt, underlying, hu, hfld, Instr.sureAddr, fieldPlace, hs, hz, addr_add], ⟨b, hb, rfl⟩⟩
          · simp only [Option.some.injEq, Prod.mk.injEq] at he
            obtain ⟨_, rfl⟩ := he
            obtain ⟨b, hb, rfl⟩ := hx
            exact ⟨_, by simp [Instr.fieldAt, underlying, hu, hfld, Instr.sureAddr, fieldPlace, hs, hz, addr_add]; rfl, ⟨b, hb, by rw [Nat.add_assoc]⟩⟩
          · simp at he
        · simp at he
      · simp at he
    · simp at he
  · simp at he

def evConv (o : Bool) (T : Tab) (s d : TypeId) (x : LV) : Option (Prop × LV) :=
  match look T s, look T d with
  | some si, some di => match si.d, di.d, asI x with
    | .int _, .int k, some (_, n, l) => some (wrapN o k n l)
    | _, _, _ => none
  | _, _ => none

theorem evConv_sound {P : Program} {T : Tab} (hT : TabOk P T) {β : List Nat} {o : Bool} {s d : TypeId} {x : LV} {xv : Value} {p : Prop} {r : LV} (w : World)
    (hx : LVR β x xv) (he : evConv o T s d x = some (p, r)) (hp : p) : ∃ v, (convert s d xv).run P w = .ok v w ∧ LVR β r v := by
  unfold evConv at he
  split at he
  · rename_i si di hsi hdi
    obtain ⟨_, hu⟩ := hT.look hsi
    obtain ⟨_, hv⟩ := hT.look hdi
    split at he
    · rename_i k' k k'' n l h1 h2 hax
      rw [h1] at hu; rw [h2] at hv
      have e := asI_sound hx hax
      subst e
      simp only [Option.some.injEq] at he
      refine ⟨_, by simp [convert, underlying, hu, hv, Conv.intToInt]; rfl, ?_⟩
      have e2 : r = (wrapN o k n l).2 := by rw [he]
      rw [e2]; exact wrapN_sound β o k n _ (by rw [he]; exact hp)
    · simp at he
  · simp at he

def evUn (o : Bool) (op : UnOp) (x : LV) : Option (Prop × LV) :=
  match op, x with
  | .not, .a (.c .tt) => some (True, .a (.c .ff))
  | .not, .a (.c .ff) => some (True, .a (.c .tt))
  | .not, .a (.c (.bool b)) => some (True, .a (.c (.bool !b)))
  | .neg, .a (.c (.lit k n)) => some (wrapN o k (0 - n) true)
  | .neg, .a (.c (.int k n)) => some (wrapN o k (0 - n) false)
  | _, _ => none

theorem evUn_sound {P : Program} {β : List Nat} {o : Bool} {op : UnOp} {x : LV} {xv : Value} {p : Prop} {r : LV} (w : World)
    (hx : LVR β x xv) (he : evUn o op x = some (p, r)) (hp : p) : ∃ v, (Op.unary op xv).run P w = .ok v w ∧ LVR β r v := by
  unfold evUn at he
  split at he <;> simp only [Option.some.injEq, Prod.mk.injEq, reduceCtorEq] at he
  · obtain ⟨_, rfl⟩ := he
    have e : xv = .bool true := hx
    subst e; exact ⟨.bool false, by simp [Op.unary], rfl⟩
  · obtain ⟨_, rfl⟩ := he
    have e : xv = .bool false := hx
    subst e; exact ⟨.bool true, by simp [Op.unary], rfl⟩
  · rename_i b
    obtain ⟨_, rfl⟩ := he
    have e : xv = .bool b := hx
    subst e; exact ⟨.bool !b, by simp [Op.unary], rfl⟩
  · rename_i k n
    have e : xv = .int k n := hx
    subst e
    refine ⟨_, by simp [Op.unary, Op.intArith]; rfl, ?_⟩
    have e2 : r = (wrapN o k (0 - n) true).2 := by rw [he]
    rw [e2]; have := wrapN_sound β o k (0 - n) true (by rw [he]; exact hp); simpa using this
  · rename_i k n
    have e : xv = .int k n := hx
    subst e
    refine ⟨_, by simp [Op.unary, Op.intArith]; rfl, ?_⟩
    have e2 : r = (wrapN o k (0 - n) false).2 := by rw [he]
    rw [e2]; have := wrapN_sound β o k (0 - n) false (by rw [he]; exact hp); simpa using this

def evPick (c x y : LV) : Option (Prop × LV) :=
  match c with
  | .a (.c .tt) => some (True, x)
  | .a (.c .ff) => some (True, y)
  | .a (.c (.bool b)) => match asB x, asB y with
    | some p, some q => some (True, .a (.c (.bool (if b then p else q))))
    | _, _ => none
  | _ => none

def evNil (x : LV) : Option (Prop × LV) :=
  match x with
  | .a (.c (.ptr id off)) => some (True, .a (.c (.ptr id off)))
  | .a (.c (.pti id b i s fo)) => some (True, .a (.c (.pti id b i s fo)))
  | .a (.c (.fn (.func f) caps)) => some (True, .a (.c (.fn (.func f) caps)))
  | _ => none

def evExt (x : LV) (i : Nat) : Option (Prop × LV) :=
  match x with
  | .tup l => (l[i]?).map fun a => (True, .a a)
  | _ => none

theorem AvsR_get {β : List Nat} : ∀ {as : List Av} {vs : List Value} {i : Nat} {a : Av}, AvsR β as vs → as[i]? = some a → ∃ v, vs[i]? = some v ∧ AvR β a v
  | [], _, _, _, _, h => by simp at h
  | x :: xs, vs, 0, a, ⟨v, rest, h, h1, _⟩, ha => by subst h; simp at ha; subst ha; exact ⟨v, by simp, h1⟩
  | x :: xs, vs, i + 1, a, ⟨v, rest, h, _, h2⟩, ha => by subst h; simp at ha; obtain ⟨u, hu, hr⟩ := AvsR_get h2 ha; exact ⟨u, by simpa using hu, hr⟩

/-- The cells of a struct or an array, put together. -/
def evParts (st : St) (place : Nat → Option (Nat × Nat)) : List (Nat × Operand) → List Cel → Option (List Cel)
  | [], cs => some cs
  | (i, x) :: rest, cs =>
    match place i, cellsOf (st.ev x) with
    | some (off, size), some new => if width new = size then
        match putC cs off new with
        | some r => evParts st place rest r
        | none => match oneI new with
          | some (k, n) => match putLit cs off k n with
            | some r => evParts st place rest r
            | none => none
          | none => none
      else none
    | _, _ => none

theorem fold_splice (off : Nat) : ∀ (us : List Value) (k : Nat) (cs : Array Value), off + k + us.length ≤ cs.size →
    ((us.zipIdx k).foldl (fun (cs : Array Value) (c, j) => cs.setIfInBounds (off + j) c) cs).toList = cs.toList.take (off + k) ++ us ++ cs.toList.drop (off + k + us.length)
  | [], k, cs, _ => by simp
  | u :: us, k, cs, h => by
    rw [List.zipIdx_cons, List.foldl_cons]
    simp only at *
    rw [fold_splice off us (k + 1) _ (by simp at h ⊢; omega), Array.toList_setIfInBounds]
    have e := list_seg_step cs.toList (off + k) u us (by simp at h ⊢; omega)
    simpa [Nat.add_assoc] using e

theorem evParts_sound {P : Program} {β : List Nat} {st : St} {a : Act} (hM : TmR β st.tmps a.tmps.toList) {place : Nat → Option (Nat × Nat)} : ∀ (ps : List (Nat × Operand)) (cs : List Cel) (arr : Array Value) (r : List Cel),
    CelsR β cs arr.toList → evParts st place ps cs = some r → ∃ out, Instr.fill place arr (ps.map fun (i, x) => (i, a.eval x)) = some out ∧ CelsR β r out.toList
  | [], cs, arr, r, hc, h => by
    simp only [evParts, Option.some.injEq] at h; subst h
    exact ⟨arr, rfl, hc⟩
  | (i, x) :: rest, cs, arr, r, hc, h => by
    unfold evParts at h
    split at h
    · rename_i off size new hpl hnew
      obtain ⟨hcn, _⟩ := cellsOf_sound (ev_sound hM x) hnew
      have hlen : (a.eval x).cells.size = width new := by rw [← Array.length_toList, hcn.len]
      split at h
      · rename_i hw
        have key : ∀ r', off + (a.eval x).cells.size ≤ arr.size → CelsR β r' (arr.toList.take off ++ (a.eval x).cells.toList ++ arr.toList.drop (off + (a.eval x).cells.size)) → evParts st place rest r' = some r →
            ∃ out, Instr.fill place arr (((i, x) :: rest).map fun (i, x) => (i, a.eval x)) = some out ∧ CelsR β r out.toList := by
          intro r' g1 g2 h
          have hf := fold_splice off (a.eval x).cells.toList 0 arr (by simpa using g1)
          simp only [Nat.add_zero, Array.length_toList] at hf
          obtain ⟨out, h1, h2⟩ := evParts_sound (P := P) hM rest r' _ r (by rw [← hf] at g2; exact g2) h
          refine ⟨out, ?_, h2⟩
          simp only [List.map_cons, Instr.fill, hpl]
          rw [if_neg (by rw [hlen, hw]; simp; omega)]
          rw [← h1]
          congr 1
          rw [← Array.foldl_toList, Array.toList_zipIdx]
        split at h
        · rename_i r' hr
          obtain ⟨g1, g2⟩ := putC_sound hc hcn hr
          simp only [Array.length_toList] at g1 g2
          exact key r' g1 g2 h
        · split at h
          · rename_i k n ho
            split at h
            · rename_i r' hr
              have e1 := oneI_sound hcn ho
              have hs1 : (a.eval x).cells.size = 1 := by rw [← Array.length_toList, e1]; rfl
              obtain ⟨g1, g2⟩ := putLit_sound hc hr
              refine key r' (by rw [hs1]; simp at g1; omega) ?_ h
              rw [e1, hs1, splice_one _ _ _ g1]; exact g2
            · simp at h
          · simp at h
      · simp at h
    · simp at h

def placeS (T : Tab) (fs : List (Nat × TypeId)) (i : Nat) : Option (Nat × Nat) :=
  match fs[i]? with
  | some (o, ft) => match look T ft with
    | some fi => some (o, fi.size)
    | none => none
  | none => none

def evBuild (T : Tab) (st : St) (t : TypeId) (parts : Array (Nat × Operand)) : Option (Prop × LV) :=
  match look T t with
  | some ti => match ti.d with
    | .struct fs =>
      if (fs.all fun x => (look T x.2).isSome) = true then (evParts st (placeS T fs) parts.toList ti.zero).map fun l => (True, .a (.agg l)) else none
    | .arr _ e => match look T e with
      | some et => (evParts st (fun i => some (i * et.size, et.size)) parts.toList ti.zero).map fun l => (True, .a (.agg l))
      | none => none
    | _ => none
  | none => none

theorem run_places {P : Program} {T : Tab} (hT : TabOk P T) : ∀ (fields : List Field) (w : World), ((fields.map fun f => (f.offset, f.type)).all fun (x : Nat × TypeId) => (look T x.2).isSome) = true →
    (fields.mapM (fun f => Prod.mk f.offset <$> sizeOf f.type : Field → Sem (Nat × Nat))).run P w = .ok (fields.map fun f => (f.offset, ((look T f.type).map TI.size).getD 0)) w
  | [], w, _ => by simp
  | f :: fs, w, h => by
    simp only [List.map_cons, List.all_cons, Bool.and_eq_true] at h
    obtain ⟨fi, hfi⟩ := Option.isSome_iff_exists.1 h.1
    have ih := run_places hT fs w h.2
    simp [List.mapM_cons, run_sizeOf hT hfi, hfi] at ih ⊢
    rw [ih]; simp

theorem evBuild_sound {P : Program} {T : Tab} (hT : TabOk P T) {β : List Nat} {st : St} {a : Act} (hM : TmR β st.tmps a.tmps.toList) {t : TypeId} {parts : Array (Nat × Operand)} {p : Prop} {r : LV} (w : World)
    (he : evBuild T st t parts = some (p, r)) : ∃ v, (Instr.build t (parts.map fun (i, x) => (i, a.eval x))).run P w = .ok v w ∧ LVR β r v := by
  unfold evBuild at he
  split at he
  · rename_i ti hti
    obtain ⟨⟨inf, h1, h2, z, hz, hc⟩, hu⟩ := hT.look hti
    split at he
    · rename_i fs hd
      rw [hd] at hu
      obtain ⟨fields, hu, hfs⟩ := hu

      split at he
      · rename_i hall
        obtain ⟨l, hl, he⟩ := Option.map_eq_some_iff.1 he
        simp only [Prod.mk.injEq] at he
        obtain ⟨_, rfl⟩ := he
        obtain ⟨out, ho, hr⟩ := evParts_sound (P := P) hM _ _ _ _ (hc β) hl
        refine ⟨.agg out, ?_, ⟨out, rfl, hr⟩⟩
        subst hfs
        have hp := run_places hT fields.toList w hall
        have hpl : (fun i => (fields.toList.map fun f => (f.offset, ((look T f.type).map TI.size).getD 0))[i]?) = placeS T (fields.toList.map fun f => (f.offset, f.type)) := by
          funext i
          simp only [placeS, List.getElem?_map]
          cases hf : fields.toList[i]? with
          | none => simp
          | some f =>
            have hm : (look T f.type).isSome = true := by
              have := List.all_eq_true.1 hall (f.offset, f.type) (List.mem_map.2 ⟨f, List.mem_of_getElem? hf, rfl⟩)
              exact this
            obtain ⟨fi, hfi⟩ := Option.isSome_iff_exists.1 hm
            simp [hfi]
        rw [← hpl] at ho
        have hp' : (fields.mapM (fun f => Prod.mk f.offset <$> sizeOf f.type : Field → Sem (Nat × Nat))).run P w = .ok (fields.toList.map fun f => (f.offset, ((look T f.type).map TI.size).getD 0)).toArray w := by
          rw [← Array.toArray_toList (xs := fields), List.mapM_toArray]
          simp only [Sem.run_map, hp, Result.andThen_ok]
        simp only [Instr.build, zeroValue, typeInfo, underlying, Sem.run_bind, run_program, Result.andThen_ok, h1, hz, hu, Sem.run_pure, bind_pure_comp, hp', List.getElem?_toArray]
        have ho' : Instr.fill (fun x => (fields.toList.map fun f => (f.offset, ((look T f.type).map TI.size).getD 0))[x]?) z.cells (Array.map (fun x => (x.fst, a.eval x.snd)) parts).toList = some out := by
          rw [Array.toList_map]; exact ho
        rw [ho']; rfl
      · simp at he
    · rename_i n e hd
      rw [hd] at hu
      split at he
      · rename_i et het
        obtain ⟨l, hl, he⟩ := Option.map_eq_some_iff.1 he
        simp only [Prod.mk.injEq] at he
        obtain ⟨_, rfl⟩ := he
        obtain ⟨out, ho, hr⟩ := evParts_sound (P := P) hM _ _ _ _ (hc β) hl
        refine ⟨.agg out, ?_, ⟨out, rfl, hr⟩⟩
        simp [Instr.build, zeroValue, typeInfo, h1, hz, underlying, hu, run_sizeOf hT het]
        simp [ho]
      · simp at he
    · simp at he
  · simp at he

/-! ### Equality -/

def intOf? (T : Tab) (e : TypeId) : Option IntKind :=
  match look T e with
  | some ti => match ti.d with
    | .int k => if ti.size = 1 then some k else none
    | _ => none
  | none => none

theorem intOf?_sound {T : Tab} {e : TypeId} {k : IntKind} (h : intOf? T e = some k) : ∃ ti, look T e = some ti ∧ ti.d = .int k ∧ ti.size = 1 := by
  unfold intOf? at h
  split at h
  · rename_i ti hti
    split at h
    · rename_i k' hd
      split at h
      · rename_i hs
        simp only [Option.some.injEq] at h; subst h
        exact ⟨ti, hti, hd, hs⟩
      · simp at h
    · simp at h
  · simp at h

mutual
/-- Are two values of a type equal? -/
def evEq (T : Tab) : Nat → TypeId → Av → Av → Option Bool
  | 0, _, _, _ => none
  | d + 1, t, x, y =>
    match look T t with
    | some ti => match ti.d with
      | .int k => match asI (.a x), asI (.a y) with
        | some (k1, a, _), some (k2, b, _) => if k1 = k ∧ k2 = k then some (a == b) else none
        | _, _ => none
      | .bool => match asB (.a x), asB (.a y) with
        | some a, some b => some (a == b)
        | _, _ => none
      | .str => match x, y with
        | .c (.str a), .c (.str b) => some (a.toList == b.toList)
        | _, _ => none
      | .arr n e => match intOf? T e, x, y with
        | some k, .agg [.run [k1] n1 l], .agg [.run [k2] n2 m] => if k1 = k ∧ k2 = k ∧ n1 = n ∧ n2 = n ∧ 1 ≤ d then some (l == m) else none
        | _, _, _ => none
      | .struct fs => match x, y with
        | .agg cs, .agg ds => evEqF T d fs cs ds
        | _, _ => none
      | _ => none
    | none => none
def evEqF (T : Tab) : Nat → List (Nat × TypeId) → List Cel → List Cel → Option Bool
  | 0, _, _, _ => none
  | _ + 1, [], _, _ => some true
  | d + 1, (o, ft) :: r, cs, ds =>
    match look T ft with
    | some fi => match loadC cs fi o, loadC ds fi o with
      | some (.a x), some (.a y) => match evEq T d ft x y with
        | some b => match r with
          | [] => some b
          | r => match evEqF T d r cs ds with
            | some c => some (b && c)
            | none => none
        | none => none
      | _, _ => none
    | none => none
end

theorem eqItems_run {P : Program} {T : Tab} (hT : TabOk P T) {e : TypeId} {k : IntKind} (he : intOf? T e = some k) {β : List Nat} {n : Nat} {l m : List Int} {xs ys : Array Value} (hx : xs.toList = runV [k] l) (hy : ys.toList = runV [k] m) (hl : l.length = n) (hm : m.length = n) (d : Nat) (w : World) :
    ∀ (c j : Nat), j + c = n → (Op.eqItems (d + 1) e 1 xs ys (List.range' j c)).run P w = .ok (l.drop j == m.drop j) w
  | 0, j, h => by
    simp only [List.range'_zero, Op.eqItems, Sem.run_pure]
    rw [List.drop_of_length_le (by omega), List.drop_of_length_le (by omega)]; rfl
  | c + 1, j, h => by
    obtain ⟨ti, hti, hd, _⟩ := intOf?_sound he
    obtain ⟨_, hu⟩ := hT.look hti
    rw [hd] at hu
    have g : ∀ (zs : Array Value) (z : List Int), zs.toList = runV [k] z → z.length = n → (part e zs (j * 1)).run P w = .ok (.int k (z.getD j 0)) w := by
      intro zs z hz hzl
      have := runV_get [k] z j (by omega)
      rw [← hz, Array.getElem?_toList] at this
      simp only [List.length_singleton, Nat.mod_one] at this
      rw [Nat.mul_one]
      simp only [part, Sem.run_bind, run_isAgg hT hti (b := false) (by rw [hd]; rfl), Result.andThen_ok, Bool.false_eq_true, if_false, this, Sem.run_pure]
      rfl
    rw [List.range'_succ]
    simp only [Op.eqItems, Sem.run_bind, g xs l hx hl, g ys m hy hm, Result.andThen_ok, run_equalIn_int w d e k k _ _ hu]
    have hlj : l.drop j = l.getD j 0 :: l.drop (j + 1) := by rw [List.drop_eq_getElem_cons (by omega), List.getD_eq_getElem?_getD, List.getElem?_eq_getElem (by omega)]; rfl
    have hmj : m.drop j = m.getD j 0 :: m.drop (j + 1) := by rw [List.drop_eq_getElem_cons (by omega), List.getD_eq_getElem?_getD, List.getElem?_eq_getElem (by omega)]; rfl
    rw [hlj, hmj]
    by_cases hab : l.getD j 0 = m.getD j 0
    · rw [hab]
      simp only [beq_self_eq_true, Bool.not_true, Bool.false_eq_true, if_false]
      rw [eqItems_run hT he (β := β) hx hy hl hm d w c (j + 1) (by omega)]
      simp
    · have : (l.getD j 0 == m.getD j 0) = false := by simpa using hab
      simp only [this, Bool.not_false, if_true, Sem.run_pure]
      rw [List.cons_beq_cons, this, Bool.false_and]

mutual
theorem evEq_sound {P : Program} {T : Tab} (hT : TabOk P T) {β : List Nat} : ∀ (d : Nat) {t : TypeId} {x y : Av} {xv yv : Value} {b : Bool} (w : World) (D : Nat), AvR β x xv → AvR β y yv → evEq T d t x y = some b → d ≤ D →
    (Op.equalIn D t xv yv).run P w = .ok b w
  | 0, _, _, _, _, _, _, _, _, _, _, h, _ => by simp [evEq] at h
  | d + 1, t, x, y, xv, yv, b, w, D, hx, hy, h, hD => by
    obtain ⟨D', rfl⟩ : ∃ D', D = D' + 1 := ⟨D - 1, by omega⟩
    simp only [evEq] at h
    split at h
    · rename_i ti hti
      obtain ⟨⟨inf, hi, hsz, _⟩, hu⟩ := hT.look hti
      have hq := TabEq.look hT.eq hti
      split at h
      · rename_i k hd
        rw [hd] at hu
        split at h
        · rename_i k1 a l1 k2 b' l2 h1 h2
          split at h
          · rename_i hk
            simp only [Option.some.injEq] at h; subst h
            have e1 := asI_sound (x := .a x) hx h1
            have e2 := asI_sound (x := .a y) hy h2
            obtain ⟨rfl, rfl⟩ := hk
            subst e1; subst e2
            exact run_equalIn_int w D' t _ _ _ _ hu
          · simp at h
        · simp at h
      · rename_i hd
        rw [hd] at hu
        split at h
        · rename_i a b' h1 h2
          simp only [Option.some.injEq] at h; subst h
          have e1 := asB_sound (x := .a x) hx h1
          have e2 := asB_sound (x := .a y) hy h2
          subst e1; subst e2
          exact run_equalIn_bool' w D' t _ _ hu
        · simp at h
      · rename_i hd
        rw [hd] at hu
        split at h
        · rename_i a b'
          simp only [Option.some.injEq] at h; subst h
          have e1 : xv = .string a := hx
          have e2 : yv = .string b' := hy
          subst e1; subst e2
          exact run_equalIn_string w D' t _ _ hu
        · simp at h
      · rename_i n e hd
        rw [hd] at hu
        split at h
        · rename_i k k1 n1 l k2 n2 m hk
          split at h
          · rename_i hkk
            simp only [Option.some.injEq] at h; subst h
            obtain ⟨rfl, rfl, rfl, rfl, hd1⟩ := hkk
            obtain ⟨xs, rfl, p1, r1, e1, ⟨hl, rfl⟩, hr1⟩ := hx
            obtain ⟨ys, rfl, p2, r2, e2, ⟨hm, rfl⟩, hr2⟩ := hy
            simp only [CelsR] at hr1 hr2
            subst hr1; subst hr2
            rw [List.append_nil] at e1 e2
            obtain ⟨et, het, hed, hes⟩ := intOf?_sound hk
            obtain ⟨⟨ie, hie, hse, _⟩, _⟩ := hT.look het
            rw [run_equalIn_array w D' xs ys hu hie]
            have hco : P.cellsOf e = 1 := by simp only [Program.cellsOf, hie, Option.map_some, Option.getD_some]; omega
            rw [hco]
            obtain ⟨D'', rfl⟩ : ∃ D'', D' = D'' + 1 := ⟨D' - 1, by omega⟩
            rw [List.range_eq_range', eqItems_run hT hk (β := β) e1 e2 hl hm D'' w _ 0 (by omega)]
            simp
          · simp at h
        · simp at h
      · rename_i fs hd
        rw [hd] at hu
        obtain ⟨fields, hu, hfs⟩ := hu
        split at h
        · rename_i cs ds
          obtain ⟨xs, rfl, hcx⟩ := hx
          obtain ⟨ys, rfl, hcy⟩ := hy
          simp only [eqChk, hd, hu, Bool.and_eq_true, Bool.not_eq_true'] at hq
          have hfo : P.fieldsOf t = fields := by simp [Program.fieldsOf, hu]
          rw [run_equalIn_struct w D' t xs ys (by rw [hfo]; exact hu) hq.1.2, hfo]
          exact evEqF_sound hT d fields.toList w D' hcx hcy (by rw [← hfs]; exact h) (fun f hf => by have := List.all_eq_true.1 hq.1.1 f hf; simpa using this) (by omega)
        · simp at h
      · simp at h
    · simp at h
theorem evEqF_sound {P : Program} {T : Tab} (hT : TabOk P T) {β : List Nat} : ∀ (d : Nat) (fields : List Field) {cs ds : List Cel} {xs ys : Array Value} {b : Bool} (w : World) (D : Nat), CelsR β cs xs.toList → CelsR β ds ys.toList →
    evEqF T d (fields.map fun f => (f.offset, f.type)) cs ds = some b → (∀ f ∈ fields, (f.name == "_") = false) → d ≤ D → (Op.eqFields D xs ys fields).run P w = .ok b w
  | 0, _, _, _, _, _, _, _, _, _, _, h, _, _ => by simp [evEqF] at h
  | d + 1, [], cs, ds, xs, ys, b, w, D, hx, hy, h, hn, hD => by
    simp only [List.map_nil, evEqF, Option.some.injEq] at h; subst h; rfl
  | d + 1, f :: fs, cs, ds, xs, ys, b, w, D, hx, hy, h, hn, hD => by
    simp only [List.map_cons, evEqF] at h
    split at h
    · rename_i fi hfi
      split at h
      · rename_i x y h1 h2
        split at h
        · rename_i b1 hb1
          obtain ⟨xv, hx1, hx2⟩ := part_sound hT hfi hx h1 w
          obtain ⟨yv, hy1, hy2⟩ := part_sound hT hfi hy h2 w
          have e := evEq_sound hT d w D hx2 hy2 hb1 (by omega)
          have hnm : f.name ≠ "_" := by have := hn f (by simp); simpa using this
          simp only [Op.eqFields, hnm, ne_eq, not_false_eq_true, if_true, Sem.run_bind, hx1, hy1, e, Result.andThen_ok]
          split at h
          · rename_i hr
            simp only [Option.some.injEq] at h; subst h
            have hfs : fs = [] := by simpa using hr
            subst hfs
            cases b1 <;> simp [Op.eqFields]
          · split at h
            · rename_i c hc
              simp only [Option.some.injEq] at h; subst h
              have ih := evEqF_sound hT d fs w D hx hy hc (fun f hf => hn f (by simp [hf])) (by omega)
              cases b1 <;> simp [ih]
            · simp at h
        · simp at h
      · simp at h
    · simp at h
end

def evEqOp (T : Tab) (op : BinOp) (t : TypeId) (x y : LV) : Option (Prop × LV) :=
  match x, y with
  | .a (.agg l), .a (.agg m) =>
    match op with
    | .eql => (evEq T 8 t (.agg l) (.agg m)).map fun b => (True, .a (.c (.bool b)))
    | .neq => (evEq T 8 t (.agg l) (.agg m)).map fun b => (True, .a (.c (.bool !b)))
    | _ => none
  | x, y => match asB x, asB y, look T t with
    | some a, some b, some ti => match ti.d with
      | .bool => match op with
        | .eql => some (True, .a (.c (.bool (a == b))))
        | .neq => some (True, .a (.c (.bool !(a == b))))
        | _ => none
      | _ => none
    | _, _, _ => none

theorem evEq_guard {P : Program} {T : Tab} (hT : TabOk P T) {d : Nat} {t : TypeId} {l m : List Cel} {b : Bool} (h : evEq T d t (.agg l) (.agg m) = some b) : P.eqGuardType P.depth t = false := by
  cases d with
  | zero => simp [evEq] at h
  | succ d =>
    simp only [evEq] at h
    split at h
    · rename_i ti hti
      have hq := TabEq.look hT.eq hti
      split at h
      · simp [asI] at h
      · simp [asB] at h
      · simp at h
      · rename_i n e hd
        simp only [eqChk, hd, Bool.not_eq_true'] at hq
        exact hq
      · rename_i fs hd
        simp only [eqChk, hd, Bool.and_eq_true, Bool.not_eq_true'] at hq
        exact hq.2
      · simp at h
    · simp at h

theorem evEqOp_sound {P : Program} {T : Tab} (hT : TabOk P T) {β : List Nat} {op : BinOp} {t : TypeId} {x y : LV} {xv yv : Value} {xo yo : Operand} {p : Prop} {r : LV} (w : World)
    (hx : LVR β x xv) (hy : LVR β y yv) (he : evEqOp T op t x y = some (p, r)) :
    ∃ v, (do eqGuard op t xo yo xv yv; binOp op t xv yv : Sem Value).run P w = .ok v w ∧ LVR β r v := by
  unfold evEqOp at he
  split at he
  · rename_i l m
    have hx' : AvR β (.agg l) xv := hx
    have hy' : AvR β (.agg m) yv := hy
    obtain ⟨xs, rfl, _⟩ := hx
    obtain ⟨ys, rfl, _⟩ := hy
    split at he
    · obtain ⟨b, hb, he⟩ := Option.map_eq_some_iff.1 he
      simp only [Prod.mk.injEq] at he
      obtain ⟨_, rfl⟩ := he
      have e := evEq_sound hT 8 w 10000 hx' hy' hb (by omega)
      exact ⟨_, by simp only [Sem.run_bind, run_eqGuard_agg w _ t xo yo xs ys (evEq_guard hT hb), Result.andThen_ok, run_eql_struct, e], rfl⟩
    · obtain ⟨b, hb, he⟩ := Option.map_eq_some_iff.1 he
      simp only [Prod.mk.injEq] at he
      obtain ⟨_, rfl⟩ := he
      have e := evEq_sound hT 8 w 10000 hx' hy' hb (by omega)
      exact ⟨_, by simp only [Sem.run_bind, run_eqGuard_agg w _ t xo yo xs ys (evEq_guard hT hb), Result.andThen_ok, run_neq_struct, e], rfl⟩
    · simp at he
  · split at he
    · rename_i a b ti ha hb hti
      obtain ⟨_, hu⟩ := hT.look hti
      have e1 := asB_sound hx ha
      have e2 := asB_sound hy hb
      subst e1; subst e2
      split at he
      · rename_i hd
        rw [hd] at hu
        have hg : (eqGuard op t xo yo (.bool a) (.bool b)).run P w = .ok () w := by
          unfold eqGuard
          split <;> simp
        have e : (Op.equal t (.bool a) (.bool b)).run P w = .ok (a == b) w := run_equalIn_bool' w 9999 t a b hu
        split at he <;> simp only [Option.some.injEq, Prod.mk.injEq, reduceCtorEq] at he
        · obtain ⟨_, rfl⟩ := he
          exact ⟨_, by simp only [Sem.run_bind, hg, Result.andThen_ok, binOp, e, Sem.run_pure], rfl⟩
        · obtain ⟨_, rfl⟩ := he
          exact ⟨_, by simp only [Sem.run_bind, hg, Result.andThen_ok, binOp, e, Sem.run_pure], rfl⟩
      · simp at he
    · simp at he

/-! ### Slices of arrays, slices and strings; lengths; function values -/

def bndI (st : St) (d : Int) : Option Operand → Option Int
  | none => some d
  | some x => match asI (st.ev x) with
    | some (_, n, _) => some n
    | none => none

theorem bndI_sound {β : List Nat} {st : St} {a : Act} (hM : TmR β st.tmps a.tmps.toList) {x : Option Operand} {d r : Int} (h : bndI st d x = some r) :
    (x.map a.eval = none ∧ r = d) ∨ ∃ k, x.map a.eval = some (.int k r) := by
  cases x with
  | none => simp only [bndI, Option.some.injEq] at h; exact .inl ⟨rfl, h.symm⟩
  | some x =>
    simp only [bndI] at h
    split at h
    · rename_i k n l hx
      simp only [Option.some.injEq] at h
      subst h
      exact .inr ⟨k, by rw [Option.map_some, asI_sound (ev_sound hM x) hx]⟩
    · simp at h

theorem run_bounds {P : Program} {w : World} {b : Bool} {len cap : Nat} {lo hi mx : Option Value} {l h m : Int} (hmx : (mx = none ∧ m = cap) ∨ ∃ k, mx = some (.int k m)) (hhi : (hi = none ∧ h = len) ∨ ∃ k, hi = some (.int k h))
    (hlo : (lo = none ∧ l = 0) ∨ ∃ k, lo = some (.int k l)) (hmh : mx.isSome = true → hi.isSome = true) (hb : 0 ≤ l ∧ l ≤ h ∧ h ≤ m ∧ m ≤ cap) :
    (Instr.sliceBounds b len cap lo hi mx).run P w = .ok (l.toNat, h.toNat, m.toNat) w := by
  obtain ⟨b1, b2, b3, b4⟩ := hb
  have bound : ∀ (k : IntKind) (i : Int) (y : Nat) (c : BoundsCode), 0 ≤ i → i ≤ y → (Instr.sliceBound (.int k i) y c).run P w = .ok i.toNat w := by
    intro k i y c h1 h2
    simp [Instr.sliceBound, asIntOf, h1, h2]
  have hm0 : (m.toNat : Int) = m := by omega
  have hh0 : (h.toNat : Int) = h := by omega
  rcases hmx with ⟨rfl, rfl⟩ | ⟨km, rfl⟩ <;> rcases hhi with ⟨rfl, rfl⟩ | ⟨kh, rfl⟩ <;> rcases hlo with ⟨rfl, rfl⟩ | ⟨kl, rfl⟩ <;>
    first
      | (simp at hmh; done)
      | skip
  · simp [Instr.sliceBounds]
  · simp only [Instr.sliceBounds, Sem.run_bind, Sem.run_pure, Result.andThen_ok, bound kl l len _ b1 (by omega)]; simp
  · simp only [Instr.sliceBounds, Sem.run_bind, Sem.run_pure, Result.andThen_ok, bound kh h cap _ (by omega) (by omega)]; simp
  · simp only [Instr.sliceBounds, Sem.run_bind, Sem.run_pure, Result.andThen_ok, bound kh h cap _ (by omega) (by omega), bound kl l h.toNat _ b1 (by omega)]; simp
  · simp only [Instr.sliceBounds, Sem.run_bind, Sem.run_pure, Result.andThen_ok, bound km m cap _ (by omega) (by omega), bound kh h m.toNat _ (by omega) (by omega)]; simp
  · simp only [Instr.sliceBounds, Sem.run_bind, Sem.run_pure, Result.andThen_ok, bound km m cap _ (by omega) (by omega), bound kh h m.toNat _ (by omega) (by omega), bound kl l h.toNat _ b1 (by omega)]

def evSlice (T : Tab) (st : St) (t : TypeId) (x : Operand) (lo hi mx : Option Operand) : Option (Prop × LV) :=
  if mx.isSome && !hi.isSome then none else
  match look T t, st.ev x with
  | some ti, .a (.c (.ptr id off)) => match ti.d with
    | .arr n e => match look T e, bndI st 0 lo, bndI st n hi, bndI st n mx with
      | some et, some l, some h, some m => some (0 ≤ l ∧ l ≤ h ∧ h ≤ m ∧ m ≤ n, .a (.c (.slc id off l et.size (h - l) (m - l))))
      | _, _, _, _ => none
    | _ => none
  | some ti, .a (.c (.slc id base i s len cap)) => match ti.d with
    | .slice e => match look T e, bndI st 0 lo, bndI st len hi, bndI st cap mx with
      | some et, some l, some h, some m => if et.size = s then some (0 ≤ l ∧ l ≤ h ∧ h ≤ m ∧ m ≤ cap, .a (.c (.slc id base (i + l) s (h - l) (m - l)))) else none
      | _, _, _, _ => none
    | _ => none
  | some ti, .a (.c (.str s)) => match ti.d with
    | .str => if mx.isSome then none else match bndI st 0 lo, bndI st s.size hi with
      | some l, some h => some (0 ≤ l ∧ l ≤ h ∧ h ≤ s.size, .a (.c (.str (s.extract l.toNat h.toNat))))
      | _, _ => none
    | _ => none
  | _, _ => none

theorem evSlice_sound {P : Program} {T : Tab} (hT : TabOk P T) {β : List Nat} {st : St} {a : Act} (hM : TmR β st.tmps a.tmps.toList) {t : TypeId} {x : Operand} {lo hi mx : Option Operand} {p : Prop} {r : LV} (w : World)
    (he : evSlice T st t x lo hi mx = some (p, r)) (hp : p) : ∃ v, (Instr.sliceAt t (a.eval x) (lo.map a.eval) (hi.map a.eval) (mx.map a.eval)).run P w = .ok v w ∧ LVR β r v := by
  unfold evSlice at he
  split at he
  · simp at he
  rename_i hmh
  have hmh' : (mx.map a.eval).isSome = true → (hi.map a.eval).isSome = true := by
    cases mx <;> cases hi <;> simp_all
  have hx := ev_sound hM x
  split at he
  · rename_i ti id off hti hxe
    rw [hxe] at hx
    obtain ⟨b, hb, hx⟩ := hx
    obtain ⟨_, hu⟩ := hT.look hti
    split at he
    · rename_i n e hd
      rw [hd] at hu
      split at he
      · rename_i et l h m het hl hh hm
        simp only [Option.some.injEq, Prod.mk.injEq] at he
        obtain ⟨rfl, rfl⟩ := he
        have hb' := run_bounds (P := P) (w := w) (b := false) (len := n) (cap := n) (bndI_sound hM hm) (bndI_sound hM hh) (bndI_sound hM hl) hmh' hp
        obtain ⟨p1, p2, p3, p4⟩ := hp
        refine ⟨_, by
          simp only [Instr.sliceAt, Sem.run_bind, run_underlying hu, Result.andThen_ok, hx, Instr.sureAddr, Sem.run_pure, hb', run_sizeOf hT het]; rfl, ?_⟩
        refine ⟨p1, by omega, by omega, b, hb, ?_⟩
        by_cases hc : m.toNat = l.toNat
        · right
          refine ⟨by omega, off, ?_⟩
          rw [if_pos hc, hc, show h.toNat - l.toNat = 0 by omega, Nat.sub_self]
        · left
          rw [if_neg hc, addr_add, show h.toNat - l.toNat = (h - l).toNat by omega, show m.toNat - l.toNat = (m - l).toNat by omega]
      · simp at he
    · simp at he
  · rename_i ti id base i s len cap hti hxe
    rw [hxe] at hx
    obtain ⟨q1, q2, q3, b, hb, hx⟩ := hx
    obtain ⟨_, hu⟩ := hT.look hti
    split at he
    · rename_i e hd
      rw [hd] at hu
      split at he
      · rename_i et l h m het hl hh hm
        split at he
        · rename_i hs
          simp only [Option.some.injEq, Prod.mk.injEq] at he
          obtain ⟨rfl, rfl⟩ := he
          obtain ⟨p1, p2, p3, p4⟩ := hp
          have e1 : ((len.toNat : Nat) : Int) = len := by omega
          have e2 : ((cap.toNat : Nat) : Int) = cap := by omega
          have hb' := run_bounds (P := P) (w := w) (b := true) (len := len.toNat) (cap := cap.toNat) (by rw [e2]; exact bndI_sound hM hm) (by rw [e1]; exact bndI_sound hM hh) (bndI_sound hM hl) hmh' ⟨p1, p2, p3, by omega⟩
          rcases hx with hx | ⟨hc0, o, hx⟩
          · refine ⟨_, by
              simp only [Instr.sliceAt, Instr.slice, Sem.run_bind, run_underlying hu, Result.andThen_ok, hx, hb', run_sizeOf hT het, Sem.run_pure]; rfl, ?_⟩
            refine ⟨by omega, by omega, by omega, b, hb, ?_⟩
            by_cases hc : m.toNat = l.toNat
            · right
              refine ⟨by omega, base + i.toNat * s, ?_⟩
              rw [if_pos hc, hc, show h.toNat - l.toNat = 0 by omega, Nat.sub_self]
            · left
              rw [if_neg hc, Option.map_some, addr_add, hs, show h.toNat - l.toNat = (h - l).toNat by omega, show m.toNat - l.toNat = (m - l).toNat by omega, Nat.add_assoc, ← Nat.add_mul, show i.toNat + l.toNat = (i + l).toNat by omega]
          · have z1 : len.toNat = 0 := by omega
            have z2 : cap.toNat = 0 := by omega
            rw [z1, z2] at hb'
            refine ⟨_, by
              simp only [Instr.sliceAt, Instr.slice, Sem.run_bind, run_underlying hu, Result.andThen_ok, hx, hb', run_sizeOf hT het, Sem.run_pure]; rfl, ?_⟩
            refine ⟨by omega, by omega, by omega, b, hb, .inr ⟨by omega, o, ?_⟩⟩
            rw [if_pos (by omega), show h.toNat - l.toNat = 0 by omega, show m.toNat - l.toNat = 0 by omega]
        · simp at he
      · simp at he
    · simp at he
  · rename_i ti s hti hxe
    rw [hxe] at hx
    have hx : a.eval x = .string s := hx
    obtain ⟨_, hu⟩ := hT.look hti
    split at he
    · rename_i hd
      rw [hd] at hu
      split at he
      · simp at he
      rename_i hms
      have hmx : mx = none := by cases mx <;> simp_all
      subst hmx
      split at he
      · rename_i l h hl hh
        simp only [Option.some.injEq, Prod.mk.injEq] at he
        obtain ⟨rfl, rfl⟩ := he
        have hb' := run_bounds (P := P) (w := w) (b := false) (len := s.size) (cap := s.size) (mx := none) (m := s.size) (.inl ⟨rfl, rfl⟩) (bndI_sound hM hh) (bndI_sound hM hl) (by simp) ⟨hp.1, hp.2.1, hp.2.2, by omega⟩
        refine ⟨_, by
          simp only [Instr.sliceAt, Instr.slice, Sem.run_bind, run_underlying hu, Result.andThen_ok, hx, hb', Option.map_none, Option.isSome_none, Bool.false_eq_true, if_false, Sem.run_pure], rfl⟩
      · simp at he
    · simp at he
  · simp at he

def evLen (T : Tab) (st : St) (c : Call) : Option (Prop × LV) :=
  match c.callee, c.args.toList, c.argTypes.toList with
  | .builtin .len, [x], [t] => match look T t, st.ev x with
    | some ti, .a (.c (.slc _ _ _ _ len _)) => match ti.d with
      | .slice _ => some (True, .a (.c (.int .i64 len)))
      | _ => none
    | some ti, .a (.c (.str s)) => match ti.d with
      | .str => some (True, .a (.c (.int .i64 s.size)))
      | _ => none
    | some ti, _ => match ti.d with
      | .arr n _ => some (True, .a (.c (.lit .i64 n)))
      | _ => none
    | _, _ => none
  | _, _, _ => none

theorem evLen_sound {P : Program} {T : Tab} (hT : TabOk P T) {β : List Nat} {st : St} {a : Act} (hM : TmR β st.tmps a.tmps.toList) {op : Oper} {c : Call} (ho : op.op = .call c) {p : Prop} {r : LV} (w : World)
    (he : evLen T st c = some (p, r)) : ∃ v, (execOp a.eval op).run P w = .ok (.value v) w ∧ LVR β r v := by
  unfold evLen at he
  split at he
  · rename_i x t hc ha ht
    have ha' : c.args = #[x] := Array.toList_inj.1 ha
    have ht' : c.argTypes = #[t] := Array.toList_inj.1 ht
    have key : ∀ v, (Builtin.len_ #[t] op.type #[a.eval x]).run P w = .ok v w → (execOp a.eval op).run P w = .ok (.value v) w := by
      intro v hv
      simp [execOp, ho, resolve, hc, ha', ht', invoke, builtin, hv]
    have hx := ev_sound hM x
    split at he
    · rename_i ti id base i s len cap hti hxe
      rw [hxe] at hx
      obtain ⟨q1, q2, q3, b, hb, hx⟩ := hx
      obtain ⟨_, hu⟩ := hT.look hti
      split at he
      · rename_i e hd
        rw [hd] at hu
        simp only [Option.some.injEq, Prod.mk.injEq] at he
        obtain ⟨_, rfl⟩ := he
        rcases hx with hx | ⟨hc0, o, hx⟩
        · refine ⟨.int .i64 len, key _ ?_, rfl⟩
          simp [Builtin.len_, run_underlying hu, hx, goInt, show ((len.toNat : Nat) : Int) = len by omega]
        · refine ⟨.int .i64 len, key _ ?_, rfl⟩
          simp [Builtin.len_, run_underlying hu, hx, goInt]
          omega
      · simp at he
    · rename_i ti s hti hxe
      rw [hxe] at hx
      have hx : a.eval x = .string s := hx
      obtain ⟨_, hu⟩ := hT.look hti
      split at he
      · rename_i hd
        rw [hd] at hu
        simp only [Option.some.injEq, Prod.mk.injEq] at he
        obtain ⟨_, rfl⟩ := he
        exact ⟨.int .i64 s.size, key _ (by simp [Builtin.len_, run_underlying hu, hx, goInt]), rfl⟩
      · simp at he
    · rename_i ti hti _ _
      obtain ⟨_, hu⟩ := hT.look hti
      split at he
      · rename_i n e hd
        rw [hd] at hu
        simp only [Option.some.injEq, Prod.mk.injEq] at he
        obtain ⟨_, rfl⟩ := he
        exact ⟨.int .i64 n, key _ (by simp [Builtin.len_, run_underlying hu, goInt]), rfl⟩
      · simp at he
    · simp at he
  · simp at he

/-- The blocks at whose heads captured pointers stand. -/
def capIds (st : St) : List Operand → Option (List Nat)
  | [] => some []
  | x :: xs => match st.ev x, capIds st xs with
    | .a (.c (.ptr id 0)), some l => some (id :: l)
    | _, _ => none

def evFunc (st : St) (f : Fn) (first captured : Array Operand) : Option (Prop × LV) :=
  match first.toList with
  | [] => (capIds st captured.toList).map fun l => (True, .a (.c (.fn f l)))
  | _ => none

theorem capIds_sound {β : List Nat} {st : St} {a : Act} (hM : TmR β st.tmps a.tmps.toList) : ∀ {xs : List Operand} {l : List Nat}, capIds st xs = some l →
    ∃ bs, l.mapM (fun i => β[i]?) = some bs ∧ xs.map a.eval = bs.map fun b => Value.pointer (some ⟨b, 0, none⟩)
  | [], l, h => by simp only [capIds, Option.some.injEq] at h; subst h; exact ⟨[], by simp, rfl⟩
  | x :: xs, l, h => by
    simp only [capIds] at h
    split at h
    · rename_i id l' hx hl
      simp only [Option.some.injEq] at h; subst h
      have := ev_sound hM x
      rw [hx] at this
      obtain ⟨b, hb, hv⟩ := this
      obtain ⟨bs, h1, h2⟩ := capIds_sound hM hl
      exact ⟨b :: bs, by simp [List.mapM_cons, hb, h1], by simp [hv, h2]⟩
    · simp at h

theorem evFunc_sound {P : Program} {β : List Nat} {st : St} {a : Act} (hM : TmR β st.tmps a.tmps.toList) {f : Fn} {first captured : Array Operand} {p : Prop} {r : LV} (w : World)
    (he : evFunc st f first captured = some (p, r)) : ∃ v, (Instr.makeFunc f (first.map a.eval) (captured.map a.eval)).run P w = .ok v w ∧ LVR β r v := by
  unfold evFunc at he
  split at he
  · rename_i hf
    have hf' : first = #[] := Array.toList_inj.1 hf
    obtain ⟨l, hl, he⟩ := Option.map_eq_some_iff.1 he
    simp only [Prod.mk.injEq] at he
    obtain ⟨_, rfl⟩ := he
    obtain ⟨bs, h1, h2⟩ := capIds_sound hM hl
    refine ⟨.func f #[] (captured.map a.eval), by simp [Instr.makeFunc, hf'], ⟨bs, h1, ?_⟩⟩
    congr 1
    apply Array.toList_inj.1
    simpa using h2
  · simp at he

theorem runAt_len {β : List Nat} : ∀ {cs : List Cel} {vs : List Value} {off : Nat} {ks : List IntKind} {n : Nat} {l : List Int}, CelsR β cs vs → runAt cs off = some (ks, n, l) → off + n ≤ vs.length
  | [], _, _, _, _, _, _, h => by simp [runAt] at h
  | c :: cs, vs, 0, ks, n, l, h, hc => by
    obtain ⟨pre, rest, rfl, h1, h2⟩ := h
    have := h1.len
    cases c <;> simp only [runAt, Option.some.injEq, Prod.mk.injEq, reduceCtorEq] at hc
    obtain ⟨rfl, rfl, rfl⟩ := hc
    simp only [Cel.w] at this
    simp; omega
  | c :: cs, vs, off + 1, ks, n, l, h, hc => by
    obtain ⟨pre, rest, rfl, h1, h2⟩ := h
    have hl := h1.len
    simp only [runAt] at hc
    split at hc
    · have := runAt_len h2 hc
      simp; omega
    · simp at hc

/-- The built-in copy, between two rows of integers. -/
def evCopy (T : Tab) (st : St) (c : Call) : Option (Prop × LV × List Blk) :=
  match c.callee, c.args.toList, c.argTypes.toList with
  | .builtin .copy, [x, y], [t, _] => match look T t, st.ev x, st.ev y with
    | some ti, .a (.c (.slc id base i s len _)), .a (.c (.slc id' base' i' s' len' _)) => match ti.d with
      | .slice e => match intOf? T e, getB st.heap id, getB st.heap id' with
        | some k, .cells true te cs, .cells _ _ cs' => match runAt cs base, runAt cs' base' with
          | some ([k1], n, l), some ([k2], n', l') =>
            if s = 1 ∧ s' = 1 ∧ k1 = k ∧ k2 = k then
              (putC cs base [.run [k] n (l.take i.toNat ++ (l'.drop i'.toNat).take (min len'.toNat len.toNat) ++ l.drop (i.toNat + min len'.toNat len.toNat))]).map fun r =>
                (0 ≤ i ∧ 0 ≤ i' ∧ i + len ≤ n ∧ i' + len' ≤ n', .a (.c (.int .i64 (min len'.toNat len.toNat : Nat))), st.heap.set id (.cells true te r))
            else none
          | _, _ => none
        | _, _, _ => none
      | _ => none
    | _, _, _ => none
  | _, _, _ => none

theorem runV_one (k : IntKind) (l : List Int) : runV [k] l = l.map (Value.int k) := by
  apply List.ext_getElem?
  intro j
  by_cases hj : j < l.length
  · rw [runV_get _ _ _ hj]
    simp [Nat.mod_one, List.getD, hj]
  · rw [List.getElem?_eq_none (by simp [runV]; omega), List.getElem?_eq_none (by simp; omega)]

theorem copy_splice (L : List Value) (base n : Nat) (k : IntKind) (l x : List Int) (i : Nat) (hl : l.length = n) (hb : base + n ≤ L.length) (hget : ∀ j, j < n → L[base + j]? = some (.int k (l.getD j 0))) (hi : i + x.length ≤ n) :
    L.take (base + i) ++ runV [k] x ++ L.drop (base + i + x.length) = L.take base ++ runV [k] (l.take i ++ x ++ l.drop (i + x.length)) ++ L.drop (base + n) := by
  have hL : L = L.take base ++ (l.map (Value.int k) ++ L.drop (base + n)) := by
    apply List.ext_getElem?
    intro j
    by_cases c1 : j < base
    · rw [List.getElem?_append_left (by rw [List.length_take]; omega), List.getElem?_take_of_lt c1]
    · rw [List.getElem?_append_right (by rw [List.length_take]; omega), List.length_take]
      by_cases c2 : j < base + n
      · rw [List.getElem?_append_left (by rw [List.length_map]; omega)]
        have := hget (j - base) (by omega)
        rw [show base + (j - base) = j by omega] at this
        rw [this, show j - min base L.length = j - base by omega]
        simp [List.getD, show j - base < l.length by omega]
      · rw [List.getElem?_append_right (by rw [List.length_map]; omega), List.length_map, List.getElem?_drop]
        congr 1; omega
  have la : (L.take base).length = base := by rw [List.length_take]; omega
  generalize L.take base = A at *
  generalize L.drop (base + n) = B at *
  subst hL
  rw [runV_one, runV_one]
  have e1 : (A ++ (l.map (Value.int k) ++ B)).take (base + i) = A ++ (l.take i).map (Value.int k) := by
    rw [List.take_append, List.take_of_length_le (by omega), la, show base + i - base = i by omega, List.take_append_of_le_length (by rw [List.length_map]; omega), List.map_take]
  have e2 : (A ++ (l.map (Value.int k) ++ B)).drop (base + i + x.length) = (l.drop (i + x.length)).map (Value.int k) ++ B := by
    rw [List.drop_append, List.drop_of_length_le (by omega), la, show base + i + x.length - base = i + x.length by omega, List.drop_append_of_le_length (by rw [List.length_map]; omega), List.map_drop, List.nil_append]
  rw [e1, e2]
  simp [List.append_assoc]

theorem evCopy_sound {P : Program} {T : Tab} (hT : TabOk P T) {n0 : Nat} {w0 : Base} {w : World} {β : List Nat} {st : St} {a : Act} (hH : HR n0 w0 β st.heap w) (hM : TmR β st.tmps a.tmps.toList) {op : Oper} {c : Call} (ho : op.op = .call c) {p : Prop} {r : LV} {H' : List Blk}
    (he : evCopy T st c = some (p, r, H')) (hp : p) : ∃ v w', (execOp a.eval op).run P w = .ok (.value v) w' ∧ HR n0 w0 β H' w' ∧ LVR β r v := by
  unfold evCopy at he
  split at he
  · rename_i x y t t' hc ha ht
    have ha' : c.args = #[x, y] := Array.toList_inj.1 ha
    have ht' : c.argTypes = #[t, t'] := Array.toList_inj.1 ht
    have hx := ev_sound hM x
    have hy := ev_sound hM y
    split at he
    · rename_i ti id base i s len cap id' base' i' s' len' cap' hti hxe hye
      rw [hxe] at hx; rw [hye] at hy
      obtain ⟨q1, q2, q3, b, hb, hx⟩ := hx
      obtain ⟨u1, u2, u3, b', hb', hy⟩ := hy
      obtain ⟨_, hu⟩ := hT.look hti
      split at he
      · rename_i e hd
        rw [hd] at hu
        split at he
        · rename_i k te cs own te' cs' hk hg hg'
          split at he
          · rename_i k1 n l k2 n' l' hr hr'
            split at he
            · rename_i hs
              obtain ⟨rfl, rfl, rfl, rfl⟩ := hs
              obtain ⟨r', hput, he⟩ := Option.map_eq_some_iff.1 he
              simp only [Prod.mk.injEq] at he
              obtain ⟨rfl, rfl, rfl⟩ := he
              obtain ⟨p1, p2, p3, p4⟩ := hp
              obtain ⟨et, het, hed, hes⟩ := intOf?_sound hk
              obtain ⟨⟨ie, hie, hse, _⟩, _⟩ := hT.look het
              obtain ⟨b1, arr, hb1, hlt, _, hh, hcr⟩ := hH.get hg
              rw [hb] at hb1; simp only [Option.some.injEq] at hb1; subst hb1
              obtain ⟨b2, arr', hb2, hlt', _, hh', hcr'⟩ := hH.get hg'
              rw [hb'] at hb2; simp only [Option.some.injEq] at hb2; subst hb2
              obtain ⟨hl, hget⟩ := runAt_sound hcr hr
              obtain ⟨hl', hget'⟩ := runAt_sound hcr' hr'
              obtain ⟨m, hm⟩ : ∃ m, m = min len'.toNat len.toNat := ⟨_, rfl⟩
              rw [← hm] at hput ⊢
              have hm1 : m ≤ len.toNat := by omega
              have hm2 : m ≤ len'.toNat := by omega
              have szd : base + n ≤ arr.toList.length := by
                rcases Nat.eq_zero_or_pos n with h0 | h0
                · subst h0
                  have := (runAt_len hcr hr); omega
                · have := (List.getElem?_eq_some_iff.1 (hget (n - 1) (by omega))).1; omega
              -- the new row of the run
              have hnew : CelsR β [.run [k2] n (l.take i.toNat ++ (l'.drop i'.toNat).take m ++ l.drop (i.toNat + m))] (runV [k2] (l.take i.toNat ++ (l'.drop i'.toNat).take m ++ l.drop (i.toNat + m))) :=
                ⟨_, [], by simp, ⟨by simp; omega, rfl⟩, rfl⟩
              obtain ⟨g1, g2⟩ := putC_sound hcr hnew hput
              have hlen2 : (runV [k2] (l.take i.toNat ++ (l'.drop i'.toNat).take m ++ l.drop (i.toNat + m))).length = n := by simp [runV]; omega
              rw [hlen2] at g1 g2
              -- what the machine writes
              have harr := copy_splice arr.toList base n k2 l ((l'.drop i'.toNat).take m) i.toNat hl szd (fun j hj => by have := hget j hj; simpa [Nat.mod_one] using this) (by simp; omega)
              rw [show ((l'.drop i'.toNat).take m).length = m by simp; omega] at harr
              rw [← harr] at g2
              have hsrc : ∀ (ad : Addr), ad = ⟨b', base' + i'.toNat * 1, none⟩ → ∀ j v, (runV [k2] ((l'.drop i'.toNat).take m))[j]? = some v → w.cell? (ad.add j) = some v := by
                rintro ad rfl j v hv
                have hj : j < m := by have := (List.getElem?_eq_some_iff.1 hv).1; simp [runV] at this; omega
                rw [runV_get _ _ _ (by simp; omega)] at hv
                rw [addr_add, cell_at hh', ← Array.getElem?_toList, ← hv]
                have := hget' (i'.toNat + j) (by omega)
                rw [show base' + i'.toNat * 1 + j = base' + (i'.toNat + j) by omega, this]
                simp only [List.length_singleton, Nat.mod_one, List.getD_eq_getElem?_getD]
                rw [List.getElem?_take_of_lt hj, List.getElem?_drop]
              have lv : (runV [k2] ((l'.drop i'.toNat).take m)).length = m := by simp [runV]; omega
              have one : ∀ v ∈ runV [k2] ((l'.drop i'.toNat).take m), v.oneCell' = true := by
                intro v hv; simp only [runV, List.mem_map] at hv; obtain ⟨_, _, rfl⟩ := hv; rfl
              have key : ∀ (dl dc : Nat) (sa : Addr) (sl sc : Nat), a.eval x = .slice (some ⟨b, base + i.toNat, none⟩) dl dc → a.eval y = .slice (some sa) sl sc → m = Nat.min sl dl →
                  (∀ j v, (runV [k2] ((l'.drop i'.toNat).take m))[j]? = some v → w.cell? (sa.add j) = some v) →
                  ∃ v w', (execOp a.eval op).run P w = .ok (.value v) w' ∧ HR n0 w0 β (st.heap.set id (.cells true te r')) w' ∧ LVR β (.a (.c (.int .i64 (m : Nat)))) v := by
                intro dl dc sa sl sc e1 e2 e3 e4
                have := run_copy_row P w t t' op.type e b (base + i.toNat) dl dc sa sl sc arr te (runV [k2] ((l'.drop i'.toNat).take m)) hu (by rw [hie]; simp; omega) hh (by rw [lv]; exact e3) e4 (by rw [lv]; simp at szd; omega) one
                rw [lv] at this
                refine ⟨goInt m, _, ?_, hH.set hg hb hh (arr' := (arr.toList.take (base + i.toNat) ++ runV [k2] ((l'.drop i'.toNat).take m) ++ arr.toList.drop (base + i.toNat + m)).toArray) (by simpa using g2), rfl⟩
                simp [execOp, ho, resolve, hc, ha', ht', invoke, builtin, e1, e2, this]
              rcases hx with hx | ⟨hc0, o, hx⟩
              · rcases hy with hy | ⟨hc0', o', hy⟩
                · exact key _ _ _ _ _ (by rw [hx, Nat.mul_one]) hy hm (hsrc _ rfl)
                · have m0 : m = 0 := by omega
                  refine key _ _ _ _ _ (by rw [hx, Nat.mul_one]) hy (by rw [m0]; simp [Nat.min]) ?_
                  intro j v hv
                  have hj := (List.getElem?_eq_some_iff.1 hv).1
                  rw [lv] at hj; omega
              · -- nothing to write
                have m0 : m = 0 := by omega
                have hheap : r' = r' := rfl
                have e0 : (arr.toList.take (base + i.toNat) ++ runV [k2] ((l'.drop i'.toNat).take m) ++ arr.toList.drop (base + i.toNat + m)) = arr.toList := by
                  rw [m0]; simp [runV]
                rw [e0] at g2
                have hset : HR n0 w0 β (st.heap.set id (.cells true te r')) w := by
                  have := hH.set hg hb hh (arr' := arr) (by exact g2)
                  rwa [setRow_self w b arr te (0, 0) hh] at this
                have hcopy : ∃ sa sl sc, a.eval y = .slice (some sa) sl sc := by
                  rcases hy with hy | ⟨_, o', hy⟩ <;> exact ⟨_, _, _, hy⟩
                obtain ⟨sa, sl, sc, hy'⟩ := hcopy
                refine ⟨goInt 0, w, ?_, hset, by rw [m0]; rfl⟩
                have hmin : Nat.min sl 0 = 0 := by simp [Nat.min]
                simp [execOp, ho, resolve, hc, ha', ht', invoke, builtin, hx, hy', Builtin.copy_, run_underlying hu, Builtin.lenOf, Builtin.firstCells, run_sizeOf hT het, loadCells, loadCellsFrom, storeCells]
            · simp at he
          · simp at he
        · simp at he
      · simp at he
    · simp at he
  · simp at he



def evPure (o : Bool) (T : Tab) (st : St) : Op → Option (Prop × LV)
  | .move x => some (True, st.ev x)
  | .assign x => some (True, st.ev x)
  | .pick c x y => evPick (st.ev c) (st.ev x) (st.ev y)
  | .load t x => evLoad T st.heap t (st.ev x)
  | .nilCheck x => evNil (st.ev x)
  | .binOp op t x y _ => match evBin o op (st.ev x) (st.ev y) with
    | some r => some r
    | none => evEqOp T op t (st.ev x) (st.ev y)
  | .unOp op _ x => evUn o op (st.ev x)
  | .convert s d x => evConv o T s d (st.ev x)
  | .fieldAddr s x f => evFieldA T s (st.ev x) f
  | .field s x f => evField T s (st.ev x) f
  | .indexAddr t x i => evIdxA T t (st.ev x) (st.ev i)
  | .index t x i => evIdx T t (st.ev x) (st.ev i)
  | .extract x i => evExt (st.ev x) i
  | .build t parts => evBuild T st t parts
  | .slice t x lo hi mx => evSlice T st t x lo hi mx
  | .makeFunc f first captured => evFunc st f first captured
  | .call c => evLen T st c
  | _ => none

def evMem (T : Tab) (st : St) : Op → Option (Prop × LV × List Blk)
  | .alloc t => evAlloc T st.heap t
  | .box t x => evBox st.heap t (st.ev x)
  | .store t x v => evStore T st.heap t (st.ev x) (st.ev v)
  | .call c => evCopy T st c
  | _ => none

/-- The contracts of functions that are called plainly, and those of iterators: of (0 to N - 1) those with gd, what el gives for them. -/
structure Ctr where
  fn : FuncId → List LV → List Blk → Option (Prop × LV × Option (List Blk))
  sq : FuncId → List LV → List Blk → Option (Prop × Nat × (Nat → Bool) × (Nat → Int))

/-- Where a call leads. -/
def target (st : St) : Op → Option (FuncId × List LV)
  | .call c => match c.callee with
    | .value (.func f) => some (f, c.args.toList.map st.ev)
    | .value x => match st.ev x with
      | .a (.c (.fn (.func f) caps)) => some (f, c.args.toList.map st.ev ++ caps.map fun i => .a (.c (.ptr i 0)))
      | _ => none
    | _ => none
  | _ => none

def evCall (C : Ctr) (st : St) (op : Op) : Option (Prop × LV × Option (List Blk)) :=
  match target st op with
  | some (f, args) => C.fn f args st.heap
  | none => none

/-- How calls are met: what holds of the result and of the blocks behind it. -/
abbrev CI := FuncId → List LV → List Blk → (LV → List Blk → Prop) → Prop

def FnOk (P : Program) (f : FuncId) : Prop := ∃ fn, P.funcs[f]? = some fn ∧ (fn.name == "runtime.NumGoroutine") = false ∧ fn.body.isNone = false

/-- The fence that shuts nothing out, in a round or not. -/
def Wd (r : Option Nat) : Fence := { Fence.wide with round := r }

/-- A call of yield. -/
def YldAt (P : Program) (l : Nat) (args : Array Value) (W : World) (R : Ending → World → Prop) : Prop :=
  ∃ fn tmps assign body, (Instr.yield l args).run P W = .ok (.round l fn tmps assign body) W ∧ ∀ r n, RoundIn (Wd r) n P l fn tmps assign body W R

/-- What a round leaves: what is no cells and has been laid by the iterator. -/
def RK (n0 : Nat) (W W' : World) : Prop := W.heap.size ≤ W'.heap.size ∧ ∀ (k : Nat) (o : Obj), n0 ≤ k → W.heap[k]? = some o → (∀ a t s, o ≠ .cells a t s) → W'.heap[k]? = some o

/-- The rounds of the loop whose body is not in sight. -/
structure RoundsOk (P : Program) (n0 : Nat) (w0 : Base) : Prop where
  lt : ∀ N gd el i W, w0.J N gd el i W → w0.l < n0
  round : ∀ N gd el i, i < N → gd i = true → ∀ W1, w0.J N gd el (some i) W1 → YldAt P w0.l #[.int .i64 (el i)] W1 fun e W' =>
    RK n0 W1 W' ∧ ((e = .returned (.bool true) ∧ w0.J N gd el (some (i + 1)) W') ∨ (e = .returned (.bool false) ∧ w0.J N gd el none W'))
  skip : ∀ N gd el i, i < N → gd i = false → ∀ W1, w0.J N gd el (some i) W1 → w0.J N gd el (some (i + 1)) W1
  keep : ∀ N gd el i W1 W', w0.J N gd el i W1 → RK n0 W1 W' → w0.X W1 → w0.X W'

theorem RoundsOk.pl (P : Program) (n0 : Nat) (w : World) : RoundsOk P n0 (Base.pl w) :=
  ⟨fun _ _ _ _ _ h => h.elim, fun _ _ _ _ _ _ _ h => h.elim, fun _ _ _ _ _ _ _ h => h.elim, fun _ _ _ _ _ _ h => h.elim⟩

/-- The contracts of iterators. -/
def SeqsOk (P : Program) (S : FuncId → List LV → List Blk → Option (Prop × Nat × (Nat → Bool) × (Nat → Int))) : Prop :=
  ∀ f args H p N gd el, S f args H = some (p, N, gd, el) → p → FnOk P f ∧
  ∀ n0 w0 β W (vals : Array Value), HR n0 w0 β H W → TmR β args vals.toList → ∀ (l : Nat) (J : Option Nat → World → Prop), l < W.heap.size → l ∉ β →
    (∀ i a b, Below W.heap.size a b → J i a → J i b) →
    (∀ i, i < N → gd i = true → ∀ W1, W.heap.size ≤ W1.heap.size → J (some i) W1 → YldAt P l #[.int .i64 (el i)] W1 fun e W' =>
      RK W.heap.size W1 W' ∧ ((e = .returned (.bool true) ∧ J (some (i + 1)) W') ∨ (e = .returned (.bool false) ∧ J none W'))) →
    (∀ i, i < N → gd i = false → ∀ W1, J (some i) W1 → J (some (i + 1)) W1) → J (some 0) W →
    Calls P f (#[.func (.yield l) #[] #[]] ++ vals) W fun e W' => (∃ v, e = .returned v) ∧ W.heap.size ≤ W'.heap.size ∧ (J (some N) W' ∨ J none W')

/-- The contracts that the executor uses. -/
def CtrOk (P : Program) (C : Ctr) : Prop := SeqsOk P C.sq ∧ ∀ f args H p r H', C.fn f args H = some (p, r, H') → p → FnOk P f ∧
  ∀ n0 w0 β w (vals : Array Value), HR n0 w0 β H w → TmR β args vals.toList →
    Calls P f vals w fun e w' => ∃ v γ, e = .returned v ∧ HR n0 w0 (β ++ γ) (H'.getD H) w' ∧ LVR (β ++ γ) r v

def CIOk (P : Program) (I : CI) : Prop := ∀ f args H K, I f args H K → FnOk P f ∧
  ∀ n0 w0 β w (vals : Array Value), RoundsOk P n0 w0 → HR n0 w0 β H w → TmR β args vals.toList →
    Calls P f vals w fun e w' => ∃ v γ lv H', e = .returned v ∧ K lv H' ∧ HR n0 w0 (β ++ γ) H' w' ∧ LVR (β ++ γ) lv v

def ciOf (C : Ctr) : CI := fun f args H K =>
  match C.fn f args H with
  | some (p, r, some H') => p ∧ K r H'
  | some (p, r, none) => p ∧ K r H
  | none => Not True

theorem ciOf_ok {P : Program} {C : Ctr} (h : CtrOk P C) : CIOk P (ciOf C) := by
  intro f args H K hc
  unfold ciOf at hc
  split at hc
  · rename_i p r H' he
    obtain ⟨hf, hcall⟩ := h.2 f args H p r (some H') he hc.1
    refine ⟨hf, fun n0 w0 β w vals _ hH hA => (hcall n0 w0 β w vals hH hA).mono ?_⟩
    rintro e w' ⟨v, γ, rfl, h1, h2⟩
    exact ⟨v, γ, r, H', rfl, hc.2, h1, h2⟩
  · rename_i p r he
    obtain ⟨hf, hcall⟩ := h.2 f args H p r none he hc.1
    refine ⟨hf, fun n0 w0 β w vals _ hH hA => (hcall n0 w0 β w vals hH hA).mono ?_⟩
    rintro e w' ⟨v, γ, rfl, h1, h2⟩
    exact ⟨v, γ, r, H, rfl, hc.2, h1, h2⟩
  · exact (hc trivial).elim

theorem evPure_sound {P : Program} {T : Tab} (hT : TabOk P T) {n0 : Nat} {w0 : Base} {w : World} {β : List Nat} {st : St} {a : Act} (hH : HR n0 w0 β st.heap w) (hM : TmR β st.tmps a.tmps.toList)
    {o : Bool} {op : Oper} {p : Prop} {r : LV} (he : evPure o T st op.op = some (p, r)) (hp : p) : ∃ v, (execOp a.eval op).run P w = .ok (.value v) w ∧ LVR β r v := by
  have E := fun x => ev_sound hM x
  unfold evPure at he
  split at he
  · rename_i x ho
    simp only [Option.some.injEq, Prod.mk.injEq] at he
    obtain ⟨_, rfl⟩ := he
    exact ⟨a.eval x, by simp [execOp, ho], E x⟩
  · rename_i x ho
    simp only [Option.some.injEq, Prod.mk.injEq] at he
    obtain ⟨_, rfl⟩ := he
    exact ⟨a.eval x, by simp [execOp, ho], E x⟩
  · rename_i c x y ho
    unfold evPick at he
    have hc := E c
    split at he
    · rename_i hce
      simp only [Option.some.injEq, Prod.mk.injEq] at he
      obtain ⟨_, rfl⟩ := he
      rw [hce] at hc
      have hc : a.eval c = .bool true := hc
      exact ⟨a.eval x, by simp [execOp, ho, hc, asBool], E x⟩
    · rename_i hce
      simp only [Option.some.injEq, Prod.mk.injEq] at he
      obtain ⟨_, rfl⟩ := he
      rw [hce] at hc
      have hc : a.eval c = .bool false := hc
      exact ⟨a.eval y, by simp [execOp, ho, hc, asBool], E y⟩
    · rename_i b hce
      rw [hce] at hc
      have hc : a.eval c = .bool b := hc
      split at he
      · rename_i q q' hq hq'
        simp only [Option.some.injEq, Prod.mk.injEq] at he
        obtain ⟨_, rfl⟩ := he
        have e1 := asB_sound (E x) hq
        have e2 := asB_sound (E y) hq'
        refine ⟨_, by simp [execOp, ho, hc, asBool]; rfl, ?_⟩
        cases b <;> simp [e1, e2, LVR, AvR, CelR]
      · simp at he
    · simp at he
  · rename_i t x ho
    obtain ⟨v, h1, h2⟩ := evLoad_sound hT hH (E x) he hp
    exact ⟨v, by simp [execOp, ho, h1], h2⟩
  · rename_i x ho
    unfold evNil at he
    have hx := E x
    split at he <;> simp only [Option.some.injEq, Prod.mk.injEq, reduceCtorEq] at he
    · rename_i hxe
      obtain ⟨_, rfl⟩ := he
      rw [hxe] at hx
      have hx' := hx
      obtain ⟨b, _, hb⟩ := hx
      exact ⟨a.eval x, by simp [execOp, ho, hb], hx'⟩
    · rename_i hxe
      obtain ⟨_, rfl⟩ := he
      rw [hxe] at hx
      have hx' := hx
      obtain ⟨b, _, hb⟩ := hx
      exact ⟨a.eval x, by simp [execOp, ho, hb], hx'⟩
    · rename_i hxe
      obtain ⟨_, rfl⟩ := he
      rw [hxe] at hx
      have hx' := hx
      obtain ⟨b, _, hb⟩ := hx
      exact ⟨a.eval x, by simp [execOp, ho, hb], hx'⟩
  · rename_i op' t x y yt ho
    split at he
    · rename_i r' hr'
      simp only [Option.some.injEq] at he; subst he
      obtain ⟨v, h1, h2⟩ := evBin_sound (P := P) (t := t) (xo := x) (yo := y) w (E x) (E y) hr' hp
      exact ⟨v, by simp only [execOp, ho, Sem.run_bind, h1, Result.andThen_ok, Sem.run_pure], h2⟩
    · obtain ⟨v, h1, h2⟩ := evEqOp_sound hT (t := t) (xo := x) (yo := y) w (E x) (E y) he
      exact ⟨v, by simp only [execOp, ho, Sem.run_bind, h1, Result.andThen_ok, Sem.run_pure], h2⟩
  · rename_i op' t x ho
    obtain ⟨v, h1, h2⟩ := evUn_sound (P := P) w (E x) he hp
    exact ⟨v, by simp [execOp, ho, h1], h2⟩
  · rename_i s d x ho
    obtain ⟨v, h1, h2⟩ := evConv_sound hT w (E x) he hp
    exact ⟨v, by simp [execOp, ho, h1], h2⟩
  · rename_i s x f ho
    obtain ⟨v, h1, h2⟩ := evFieldA_sound hT w (E x) he
    exact ⟨v, by simp [execOp, ho, h1], h2⟩
  · rename_i s x f ho
    obtain ⟨v, h1, h2⟩ := evField_sound hT w (E x) he
    exact ⟨v, by simp [execOp, ho, h1], h2⟩
  · rename_i t x i ho
    obtain ⟨v, h1, h2⟩ := evIdxA_sound hT w (E x) (E i) he hp
    exact ⟨v, by simp [execOp, ho, h1], h2⟩
  · rename_i t x i ho
    obtain ⟨v, h1, h2⟩ := evIdx_sound hT w (E x) (E i) he hp
    exact ⟨v, by simp [execOp, ho, h1], h2⟩
  · rename_i x i ho
    unfold evExt at he
    have hx := E x
    split at he
    · rename_i l hxe
      rw [hxe] at hx
      obtain ⟨arr, hx, hr⟩ := hx
      obtain ⟨y, hy, he⟩ := Option.map_eq_some_iff.1 he
      simp only [Prod.mk.injEq] at he
      obtain ⟨_, rfl⟩ := he
      obtain ⟨v, hv, hrv⟩ := AvsR_get hr hy
      rw [Array.getElem?_toList] at hv
      exact ⟨v, by simp [execOp, ho, hx, Instr.extract, hv], hrv⟩
    · simp at he
  · rename_i t parts ho
    obtain ⟨v, h1, h2⟩ := evBuild_sound hT hM w he
    exact ⟨v, by simp only [execOp, ho, Sem.run_bind, h1, Result.andThen_ok, Sem.run_pure], h2⟩
  · rename_i t x lo hi mx ho
    obtain ⟨v, h1, h2⟩ := evSlice_sound hT hM w he hp
    exact ⟨v, by simp only [execOp, ho, Sem.run_bind, h1, Result.andThen_ok, Sem.run_pure], h2⟩
  · rename_i f first captured ho
    obtain ⟨v, h1, h2⟩ := evFunc_sound (P := P) hM w he
    exact ⟨v, by simp only [execOp, ho, Sem.run_bind, h1, Result.andThen_ok, Sem.run_pure], h2⟩
  · rename_i c ho
    exact evLen_sound hT hM ho w he
  · simp at he

theorem TmR_map {β : List Nat} {st : St} {a : Act} (hM : TmR β st.tmps a.tmps.toList) : ∀ (xs : List Operand), TmR β (xs.map st.ev) (xs.map a.eval)
  | [] => rfl
  | x :: xs => ⟨_, _, rfl, ev_sound hM x, TmR_map hM xs⟩

theorem TmR.append {β : List Nat} : ∀ {as bs : List LV} {vs us : List Value}, TmR β as vs → TmR β bs us → TmR β (as ++ bs) (vs ++ us)
  | [], _, _, _, h, k => by simp only [TmR] at h; subst h; simpa using k
  | _ :: _, _, _, _, ⟨v, rest, h, h1, h2⟩, k => ⟨v, rest ++ _, by rw [h]; rfl, h1, h2.append k⟩

theorem TmR_caps {β : List Nat} : ∀ {caps bs : List Nat}, caps.mapM (fun i => β[i]?) = some bs → TmR β (caps.map fun i => .a (.c (.ptr i 0))) (bs.map fun b => Value.pointer (some ⟨b, 0, none⟩))
  | [], bs, h => by simp only [List.mapM_nil, Option.pure_def, Option.some.injEq] at h; subst h; rfl
  | c :: cs, bs, h => by
    simp only [List.mapM_cons, Option.bind_eq_bind, Option.bind_eq_some_iff, Option.pure_def, Option.some.injEq] at h
    obtain ⟨x, hx, y, hy, rfl⟩ := h
    exact ⟨_, _, rfl, ⟨x, hx, rfl⟩, TmR_caps hy⟩

/-- A call: where it leads. -/
theorem target_sound {P : Program} {β : List Nat} {st : St} {a : Act} (hM : TmR β st.tmps a.tmps.toList) {op : Oper} {f : FuncId} {args : List LV} (he : target st op.op = some (f, args)) (hf : FnOk P f) :
    ∃ vals : Array Value, (∀ w, (execOp a.eval op).run P w = .ok (.enter f vals) w) ∧ TmR β args vals.toList := by
  have enter : ∀ f vals w, FnOk P f → (callFunc f vals).run P w = .ok (.enter f vals) w := by
    intro f vals w ⟨fn, h1, h2, h3⟩
    simp only [callFunc, Sem.run_bind, run_program, Result.andThen_ok, h1, h2, h3, Bool.false_eq_true, if_false, Sem.run_pure]
  unfold target at he
  split at he
  · rename_i c ho
    split at he
    · rename_i f' hcal
      simp only [Option.some.injEq, Prod.mk.injEq] at he
      obtain ⟨rfl, rfl⟩ := he
      refine ⟨c.args.map a.eval, fun w => ?_, by simpa using TmR_map hM c.args.toList⟩
      simp [execOp, ho, resolve, hcal, Act.eval, Deferred.ofValue, invoke]
      exact enter _ _ w hf
    · rename_i x _ hcal
      have hx := ev_sound hM x
      split at he
      · rename_i f' caps hxe
        simp only [Option.some.injEq, Prod.mk.injEq] at he
        obtain ⟨rfl, rfl⟩ := he
        rw [hxe] at hx
        obtain ⟨bs, hbs, hx⟩ := hx
        refine ⟨(c.args.map a.eval) ++ (bs.map fun b => Value.pointer (some ⟨b, 0, none⟩)).toArray, fun w => ?_, ?_⟩
        · simp [execOp, ho, resolve, hcal, hx, Deferred.ofValue, invoke]
          exact enter _ _ w hf
        · simpa using (TmR_map hM c.args.toList).append (TmR_caps hbs)
      · simp at he
    · simp at he
  · simp at he

theorem evCall_sound {P : Program} {C : Ctr} (hC : CtrOk P C) {β : List Nat} {st : St} {a : Act} (hM : TmR β st.tmps a.tmps.toList) {op : Oper} {p : Prop} {r : LV} {H' : Option (List Blk)}
    (he : evCall C st op.op = some (p, r, H')) (hp : p) : ∃ f vals, (∀ w, (execOp a.eval op).run P w = .ok (.enter f vals) w) ∧
      ∀ n0 w0 w, HR n0 w0 β st.heap w → Calls P f vals w fun e w' => ∃ v γ, e = .returned v ∧ HR n0 w0 (β ++ γ) (H'.getD st.heap) w' ∧ LVR (β ++ γ) r v := by
  unfold evCall at he
  split at he
  · rename_i f args ht
    obtain ⟨hf, hcall⟩ := hC.2 _ _ _ _ _ _ he hp
    obtain ⟨vals, h1, h2⟩ := target_sound hM ht hf
    exact ⟨f, vals, h1, fun n0 w0 w hH => hcall n0 w0 β w _ hH h2⟩
  · simp at he

def fixC : Cel → Bool
  | .any => false
  | .slc _ _ _ _ _ _ => false
  | _ => true

def fixA : Av → Bool
  | .c x => fixC x
  | .agg l => l.all fixC

def fixL : LV → Bool
  | .a x => fixA x
  | .tup l => l.all fixA

theorem CelR.uniq {β : List Nat} {c : Cel} {v u : Value} (hf : fixC c = true) (h : CelR β c v) (k : CelR β c u) : v = u := by
  cases c <;> simp only [CelR, fixC, Bool.false_eq_true] at * <;>
    first
      | (rw [h, k]; done)
      | (obtain ⟨b, h1, rfl⟩ := h; obtain ⟨b', k1, rfl⟩ := k; rw [h1] at k1; simp only [Option.some.injEq] at k1; rw [k1])

theorem Cel1.uniq {β : List Nat} {c : Cel} {vs us : List Value} (hf : fixC c = true) (h : Cel1 β c vs) (k : Cel1 β c us) : vs = us := by
  cases c <;> simp only [Cel1] at h k <;>
    first
      | (obtain ⟨v, rfl, h⟩ := h; obtain ⟨u, rfl, k⟩ := k; rw [CelR.uniq hf h k]; done)
      | (rw [h.2, k.2])

theorem CelsR.uniq {β : List Nat} : ∀ {cs : List Cel} {vs us : List Value}, cs.all fixC = true → CelsR β cs vs → CelsR β cs us → vs = us
  | [], vs, us, _, h, k => by simp only [CelsR] at h k; rw [h, k]
  | c :: cs, vs, us, hf, ⟨p, r, h, h1, h2⟩, ⟨q, s, k, k1, k2⟩ => by
    simp only [List.all_cons, Bool.and_eq_true] at hf
    rw [h, k, h1.uniq hf.1 k1, CelsR.uniq hf.2 h2 k2]

theorem AvR.uniq {β : List Nat} {x : Av} {v u : Value} (hf : fixA x = true) (h : AvR β x v) (k : AvR β x u) : v = u := by
  cases x with
  | c x => exact CelR.uniq hf h k
  | agg l =>
    obtain ⟨a1, rfl, h⟩ := h; obtain ⟨a2, rfl, k⟩ := k
    rw [Array.toList_inj.1 (CelsR.uniq hf h k)]

theorem AvsR.uniq {β : List Nat} : ∀ {cs : List Av} {vs us : List Value}, cs.all fixA = true → AvsR β cs vs → AvsR β cs us → vs = us
  | [], vs, us, _, h, k => by simp only [AvsR] at h k; rw [h, k]
  | c :: cs, vs, us, hf, ⟨p, r, h, h1, h2⟩, ⟨q, s, k, k1, k2⟩ => by
    simp only [List.all_cons, Bool.and_eq_true] at hf
    rw [h, k, h1.uniq hf.1 k1, AvsR.uniq hf.2 h2 k2]

theorem LVR.uniq {β : List Nat} {x : LV} {v u : Value} (hf : fixL x = true) (h : LVR β x v) (k : LVR β x u) : v = u := by
  cases x with
  | a x => exact AvR.uniq hf h k
  | tup l =>
    obtain ⟨a1, rfl, h⟩ := h; obtain ⟨a2, rfl, k⟩ := k
    rw [Array.toList_inj.1 (AvsR.uniq hf h k)]

/-! ### The frame -/

def setL : List LV → Nat → LV → List LV
  | [], _, _ => []
  | _ :: xs, 0, v => v :: xs
  | x :: xs, n + 1, v => x :: setL xs n v

def putL (ts : List LV) (d : Option Nat) (v : LV) : List LV :=
  match d with
  | some d => setL ts d v
  | none => ts

theorem setL_sound {β : List Nat} {x : LV} {v : Value} (h : LVR β x v) : ∀ {ts : List LV} {vs : List Value} (d : Nat), TmR β ts vs → TmR β (setL ts d x) (vs.set d v)
  | [], vs, d, hM => by simp only [TmR] at hM; subst hM; rfl
  | t :: ts, vs, 0, ⟨u, rest, e, h1, h2⟩ => by subst e; exact ⟨v, rest, rfl, h, h2⟩
  | t :: ts, vs, d + 1, ⟨u, rest, e, h1, h2⟩ => by subst e; exact ⟨u, _, rfl, h1, setL_sound h d h2⟩

theorem putL_sound {β : List Nat} {x : LV} {v : Value} (h : LVR β x v) {ts : List LV} {a : Act} (d : Option Nat) (hM : TmR β ts a.tmps.toList) : TmR β (putL ts d x) (a.put d v).tmps.toList := by
  cases d with
  | none => exact hM
  | some d => simpa [putL, Act.put] using setL_sound h d hM

/-- What a guard's operation has yielded. -/
inductive Yd where
  | known (b : Bool)
  | open_ (d : Nat) (b : Bool)
  | none_
  | bad

def yOf (ts : List LV) (all : Array Oper) (j : Nat) : Yd :=
  match all[j]? with
  | some oj => match oj.dst with
    | some d => match getL ts d with
      | .a (.c .tt) => .known true
      | .a (.c .ff) => .known false
      | .a (.c (.bool b)) => .open_ d b
      | .a (.c (.val (.tuple _))) => .none_
      | _ => .bad
    | none => .bad
  | none => .bad

theorem getL_bool {β : List Nat} {b : Bool} : ∀ {ts : List LV} {vs : List Value} {d : Nat}, TmR β ts vs → LVR β (getL ts d) (.bool b) → (∀ x, getL ts d = x → x ≠ .a (.c (.val undef)) ∧ x ≠ .a (.c .any)) →
    (∀ v, LVR β (getL ts d) v → v = .bool b) → vs[d]? = some (.bool b)
  | [], vs, d, _, _, hne, _ => absurd rfl ((hne _ rfl).1)
  | t :: ts, vs, 0, ⟨u, rest, e, h1, h2⟩, _, _, hu => by subst e; simp [hu u h1]
  | t :: ts, vs, d + 1, ⟨u, rest, e, h1, h2⟩, hb, hne, hu => by subst e; simpa using getL_bool h2 hb hne hu

theorem yielded_of {β : List Nat} {ts : List LV} {a : Act} (hM : TmR β ts a.tmps.toList) {all : Array Oper} {j : Nat} {oj : Oper} {d : Nat} {b : Bool} (hj : all[j]? = some oj) (hd : oj.dst = some d)
    (hb : LVR β (getL ts d) (.bool b)) (hne : ∀ x, getL ts d = x → x ≠ .a (.c (.val undef)) ∧ x ≠ .a (.c .any)) (hu : ∀ v, LVR β (getL ts d) v → v = .bool b) : yielded all a.tmps j = some b := by
  have := getL_bool hM hb hne hu
  rw [Array.getElem?_toList] at this
  simp [yielded, hj, hd, this]

theorem yOf_known {β : List Nat} {ts : List LV} {a : Act} (hM : TmR β ts a.tmps.toList) {all : Array Oper} {j : Nat} {b : Bool} (h : yOf ts all j = .known b) : yielded all a.tmps j = some b := by
  unfold yOf at h
  split at h
  · rename_i oj hj
    split at h
    · rename_i d hd
      split at h <;> simp only [Yd.known.injEq, reduceCtorEq] at h <;> subst h <;> rename_i hg <;>
        exact yielded_of hM hj hd (by rw [hg]; rfl) (fun x hx => by rw [hg] at hx; subst hx; simp) (fun v hv => by rw [hg] at hv; exact hv)
    · simp at h
  · simp at h

theorem yOf_open {β : List Nat} {ts : List LV} {a : Act} (hM : TmR β ts a.tmps.toList) {all : Array Oper} {j d : Nat} {b : Bool} (h : yOf ts all j = .open_ d b) :
    yielded all a.tmps j = some b ∧ getL ts d = .a (.c (.bool b)) := by
  unfold yOf at h
  split at h
  · rename_i oj hj
    split at h
    · rename_i d hd
      split at h <;> simp only [Yd.open_.injEq, reduceCtorEq] at h
      obtain ⟨rfl, rfl⟩ := h
      rename_i hg
      exact ⟨yielded_of hM hj hd (by rw [hg]; rfl) (fun x hx => by rw [hg] at hx; subst hx; simp) (fun v hv => by rw [hg] at hv; exact hv), hg⟩
    · simp at h
  · simp at h

theorem getL_tup {β : List Nat} {arr : Array Value} : ∀ {ts : List LV} {vs : List Value} {d : Nat}, TmR β ts vs → getL ts d = .a (.c (.val (.tuple arr))) → ∀ b, vs[d]? ≠ some (.bool b)
  | [], vs, d, hM, _, b => by simp only [TmR] at hM; subst hM; simp
  | t :: ts, vs, 0, ⟨u, rest, e, h1, h2⟩, hg, b => by
    simp only [getL] at hg; subst hg; subst e
    have h1 : u = .tuple arr := h1
    subst h1; simp
  | t :: ts, vs, d + 1, ⟨u, rest, e, h1, h2⟩, hg, b => by subst e; simpa using getL_tup h2 hg b

theorem yOf_none {β : List Nat} {ts : List LV} {a : Act} (hM : TmR β ts a.tmps.toList) {all : Array Oper} {j : Nat} (h : yOf ts all j = .none_) : yielded all a.tmps j = none := by
  unfold yOf at h
  split at h
  · rename_i oj hj
    split at h
    · rename_i d hd
      split at h <;> simp only [reduceCtorEq] at h
      rename_i hg
      have := getL_tup hM hg
      rw [Array.getElem?_toList] at this
      unfold yielded
      simp only [hj, hd, Option.bind_some]
    · simp at h
  · simp at h

def litB (b : Bool) : LV := if b then .a (.c .tt) else .a (.c .ff)

/-- A slot of which the value has become known. -/
theorem know_sound {β : List Nat} {b : Bool} : ∀ {ts : List LV} {vs : List Value} {d : Nat}, TmR β ts vs → getL ts d = .a (.c (.bool b)) → TmR β (setL ts d (litB b)) vs
  | [], vs, d, hM, _ => hM
  | t :: ts, vs, 0, ⟨u, rest, e, h1, h2⟩, hg => by
    simp only [getL] at hg; subst hg
    exact ⟨u, rest, e, by have h1 : u = .bool b := h1; subst h1; cases b <;> rfl, h2⟩
  | t :: ts, vs, d + 1, ⟨u, rest, e, h1, h2⟩, hg => ⟨u, rest, e, h1, know_sound h2 hg⟩

/-- A way that the executor does not know. -/
def Stuck (_ : String) : Prop := False

def force {α : Type} : List α → (List α → Prop) → Prop
  | [], k => k []
  | x :: xs, k => force xs fun ys => k (x :: ys)

theorem force_eq {α : Type} : ∀ (l : List α) (k : List α → Prop), force l k = k l
  | [], _ => rfl
  | x :: xs, k => by simp [force, force_eq xs]

def forceC (x : Cel) (k : Cel → Prop) : Prop :=
  match x with
  | .any => k .any
  | .lit a b => k (.lit a b)
  | .int a b => k (.int a b)
  | .tt => k .tt
  | .ff => k .ff
  | .bool b => k (.bool b)
  | .str s => k (.str s)
  | .ptr a b => k (.ptr a b)
  | .pti a b c d e => k (.pti a b c d e)
  | .slc a b c d e f => k (.slc a b c d e f)
  | .val v => k (.val v)
  | .fn a b => k (.fn a b)
  | .yld a => k (.yld a)
  | .run a b c => k (.run a b c)

theorem forceC_eq (x : Cel) (k : Cel → Prop) : forceC x k = k x := by cases x <;> rfl

def forceCs : List Cel → (List Cel → Prop) → Prop
  | [], k => k []
  | x :: xs, k => forceC x fun y => forceCs xs fun ys => k (y :: ys)

theorem forceCs_eq : ∀ (l : List Cel) (k : List Cel → Prop), forceCs l k = k l
  | [], _ => rfl
  | x :: xs, k => by simp [forceCs, forceC_eq, forceCs_eq xs]

def forceV (x : LV) (k : LV → Prop) : Prop :=
  match x with
  | .a (.c x) => forceC x fun x => k (.a (.c x))
  | .a (.agg l) => forceCs l fun l => k (.a (.agg l))
  | .tup l => force l fun l => k (.tup l)

theorem forceV_eq (x : LV) (k : LV → Prop) : forceV x k = k x := by
  cases x with
  | a x => cases x <;> simp [forceV, forceC_eq, forceCs_eq]
  | tup l => simp [forceV, force_eq]

def forceH : List Blk → (List Blk → Prop) → Prop
  | [], k => k []
  | .dead :: xs, k => forceH xs fun ys => k (.dead :: ys)
  | .gst N gd el i :: xs, k => forceH xs fun ys => k (.gst N gd el i :: ys)
  | .cells o t cs :: xs, k => forceCs cs fun cs => forceH xs fun ys => k (.cells o t cs :: ys)

theorem forceH_eq : ∀ (l : List Blk) (k : List Blk → Prop), forceH l k = k l
  | [], _ => rfl
  | .dead :: xs, k => by simp [forceH, forceH_eq xs]
  | .gst N gd el i :: xs, k => by simp [forceH, forceH_eq xs]
  | .cells o t cs :: xs, k => by simp [forceH, forceH_eq xs, forceCs_eq]

def forceT : List LV → (List LV → Prop) → Prop
  | [], k => k []
  | x :: xs, k => forceV x fun y => forceT xs fun ys => k (y :: ys)

theorem forceT_eq : ∀ (l : List LV) (k : List LV → Prop), forceT l k = k l
  | [], _ => rfl
  | x :: xs, k => by simp [forceT, forceV_eq, forceT_eq xs]

def yldOf (st : St) (c : Call) : Option Nat :=
  match c.callee with
  | .value x => match st.ev x with
    | .a (.c (.yld id)) => some id
    | _ => none
  | _ => none

def deads : List Blk → List Blk
  | [] => []
  | _ :: r => .dead :: deads r

/-- The blocks behind a round: of all cells nothing is known. -/
def behind : List Blk → Nat → Option Nat → List Blk
  | [], _, _ => []
  | x :: r, 0, i => (match x with | .gst N gd el _ => .gst N gd el i | _ => .dead) :: deads r
  | _ :: r, n + 1, i => .dead :: behind r n i

def evYld (id : Nat) (args : List LV) (H : List Blk) (K : LV → List Blk → Prop) : Prop :=
  match getB H id, args with
  | .gst N gd el (some i), [.a (.c (.int .i64 v))] => ∃ j, i ≤ j ∧ j < N ∧ (∀ k, i ≤ k → k < j → gd k = false) ∧ gd j = true ∧ v = el j ∧
      K (.a (.c .tt)) (behind H id (some (j + 1))) ∧ K (.a (.c .ff)) (behind H id none)
  | _, _ => Stuck "yield"

/-- One operation. -/
def evOne (o : Bool) (T : Tab) (I : CI) (op : Oper) (st : St) (K : St → Prop) : Prop :=
  match op.op with
  | .alloc _ | .box _ _ | .store _ _ _ =>
    match evMem T st op.op with
    | some (p, r, H') => p ∧ forceV r fun r => force (putL st.tmps op.dst r) fun ts => forceH H' fun H' => K ⟨ts, H'⟩
    | none => Stuck op.pos
  | .call c =>
    match c.callee with
    | .builtin .len => match evPure o T st (.call c) with
      | some (p, r) => p ∧ forceV r fun r => force (putL st.tmps op.dst r) fun ts => K ⟨ts, st.heap⟩
      | none => Stuck op.pos
    | .builtin _ => match evMem T st (.call c) with
      | some (p, r, H') => p ∧ forceV r fun r => force (putL st.tmps op.dst r) fun ts => forceH H' fun H' => K ⟨ts, H'⟩
      | none => Stuck op.pos
    | _ => match yldOf st c with
    | some id => evYld id (c.args.toList.map st.ev) st.heap fun r H' => forceV r fun r => force (putL st.tmps op.dst r) fun ts => forceH H' fun H' => K ⟨ts, H'⟩
    | none => match target st (.call c) with
    | some (f, args) => I f args st.heap fun r H' => forceV r fun r => force (putL st.tmps op.dst r) fun ts => forceH H' fun H' => K ⟨ts, H'⟩
    | none => Stuck op.pos
  | _ =>
    match evPure o T st op.op with
    | some (p, r) => p ∧ forceV r fun r => force (putL st.tmps op.dst r) fun ts => K ⟨ts, st.heap⟩
    | none => Stuck op.pos

def evOps (o : Bool) (T : Tab) (I : CI) (all : Array Oper) : List Oper → St → (St → Prop) → Prop
  | [], st, K => K st
  | op :: rest, st, K =>
    match op.guard with
    | none => evOne o T I op st fun st' => evOps o T I all rest st' K
    | some (j, want) =>
      match yOf st.tmps all j with
      | .known b =>
        if b = want then evOne o T I op st fun st' => evOps o T I all rest st' K
        else force (putL st.tmps op.dst (.a (.c (.val undef)))) fun ts => evOps o T I all rest ⟨ts, st.heap⟩ K
      | .open_ d b =>
        (b = want → force (setL st.tmps d (litB want)) fun ts => evOne o T I op ⟨ts, st.heap⟩ fun st' => evOps o T I all rest st' K) ∧
        (b = !want → force (putL (setL st.tmps d (litB !want)) op.dst (.a (.c (.val undef)))) fun ts => evOps o T I all rest ⟨ts, st.heap⟩ K)
      | .none_ => force (putL st.tmps op.dst (.a (.c (.val undef)))) fun ts => evOps o T I all rest ⟨ts, st.heap⟩ K
      | .bad => Stuck op.pos

/-- One operation of a region that draws its order. -/
def evOneQ (o : Bool) (T : Tab) (C : Ctr) (op : Oper) (st : St) (K : St → Prop) : Prop :=
  match op.op with
  | .call c =>
    match c.callee with
    | .builtin _ => match evPure o T st op.op with
      | some (p, r) => if fixL r = true then p ∧ forceV r fun r => force (putL st.tmps op.dst r) fun ts => K ⟨ts, st.heap⟩ else Stuck op.pos
      | none => Stuck op.pos
    | _ => match evCall C st op.op with
    | some (p, r, none) => if fixL r = true then p ∧ forceV r fun r => force (putL st.tmps op.dst r) fun ts => K ⟨ts, st.heap⟩ else Stuck op.pos
    | _ => Stuck op.pos
  | _ =>
    match evPure o T st op.op with
    | some (p, r) => if fixL r = true then p ∧ forceV r fun r => force (putL st.tmps op.dst r) fun ts => K ⟨ts, st.heap⟩ else Stuck op.pos
    | none => Stuck op.pos

def evOpsQ (o : Bool) (T : Tab) (C : Ctr) (all : Array Oper) : List Oper → St → (St → Prop) → Prop
  | [], st, K => K st
  | op :: rest, st, K =>
    match op.guard with
    | none => evOneQ o T C op st fun st' => evOpsQ o T C all rest st' K
    | some (j, want) =>
      match yOf st.tmps all j with
      | .known b =>
        if b = want then evOneQ o T C op st fun st' => evOpsQ o T C all rest st' K
        else force (putL st.tmps op.dst (.a (.c (.val undef)))) fun ts => evOpsQ o T C all rest ⟨ts, st.heap⟩ K
      | .open_ d b =>
        (b = want → force (setL st.tmps d (litB want)) fun ts => evOneQ o T C op ⟨ts, st.heap⟩ fun st' => evOpsQ o T C all rest st' K) ∧
        (b = !want → force (putL (setL st.tmps d (litB !want)) op.dst (.a (.c (.val undef)))) fun ts => evOpsQ o T C all rest ⟨ts, st.heap⟩ K)
      | .none_ => force (putL st.tmps op.dst (.a (.c (.val undef)))) fun ts => evOpsQ o T C all rest ⟨ts, st.heap⟩ K
      | .bad => Stuck op.pos

theorem calls_wd {P : Program} {f : FuncId} {args : Array Value} {w : World} {R : Ending → World → Prop} {n : Nat} (r : Option Nat) (h : Calls P f args w R) : CallsIn (Wd r) n P f args w R := by
  have := callsIn_wide (n := n).2 h
  exact this

theorem getB_gst : ∀ {H : List Blk} {i : Nat} {N : Nat} {gd : Nat → Bool} {el : Nat → Int} {k : Option Nat}, getB H i = .gst N gd el k → H[i]? = some (.gst N gd el k)
  | [], _, _, _, _, _, h => by simp [getB] at h
  | x :: xs, 0, _, _, _, _, h => by simpa [getB] using h
  | x :: xs, n + 1, _, _, _, _, h => by simpa using getB_gst (H := xs) h

theorem deads_get : ∀ {H : List Blk} {k : Nat} {B : Blk}, (deads H)[k]? = some B → B = .dead
  | [], _, _, h => by simp [deads] at h
  | _ :: _, 0, _, h => by simp [deads] at h; exact h.symm
  | _ :: r, k + 1, _, h => by simp only [deads, List.getElem?_cons_succ] at h; exact deads_get (H := r) h

theorem deads_len : ∀ (H : List Blk), (deads H).length = H.length
  | [] => rfl
  | _ :: r => by simp [deads, deads_len r]

theorem behind_len : ∀ (H : List Blk) (id : Nat) (i : Option Nat), (behind H id i).length = H.length
  | [], _, _ => rfl
  | _ :: r, 0, i => by simp [behind, deads_len]
  | _ :: r, n + 1, i => by simp [behind, behind_len r]

theorem behind_get : ∀ {H : List Blk} {id : Nat} {i : Option Nat} {N : Nat} {gd : Nat → Bool} {el : Nat → Int} {i0 : Option Nat} {k : Nat} {B : Blk}, getB H id = .gst N gd el i0 → (behind H id i)[k]? = some B →
    B = .dead ∨ (k = id ∧ B = .gst N gd el i)
  | [], _, _, _, _, _, _, _, _, _, h => by simp [behind] at h
  | x :: r, 0, i, N, gd, el, i0, 0, B, hg, h => by
    simp only [getB] at hg; subst hg
    simp only [behind, List.getElem?_cons_zero, Option.some.injEq] at h
    exact .inr ⟨rfl, h.symm⟩
  | x :: r, 0, i, N, gd, el, i0, k + 1, B, hg, h => by
    simp only [behind, List.getElem?_cons_succ] at h
    exact .inl (deads_get h)
  | x :: r, n + 1, i, N, gd, el, i0, 0, B, hg, h => by
    simp only [behind, List.getElem?_cons_zero, Option.some.injEq] at h
    exact .inl h.symm
  | x :: r, n + 1, i, N, gd, el, i0, k + 1, B, hg, h => by
    simp only [behind, List.getElem?_cons_succ] at h
    rcases behind_get (H := r) (by simpa [getB] using hg) h with h | ⟨h1, h2⟩
    · exact .inl h
    · exact .inr ⟨by rw [h1], h2⟩

theorem skips {J : Option Nat → World → Prop} {gd : Nat → Bool} {N : Nat} {w : World} (hs : ∀ i, i < N → gd i = false → J (some i) w → J (some (i + 1)) w) {i : Nat} (h : J (some i) w) :
    ∀ d, i + d ≤ N → (∀ k, i ≤ k → k < i + d → gd k = false) → J (some (i + d)) w
  | 0, _, _ => h
  | d + 1, h1, h2 => hs (i + d) (by omega) (h2 _ (by omega) (by omega)) (skips hs h d (by omega) (fun k a b => h2 k a (by omega)))

theorem evYld_sound {P : Program} {n0 : Nat} {w0 : Base} (hB : RoundsOk P n0 w0) {β : List Nat} {st : St} {a : Act} {w : World} (hH : HR n0 w0 β st.heap w) (hM : TmR β st.tmps a.tmps.toList) {op : Oper} {c : Call} (ho : op.op = .call c)
    {id : Nat} (hy : yldOf st c = some id) {K : LV → List Blk → Prop} (h : evYld id (c.args.toList.map st.ev) st.heap K) :
    ∃ l args, (execOp a.eval op).run P w = (Instr.yield l args).run P w ∧ YldAt P l args w fun e w' => ∃ v lv H', e = .returned v ∧ K lv H' ∧ HR n0 w0 β H' w' ∧ LVR β lv v := by
  unfold yldOf at hy
  split at hy
  · rename_i x hcal
    split at hy
    · rename_i id' hx
      simp only [Option.some.injEq] at hy; subst hy
      have hv := ev_sound hM x
      rw [hx] at hv
      obtain ⟨b, hb, hv⟩ := hv
      have hargs := TmR_map hM c.args.toList
      unfold evYld at h
      split at h
      · rename_i N gd el i v hg ha
        obtain ⟨j, hij, hjN, hsk, hgj, rfl, hk1, hk2⟩ := h
        rw [ha] at hargs
        obtain ⟨u, rest, e1, hu, hrest⟩ := hargs
        simp only [TmR] at hrest; subst hrest
        have hu : u = .int .i64 (el j) := hu
        subst hu
        have hblk := hH.blk _ _ _ (getB_gst hg) hb
        obtain ⟨hbl, hJ⟩ := hblk
        have hJj : w0.J N gd el (some j) w := by
          have := skips (J := w0.J N gd el) (gd := gd) (N := N) (w := w) (fun i h1 h2 h3 => hB.skip N gd el i h1 h2 w h3) hJ (j - i) (by omega) (fun k a b => hsk k a (by omega))
          rwa [show i + (j - i) = j by omega] at this
        have hr := hB.round N gd el j hjN hgj w hJj
        have hargs' : c.args.map a.eval = #[.int .i64 (el j)] := Array.toList_inj.1 (by rw [Array.toList_map]; exact e1)
        refine ⟨w0.l, #[.int .i64 (el j)], ?_, ?_⟩
        · rw [← hbl]
          simp [execOp, ho, resolve, hcal, hv, Deferred.ofValue, invoke, hargs']
        · obtain ⟨fn, tmps, as, bd, h1, h2⟩ := hr
          refine ⟨fn, tmps, as, bd, h1, fun r n => (h2 r n).mono ?_⟩
          have fin : ∀ (i' : Option Nat) (w' : World), RK n0 w w' → w0.J N gd el i' w' → HR n0 w0 β (behind st.heap id' i') w' := by
            intro i' w' hrk hj'
            refine ⟨Nat.le_trans hH.base hrk.1, by rw [behind_len]; exact hH.len, hH.nd, fun b hb => Nat.lt_of_lt_of_le (hH.lt b hb) hrk.1, Nat.le_trans hH.ms hrk.1, hH.st, hH.sj, hB.keep _ _ _ _ _ _ hJj hrk hH.ext, ?_⟩
            intro k B b' hB' hb'
            rcases behind_get hg hB' with rfl | ⟨rfl, rfl⟩
            · trivial
            · rw [hb] at hb'; simp only [Option.some.injEq] at hb'; subst hb'
              exact ⟨hbl, hj'⟩
          rintro e w' ⟨hrk, ⟨rfl, hj'⟩ | ⟨rfl, hj'⟩⟩
          · exact ⟨_, _, _, rfl, hk1, fin _ _ hrk hj', rfl⟩
          · exact ⟨_, _, _, rfl, hk2, fin _ _ hrk hj', rfl⟩
      · exact h.elim
    · simp at hy
  · simp at hy

theorem semAt_plain {r : Option Nat} {ρ : Operand → Value} {op : Oper} (h : ∀ c, op.op ≠ .defer c) : op.semAt r ρ = execOp ρ op := Oper.semAt_eq r ρ op h

section
variable {P : Program} {T : Tab} (hT : TabOk P T) {I : CI} (hI : CIOk P I) {o : Bool} {n0 : Nat} {w0 : Base} (hB : RoundsOk P n0 w0) {D : List Deferred} {rd : Option Nat} {n : Nat}
include hT hI hB

theorem evOne_sound {op : Oper} {st : St} {K : St → Prop} {β : List Nat} {a : Act} {w : World} {K' : Act → World → Prop} {Q : Exit → Act → World → Prop}
    (h : evOne o T I op st K) (hH : HR n0 w0 β st.heap w) (hM : TmR β st.tmps a.tmps.toList) (hD : a.defers = D)
    (hK : ∀ st' γ a' w', K st' → HR n0 w0 (β ++ γ) st'.heap w' → TmR (β ++ γ) st'.tmps a'.tmps.toList → a'.defers = D → K' a' w') :
    op.wpIn (Wd rd) n P a w K' Q := by
  have hput : ∀ (v : Value), (a.put op.dst v).defers = D := by intro v; unfold Act.put; split <;> simpa using hD
  refine ⟨fun _ _ => trivial, ?_⟩
  unfold evOne at h
  split at h
  case h_4 =>
    rename_i c ho
    rw [semAt_plain (by intro c hc; rw [ho] at hc; cases hc)]
    split at h
    · split at h
      · rename_i p r he
        obtain ⟨hp, h⟩ := h
        rw [forceV_eq, force_eq] at h
        obtain ⟨v, h1, h2⟩ := evPure_sound hT hH hM (a := a) (op := op) (by rw [ho]; exact he) hp
        rw [h1]
        have := hK ⟨putL st.tmps op.dst r, st.heap⟩ [] (a.put op.dst v) w h (by simpa using hH) (by simpa using putL_sound h2 op.dst hM) (hput v)
        exact this
      · exact h.elim
    · split at h
      · rename_i p r H' he
        obtain ⟨hp, h⟩ := h
        rw [forceV_eq, force_eq, forceH_eq] at h
        obtain ⟨v, w', h1, h2, h3⟩ := evCopy_sound hT hH hM (a := a) (op := op) ho he hp
        rw [h1]
        have := hK ⟨putL st.tmps op.dst r, H'⟩ [] (a.put op.dst v) w' h (by simpa using h2) (by simpa using putL_sound h3 op.dst hM) (hput v)
        exact this
      · exact h.elim
    · split at h
      · rename_i id hy
        obtain ⟨l, args, e1, f', tmps, as, bd, hrun, hround⟩ := evYld_sound hB hH hM (a := a) (op := op) ho hy h
        rw [e1, hrun]
        refine ⟨fun hd => by simp [Wd, Fence.wide] at hd, (hround rd _).mono ?_⟩
        rintro e w' ⟨v, lv, H', rfl, g0, g1, g2⟩
        rw [forceV_eq, force_eq, forceH_eq] at g0
        exact hK _ [] _ _ g0 (by simpa using g1) (by simpa using putL_sound g2 _ hM) (hput v)
      split at h
      · rename_i f args ht
        obtain ⟨hf, hcall⟩ := hI _ _ _ _ h
        obtain ⟨vals, h1, h2⟩ := target_sound hM (a := a) (op := op) (by rw [ho]; exact ht) hf
        rw [h1 w]
        refine ⟨fun hd => by simp [Wd, Fence.wide] at hd, (calls_wd rd (hcall n0 w0 β w _ hB hH h2)).mono ?_⟩
        rintro e w' ⟨v, γ, lv, H', rfl, g0, g1, g2⟩
        rw [forceV_eq, force_eq, forceH_eq] at g0
        exact hK _ γ _ _ g0 g1 (putL_sound g2 _ hM.mono) (hput v)
      · exact h.elim
  case h_5 =>
    split at h
    · rename_i p r he
      obtain ⟨hp, h⟩ := h
      rw [forceV_eq, force_eq] at h
      obtain ⟨v, h1, h2⟩ := evPure_sound hT hH hM (a := a) (op := op) he hp
      rw [semAt_plain (by intro c hc; rw [hc] at he; simp [evPure] at he), h1]
      have := hK ⟨putL st.tmps op.dst r, st.heap⟩ [] (a.put op.dst v) w h (by simpa using hH) (by simpa using putL_sound h2 op.dst hM) (hput v)
      exact this
    · exact h.elim
  case h_1 =>
    rename_i t ho
    split at h
    · rename_i p r H' he
      obtain ⟨hp, h⟩ := h
      rw [forceV_eq, force_eq, forceH_eq] at h
      rw [ho] at he
      obtain ⟨v, w', γ, h1, h2, h3⟩ := evAlloc_sound hT hH he
      rw [semAt_plain (by intro c hc; rw [ho] at hc; cases hc)]
      have e : (execOp a.eval op).run P w = .ok (.value v) w' := by simp [execOp, ho, h1]
      rw [e]
      exact hK _ γ _ _ h h2 (putL_sound h3 _ hM.mono) (hput v)
    · exact h.elim
  case h_2 =>
    rename_i t x ho
    split at h
    · rename_i p r H' he
      obtain ⟨hp, h⟩ := h
      rw [forceV_eq, force_eq, forceH_eq] at h
      rw [ho] at he
      obtain ⟨v, w', γ, h1, h2, h3⟩ := evBox_sound (P := P) hH (ev_sound hM x) he
      rw [semAt_plain (by intro c hc; rw [ho] at hc; cases hc)]
      have e : (execOp a.eval op).run P w = .ok (.value v) w' := by simp [execOp, ho, h1]
      rw [e]
      exact hK _ γ _ _ h h2 (putL_sound h3 _ hM.mono) (hput v)
    · exact h.elim
  case h_3 =>
    rename_i t x y ho
    split at h
    · rename_i p r H' he
      obtain ⟨hp, h⟩ := h
      rw [forceV_eq, force_eq, forceH_eq] at h
      rw [ho] at he
      obtain ⟨w', h1, h2, rfl⟩ := evStore_sound hT hH (ev_sound hM x) (ev_sound hM y) he hp
      rw [semAt_plain (by intro c hc; rw [ho] at hc; cases hc)]
      have e : (execOp a.eval op).run P w = .ok .skip w' := by simp [execOp, ho, h1]
      rw [e]
      have := hK ⟨putL st.tmps op.dst (.a (.c (.val undef))), H'⟩ [] (a.put op.dst undef) w' h (by simpa using h2) (by simpa using putL_sound (β := β) (x := .a (.c (.val undef))) (v := undef) rfl op.dst hM) (hput undef)
      exact this
    · exact h.elim

theorem evOps_sound {all : Array Oper} {K : St → Prop} {Q : Exit → Act → World → Prop} : ∀ (l : List Oper) (st : St) (β : List Nat) (a : Act) (w : World),
    evOps o T I all l st K → HR n0 w0 β st.heap w → TmR β st.tmps a.tmps.toList → a.defers = D →
    (∀ st' γ a' w', K st' → HR n0 w0 (β ++ γ) st'.heap w' → TmR (β ++ γ) st'.tmps a'.tmps.toList → a'.defers = D → Q .normal a' w') →
    wpListIn (Wd rd) n P all Q l a w
  | [], st, β, a, w, h, hH, hM, hD, hK => by
    have := hK st [] a w h (by simpa using hH) (by simpa using hM) hD
    exact this
  | op :: rest, st, β, a, w, h, hH, hM, hD, hK => by
    have hput : ∀ (v : Value), (a.put op.dst v).defers = D := by intro v; unfold Act.put; split <;> simpa using hD
    have one : ∀ (st : St), HR n0 w0 β st.heap w → TmR β st.tmps a.tmps.toList → evOne o T I op st (fun st' => evOps o T I all rest st' K) → op.wpIn (Wd rd) n P a w (wpListIn (Wd rd) n P all Q rest) Q := by
      intro st hH hM h
      refine evOne_sound hT hI hB h hH hM hD ?_
      intro st' γ a' w' hk g1 g2 g3
      exact evOps_sound rest st' (β ++ γ) a' w' hk g1 g2 g3 (fun st'' γ' a'' w'' k1 k2 k3 k4 => hK st'' (γ ++ γ') a'' w'' k1 (by simpa using k2) (by simpa using k3) k4)
    have skip : ∀ (ts : List LV), TmR β ts a.tmps.toList → evOps o T I all rest ⟨putL ts op.dst (.a (.c (.val undef))), st.heap⟩ K → wpListIn (Wd rd) n P all Q rest (a.put op.dst undef) w := by
      intro ts hts h
      exact evOps_sound rest _ β _ w h hH (putL_sound (x := .a (.c (.val undef))) (v := undef) rfl _ hts) (hput undef) hK
    unfold evOps at h
    unfold wpListIn
    split at h
    · rename_i hg
      rw [if_pos (by simp [Region.wanted, hg])]
      exact one st hH hM h
    · rename_i j want hg
      split at h
      · rename_i b hy
        have hy' := yOf_known hM hy
        by_cases hb : b = want
        · rw [if_pos hb] at h
          rw [if_pos (by simp [Region.wanted, hg, hy', hb])]
          exact one st hH hM h
        · rw [if_neg hb, force_eq] at h
          rw [if_neg (by simp [Region.wanted, hg, hy', hb])]
          exact ⟨fun _ _ => trivial, skip _ hM h⟩
      · rename_i d b hy
        obtain ⟨hy', hgd⟩ := yOf_open hM hy
        by_cases hb : b = want
        · have h := h.1 hb
          rw [force_eq] at h
          rw [if_pos (by simp [Region.wanted, hg, hy', hb])]
          subst hb
          exact one ⟨setL st.tmps d (litB b), st.heap⟩ hH (know_sound hM hgd) h
        · have hb' : b = !want := by cases b <;> cases want <;> simp_all
          have h := h.2 hb'
          rw [force_eq] at h
          rw [if_neg (by simp [Region.wanted, hg, hy', hb])]
          refine ⟨fun _ _ => trivial, skip _ ?_ h⟩
          rw [← hb']; exact know_sound hM hgd
      · rename_i hy
        have hy' := yOf_none hM hy
        rw [force_eq] at h
        rw [if_neg (by simp [Region.wanted, hg, hy'])]
        exact ⟨fun _ _ => trivial, skip _ hM h⟩
      · exact h.elim

end



/-! ### A quiet region, in a round too: the kit's law without its condition on the round -/

section
variable {F : Fence} {n : Nat} {P : Program} {ops : Array Oper} {md : Region.Mode} {C : World → Prop}

theorem wpIn_of_quiet' {o : Oper} {a : Act} {K : Act → Prop} {K' : Act → World → Prop} {Q' : Exit → Act → World → Prop} {w : World} (hro : ∀ c, o.op ≠ .defer c) (hw : C w) (h : ∀ a w', C w' → K a → K' a w')
    (ha : o.askedIn F P a C) (hh : o.quietIn F n P a C K) : o.wpIn F n P a w K' Q' := by
  obtain ⟨v, h1, h2⟩ := hh
  have h3 := h1 w hw
  unfold Oper.quietAtIn at h3
  unfold Oper.wpIn
  refine ⟨ha w hw, ?_⟩
  rw [Oper.semAt_eq _ _ _ hro]
  generalize (execOp a.eval o).run P w = r at *
  cases r with
  | ok x w' =>
    cases x <;> simp only [Oper.quietUponIn] at h3 <;> simp only [Oper.uponIn]
    case value u =>
      obtain ⟨e1, e2⟩ := h3
      rw [e1, e2]
      exact h _ _ hw h2
    case skip =>
      obtain ⟨e1, e2⟩ := h3
      rw [e1, ← e2]
      exact h _ _ hw h2
    case enter f args =>
      obtain ⟨e1, hd, hc⟩ := h3
      rw [e1]
      exact ⟨hd, hc.mono fun e w'' ⟨he, hw''⟩ => by subst he; exact h _ _ hw'' h2⟩
  | halt x w' => simp only [Oper.quietUponIn] at h3

theorem wpOpIn_of_qOpIn' (hro : ∀ (i : Nat) (o : Oper), ops[i]? = some o → ∀ c, o.op ≠ .defer c) {i : Nat} {a : Act} {K : Act → Prop} {K' : Act → World → Prop} {Q' : Exit → Act → World → Prop} {w : World} (hC : C w) (h : ∀ a w', C w' → K a → K' a w')
    (hh : qOpIn F n P ops C i K a) : wpOpIn F n P ops Q' i K' a w := by
  unfold qOpIn at hh
  unfold wpOpIn
  split
  · rename_i ho; simp only [ho] at hh; exact h _ _ hC hh
  · rename_i o ho
    simp only [ho] at hh
    obtain ⟨ha, hh⟩ := hh
    split
    · rename_i hw; simp only [hw, if_true] at hh; exact wpIn_of_quiet' (hro i o ho) hC h ha hh
    · rename_i hw; simp only [hw] at hh; exact ⟨ha w hC, h _ _ hC hh⟩

theorem wpAnyIn_of_quiet' (hro : ∀ (i : Nat) (o : Oper), ops[i]? = some o → ∀ c, o.op ≠ .defer c) {Q : Act → Prop} {Q' : Exit → Act → World → Prop} (hQ : ∀ a w, C w → Q a → Q' .normal a w) : ∀ (fuel : Nat) (listed : Array Bool) (a : Act) (w : World), C w →
    wpAnyQIn F n P md ops C Q fuel listed a → wpAnyIn F n P md ops Q' fuel listed a w
  | 0, _, _, _, hw, h => ⟨h.1, hQ _ _ hw h.2⟩
  | fuel + 1, _, _, _, hw, h => ⟨fun h0 => hQ _ _ hw (h.1 h0), fun i hi => wpOpIn_of_qOpIn' hro hw (fun a' w' hw' => wpAnyIn_of_quiet' hro hQ fuel _ a' w' hw') (h.2 i hi)⟩

theorem wpIn_region_quiet' {id : Nat} {Q : Exit → Act → World → Prop} {a : Act} {w : World} (hro : ∀ (i : Nat) (o : Oper), ops[i]? = some o → ∀ c, o.op ≠ .defer c) (hm : P.follows .mixedOrders = true) (hB : Region.lexB .any ops = true) (hC : C { w with drawn := w.drawn + 1 })
    (h : wpQuietIn F n P ops C (fun a' => ∀ w', C w' → Q .normal a' w') ops.toList a) : (Code.region id ops true).wpIn F n P Q a w := by
  simp only [Region.lexB, Bool.and_eq_true] at hB
  refine wpIn_region_any hm (wpAnyIn_of_quiet' (Q := fun a' => ∀ w', C w' → Q .normal a' w') hro (fun _ w' hw' h => h w' hw') _ _ _ _ hC ?_)
  have := wpAnyQIn_lex (F := F) (n := n) (C := C) (md := .any) hB.1 ops.toList 0 (Array.replicate ops.size false) a (by simp) (by simpa using hB.2) h
  simpa using this

end

def noDefer (ops : Array Oper) : Bool := ops.toList.all fun o => match o.op with | .defer _ => false | _ => true

theorem noDefer_sound {ops : Array Oper} (h : noDefer ops = true) (i : Nat) (o : Oper) (ho : ops[i]? = some o) (c : Call) : o.op ≠ .defer c := by
  intro e
  have := List.all_eq_true.1 h o (by rw [← Array.getElem?_toList] at ho; exact List.mem_of_getElem? ho)
  simp [e] at this

theorem HR.draw {n0 : Nat} {w0 : Base} {w : World} {β : List Nat} {H : List Blk} (h : HR n0 w0 β H w) : HR n0 w0 β H { w with drawn := w.drawn + 1 } :=
  ⟨h.base, h.len, h.nd, h.lt, h.ms, h.st, h.sj, h.st _ _ (Grow.drew _ _ w) h.ext, fun i B b hB hb => by
    have := h.blk i B b hB hb
    cases B with
    | dead => trivial
    | gst N gd el j => exact ⟨this.1, h.sj _ _ _ _ _ _ (Grow.drew n0 0 w).below this.2⟩
    | cells own t cs => exact this⟩

section
variable {P : Program} {T : Tab} (hT : TabOk P T) {C : Ctr} (hC : CtrOk P C) {o : Bool} {n0 : Nat} {w0 : Base} {D : List Deferred} {rd : Option Nat} {n : Nat}
include hT hC

theorem evOneQ_sound {op : Oper} {st : St} {K : St → Prop} {β : List Nat} {a : Act} {w : World} {K' : Act → Prop}
    (h : evOneQ o T C op st K) (hH : HR n0 w0 β st.heap w) (hM : TmR β st.tmps a.tmps.toList) (hD : a.defers = D)
    (hK : ∀ st' a', K st' → st'.heap = st.heap → TmR β st'.tmps a'.tmps.toList → a'.defers = D → K' a') :
    op.quietIn (Wd rd) n P a (HR n0 w0 β st.heap) K' := by
  have hput : ∀ (v : Value), (a.put op.dst v).defers = D := by intro v; unfold Act.put; split <;> simpa using hD
  unfold evOneQ at h
  split at h
  · rename_i c ho
    split at h
    · split at h
      · rename_i p r he
        split at h
        · rename_i hf
          obtain ⟨hp, h⟩ := h
          rw [forceV_eq, force_eq] at h
          obtain ⟨v, h1, h2⟩ := evPure_sound hT hH hM (a := a) (op := op) he hp
          refine ⟨v, fun w' hw' => ?_, hK _ _ h rfl (putL_sound h2 _ hM) (hput v)⟩
          obtain ⟨v', k1, k2⟩ := evPure_sound hT hw' hM (a := a) (op := op) he hp
          unfold Oper.quietAtIn
          rw [k1]
          exact ⟨rfl, LVR.uniq hf k2 h2⟩
        · exact h.elim
      · exact h.elim
    split at h
    · rename_i p r he
      split at h
      · rename_i hf
        obtain ⟨hp, h⟩ := h
        rw [forceV_eq, force_eq] at h
        obtain ⟨f, vals, h1, h2⟩ := evCall_sound hC hM (a := a) (op := op) he hp
        obtain ⟨e, w1, fr, ⟨v, γ, _, g1, g2⟩, _⟩ := h2 n0 w0 w hH []
        have hγ : γ = [] := by
          have := g1.len; have := hH.len; simp at *; cases γ with | nil => rfl | cons x xs => simp at *; omega
        subst hγ
        simp only [List.append_nil] at g2
        refine ⟨v, fun w' hw' => ?_, hK _ _ h rfl (putL_sound g2 _ hM) (hput v)⟩
        unfold Oper.quietAtIn
        rw [h1 w']
        refine ⟨rfl, fun hd => by simp [Wd, Fence.wide] at hd, (calls_wd rd (h2 n0 w0 w' hw')).mono ?_⟩
        rintro e w'' ⟨v', γ', rfl, k1, k2⟩
        have hγ : γ' = [] := by
          have := k1.len; have := hH.len; simp at *; cases γ' with | nil => rfl | cons x xs => simp at *; omega
        subst hγ
        simp only [List.append_nil, Option.getD_none] at k1 k2
        exact ⟨by rw [LVR.uniq hf k2 g2], k1⟩
      · exact h.elim
    · exact h.elim
  · split at h
    · rename_i p r he
      split at h
      · rename_i hf
        obtain ⟨hp, h⟩ := h
        rw [forceV_eq, force_eq] at h
        obtain ⟨v, h1, h2⟩ := evPure_sound hT hH hM (a := a) (op := op) he hp
        refine ⟨v, fun w' hw' => ?_, hK _ _ h rfl (putL_sound h2 _ hM) (hput v)⟩
        obtain ⟨v', k1, k2⟩ := evPure_sound hT hw' hM (a := a) (op := op) he hp
        unfold Oper.quietAtIn
        rw [k1]
        exact ⟨rfl, LVR.uniq hf k2 h2⟩
      · exact h.elim
    · exact h.elim

theorem evOpsQ_sound {all : Array Oper} {K : St → Prop} {Q : Exit → Act → World → Prop} {H : List Blk} {β : List Nat} {w : World} (hH : HR n0 w0 β H w) : ∀ (l : List Oper) (st : St) (a : Act),
    evOpsQ o T C all l st K → st.heap = H → TmR β st.tmps a.tmps.toList → a.defers = D →
    (∀ st' a', K st' → st'.heap = H → TmR β st'.tmps a'.tmps.toList → a'.defers = D → ∀ w', HR n0 w0 β H w' → Q .normal a' w') →
    wpQuietIn (Wd rd) n P all (HR n0 w0 β H) (fun a' => ∀ w', HR n0 w0 β H w' → Q .normal a' w') l a
  | [], st, a, h, hh, hM, hD, hK => hK st a h hh hM hD
  | op :: rest, st, a, h, hh, hM, hD, hK => by
    have hput : ∀ (v : Value), (a.put op.dst v).defers = D := by intro v; unfold Act.put; split <;> simpa using hD
    have one : ∀ (st : St), st.heap = H → TmR β st.tmps a.tmps.toList → evOneQ o T C op st (fun st' => evOpsQ o T C all rest st' K) →
        op.quietIn (Wd rd) n P a (HR n0 w0 β H) (wpQuietIn (Wd rd) n P all (HR n0 w0 β H) (fun a' => ∀ w', HR n0 w0 β H w' → Q .normal a' w') rest) := by
      intro st hh hM h
      subst hh
      refine evOneQ_sound hT hC h hH hM hD ?_
      intro st' a' hk g0 g1 g2
      exact evOpsQ_sound hH rest st' a' hk g0 g1 g2 hK
    have skip : ∀ (ts : List LV), TmR β ts a.tmps.toList → evOpsQ o T C all rest ⟨putL ts op.dst (.a (.c (.val undef))), st.heap⟩ K →
        wpQuietIn (Wd rd) n P all (HR n0 w0 β H) (fun a' => ∀ w', HR n0 w0 β H w' → Q .normal a' w') rest (a.put op.dst undef) := by
      intro ts hts h
      exact evOpsQ_sound hH rest _ _ h hh (putL_sound (x := .a (.c (.val undef))) (v := undef) rfl _ hts) (hput undef) hK
    unfold evOpsQ at h
    unfold wpQuietIn
    refine ⟨fun _ _ _ _ => trivial, ?_⟩
    split at h
    · rename_i hg
      rw [if_pos (by simp [Region.wanted, hg])]
      exact one st hh hM h
    · rename_i j want hg
      split at h
      · rename_i b hy
        have hy' := yOf_known hM hy
        by_cases hb : b = want
        · rw [if_pos hb] at h
          rw [if_pos (by simp [Region.wanted, hg, hy', hb])]
          exact one st hh hM h
        · rw [if_neg hb, force_eq] at h
          rw [if_neg (by simp [Region.wanted, hg, hy', hb])]
          exact skip _ hM h
      · rename_i d b hy
        obtain ⟨hy', hgd⟩ := yOf_open hM hy
        by_cases hb : b = want
        · have h := h.1 hb
          rw [force_eq] at h
          rw [if_pos (by simp [Region.wanted, hg, hy', hb])]
          subst hb
          exact one ⟨setL st.tmps d (litB b), st.heap⟩ hh (know_sound hM hgd) h
        · have hb' : b = !want := by cases b <;> cases want <;> simp_all
          have h := h.2 hb'
          rw [force_eq] at h
          rw [if_neg (by simp [Region.wanted, hg, hy', hb])]
          refine skip _ ?_ h
          rw [← hb']; exact know_sound hM hgd
      · rename_i hy
        have hy' := yOf_none hM hy
        rw [force_eq] at h
        rw [if_neg (by simp [Region.wanted, hg, hy'])]
        exact skip _ hM h
      · exact h.elim

end

/-! ### Weaker states -/

def leC : Cel → Cel → Prop
  | .run _ _ _, .any => False
  | _, .any => True
  | .lit k n, .int k' m => k = k' ∧ n = m
  | .int k n, .int k' m => k = k' ∧ n = m
  | .lit k n, .lit k' m => k = k' ∧ n = m
  | .int k n, .lit k' m => k = k' ∧ n = m
  | .tt, .bool b => b = true
  | .ff, .bool b => b = false
  | .bool b, .tt => b = true
  | .bool b, .ff => b = false
  | .bool b, .bool b' => b = b'
  | .tt, .tt => True
  | .ff, .ff => True
  | .str s, .str s' => s = s'
  | .run ks n l, .run ks' n' l' => ks = ks' ∧ n = n' ∧ l = l'
  | a, b => a = b

def leCs : List Cel → List Cel → Prop
  | [], [] => True
  | a :: as, b :: bs => leC a b ∧ leCs as bs
  | _, _ => False

def leA : Av → Av → Prop
  | _, .c .any => True
  | .c a, .c b => leC a b
  | .agg l, .agg m => leCs l m
  | _, _ => False

def leAs : List Av → List Av → Prop
  | [], [] => True
  | a :: as, b :: bs => leA a b ∧ leAs as bs
  | _, _ => False

def leL : LV → LV → Prop
  | _, .a (.c .any) => True
  | .a x, .a y => leA x y
  | .tup l, .tup m => leAs l m
  | a, b => a = b

def leT : List LV → List LV → Prop
  | [], [] => True
  | a :: as, b :: bs => leL a b ∧ leT as bs
  | _, _ => False

def leB : Blk → Blk → Prop
  | _, .dead => True
  | .cells o t cs, .cells o' t' cs' => o = o' ∧ t = t' ∧ leCs cs cs'
  | .gst N gd el i, .gst N' gd' el' i' => N = N' ∧ gd = gd' ∧ el = el' ∧ i = i'
  | _, _ => False

def leH : List Blk → List Blk → Prop
  | _, [] => True
  | a :: as, b :: bs => leB a b ∧ leH as bs
  | [], _ :: _ => False

theorem leC_sound {β : List Nat} {a b : Cel} {v : Value} (h : leC a b) (hr : CelR β a v) : CelR β b v := by
  unfold leC at h
  split at h
  · exact h.elim
  · trivial
  · obtain ⟨rfl, rfl⟩ := h; exact hr
  · obtain ⟨rfl, rfl⟩ := h; exact hr
  · obtain ⟨rfl, rfl⟩ := h; exact hr
  · obtain ⟨rfl, rfl⟩ := h; exact hr
  · subst h; exact hr
  · subst h; exact hr
  · subst h; exact hr
  · subst h; exact hr
  · subst h; exact hr
  · exact hr
  · exact hr
  · subst h; exact hr
  · obtain ⟨rfl, rfl, rfl⟩ := h; exact hr
  · subst h; exact hr

theorem leC1_sound {β : List Nat} {a b : Cel} {vs : List Value} (h : leC a b) (hr : Cel1 β a vs) : Cel1 β b vs := by
  cases a <;> cases b <;> simp only [leC, reduceCtorEq] at h <;> (try (exact hr)) <;>
    first
      | (obtain ⟨rfl, rfl, rfl⟩ := h; exact hr)
      | (obtain ⟨v, rfl, hr⟩ := hr; exact ⟨v, rfl, leC_sound (by simp only [leC]; exact h) hr⟩)
      | (obtain ⟨v, rfl, hr⟩ := hr; exact ⟨v, rfl, trivial⟩)
      | (cases h; exact hr)

theorem leCs_sound {β : List Nat} : ∀ {as bs : List Cel} {vs : List Value}, leCs as bs → CelsR β as vs → CelsR β bs vs
  | [], [], _, _, h => h
  | [], _ :: _, _, h, _ => h.elim
  | _ :: _, [], _, h, _ => h.elim
  | a :: as, b :: bs, vs, ⟨h1, h2⟩, ⟨p, r, e, k1, k2⟩ => ⟨p, r, e, leC1_sound h1 k1, leCs_sound h2 k2⟩

theorem leA_sound {β : List Nat} {a b : Av} {v : Value} (h : leA a b) (hr : AvR β a v) : AvR β b v := by
  unfold leA at h
  split at h
  · trivial
  · exact leC_sound h hr
  · obtain ⟨arr, e, hr⟩ := hr; exact ⟨arr, e, leCs_sound h hr⟩
  · exact h.elim

theorem leAs_sound {β : List Nat} : ∀ {as bs : List Av} {vs : List Value}, leAs as bs → AvsR β as vs → AvsR β bs vs
  | [], [], _, _, h => h
  | [], _ :: _, _, h, _ => h.elim
  | _ :: _, [], _, h, _ => h.elim
  | a :: as, b :: bs, vs, ⟨h1, h2⟩, ⟨v, r, e, k1, k2⟩ => ⟨v, r, e, leA_sound h1 k1, leAs_sound h2 k2⟩

theorem leL_sound {β : List Nat} {a b : LV} {v : Value} (h : leL a b) (hr : LVR β a v) : LVR β b v := by
  unfold leL at h
  split at h
  · trivial
  · exact leA_sound h hr
  · obtain ⟨arr, e, hr⟩ := hr; exact ⟨arr, e, leAs_sound h hr⟩
  · subst h; exact hr

theorem leT_sound {β : List Nat} : ∀ {as bs : List LV} {vs : List Value}, leT as bs → TmR β as vs → TmR β bs vs
  | [], [], _, _, h => h
  | [], _ :: _, _, h, _ => h.elim
  | _ :: _, [], _, h, _ => h.elim
  | a :: as, b :: bs, vs, ⟨h1, h2⟩, ⟨v, r, e, k1, k2⟩ => ⟨v, r, e, leL_sound h1 k1, leT_sound h2 k2⟩

/-! ### Only the first m blocks are named -/

def inC (m : Nat) : Cel → Bool
  | .ptr id _ => decide (id < m)
  | .pti id _ _ _ _ => decide (id < m)
  | .slc id _ _ _ _ _ => decide (id < m)
  | .fn _ caps => caps.all fun id => decide (id < m)
  | .yld id => decide (id < m)
  | _ => true
def inA (m : Nat) : Av → Bool
  | .c x => inC m x
  | .agg l => l.all (inC m)
def inL (m : Nat) : LV → Bool
  | .a x => inA m x
  | .tup l => l.all (inA m)
def inB (m : Nat) : Blk → Bool
  | .dead => true
  | .cells _ _ cs => cs.all (inC m)
  | .gst _ _ _ _ => true
def inSt (st : St) : Bool := st.tmps.all (inL st.heap.length) && st.heap.all (inB st.heap.length)

theorem getElem?_take_of {β : List Nat} {m id b : Nat} (h : β[id]? = some b) (hm : id < m) : (β.take m)[id]? = some b := by
  rw [List.getElem?_take_of_lt hm]; exact h

theorem mapM_take {β : List Nat} {m : Nat} : ∀ {caps bs : List Nat}, (caps.all fun id => decide (id < m)) = true → caps.mapM (fun i => β[i]?) = some bs → caps.mapM (fun i => (β.take m)[i]?) = some bs
  | [], bs, _, h => by simpa using h
  | c :: cs, bs, hm, h => by
    simp only [List.all_cons, Bool.and_eq_true, decide_eq_true_eq] at hm
    simp only [List.mapM_cons, Option.bind_eq_bind, Option.bind_eq_some_iff, Option.pure_def] at h ⊢
    obtain ⟨x, hx, y, hy, e⟩ := h
    exact ⟨x, getElem?_take_of hx hm.1, y, mapM_take hm.2 hy, e⟩

theorem CelR.take {β : List Nat} {m : Nat} {c : Cel} {v : Value} (h : CelR β c v) (hm : inC m c = true) : CelR (β.take m) c v := by
  cases c <;> simp only [CelR, inC, decide_eq_true_eq] at * <;>
    first
      | exact h
      | (obtain ⟨b, h1, h2⟩ := h; exact ⟨b, getElem?_take_of h1 hm, h2⟩)
      | (obtain ⟨h1, h2, h3, b, h4, h5⟩ := h; exact ⟨h1, h2, h3, b, getElem?_take_of h4 hm, h5⟩)
      | (obtain ⟨bs, h1, h2⟩ := h; exact ⟨bs, mapM_take hm h1, h2⟩)

theorem Cel1.take {β : List Nat} {m : Nat} {c : Cel} {vs : List Value} (h : Cel1 β c vs) (hm : inC m c = true) : Cel1 (β.take m) c vs := by
  cases c <;> simp only [Cel1] at * <;>
    first
      | exact h
      | (obtain ⟨v, h1, h2⟩ := h; exact ⟨v, h1, h2.take hm⟩)

theorem CelsR.take {β : List Nat} {m : Nat} : ∀ {cs : List Cel} {vs : List Value}, CelsR β cs vs → cs.all (inC m) = true → CelsR (β.take m) cs vs
  | [], _, h, _ => h
  | c :: cs, _, ⟨p, r, e, h1, h2⟩, hm => by
    simp only [List.all_cons, Bool.and_eq_true] at hm
    exact ⟨p, r, e, h1.take hm.1, h2.take hm.2⟩

theorem AvR.take {β : List Nat} {m : Nat} {a : Av} {v : Value} (h : AvR β a v) (hm : inA m a = true) : AvR (β.take m) a v := by
  cases a with
  | c x => exact CelR.take h hm
  | agg l => obtain ⟨arr, e, h⟩ := h; exact ⟨arr, e, h.take hm⟩

theorem AvsR.take {β : List Nat} {m : Nat} : ∀ {cs : List Av} {vs : List Value}, AvsR β cs vs → cs.all (inA m) = true → AvsR (β.take m) cs vs
  | [], _, h, _ => h
  | c :: cs, _, ⟨p, r, e, h1, h2⟩, hm => by
    simp only [List.all_cons, Bool.and_eq_true] at hm
    exact ⟨p, r, e, h1.take hm.1, h2.take hm.2⟩

theorem LVR.take {β : List Nat} {m : Nat} {a : LV} {v : Value} (h : LVR β a v) (hm : inL m a = true) : LVR (β.take m) a v := by
  cases a with
  | a x => exact AvR.take h hm
  | tup l => obtain ⟨arr, e, h⟩ := h; exact ⟨arr, e, h.take hm⟩

theorem TmR.take {β : List Nat} {m : Nat} : ∀ {cs : List LV} {vs : List Value}, TmR β cs vs → cs.all (inL m) = true → TmR (β.take m) cs vs
  | [], _, h, _ => h
  | c :: cs, _, ⟨p, r, e, h1, h2⟩, hm => by
    simp only [List.all_cons, Bool.and_eq_true] at hm
    exact ⟨p, r, e, h1.take hm.1, h2.take hm.2⟩

theorem leH_get : ∀ {as bs : List Blk} {i : Nat} {B : Blk}, leH as bs → bs[i]? = some B → ∃ A, as[i]? = some A ∧ leB A B
  | _, [], _, _, _, h => by simp at h
  | [], _ :: _, _, _, h, _ => h.elim
  | a :: as, b :: bs, 0, B, ⟨h1, _⟩, h => by simp at h; subst h; exact ⟨a, rfl, h1⟩
  | a :: as, b :: bs, i + 1, B, ⟨_, h2⟩, h => by simp at h; simpa using leH_get h2 h

theorem leH_len : ∀ {as bs : List Blk}, leH as bs → bs.length ≤ as.length
  | _, [], _ => by simp
  | [], _ :: _, h => h.elim
  | a :: as, b :: bs, ⟨_, h2⟩ => by simp; exact leH_len h2

/-- A state may be forgotten in part. -/
theorem weaken {n0 : Nat} {w0 : Base} {w : World} {β : List Nat} {st st' : St} {a : Act} (hT : leT st.tmps st'.tmps) (hHp : leH st.heap st'.heap) (hin : inSt st' = true)
    (hH : HR n0 w0 β st.heap w) (hM : TmR β st.tmps a.tmps.toList) : HR n0 w0 (β.take st'.heap.length) st'.heap w ∧ TmR (β.take st'.heap.length) st'.tmps a.tmps.toList := by
  unfold inSt at hin
  rw [Bool.and_eq_true] at hin
  have hlen := leH_len hHp
  refine ⟨⟨hH.base, by rw [List.length_take, hH.len]; omega, hH.nd.sublist (List.take_sublist _ _), fun b hb => hH.lt b (List.mem_of_mem_take hb), hH.ms, hH.st, hH.sj, hH.ext, ?_⟩, (leT_sound hT hM).take hin.1⟩
  intro i B b hB hb
  obtain ⟨A, hA, hAB⟩ := leH_get hHp hB
  have hi : i < st'.heap.length := (List.getElem?_eq_some_iff.1 hB).1
  rw [List.getElem?_take_of_lt hi] at hb
  have hblk := hH.blk i A b hA hb
  cases B with
  | dead => trivial
  | gst N gd el j =>
    cases A with
    | dead => exact hAB.elim
    | cells _ _ _ => exact hAB.elim
    | gst N' gd' el' j' =>
      obtain ⟨rfl, rfl, rfl, rfl⟩ := hAB
      exact hblk
  | cells own t cs =>
    cases A with
    | dead => exact hAB.elim
    | gst _ _ _ _ => exact hAB.elim
    | cells own' t' cs' =>
      obtain ⟨rfl, rfl, hc⟩ := hAB
      obtain ⟨h1, arr, h2, h3⟩ := hblk
      have hinB := List.all_eq_true.1 hin.2 _ (List.mem_of_getElem? hB)
      exact ⟨h1, arr, h2, (leCs_sound hc h3).take hinB⟩



inductive Ex where
  | normal
  | exit (id : Nat)
  | ret

def Ex.out : Ex → Exit
  | .normal => .normal
  | .exit id => .exit id
  | .ret => .ret

/-- What is told of a loop: a family of states at its head. -/
structure LAnn where
  ι : Type
  inv : St → ι → Prop
  slots : St → ι → List (Nat × LV)
  blks : St → ι → List (Nat × List Cel)
  μ : St → ι → Nat
  gi : St → ι → Option (Option Nat) := fun _ _ => none

/-- What is told of a loop over an iterator: a family of blocks behind i steps. -/
structure SAnn where
  ι : Type
  inv : St → Nat → ι → Prop
  blks : St → Nat → ι → List (Nat × List Cel)

inductive LM where
  | unroll (n : Nat)
  | inv (a : LAnn)
  | seq (a : SAnn)

def firstR : Code → Nat
  | .region id _ _ => id
  | .seq a _ => firstR a
  | .block _ b => firstR b
  | .loop b => firstR b
  | .scope b => firstR b
  | _ => 0

def dstsO : List Oper → List Nat
  | [] => []
  | o :: r => match o.dst with
    | some d => d :: dstsO r
    | none => dstsO r

def dstsC : Code → List Nat
  | .region _ ops _ => dstsO ops.toList
  | .seq a b => dstsC a ++ dstsC b
  | .cond _ a b => dstsC a ++ dstsC b
  | .block _ b => dstsC b
  | .loop b => dstsC b
  | .scope b => dstsC b
  | .rangeFunc _ _ a b => dstsC a ++ dstsC b
  | _ => []

def havoc : List LV → List Nat → List LV
  | ts, [] => ts
  | ts, d :: ds => havoc (setL ts d (.a (.c .any))) ds

def setSl : List LV → List (Nat × LV) → List LV
  | ts, [] => ts
  | ts, (d, v) :: r => setSl (setL ts d v) r

def setCs : List Blk → Nat → List Cel → List Blk
  | [], _, _ => []
  | .cells o t _ :: r, 0, cs => .cells o t cs :: r
  | x :: r, 0, _ => x :: r
  | x :: r, n + 1, cs => x :: setCs r n cs

def setBs : List Blk → List (Nat × List Cel) → List Blk
  | H, [] => H
  | H, (i, cs) :: r => setBs (setCs H i cs) r

theorem setCs_len : ∀ (H : List Blk) (i : Nat) (cs : List Cel), (setCs H i cs).length = H.length
  | [], _, _ => rfl
  | .cells _ _ _ :: r, 0, _ => rfl
  | .dead :: r, 0, _ => rfl
  | .gst _ _ _ _ :: r, 0, _ => rfl
  | x :: r, n + 1, cs => by simp [setCs, setCs_len r n cs]

theorem setBs_len : ∀ (l : List (Nat × List Cel)) (H : List Blk), (setBs H l).length = H.length
  | [], _ => rfl
  | (i, cs) :: r, H => by rw [setBs, setBs_len r, setCs_len]

/-- The count of rounds set; of the cells nothing is known then. -/
def setG : Option (Option Nat) → List Blk → List Blk
  | none, H => H
  | some _, [] => []
  | some i, .gst N gd el _ :: r => .gst N gd el i :: setG (some i) r
  | some i, _ :: r => .dead :: setG (some i) r

theorem setG_len : ∀ (g : Option (Option Nat)) (H : List Blk), (setG g H).length = H.length
  | none, _ => by simp [setG]
  | some _, [] => rfl
  | some i, .gst _ _ _ _ :: r => by simp [setG, setG_len (some i) r]
  | some i, .dead :: r => by simp [setG, setG_len (some i) r]
  | some i, .cells _ _ _ :: r => by simp [setG, setG_len (some i) r]

/-- What a slot holds: for annotations. -/
def slotI (st : St) (t : Nat) : Int := match getL st.tmps t with
  | .a (.c (.int _ y)) => y
  | .a (.c (.lit _ y)) => y
  | _ => 0

def LAnn.J (a : LAnn) (ds : List Nat) (st : St) (x : a.ι) : St := ⟨setSl (havoc st.tmps ds) (a.slots st x), setG (a.gi st x) (setBs st.heap (a.blks st x))⟩

def SAnn.J (a : SAnn) (st : St) (i : Nat) (x : a.ι) : List Blk := setBs st.heap (a.blks st i x)

def inH (H : List Blk) : Bool := H.all (inB H.length)

def unrollN (f : St → (Ex → St → Prop) → Prop) : Nat → St → (Ex → St → Prop) → Prop
  | 0, _, _ => Stuck "unroll"
  | n + 1, st, K => f st fun e st' => match e with
    | .normal => unrollN f n st' K
    | e => K e st'

/-- The executor. -/
def ex (o : Bool) (T : Tab) (I : CI) (C : Ctr) (Λ : Nat → LM) : Code → St → (Ex → St → Prop) → Prop
  | .skip, st, K => K .normal st
  | .label _, st, K => K .normal st
  | .region _ ops draw, st, K =>
    match draw with
    | false => evOps o T I ops ops.toList st fun st' => K .normal st'
    | true => if (Region.lexB .any ops && noDefer ops) = true then evOpsQ o T C ops ops.toList st fun st' => K .normal st' else Stuck "draw"
  | .seq a b, st, K => ex o T I C Λ a st fun e st' => match e with
    | .normal => ex o T I C Λ b st' K
    | e => K e st'
  | .cond c x y, st, K =>
    match st.ev c with
    | .a (.c .tt) => ex o T I C Λ x st K
    | .a (.c .ff) => ex o T I C Λ y st K
    | .a (.c (.bool b)) => (b = true → ex o T I C Λ x st K) ∧ (b = false → ex o T I C Λ y st K)
    | _ => Stuck "cond"
  | .block id body, st, K => ex o T I C Λ body st fun e st' => match e with
    | .exit i => if i = id then K .normal st' else K (.exit i) st'
    | e => K e st'
  | .loop body, st, K =>
    match Λ (firstR body) with
    | .unroll n => unrollN (ex o T I C Λ body) n st K
    | .inv a =>
      (∃ x, a.inv st x ∧ leT st.tmps (a.J (dstsC body) st x).tmps ∧ leH st.heap (a.J (dstsC body) st x).heap) ∧
      ∀ x, a.inv st x → forceT (a.J (dstsC body) st x).tmps fun ts => forceH (a.J (dstsC body) st x).heap fun H =>
        if inSt ⟨ts, H⟩ = true then ex o T I C Λ body ⟨ts, H⟩ fun e st' => match e with
          | .normal => ∃ y, a.inv st y ∧ a.μ st y < a.μ st x ∧ leT st'.tmps (a.J (dstsC body) st y).tmps ∧ leH st'.heap (a.J (dstsC body) st y).heap
          | e => K e st'
        else Stuck "ids"
    | .seq _ => Stuck "loop"
  | .rangeFunc g ps assign body, st, K =>
    match st.ev g, ps.toList, Λ (firstR body) with
    | .a (.c (.fn (.func f) caps)), [t], .seq a =>
      match C.sq f (caps.map fun i => .a (.c (.ptr i 0))) st.heap with
      | some (p, N, gd, el) => p ∧
        (∃ x, a.inv st 0 x ∧ forceH (a.J st 0 x) fun H => if inH H = true then leH st.heap H else Stuck "ids") ∧
        (∀ i x, i < N → gd i = true → a.inv st i x → forceT (setL st.tmps t (.a (.c (.int .i64 (el i))))) fun ts => forceH (a.J st i x) fun H =>
          ex o T I C Λ assign ⟨ts, H⟩ fun e st1 => match e with
            | .normal => ex o T I C Λ body st1 fun e st2 => match e with
              | .normal => ∃ y, a.inv st (i + 1) y ∧ forceH (a.J st (i + 1) y) fun H => if inH H = true then leH st2.heap H else Stuck "ids"
              | e => forceH (st2.heap.take st.heap.length) fun H => if inH H = true then K e ⟨st.tmps, H⟩ else Stuck "ids"
            | _ => Stuck "assign") ∧
        (∀ i x, i < N → gd i = false → a.inv st i x → ∃ y, a.inv st (i + 1) y ∧ forceH (a.J st (i + 1) y) fun H => if inH H = true then leH (a.J st i x) H else Stuck "ids") ∧
        (∀ x, a.inv st N x → forceH (a.J st N x) fun H => K .normal ⟨st.tmps, H⟩)
      | none => Stuck "iterator"
    | _, _, _ => Stuck "range"
  | .exit id, st, K => K (.exit id) st
  | .ret, st, K => K .ret st
  | _, _, _ => Stuck "code"

theorem least {S : Nat → Prop} (h : ∃ n, S n) : ∃ n, S n ∧ ∀ m, S m → n ≤ m := by
  obtain ⟨n, hn⟩ := h
  induction n using Nat.strongRecOn with
  | _ n ih =>
    by_cases hm : ∃ m, m < n ∧ S m
    · obtain ⟨m, hlt, hS⟩ := hm
      exact ih m hlt hS
    · exact ⟨n, hn, fun m hS => Nat.le_of_not_lt fun hlt => hm ⟨m, hlt, hS⟩⟩

/-- A loop, by a family of states. -/
theorem wpIn_family {F : Fence} {n : Nat} {P : Program} {Q : Exit → Act → World → Prop} {a : Act} {w : World} {c : Code} {ι : Type} (I : ι → Act → World → Prop) (μ : ι → Nat) (h₀ : ∃ x, I x a w)
    (round : ∀ x a w, I x a w → c.wpIn F n P (Exit.then (fun a' w' => ∃ y, I y a' w' ∧ μ y < μ x) Q) a w) : (Code.loop c).wpIn F n P Q a w := by
  classical
  let m : Act → World → Nat := fun a w => if h : ∃ k, ∃ x, I x a w ∧ μ x = k then Classical.choose (least h) else 0
  have hm : ∀ a w, (∃ x, I x a w) → ∃ x, I x a w ∧ μ x = m a w ∧ ∀ y, I y a w → m a w ≤ μ y := by
    intro a w ⟨x, hx⟩
    have h : ∃ k, ∃ x, I x a w ∧ μ x = k := ⟨_, x, hx, rfl⟩
    have hc := Classical.choose_spec (least h)
    have e : m a w = Classical.choose (least h) := dif_pos h
    obtain ⟨⟨y, hy, hyk⟩, hmin⟩ := hc
    exact ⟨y, hy, by rw [e, hyk], fun z hz => by rw [e]; exact hmin _ ⟨z, hz, rfl⟩⟩
  refine wpIn_loop (fun a w => ∃ x, I x a w) m h₀ fun a w h => ?_
  obtain ⟨x, hx, hxm, _⟩ := hm a w h
  refine wpIn_mono (round x a w hx) ?_
  intro e a' w' hq
  cases e with
  | normal =>
    obtain ⟨y, hy, hlt⟩ := hq
    obtain ⟨_, _, _, hmin⟩ := hm a' w' ⟨y, hy⟩
    exact ⟨⟨y, hy⟩, by have := hmin y hy; omega⟩
  | _ => exact hq

/-- A loop that is walked round by round. -/
theorem wpIn_unroll {F : Fence} {n : Nat} {P : Program} {Q : Exit → Act → World → Prop} {c : Code} : ∀ (k : Nat) (a : Act) (w : World) (S : Nat → Act → World → Prop), S k a w →
    (∀ j a w, S (j + 1) a w → c.wpIn F n P (Exit.then (S j) Q) a w) → (∀ a w, ¬ S 0 a w) → (Code.loop c).wpIn F n P Q a w := by
  intro k a w S hk hs h0
  refine wpIn_family (fun j => S j) id ⟨k, hk⟩ ?_
  intro j a w h
  cases j with
  | zero => exact (h0 a w h).elim
  | succ j =>
    refine wpIn_mono (hs j a w h) ?_
    intro e a' w' hq
    cases e with
    | normal => exact ⟨j, hq, Nat.lt_succ_self j⟩
    | _ => exact hq

/-! ### Marks among the deferred calls -/

def DOk (n0 m hi : Nat) : List Deferred → World → Prop
  | [], _ => True
  | d :: ds, w => (∃ r, d = { target := .collected r, args := #[] } ∧ n0 ≤ r ∧ m ≤ r ∧ r < hi ∧ w.heap[r]? = some (.deferred (some [])) ∧ ∀ d' ∈ ds, d' ≠ d) ∧ DOk n0 m hi ds w

theorem DOk.keep {n0 m m' hi hi' : Nat} {w w' : World} (hm : m' ≤ m) (hh : hi ≤ hi') (hk : ∀ r, n0 ≤ r → r < hi → w.heap[r]? = some (.deferred (some [])) → w'.heap[r]? = some (.deferred (some []))) : ∀ {ds : List Deferred}, DOk n0 m hi ds w → DOk n0 m' hi' ds w'
  | [], _ => trivial
  | d :: ds, ⟨⟨r, h1, h2, h3, h4, h5, h6⟩, h⟩ => ⟨⟨r, h1, h2, by omega, by omega, hk r h2 h4 h5, h6⟩, DOk.keep hm hh hk h⟩

/-- What is no cells, from n0 on, lies as it lay. -/
def KO (n0 : Nat) (w W : World) : Prop := ∀ (k : Nat) (o : Obj), n0 ≤ k → w.heap[k]? = some o → (∀ a t s, o ≠ .cells a t s) → W.heap[k]? = some o

theorem KO.refl (n0 : Nat) (w : World) : KO n0 w w := fun _ _ _ h _ => h
theorem KO.below {n0 n : Nat} {w a b : World} (h : KO n0 w a) (hw : w.heap.size ≤ n) (hb : Below n a b) : KO n0 w b := fun k o h1 h2 h3 =>
  (hb.block k (Nat.lt_of_lt_of_le (Array.getElem?_eq_some_iff.1 h2).1 hw)).trans (h k o h1 h2 h3)
theorem KO.grow {n0 m : Nat} {w a b : World} (h : KO n0 w a) (hw : w.heap.size ≤ m) (hg : Grow n0 m a b) : KO n0 w b := fun k o h1 h2 h3 =>
  hg.ko k o (Nat.lt_of_lt_of_le (Array.getElem?_eq_some_iff.1 h2).1 hw) (h k o h1 h2 h3) h3
theorem KO.rk {n0 : Nat} {w a b : World} (h : KO n0 w a) (hr : RK n0 a b) : KO n0 w b := fun k o h1 h2 h3 => hr.2 k o h1 (h k o h1 h2 h3) h3

theorem DOk.ko {n0 m m' hi hi' : Nat} {w W : World} {ds : List Deferred} (h : DOk n0 m hi ds w) (hm : m' ≤ m) (hh : hi ≤ hi') (hk : KO n0 w W) : DOk n0 m' hi' ds W :=
  h.keep hm hh fun r h1 _ h3 => hk r _ h1 h3 (fun _ _ _ e => by cases e)

/-- A base in which a fact on worlds is kept beside. -/
def Base.and (w0 : Base) (Y : World → Prop) (s : Nat) : Base := ⟨fun u => w0.X u ∧ Y u, s, w0.l, w0.J⟩

theorem HR.and {n0 : Nat} {w0 : Base} {β : List Nat} {H : List Blk} {w : World} (h : HR n0 w0 β H w) {Y : World → Prop} {s : Nat} (hs : w0.m ≤ s) (hw : s ≤ w.heap.size) (hY : Y w) (hst : ∀ a b, Grow n0 s a b → Y a → Y b) : HR n0 (w0.and Y s) β H w :=
  ⟨h.base, h.len, h.nd, h.lt, hw, fun a b hg hx => ⟨h.st a b ⟨hg.below, fun k o hk => hg.ko k o (Nat.lt_of_lt_of_le hk hs)⟩ hx.1, hst a b hg hx.2⟩, h.sj, ⟨h.ext, hY⟩, fun i B b hB hb => by
    have := h.blk i B b hB hb
    cases B <;> exact this⟩

theorem HR.left {n0 : Nat} {w0 : Base} {β : List Nat} {H : List Blk} {w : World} {Y : World → Prop} {s : Nat} (hs : w0.m ≤ s) (hst : ∀ a b, Grow n0 w0.m a b → w0.X a → w0.X b) (h : HR n0 (w0.and Y s) β H w) : HR n0 w0 β H w :=
  ⟨h.base, h.len, h.nd, h.lt, Nat.le_trans hs h.ms, hst, h.sj, h.ext.1, fun i B b hB hb => by
    have := h.blk i B b hB hb
    cases B <;> exact this⟩

theorem RoundsOk.and {P : Program} {n0 : Nat} {w0 : Base} (h : RoundsOk P n0 w0) {Y : World → Prop} {s : Nat} (hk : ∀ a b, RK n0 a b → Y a → Y b) : RoundsOk P n0 (w0.and Y s) :=
  ⟨h.lt, h.round, h.skip, fun N gd el i W1 W' hj hr hx => ⟨h.keep N gd el i W1 W' hj hr hx.1, hk _ _ hr hx.2⟩⟩

/-- Steps that turn nothing below n. -/
theorem HR.later {n0 n : Nat} {w0 : Base} {β : List Nat} {H : List Blk} {w w' : World} (h : HR n0 w0 β H w) (hn : n0 ≤ n) (hm : w0.m ≤ n) (hβ : ∀ b ∈ β, b < n) (hb : Below n w w') : HR n0 w0 β H w' :=
  ⟨Nat.le_trans h.base hb.size, h.len, h.nd, fun b hb' => Nat.lt_of_lt_of_le (h.lt b hb') hb.size, Nat.le_trans h.ms hb.size, h.st, h.sj, h.st _ _ (Grow.of_below hn hm hb) h.ext, fun i B b hB hbβ => by
    have := h.blk i B b hB hbβ
    cases B with
    | dead => trivial
    | gst N gd el j => exact ⟨this.1, h.sj _ _ _ _ _ _ (hb.mono hn) this.2⟩
    | cells own t cs =>
      obtain ⟨h1, arr, h2, h3⟩ := this
      exact ⟨h1, arr, by rw [hb.block b (hβ b (List.mem_of_getElem? hbβ))]; exact h2, h3⟩⟩

/-- A block that is no cells turns. -/
theorem HR.putO {n0 : Nat} {w0 : Base} {β : List Nat} {H : List Blk} {w : World} (h : HR n0 w0 β H w) {r : Nat} {o o' : Obj} (hr : w.heap[r]? = some o) (ho : ∀ a t s, o ≠ .cells a t s) (hn : n0 ≤ r) (hx : w0.X (w.putObj r o')) : HR n0 w0 β H (w.putObj r o') := by
  have hb : Below n0 w (w.putObj r o') := ⟨rfl, rfl, rfl, by simp, fun k hk => World.putObj_heap_other (by omega)⟩
  refine ⟨by simpa using h.base, h.len, h.nd, fun b hb' => by simpa using h.lt b hb', by simpa using h.ms, h.st, h.sj, hx, fun i B b hB hbβ => ?_⟩
  have := h.blk i B b hB hbβ
  cases B with
  | dead => trivial
  | gst N gd el j => exact ⟨this.1, h.sj _ _ _ _ _ _ hb this.2⟩
  | cells own t cs =>
    obtain ⟨h1, arr, h2, h3⟩ := this
    refine ⟨h1, arr, ?_, h3⟩
    rw [World.putObj_heap_other]; exact h2
    intro e; subst e; rw [h2] at hr; simp only [Option.some.injEq] at hr; exact ho _ _ _ hr.symm

theorem below_putO {n : Nat} {w : World} {r : Nat} (o : Obj) (hn : n ≤ r) : Below n w (w.putObj r o) := ⟨rfl, rfl, rfl, by simp, fun k hk => World.putObj_heap_other (by omega)⟩
theorem grow_putO {n0 m : Nat} {w : World} {r : Nat} (o : Obj) (hn : n0 ≤ r) (hm : m ≤ r) : Grow n0 m w (w.putObj r o) := ⟨below_putO o hn, fun k o' hk ho _ => (World.putObj_heap_other (by omega)).trans ho⟩

theorem weakenH {n0 : Nat} {w0 : Base} {w : World} {β : List Nat} {H H' : List Blk} (hle : leH H H') (hin : inH H' = true) (hH : HR n0 w0 β H w) : HR n0 w0 (β.take H'.length) H' w :=
  (weaken (st := ⟨[], H⟩) (st' := ⟨[], H'⟩) (a := { tmps := #[], defers := [] }) trivial hle (by simpa [inSt, inH] using hin) hH rfl).1

theorem leC_refl (c : Cel) : leC c c := by cases c <;> simp [leC]
theorem leCs_refl : ∀ l, leCs l l
  | [] => trivial
  | c :: r => ⟨leC_refl c, leCs_refl r⟩
theorem leB_refl (b : Blk) : leB b b := by cases b <;> simp [leB, leCs_refl]
theorem leH_take : ∀ (H : List Blk) (n : Nat), leH H (H.take n)
  | [], n => by simp [leH]
  | b :: r, 0 => by simp [leH]
  | b :: r, n + 1 => ⟨leB_refl b, leH_take r n⟩

/-- A loop over an iterator is entered. -/
theorem enter_sx {P : Program} {w : World} (fn : FuncId) (tmps : Array Value) (ps : Array Tmp) (assign body : Code) (rd : Option Nat) (hr : ∀ l0, rd = some l0 → ∃ r, w.heap[l0]? = some (.loop r)) :
    ∃ (l : Nat) (mark : List Deferred) (r : Loop) (W : World), (Instr.enterLoop fn tmps ps assign body rd).run P w = .ok (l, mark) W ∧ W.heap[l]? = some (.loop { r with state := .ready, pending := none }) ∧
      r.fn = fn ∧ r.tmps = tmps ∧ r.params = ps ∧ r.assign = assign ∧ r.body = body ∧ w.heap.size ≤ l ∧ Below w.heap.size w W ∧
      (mark = [] ∨ ∃ D, mark = [{ target := .collected D, args := #[] }] ∧ w.heap.size ≤ D ∧ D ≠ l ∧ W.heap[D]? = some (.deferred (some []))) := by
  cases rd with
  | none =>
    refine ⟨_, _, { state := .ready, pending := none, fn, tmps, params := ps, assign, body, defers := w.heap.size }, _, run_enterLoop_outer fn tmps ps assign body, ?_, rfl, rfl, rfl, rfl, rfl, by omega, ?_, .inr ⟨_, rfl, Nat.le_refl _, by omega, ?_⟩⟩
    · have := World.alloc_heap_new (w.alloc (.deferred (some []))) (.loop { state := .ready, pending := none, fn, tmps, params := ps, assign, body, defers := w.heap.size })
      rwa [World.size_alloc] at this
    · exact ((Below.refl _ w).alloc (Nat.le_refl _) _).alloc (by simp) _
    · exact (Below.heap_alloc _ _ _ (by simp)).trans (World.alloc_heap_new w _)
  | some l0 =>
    obtain ⟨r0, h0⟩ := hr l0 rfl
    refine ⟨w.heap.size, [], { state := .ready, pending := none, fn, tmps, params := ps, assign, body, defers := r0.defers }, w.alloc (.loop { state := .ready, pending := none, fn, tmps, params := ps, assign, body, defers := r0.defers }), ?_, World.alloc_heap_new w _, rfl, rfl, rfl, rfl, rfl, Nat.le_refl _, (Below.refl _ w).alloc (Nat.le_refl _) _, .inl rfl⟩
    unfold Instr.enterLoop
    simp only [Sem.run_bind, run_getLoop h0, run_newObj_alloc, Result.andThen, Sem.run_pure]

def Ex.code : Ex → Code
  | .normal => .skip
  | .exit id => .exit id
  | .ret => .ret

section
variable {P : Program} {T : Tab} (hT : TabOk P T) {I : CI} (hI : CIOk P I) {C : Ctr} (hC : CtrOk P C) (hm : P.follows .mixedOrders = true) {o : Bool} {n0 : Nat} {Λ : Nat → LM}
include hT hI hC hm

theorem ex_sound (c : Code) : ∀ (rd : Option Nat) (n : Nat) (w0 : Base) (st : St) (K : Ex → St → Prop) (β : List Nat) (a : Act) (w : World) (Q : Exit → Act → World → Prop),
    RoundsOk P n0 w0 → (∀ l0, rd = some l0 → ∀ u, w0.X u → ∃ r, u.heap[l0]? = some (.loop r)) →
    ex o T I C Λ c st K → HR n0 w0 β st.heap w → TmR β st.tmps a.tmps.toList → DOk n0 w0.m w.heap.size a.defers w →
    (∀ e st' γ a' w', K e st' → HR n0 w0 (β ++ γ) st'.heap w' → TmR (β ++ γ) st'.tmps a'.tmps.toList → DOk n0 w0.m w'.heap.size a'.defers w' → Q e.out a' w') →
    c.wpIn (Wd rd) n P Q a w := by
  induction c with
  | skip =>
    intro rd n w0 st K β a w Q hB hR h hH hM hD hK
    exact wpIn_skip (hK .normal st [] a w h (by simpa using hH) (by simpa using hM) hD)
  | label l =>
    intro rd n w0 st K β a w Q hB hR h hH hM hD hK
    exact wpIn_label (hK .normal st [] a w h (by simpa using hH) (by simpa using hM) hD)
  | exit id =>
    intro rd n w0 st K β a w Q hB hR h hH hM hD hK
    exact wpIn_exit (hK (.exit id) st [] a w h (by simpa using hH) (by simpa using hM) hD)
  | ret =>
    intro rd n w0 st K β a w Q hB hR h hH hM hD hK
    exact wpIn_ret (hK .ret st [] a w h (by simpa using hH) (by simpa using hM) hD)
  | region id ops draw =>
    intro rd n w0 st K β a w Q hB hR h hH hM hD hK
    have hYg : ∀ u v, Grow n0 w.heap.size u v → DOk n0 w0.m w.heap.size a.defers u → DOk n0 w0.m w.heap.size a.defers v := fun u v hg hd =>
      hd.keep (Nat.le_refl _) (Nat.le_refl _) fun r _ h2 h3 => hg.ko r _ h2 h3 (fun _ _ _ e => by cases e)
    have hYr : ∀ u v, RK n0 u v → DOk n0 w0.m w.heap.size a.defers u → DOk n0 w0.m w.heap.size a.defers v := fun u v hg hd =>
      hd.keep (Nat.le_refl _) (Nat.le_refl _) fun r h1 _ h3 => hg.2 r _ h1 h3 (fun _ _ _ e => by cases e)
    have hB2 := hB.and (Y := DOk n0 w0.m w.heap.size a.defers) (s := w.heap.size) hYr
    have hH2 := hH.and (Y := DOk n0 w0.m w.heap.size a.defers) (s := w.heap.size) hH.ms (Nat.le_refl _) hD hYg
    cases draw with
    | false =>
      refine wpIn_region_list (evOps_sound hT hI hB2 ops.toList st β a w h hH2 hM rfl (fun st' γ a' w' k1 k2 k3 k4 => hK .normal st' γ a' w' k1 (k2.left hH.ms hH.st) k3 ?_))
      rw [k4]
      exact k2.ext.2.keep (Nat.le_refl _) k2.ms (fun _ _ _ h => h)
    | true =>
      simp only [ex] at h
      split at h
      · rename_i hb
        rw [Bool.and_eq_true] at hb
        refine wpIn_region_quiet' (C := HR n0 (w0.and (DOk n0 w0.m w.heap.size a.defers) w.heap.size) β st.heap) (noDefer_sound hb.2) hm hb.1 hH2.draw ?_
        refine evOpsQ_sound hT hC (hH2.draw) ops.toList st a h rfl hM rfl ?_
        intro st' a' k1 k2 k3 k4 w' k5
        refine hK .normal st' [] a' w' k1 (by rw [k2]; simpa using k5.left hH.ms hH.st) (by simpa using k3) ?_
        rw [k4]
        exact k5.ext.2.keep (Nat.le_refl _) k5.ms (fun _ _ _ h => h)
      · exact h.elim
  | seq x y ihx ihy =>
    intro rd n w0 st K β a w Q hB hR h hH hM hD hK
    refine wpIn_seq (ihx rd n w0 st _ β a w _ hB hR h hH hM hD ?_)
    intro e st' γ a' w' k1 k2 k3 k4
    cases e with
    | normal =>
      exact ihy rd n w0 st' K (β ++ γ) a' w' Q hB hR k1 k2 k3 k4 (fun e st'' γ' a'' w'' g1 g2 g3 g4 => hK e st'' (γ ++ γ') a'' w'' g1 (by simpa using g2) (by simpa using g3) g4)
    | exit id => exact hK (.exit id) st' γ a' w' k1 k2 k3 k4
    | ret => exact hK .ret st' γ a' w' k1 k2 k3 k4
  | cond c x y ihx ihy =>
    intro rd n w0 st K β a w Q hB hR h hH hM hD hK
    simp only [ex] at h
    have hc := ev_sound hM c
    split at h
    · rename_i hce
      rw [hce] at hc
      exact wpIn_cond_true hc (ihx rd n w0 st K β a w Q hB hR h hH hM hD hK)
    · rename_i hce
      rw [hce] at hc
      exact wpIn_cond_false hc (ihy rd n w0 st K β a w Q hB hR h hH hM hD hK)
    · rename_i b hce
      rw [hce] at hc
      exact wpIn_cond_split hc (fun hb => ihx rd n w0 st K β a w Q hB hR (h.1 hb) hH hM hD hK) (fun hb => ihy rd n w0 st K β a w Q hB hR (h.2 hb) hH hM hD hK)
    · exact h.elim
  | block id body ih =>
    intro rd n w0 st K β a w Q hB hR h hH hM hD hK
    refine wpIn_block (ih rd n w0 st _ β a w _ hB hR h hH hM hD ?_)
    intro e st' γ a' w' k1 k2 k3 k4
    cases e with
    | normal => exact hK .normal st' γ a' w' k1 k2 k3 k4
    | exit i =>
      simp only at k1
      by_cases hi : i = id
      · rw [if_pos hi] at k1
        simp only [Ex.out, Exit.inBlock, hi, if_true]
        exact hK .normal st' γ a' w' k1 k2 k3 k4
      · rw [if_neg hi] at k1
        simp only [Ex.out, Exit.inBlock, hi, if_false]
        exact hK (.exit i) st' γ a' w' k1 k2 k3 k4
    | ret => exact hK .ret st' γ a' w' k1 k2 k3 k4
  | loop body ih =>
    intro rd n w0 st K β a w Q hB hR h hH hM hD hK
    simp only [ex] at h
    split at h
    · rename_i k hk
      refine wpIn_unroll k a w (fun j a w => ∃ st' γ, unrollN (ex o T I C Λ body) j st' K ∧ HR n0 w0 (β ++ γ) st'.heap w ∧ TmR (β ++ γ) st'.tmps a.tmps.toList ∧ DOk n0 w0.m w.heap.size a.defers w)
        ⟨st, [], h, by simpa using hH, by simpa using hM, hD⟩ ?_ ?_
      · rintro j a w ⟨st', γ, h1, h2, h3, h4⟩
        refine ih rd n w0 st' _ (β ++ γ) a w _ hB hR h1 h2 h3 h4 ?_
        intro e st'' γ' a' w' k1 k2 k3 k4
        cases e with
        | normal => exact ⟨st'', γ ++ γ', k1, by simpa using k2, by simpa using k3, k4⟩
        | exit id => exact hK (.exit id) st'' (γ ++ γ') a' w' k1 (by simpa using k2) (by simpa using k3) k4
        | ret => exact hK .ret st'' (γ ++ γ') a' w' k1 (by simpa using k2) (by simpa using k3) k4
      · rintro a w ⟨_, _, h1, _⟩
        exact h1
    · rename_i ann hk
      obtain ⟨⟨x0, i0, t0, hp0⟩, hbody'⟩ := h
      have hbody : ∀ x, ann.inv st x → inSt (ann.J (dstsC body) st x) = true ∧ ex o T I C Λ body (ann.J (dstsC body) st x) fun e st' => match e with
          | .normal => ∃ y, ann.inv st y ∧ ann.μ st y < ann.μ st x ∧ leT st'.tmps (ann.J (dstsC body) st y).tmps ∧ leH st'.heap (ann.J (dstsC body) st y).heap
          | e => K e st' := by
        intro x ix
        have := hbody' x ix
        rw [forceT_eq, forceH_eq] at this
        split at this
        · rename_i hin; exact ⟨hin, this⟩
        · exact this.elim
      have hJ : ∀ x, (ann.J (dstsC body) st x).heap.length = β.length := by
        intro x
        rw [hH.len]; exact (setG_len _ _).trans (setBs_len _ _)
      refine wpIn_family (fun x a w => ann.inv st x ∧ HR n0 w0 β (ann.J (dstsC body) st x).heap w ∧ TmR β (ann.J (dstsC body) st x).tmps a.tmps.toList ∧ DOk n0 w0.m w.heap.size a.defers w) (ann.μ st) ⟨x0, i0, ?_⟩ ?_
      · have := weaken t0 hp0 (hbody x0 i0).1 hH hM
        rw [hJ, List.take_length] at this
        exact ⟨this.1, this.2, hD⟩
      · rintro x a w ⟨i1, h1, h2, h3⟩
        have hb := (hbody x i1).2
        refine ih rd n w0 _ _ β a w _ hB hR hb h1 h2 h3 ?_
        intro e st' γ a' w' k1 k2 k3 k4
        cases e with
        | normal =>
          obtain ⟨y, iy, hlt, ty, hpy⟩ := k1
          have := weaken ty hpy (hbody y iy).1 k2 k3
          rw [hJ, List.take_append_of_le_length (Nat.le_refl _), List.take_length] at this
          exact ⟨y, ⟨iy, this.1, this.2, k4⟩, hlt⟩
        | exit id => exact hK (.exit id) st' γ a' w' k1 k2 k3 k4
        | ret => exact hK .ret st' γ a' w' k1 k2 k3 k4
    · exact h.elim
  | rangeFunc g ps assign body iha ihb =>
    intro rd n w0 st K β a w Q hB hR h hH hM hD hK
    simp only [ex] at h
    split at h
    · rename_i f caps t ann hg hps hΛ
      split at h
      · rename_i p N gd el hc
        obtain ⟨hp, ⟨x0, hi0, hs0⟩, hround, hskip, hend⟩ := h
        obtain ⟨hf, hseq⟩ := hC.1 _ _ _ _ _ _ _ hc hp
        have hv := ev_sound hM g
        rw [hg] at hv
        obtain ⟨bs, hbs, hv⟩ := hv
        have hcaps := TmR_caps hbs
        have hps' : ps = #[t] := Array.toList_inj.1 hps
        have hJl : ∀ i x, (ann.J st i x).length = β.length := by
          intro i x
          rw [hH.len]; exact setBs_len _ _
        have wk : ∀ {w0' : Base} {γ : List Nat} {H : List Blk} {i : Nat} {x : ann.ι} {W : World}, (forceH (ann.J st i x) fun H' => if inH H' = true then leH H H' else Stuck "ids") → HR n0 w0' (β ++ γ) H W → HR n0 w0' β (ann.J st i x) W := by
          intro w0' γ H i x W hh hr
          rw [forceH_eq] at hh
          split at hh
          · rename_i hin
            have := weakenH hh hin hr
            rwa [hJl, List.take_append_of_le_length (Nat.le_refl _), List.take_length] at this
          · exact hh.elim
        refine wpIn_rangeFunc ?_
        intro fn _
        obtain ⟨l, mark, r, W1, henter, hl1, rfl, htm, hpa, hasg, hbd, hlw, hbW, hmark⟩ := enter_sx (P := P) fn a.tmps ps assign body rd (fun l0 e => hR l0 e _ hH.ext)
        have hlW1 : l < W1.heap.size := (Array.getElem?_eq_some_iff.1 hl1).1
        have hD1 : ∀ D, mark = [{ target := .collected D, args := #[] }] → w.heap.size ≤ D ∧ D ≠ l ∧ D < W1.heap.size ∧ W1.heap[D]? = some (.deferred (some [])) := by
          intro D hD
          rcases hmark with rfl | ⟨D', rfl, h1, h2, h3⟩
          · cases hD
          · cases hD; exact ⟨h1, h2, (Array.getElem?_eq_some_iff.1 h3).1, h3⟩
        have hn0l : n0 ≤ l := Nat.le_trans hH.base hlw
        refine ⟨l, mark, W1, { target := .fn (.func f) (bs.map fun b => Value.pointer (some ⟨b, 0, none⟩)).toArray, args := #[.func (.yield l) #[] #[]] }, W1, f, #[.func (.yield l) #[] #[]] ++ (bs.map fun b => Value.pointer (some ⟨b, 0, none⟩)).toArray, W1, henter, ?_, fun _ _ => trivial, ?_, fun hd => by simp [Wd, Fence.wide] at hd, ?_⟩
        · simp [resolve, hv, Deferred.ofValue]; rfl
        · obtain ⟨fn', g1, g2, g3⟩ := hf
          show (callFunc f _).run P W1 = _
          simp only [callFunc, Sem.run_bind, run_program, Result.andThen_ok, g1, g2, g3, Bool.false_eq_true, if_false, Sem.run_pure]
        · -- the contract
          let Side : LoopState → Option Code → World → Prop := fun s pe W => W.heap[l]? = some (.loop { r with state := s, pending := pe }) ∧ KO n0 w W ∧ ∀ D, mark = [{ target := .collected D, args := #[] }] → W.heap[D]? = some (.deferred (some []))
          let JJ : Option Nat → World → Prop := fun i W => match i with
            | some i => (∃ x, ann.inv st i x ∧ HR n0 w0 β (ann.J st i x) W) ∧ Side .ready none W
            | none => ∃ e H', e ≠ Ex.normal ∧ K e ⟨st.tmps, H'⟩ ∧ HR n0 w0 β H' W ∧ Side .done (some e.code) W
          have hβ1 : ∀ b ∈ β, b < W1.heap.size := fun b hb => Nat.lt_of_lt_of_le (hH.lt b hb) hbW.size
          have hlater : ∀ {H : List Blk} {A B : World}, Below W1.heap.size A B → HR n0 w0 β H A → HR n0 w0 β H B := fun hb hr =>
            hr.later (Nat.le_trans hH.base hbW.size) (Nat.le_trans hH.ms hbW.size) hβ1 hb
          have hSide : ∀ {s pe} {A B : World}, Below W1.heap.size A B → Side s pe A → Side s pe B := by
            rintro s pe A B hb ⟨h1, h2, h3⟩
            exact ⟨(hb.block l hlW1).trans h1, h2.below hbW.size hb, fun D hD => (hb.block D (hD1 D hD).2.2.1).trans (h3 D hD)⟩
          have hS1 : Side .ready none W1 := ⟨hl1, fun k o _ h2 _ => (hbW.block k (Array.getElem?_eq_some_iff.1 h2).1).trans h2, fun D hD => (hD1 D hD).2.2.2⟩
          have hH1 : HR n0 w0 β st.heap W1 := hH.later hH.base hH.ms hH.lt hbW
          have hcall : Calls P f (#[.func (.yield l) #[] #[]] ++ (bs.map fun b => Value.pointer (some ⟨b, 0, none⟩)).toArray) W1 fun e W' => (∃ v, e = .returned v) ∧ W1.heap.size ≤ W'.heap.size ∧ (JJ (some N) W' ∨ JJ none W') := by
            refine hseq n0 w0 β W1 _ hH1 hcaps l JJ hlW1 (fun hb => by have := hH.lt l hb; omega) ?gstab ?ground ?gskip ⟨⟨x0, hi0, wk (γ := []) hs0 (by simpa using hH1)⟩, hS1⟩
            case gstab =>
              intro i A B hb hj
              cases i with
              | none => obtain ⟨e, H', h1, h2, h3, h4⟩ := hj; exact ⟨e, H', h1, h2, hlater hb h3, hSide hb h4⟩
              | some i => obtain ⟨⟨x, h1, h2⟩, h3⟩ := hj; exact ⟨⟨x, h1, hlater hb h2⟩, hSide hb h3⟩
            case gskip =>
              rintro i hiN hgi W ⟨⟨x, h1, h2⟩, h3⟩
              obtain ⟨y, hy, hle⟩ := hskip i x hiN hgi h1
              exact ⟨⟨y, hy, wk (γ := []) hle (by simpa using h2)⟩, h3⟩
            case ground =>
              rintro i hiN hgi W2 hW12 ⟨⟨x, hix, hHx⟩, hl2, hko2, hmk2⟩
              have hlW2 : l < W2.heap.size := (Array.getElem?_eq_some_iff.1 hl2).1
              have hy := run_yield (P := P) (args := #[Value.int .i64 (el i)]) hl2 (by simp [hpa, hps'])
              refine ⟨_, _, _, _, hy, fun r' n' => ?_⟩
              simp only [hpa, hps', hasg, hbd, htm]
              refine roundIn_of_wpIn (F := Wd r') trivial ?_
              show assign.wpIn (Wd (some l)) n' P _ _ W2
              have hrd := hround i x hiN hgi hix
              rw [forceT_eq, forceH_eq] at hrd
              -- the assignment
              have hYg : ∀ u v, Grow n0 W2.heap.size u v → KO n0 W2 u → KO n0 W2 v := fun u v hg hk => hk.grow (Nat.le_refl _) hg
              have hBa := hB.and (Y := KO n0 W2) (s := W2.heap.size) (fun u v hr hk => hk.rk hr)
              have hHa := hHx.and (Y := KO n0 W2) (s := W2.heap.size) hHx.ms (Nat.le_refl _) (KO.refl _ _) hYg
              refine iha (some l) n' _ _ _ β _ W2 _ hBa ?_ hrd hHa ?_ trivial ?_
              · rintro l0 e u ⟨_, hu⟩
                cases e
                exact ⟨_, hu l _ hn0l hl2 (fun _ _ _ e => by cases e)⟩
              · have := setL_sound (β := β) (x := .a (.c (.int .i64 (el i)))) (v := .int .i64 (el i)) rfl t hM
                simpa using this
              · intro e st1 γ1 a1 w1 k1 hH1 hM1 hD1'
                cases e with
                | exit id => exact k1.elim
                | ret => exact k1.elim
                | normal =>
                  have hl3 : w1.heap[l]? = some (.loop { r with state := .ready, pending := none }) := hH1.ext.2 l _ hn0l hl2 (fun _ _ _ e => by cases e)
                  refine ⟨_, run_beginRound hl3 rfl, ?_⟩
                  show body.wpIn (Wd (some l)) n' P _ _ _
                  -- the body
                  let rb : Loop := { r with state := .busy, pending := none }
                  let W2b := W2.putObj l (.loop rb)
                  have hW2b : W2b.heap.size = W2.heap.size := World.putObj_size
                  have hl2b : W2b.heap[l]? = some (.loop rb) := World.putObj_heap_same hlW2
                  have hko1 : KO n0 W2b (w1.putObj l (.loop rb)) := by
                    intro k ob h1 h2 h3
                    by_cases hkl : k = l
                    · subst hkl; rw [hl2b] at h2; rw [← h2]; exact World.putObj_heap_same (Array.getElem?_eq_some_iff.1 hl3).1
                    · rw [World.putObj_heap_other hkl] at h2 ⊢
                      exact hH1.ext.2 k ob h1 h2 h3
                  have hYgb : ∀ u v, Grow n0 W2.heap.size u v → KO n0 W2b u → KO n0 W2b v := fun u v hg hk => hk.grow (by rw [hW2b]; exact Nat.le_refl _) hg
                  have hBb := hB.and (Y := KO n0 W2b) (s := W2.heap.size) (fun u v hr hk => hk.rk hr)
                  have hXp : w0.X (w1.putObj l (.loop rb)) := hH.st _ _ (grow_putO _ hn0l (Nat.le_trans hH.ms hlw)) hH1.ext.1
                  have hHb : HR n0 (w0.and (KO n0 W2b) W2.heap.size) (β ++ γ1) st1.heap (w1.putObj l (.loop rb)) :=
                    ((hH1.left hHx.ms hH.st).putO hl3 (fun _ _ _ e => by cases e) hn0l hXp).and hHx.ms (by have : W2.heap.size ≤ w1.heap.size := hH1.ms; simpa using this) hko1 hYgb
                  refine ihb (some l) n' _ _ _ (β ++ γ1) _ _ _ hBb ?_ k1 hHb hM1 ?_ ?_
                  · rintro l0 e u ⟨_, hu⟩
                    cases e
                    exact ⟨_, hu l _ hn0l hl2b (fun _ _ _ e => by cases e)⟩
                  · refine hD1'.keep (Nat.le_refl _) (by simp) ?_
                    intro r1 h1 h2 h3
                    rw [World.putObj_heap_other]
                    · exact h3
                    · intro e; subst e; rw [hl3] at h3; cases h3
                  · intro e2 st2 γ2 a2 w3 k2 hH2 hM2 _
                    have hko3 : KO n0 W2b w3 := hH2.ext.2
                    have hl4 : w3.heap[l]? = some (.loop rb) := hko3 l _ hn0l hl2b (fun _ _ _ e => by cases e)
                    have hlw3 : l < w3.heap.size := (Array.getElem?_eq_some_iff.1 hl4).1
                    have hsz : W2.heap.size ≤ w3.heap.size := hH2.ms
                    have fin : ∀ (jump : Option Code), (Instr.endRound l jump).run P w3 = .ok (.bool jump.isNone) (w3.putObj l (.loop { r with state := if jump.isNone then .ready else .done, pending := jump })) ∧
                        RK W1.heap.size W2 (w3.putObj l (.loop { r with state := if jump.isNone then .ready else .done, pending := jump })) ∧
                        Side (if jump.isNone then .ready else .done) jump (w3.putObj l (.loop { r with state := if jump.isNone then .ready else .done, pending := jump })) := by
                      intro jump
                      have oth : ∀ k ob, n0 ≤ k → k ≠ l → W2.heap[k]? = some ob → (∀ a t s, ob ≠ .cells a t s) → (w3.putObj l (.loop { r with state := if jump.isNone then .ready else .done, pending := jump })).heap[k]? = some ob := by
                        intro k ob h1 h2 h3 h4
                        rw [World.putObj_heap_other h2]
                        exact hko3 k ob h1 ((World.putObj_heap_other h2).trans h3) h4
                      refine ⟨by have := run_endRound (P := P) (r := rb) jump hl4; exact this, ⟨by simpa using hsz, fun k ob h1 h2 h3 => oth k ob (by have := hH1.base; omega) (by omega) h2 h3⟩, World.putObj_heap_same hlw3, ?_, ?_⟩
                      · intro k ob h1 h2 h3
                        have hkw := (Array.getElem?_eq_some_iff.1 h2).1
                        exact oth k ob h1 (by omega) (hko2 k ob h1 h2 h3) h3
                      · intro D hD
                        obtain ⟨g1, g2, g3, g4⟩ := hD1 D hD
                        exact oth D _ (by have := hH.base; omega) g2 (hmk2 D hD) (fun _ _ _ e => by cases e)
                    have hHr := hH2.left hHx.ms hH.st
                    have putl : ∀ {H : List Blk} (ob : Obj), HR n0 w0 β H w3 → HR n0 w0 β H (w3.putObj l ob) := fun ob hr =>
                      hr.putO hl4 (fun _ _ _ e => by cases e) hn0l (hH.st _ _ (grow_putO _ hn0l (Nat.le_trans hH.ms hlw)) hr.ext)
                    have jmp : ∀ (e : Ex), e ≠ .normal → (forceH (st2.heap.take st.heap.length) fun H => if inH H = true then K e ⟨st.tmps, H⟩ else Stuck "ids") →
                        ∃ v w', (Instr.endRound l (some e.code)).run P w3 = .ok v w' ∧ (RK W1.heap.size W2 w' ∧ ((Ending.returned v = .returned (.bool true) ∧ JJ (some (i + 1)) w') ∨ (Ending.returned v = .returned (.bool false) ∧ JJ none w'))) := by
                      intro e hne hk
                      rw [forceH_eq] at hk
                      split at hk
                      · rename_i hin
                        obtain ⟨f1, f2, f3⟩ := fin (some e.code)
                        refine ⟨_, _, f1, f2, .inr ⟨rfl, e, _, hne, hk, putl _ ?_, f3⟩⟩
                        have := weakenH (leH_take st2.heap st.heap.length) hin hHr
                        have hle : st.heap.length ≤ st2.heap.length := by have h1 := hHr.len; have h2 := hH.len; simp at h1; omega
                        have hl5 : (st2.heap.take st.heap.length).length = β.length := by rw [List.length_take, Nat.min_eq_left hle, hH.len]
                        rwa [hl5, List.append_assoc, List.take_append_of_le_length (Nat.le_refl _), List.take_length] at this
                      · exact hk.elim
                    cases e2 with
                    | normal =>
                      obtain ⟨y, hy, hle⟩ := k2
                      obtain ⟨f1, f2, f3⟩ := fin none
                      refine ⟨_, _, f1, f2, .inl ⟨rfl, ⟨y, hy, putl _ ?_⟩, f3⟩⟩
                      exact wk (γ := γ1 ++ γ2) hle (by simpa using hHr)
                    | ret => exact jmp .ret (by simp) k2
                    | exit id => exact jmp (.exit id) (by simp) k2
          -- behind the iterator
          refine (calls_wd rd hcall).mono ?_
          have hDm : ∀ (W : World), w.heap.size ≤ W.heap.size → W1.heap.size ≤ W.heap.size → KO n0 w W → (∀ D, mark = [{ target := .collected D, args := #[] }] → W.heap[D]? = some (.deferred (some []))) → DOk n0 w0.m W.heap.size (mark ++ a.defers) W := by
            intro W hsz hsz1 hk hm1
            have hold : DOk n0 w0.m W.heap.size a.defers W := hD.ko (Nat.le_refl _) hsz hk
            rcases hmark with rfl | ⟨D, rfl, h1, h2, h3⟩
            · exact hold
            · refine ⟨⟨D, rfl, Nat.le_trans hH.base h1, Nat.le_trans hH.ms h1, by have := (hD1 D rfl).2.2.1; omega, hm1 D rfl, ?_⟩, hold⟩
              have : ∀ (ds : List Deferred), DOk n0 w0.m w.heap.size ds w → ∀ d' ∈ ds, d' ≠ { target := .collected D, args := #[] } := by
                intro ds
                induction ds with
                | nil => intro _ d' hd'; simp at hd'
                | cons d ds ih =>
                  rintro ⟨⟨r1, e1, _, _, e4, _, _⟩, hds⟩ d' hd'
                  rcases List.mem_cons.1 hd' with rfl | hd'
                  · rw [e1]; intro e; simp at e; omega
                  · exact ih hds d' hd'
              exact this _ hD
          have fin2 : ∀ {s : LoopState} {pe : Option Code} {H : List Blk} {W3 : World}, s ≠ .busy → HR n0 w0 β H W3 → Side s pe W3 → W1.heap.size ≤ W3.heap.size →
              ∃ W4, (Instr.endLoop l).run P W3 = .ok pe W4 ∧ HR n0 w0 β H W4 ∧ DOk n0 w0.m W4.heap.size (mark ++ a.defers) W4 := by
            rintro s pe H W3 hs hr ⟨h1, h2, h3⟩ hsz
            refine ⟨_, run_endLoop h1 (by simpa using hs), hr.putO h1 (fun _ _ _ e => by cases e) hn0l (hH.st _ _ (grow_putO _ hn0l (Nat.le_trans hH.ms hlw)) hr.ext), hDm _ (by simp; exact Nat.le_trans hbW.size hsz) (by simpa using hsz) ?_ ?_⟩
            · intro k ob g1 g2 g3
              have hkw := (Array.getElem?_eq_some_iff.1 g2).1
              rw [World.putObj_heap_other (by omega)]
              exact h2 k ob g1 g2 g3
            · intro D hD
              rw [World.putObj_heap_other (hD1 D hD).2.1]
              exact h3 D hD
          rintro e W3 ⟨⟨v, rfl⟩, hsz3, hj | hj⟩
          · obtain ⟨⟨x, h1, h2⟩, h3⟩ := hj
            obtain ⟨W4, g1, g2, g3⟩ := fin2 (by simp) h2 h3 hsz3
            have he := hend x h1
            rw [forceH_eq] at he
            exact ⟨none, W4, g1, hK .normal _ [] { a with defers := mark ++ a.defers } W4 he (by simpa using g2) (by simpa using hM) g3⟩
          · obtain ⟨e, H', hne, h1, h2, h3⟩ := hj
            obtain ⟨W4, g1, g2, g3⟩ := fin2 (by simp) h2 h3 hsz3
            refine ⟨some e.code, W4, g1, ?_⟩
            have hq := hK e _ [] { a with defers := mark ++ a.defers } W4 h1 (by simpa using g2) (by simpa using hM) g3
            cases e with
            | normal => exact absurd rfl hne
            | ret => exact wpIn_ret hq
            | exit id => exact wpIn_exit hq
      · exact h.elim
    · exact h.elim
  | _ => intro rd n w0 st K β a w Q hB hR h; exact h.elim

end

/-! ### Functions -/

def resAv (T : Tab) (st : St) : ResultVar → Option Av
  | .tmp t => match getL st.tmps t with
    | .a av => some av
    | .tup _ => none
  | .cell t ty => match look T ty, getL st.tmps t with
    | some ti, .a (.c (.ptr id off)) => match getB st.heap id with
      | .cells _ _ cs => match loadC cs ti off with
        | some (.a av) => some av
        | _ => none
      | _ => none
    | _, _ => none

def resAvs (T : Tab) (st : St) : List ResultVar → Option (List Av)
  | [] => some []
  | r :: rs => match resAv T st r, resAvs T st rs with
    | some a, some as => some (a :: as)
    | _, _ => none

def resLV (T : Tab) (st : St) (rs : List ResultVar) : Option LV :=
  match rs with
  | [r] => (resAv T st r).map .a
  | rs => (resAvs T st rs).map .tup

theorem resAv_sound {P : Program} {T : Tab} (hT : TabOk P T) {n0 : Nat} {w0 : Base} {w : World} {β : List Nat} {st : St} {tmps : Array Value} (hH : HR n0 w0 β st.heap w) (hM : TmR β st.tmps tmps.toList) {r : ResultVar} {av : Av}
    (h : resAv T st r = some av) : ∃ v, (match r with | .tmp t => pure (tmps.getD t undef) | .cell a t => do loadVar t (← asAddr (tmps.getD a undef)) : Sem Value).run P w = .ok v w ∧ AvR β av v := by
  have g : ∀ t, LVR β (getL st.tmps t) (tmps.getD t undef) := fun t => by simpa using getL_sound t hM
  unfold resAv at h
  split at h
  · rename_i t
    split at h
    · rename_i av' he
      simp only [Option.some.injEq] at h; subst h
      have := g t
      rw [he] at this
      exact ⟨_, by simp, this⟩
    · simp at h
  · rename_i t ty
    split at h
    · rename_i ti id off hti hl
      split at h
      · rename_i own te cs hg
        split at h
        · rename_i av' hv
          simp only [Option.some.injEq] at h; subst h
          have hx := g t
          rw [hl] at hx
          have he : evLoad T st.heap ty (.a (.c (.ptr id off))) = some (True, .a av') := by
            simp [evLoad, hti, hg, hv]
          obtain ⟨v, h1, h2⟩ := evLoad_sound hT hH hx he trivial
          obtain ⟨b, _, hb⟩ := hx
          refine ⟨v, ?_, h2⟩
          rw [hb] at h1 ⊢
          simpa [Instr.loadAt, Instr.sureAddr, asAddr] using h1
        · simp at h
      · simp at h
    · simp at h

theorem resAvs_sound {P : Program} {T : Tab} (hT : TabOk P T) {n0 : Nat} {w0 : Base} {w : World} {β : List Nat} {st : St} {tmps : Array Value} (hH : HR n0 w0 β st.heap w) (hM : TmR β st.tmps tmps.toList) : ∀ {rs : List ResultVar} {as : List Av},
    resAvs T st rs = some as → ∃ vs, (rs.mapM (fun r => match r with | .tmp t => pure (tmps.getD t undef) | .cell a t => do loadVar t (← asAddr (tmps.getD a undef)) : ResultVar → Sem Value)).run P w = .ok vs w ∧ AvsR β as vs
  | [], as, h => by
    simp only [resAvs, Option.some.injEq] at h; subst h
    exact ⟨[], by simp, rfl⟩
  | r :: rs, as, h => by
    simp only [resAvs] at h
    split at h
    · rename_i a as' ha has
      simp only [Option.some.injEq] at h; subst h
      obtain ⟨v, h1, h2⟩ := resAv_sound hT hH hM ha
      obtain ⟨vs, h3, h4⟩ := resAvs_sound hT hH hM has
      refine ⟨v :: vs, ?_, ⟨v, vs, rfl, h2, h4⟩⟩
      rw [List.mapM_cons, Sem.run_bind, h1, Result.andThen_ok, Sem.run_bind, h3, Result.andThen_ok]; rfl
    · simp at h

theorem AvsR.length {β : List Nat} : ∀ {as : List Av} {vs : List Value}, AvsR β as vs → vs.length = as.length
  | [], _, h => by simp only [AvsR] at h; subst h; rfl
  | _ :: _, _, ⟨v, r, e, _, h⟩ => by subst e; simp [AvsR.length h]

theorem resLV_sound {P : Program} {T : Tab} (hT : TabOk P T) {n0 : Nat} {w0 : Base} {w : World} {β : List Nat} {st : St} {tmps : Array Value} (hH : HR n0 w0 β st.heap w) (hM : TmR β st.tmps tmps.toList) {fn : Func} {lv : LV}
    (h : resLV T st fn.results.toList = some lv) : ∃ v, (results fn tmps).run P w = .ok v w ∧ LVR β lv v := by
  have key : ∀ as, resAvs T st fn.results.toList = some as → ∃ vs, (fn.results.mapM (fun r => match r with | .tmp t => pure (tmps.getD t undef) | .cell a t => do loadVar t (← asAddr (tmps.getD a undef)) : ResultVar → Sem Value)).run P w = .ok vs w ∧ AvsR β as vs.toList := by
    intro as has
    obtain ⟨vs, h1, h2⟩ := resAvs_sound hT hH hM has
    refine ⟨vs.toArray, ?_, by simpa using h2⟩
    rw [← Array.toArray_toList (xs := fn.results), List.mapM_toArray]
    simp only [Sem.run_map, h1, Result.andThen_ok]
  have e0 : results fn tmps = (do
      let vs ← fn.results.mapM (fun r => match r with | .tmp t => pure (tmps.getD t undef) | .cell a t => do loadVar t (← asAddr (tmps.getD a undef)) : ResultVar → Sem Value)
      pure (if h : vs.size = 1 then vs[0] else .tuple vs)) := by
    unfold results
    congr 1
  unfold resLV at h
  split at h
  · rename_i r hr
    obtain ⟨av, hav, rfl⟩ := Option.map_eq_some_iff.1 h
    obtain ⟨vs, h1, h2⟩ := key [av] (by rw [hr]; simp [resAvs, hav])
    obtain ⟨v, r', e, h3, h4⟩ := h2
    simp only [AvsR] at h4; subst h4
    have hs : vs = #[v] := Array.toList_inj.1 e
    subst hs
    refine ⟨v, ?_, h3⟩
    rw [e0, Sem.run_bind, h1]; rfl
  · rename_i hne
    obtain ⟨as, has, rfl⟩ := Option.map_eq_some_iff.1 h
    obtain ⟨vs, h1, h2⟩ := key as has
    refine ⟨.tuple vs, ?_, ⟨vs, rfl, h2⟩⟩
    have hl := h2.length
    have hla : ∀ (rs : List ResultVar) (as : List Av), resAvs T st rs = some as → as.length = rs.length := by
      intro rs
      induction rs with
      | nil => intro as h; simp only [resAvs, Option.some.injEq] at h; subst h; rfl
      | cons r rs ih =>
        intro as h
        simp only [resAvs] at h
        split at h
        · rename_i a as' _ has'
          simp only [Option.some.injEq] at h; subst h
          simp [ih as' has']
        · simp at h
    have h1' : vs.size ≠ 1 := by
      intro e
      have := hla _ _ has
      rw [Array.length_toList, e] at hl
      rw [← hl] at this
      obtain ⟨r, hr⟩ := List.length_eq_one_iff.1 this.symm
      exact hne r hr
    rw [e0, Sem.run_bind, h1, Result.andThen_ok, dif_neg h1']; rfl

def undefs : Nat → List LV
  | 0 => []
  | n + 1 => .a (.c (.val undef)) :: undefs n

theorem undefs_sound (β : List Nat) : ∀ n, TmR β (undefs n) (List.replicate n undef)
  | 0 => rfl
  | n + 1 => ⟨undef, _, rfl, rfl, undefs_sound β n⟩

/-- A function's blocks seen by what it calls: they may be read, not written. -/
def shut : List Blk → List Blk
  | [] => []
  | .cells _ t cs :: r => .cells false t cs :: shut r
  | _ :: r => .dead :: shut r

theorem shut_get : ∀ {H : List Blk} {i : Nat} {B : Blk}, (shut H)[i]? = some B → B = .dead ∨ ∃ o t cs, B = .cells false t cs ∧ H[i]? = some (.cells o t cs)
  | [], _, _, h => by simp [shut] at h
  | .dead :: r, 0, B, h => by simp [shut] at h; exact .inl h.symm
  | .gst _ _ _ _ :: r, 0, B, h => by simp [shut] at h; exact .inl h.symm
  | .cells o t cs :: r, 0, B, h => by simp [shut] at h; exact .inr ⟨o, t, cs, h.symm, rfl⟩
  | .dead :: r, i + 1, B, h => by simp [shut] at h; simpa using shut_get h
  | .gst _ _ _ _ :: r, i + 1, B, h => by simp [shut] at h; simpa using shut_get h
  | .cells o t cs :: r, i + 1, B, h => by simp [shut] at h; simpa using shut_get h

theorem shut_len : ∀ (H : List Blk), (shut H).length = H.length
  | [] => rfl
  | .dead :: r => by simp [shut, shut_len r]
  | .gst _ _ _ _ :: r => by simp [shut, shut_len r]
  | .cells _ _ _ :: r => by simp [shut, shut_len r]

/-- The blocks as they are when a call begins. -/
theorem HR.enter {n0 : Nat} {w0 : Base} {w : World} {β : List Nat} {H : List Blk} (h : HR n0 w0 β H w) : HR w.heap.size (Base.pl w) β (shut H) w :=
  ⟨Nat.le_refl _, by rw [shut_len]; exact h.len, h.nd, h.lt, Nat.zero_le _, fun _ _ hg hx => hx.trans hg.below, fun _ _ _ _ _ _ _ hx => hx.elim, Below.refl _ _, fun i B b hB hb => by
    rcases shut_get hB with rfl | ⟨o, t, cs, rfl, hB'⟩
    · trivial
    · obtain ⟨_, arr, h1, h2⟩ := h.blk i _ b hB' hb
      exact ⟨fun e => by simp at e, arr, h1, h2⟩⟩

/-- What a plain callee leaves: the caller's blocks as they were. -/
theorem HR.after {n0 : Nat} {w0 : Base} {w w' : World} {β : List Nat} {H : List Blk} (h : HR n0 w0 β H w) (hb : Below w.heap.size w w') : HR n0 w0 β H w' :=
  h.later h.base h.ms h.lt hb

/-- The end of a function: the marks are taken off. -/
theorem leaves_sx {F : Fence} {n : Nat} {P : Program} {fn : Func} {tmps : Array Value} {R : Ending → World → Prop} {n0 hi : Nat} {w0 : Base} {β : List Nat} {H : List Blk} : ∀ (ds : List Deferred) (w : World),
    HR n0 w0 β H w → DOk n0 w0.m hi ds w → (∀ w', HR n0 w0 β H w' → ∃ v, (results fn tmps).run P w' = .ok v w' ∧ R (.returned v) w') → LeavesInM F n P fn tmps R ds .returning w
  | [], w, hH, _, h => h w hH
  | d :: ds, w, hH, ⟨⟨r, e, h1, h2, _, h4, h5⟩, hds⟩, h => by
    refine ⟨by simp, .inl ⟨r, _, by rw [e], run_takeDeferred h4, ?_⟩⟩
    refine leaves_sx (n0 := n0) (hi := hi) (w0 := w0) (β := β) (H := H) ds _ (hH.putO h4 (fun _ _ _ e => by cases e) h1 (hH.st _ _ (grow_putO _ h1 h2) hH.ext)) ?_ h
    have : ∀ (ds : List Deferred), (∀ d' ∈ ds, d' ≠ d) → DOk n0 w0.m hi ds w → DOk n0 w0.m hi ds (w.putObj r (.deferred none)) := by
      intro ds
      induction ds with
      | nil => intro _ _; trivial
      | cons d1 ds ih =>
        rintro hne ⟨⟨r1, e1, g1, g2, g3, g4, g5⟩, hds⟩
        refine ⟨⟨r1, e1, g1, g2, g3, ?_, g5⟩, ih (fun d' hd' => hne d' (List.mem_cons_of_mem _ hd')) hds⟩
        rw [World.putObj_heap_other]; exact g4
        intro er
        exact hne d1 (by simp) (by rw [e1, e, er])
    exact this ds h5 hds

/-- A function by its execution: what it hands back, and that nothing which lay there has turned. -/
theorem fn_calls {P : Program} {T : Tab} (hT : TabOk P T) {I : CI} (hI : CIOk P I) {C : Ctr} (hC : CtrOk P C) (hm : P.follows .mixedOrders = true) {o : Bool} {Λ : Nat → LM} {f : FuncId} {fn : Func} {c : Code} (hf : P.funcs[f]? = some fn) (hb : fn.body = some c)
    {args : List LV} {H : List Blk} {R : LV → List Blk → Prop}
    (h : ex o T I C Λ c ⟨args ++ undefs (fn.ntmps - args.length), shut H⟩ fun e st => match e with
      | .normal => ∃ lv, resLV T st fn.results.toList = some lv ∧ R lv st.heap
      | .ret => ∃ lv, resLV T st fn.results.toList = some lv ∧ R lv st.heap
      | .exit _ => False)
    {n0 : Nat} {w0 : Base} {w : World} {β : List Nat} {vals : Array Value} (hH : HR n0 w0 β H w) (hA : TmR β args vals.toList) :
    Calls P f vals w fun e w' => ∃ v lv γ H', e = .returned v ∧ R lv H' ∧ Below w.heap.size w w' ∧ HR w.heap.size (Base.pl w) (β ++ γ) H' w' ∧ LVR (β ++ γ) lv v := by
  have hlen : args.length = vals.size := by
    have : ∀ {as : List LV} {vs : List Value}, TmR β as vs → as.length = vs.length := by
      intro as
      induction as with
      | nil => intro vs h; simp only [TmR] at h; subst h; rfl
      | cons a as ih => intro vs ⟨v, r, e, _, h⟩; subst e; simp [ih h]
    simpa using this hA
  rw [← callsIn_wide (n := 0)]
  refine callsIn_of_wp_marks hf hb trivial ?_
  refine ex_sound hT hI hC hm c none _ (Base.pl w) _ _ β _ w _ (RoundsOk.pl P _ w) (fun _ e => by cases e) h hH.enter ?_ trivial ?_
  · simp only [Array.toList_append, Array.toList_replicate]
    rw [← hlen]
    exact hA.append (undefs_sound β _)
  · intro e st' γ a' w' k1 k2 k3 k4
    have fin : (∃ lv, resLV T st' fn.results.toList = some lv ∧ R lv st'.heap) → LeavesInM Fence.wide 0 P fn a'.tmps (fun e w' => ∃ v lv γ H', e = .returned v ∧ R lv H' ∧ Below w.heap.size w w' ∧ HR w.heap.size (Base.pl w) (β ++ γ) H' w' ∧ LVR (β ++ γ) lv v) a'.defers .returning w' := by
      rintro ⟨lv, hlv, hR⟩
      refine leaves_sx _ w' k2 k4 ?_
      intro w'' hH''
      obtain ⟨v, h1, h2⟩ := resLV_sound hT hH'' k3 hlv
      exact ⟨v, h1, v, lv, γ, st'.heap, rfl, hR, hH''.ext, hH'', h2⟩
    cases e with
    | normal => exact fin k1
    | ret => exact fin k1
    | exit id => exact k1.elim

/-! ### Functions met in place -/

def inlN (o : Bool) (T : Tab) (C : Ctr) (inl : FuncId → Option (Func × (Nat → LM))) : Nat → CI
  | 0 => ciOf C
  | n + 1 => fun f args H K =>
    match inl f with
    | some (fn, Λ) => match fn.body with
      | some c => force (args ++ undefs (fn.ntmps - args.length)) fun ts => ex o T (inlN o T C inl n) C Λ c ⟨ts, H⟩ fun e st => match e with
        | .exit _ => Stuck "exit"
        | _ => match resLV T st fn.results.toList with
          | some lv => K lv st.heap
          | none => Stuck "result"
      | none => Stuck "body"
    | none => ciOf C f args H K

def InlOk (P : Program) (inl : FuncId → Option (Func × (Nat → LM))) : Prop := ∀ f fn Λ, inl f = some (fn, Λ) → P.funcs[f]? = some fn ∧ (fn.name == "runtime.NumGoroutine") = false

theorem TmR.length {β : List Nat} : ∀ {as : List LV} {vs : List Value}, TmR β as vs → as.length = vs.length
  | [], _, h => by simp only [TmR] at h; subst h; rfl
  | _ :: _, _, ⟨v, r, e, _, h⟩ => by subst e; simp [TmR.length h]

theorem inlN_ok {P : Program} {T : Tab} (hT : TabOk P T) {C : Ctr} (hC : CtrOk P C) (hm : P.follows .mixedOrders = true) {o : Bool} {inl : FuncId → Option (Func × (Nat → LM))} (hi : InlOk P inl) : ∀ n, CIOk P (inlN o T C inl n)
  | 0 => ciOf_ok hC
  | n + 1 => by
    intro f args H K h
    unfold inlN at h
    split at h
    · rename_i fn Λ hfn
      obtain ⟨hf, hnm⟩ := hi f fn Λ hfn
      split at h
      · rename_i c hb
        rw [force_eq] at h
        refine ⟨⟨fn, hf, hnm, by simp [hb]⟩, fun n0 w0 β w vals hB hH hA => ?_⟩
        rw [← callsIn_wide (n := 0)]
        refine callsIn_of_wp_marks hf hb trivial ?_
        refine ex_sound hT (inlN_ok hT hC hm hi n) hC hm c none _ w0 _ _ β _ w _ hB (fun _ e => by cases e) h hH ?_ trivial ?_
        · simp only [Array.toList_append, Array.toList_replicate]
          have hlen : args.length = vals.size := by rw [hA.length]; simp
          rw [← hlen]
          exact hA.append (undefs_sound β _)
        · intro e st' γ a' w' k1 k2 k3 k4
          have fin : (match resLV T st' fn.results.toList with | some lv => K lv st'.heap | none => Stuck "result") → LeavesInM Fence.wide 0 P fn a'.tmps (fun e w' => ∃ v γ lv H', e = .returned v ∧ K lv H' ∧ HR n0 w0 (β ++ γ) H' w' ∧ LVR (β ++ γ) lv v) a'.defers .returning w' := by
            intro k1
            split at k1
            · rename_i lv hlv
              refine leaves_sx _ w' k2 k4 ?_
              intro w'' hH''
              obtain ⟨v, h1, h2⟩ := resLV_sound hT hH'' k3 hlv
              exact ⟨v, h1, v, γ, lv, st'.heap, rfl, k1, hH'', h2⟩
            · exact k1.elim
          cases e with
          | normal => exact fin k1
          | ret => exact fin k1
          | exit id => exact k1.elim
      · exact h.elim
    · exact ciOf_ok hC f args H K h



/-! ### Canonical forms: what is known is said as what is not -/

def canC : Cel → Cel
  | .lit k n => .int k n
  | .tt => .bool true
  | .ff => .bool false
  | x => x
def canA : Av → Av
  | .c x => .c (canC x)
  | .agg l => .agg (l.map canC)
def canL : LV → LV
  | .a x => .a (canA x)
  | .tup l => .tup l
def canB : Blk → Blk
  | .dead => .dead
  | .gst N gd el i => .gst N gd el i
  | .cells o t cs => .cells o t (cs.map canC)

theorem canC1_sound {β : List Nat} {c : Cel} {vs : List Value} (h : Cel1 β c vs) : Cel1 β (canC c) vs := by
  cases c <;> exact h

theorem canCs_sound {β : List Nat} : ∀ {cs : List Cel} {vs : List Value}, CelsR β cs vs → CelsR β (cs.map canC) vs
  | [], _, h => h
  | _ :: _, _, ⟨p, r, e, h1, h2⟩ => ⟨p, r, e, canC1_sound h1, canCs_sound h2⟩

theorem canL_sound {β : List Nat} {x : LV} {v : Value} (h : LVR β x v) : LVR β (canL x) v := by
  cases x with
  | tup l => exact h
  | a x =>
    cases x with
    | c x => cases x <;> exact h
    | agg l => obtain ⟨arr, e, h⟩ := h; exact ⟨arr, e, canCs_sound h⟩

theorem canT_sound {β : List Nat} : ∀ {ts : List LV} {vs : List Value}, TmR β ts vs → TmR β (ts.map canL) vs
  | [], _, h => h
  | _ :: _, _, ⟨v, r, e, h1, h2⟩ => ⟨v, r, e, canL_sound h1, canT_sound h2⟩

theorem canH_sound {n0 : Nat} {w0 : Base} {w : World} {β : List Nat} {H : List Blk} (h : HR n0 w0 β H w) : HR n0 w0 β (H.map canB) w :=
  ⟨h.base, by simp [h.len], h.nd, h.lt, h.ms, h.st, h.sj, h.ext, fun i B b hB hb => by
    rw [List.getElem?_map] at hB
    obtain ⟨A, hA, rfl⟩ := Option.map_eq_some_iff.1 hB
    have := h.blk i A b hA hb
    cases A with
    | dead => trivial
    | gst N gd el j => exact this
    | cells o t cs =>
      obtain ⟨h1, arr, h2, h3⟩ := this
      exact ⟨h1, arr, h2, canCs_sound h3⟩⟩

/-! ### Tables of contracts -/

abbrev Entry := List LV → List Blk → Option (Prop × LV)

def lookE : List (FuncId × Entry) → FuncId → Option Entry
  | [], _ => none
  | (f, g) :: r, u => if f = u then some g else lookE r u

/-- A table of plain contracts: the callee leaves what lay there as it was. -/
def ctrFn (L : List (FuncId × Entry)) : FuncId → List LV → List Blk → Option (Prop × LV × Option (List Blk)) := fun f args H =>
  match lookE L f with
  | some g => match g (args.map canL) (H.map canB) with
    | some (p, r) => if inL H.length r = true then some (p, r, none) else none
    | none => none
  | none => none

/-- An iterator: in a world, whose rounds are which. -/
abbrev SEntry := List LV → List Blk → Option (Prop × Nat × (Nat → Bool) × (Nat → Int))

def lookS : List (FuncId × SEntry) → FuncId → Option SEntry
  | [], _ => none
  | (f, g) :: r, u => if f = u then some g else lookS r u

def ctrSq (S : List (FuncId × SEntry)) : FuncId → List LV → List Blk → Option (Prop × Nat × (Nat → Bool) × (Nat → Int)) := fun f args H =>
  match lookS S f with
  | some g => g (args.map canL) (H.map canB)
  | none => none

def ctrOfS (L : List (FuncId × Entry)) (S : List (FuncId × SEntry)) : Ctr := ⟨ctrFn L, ctrSq S⟩
def ctrOf (L : List (FuncId × Entry)) : Ctr := ctrOfS L []

def EntryOk (P : Program) (f : FuncId) (g : Entry) : Prop :=
  FnOk P f ∧ ∀ args H p r, g args H = some (p, r) → p → ∀ n0 w0 β w (vals : Array Value), HR n0 w0 β H w → TmR β args vals.toList →
    Calls P f vals w fun e w' => ∃ v, e = .returned v ∧ Below w.heap.size w w' ∧ LVR β r v

def EntriesOk (P : Program) : List (FuncId × Entry) → Prop
  | [] => True
  | (f, g) :: r => EntryOk P f g ∧ EntriesOk P r

theorem EntriesOk.look {P : Program} : ∀ {L : List (FuncId × Entry)} {f : FuncId} {g : Entry}, EntriesOk P L → lookE L f = some g → EntryOk P f g
  | [], _, _, _, h => by simp [lookE] at h
  | (u, ui) :: r, t, ti, h, hl => by
    unfold lookE at hl
    split at hl
    · rename_i e; simp only [Option.some.injEq] at hl; subst hl; subst e; exact h.1
    · exact EntriesOk.look h.2 hl

def SEntryOk (P : Program) (f : FuncId) (g : SEntry) : Prop :=
  FnOk P f ∧ ∀ args H p N gd el, g args H = some (p, N, gd, el) → p → ∀ n0 w0 β W (vals : Array Value), HR n0 w0 β H W → TmR β args vals.toList → ∀ (l : Nat) (J : Option Nat → World → Prop), l < W.heap.size → l ∉ β →
    (∀ i a b, Below W.heap.size a b → J i a → J i b) →
    (∀ i, i < N → gd i = true → ∀ W1, W.heap.size ≤ W1.heap.size → J (some i) W1 → YldAt P l #[.int .i64 (el i)] W1 fun e W' =>
      RK W.heap.size W1 W' ∧ ((e = .returned (.bool true) ∧ J (some (i + 1)) W') ∨ (e = .returned (.bool false) ∧ J none W'))) →
    (∀ i, i < N → gd i = false → ∀ W1, J (some i) W1 → J (some (i + 1)) W1) → J (some 0) W →
    Calls P f (#[.func (.yield l) #[] #[]] ++ vals) W fun e W' => (∃ v, e = .returned v) ∧ W.heap.size ≤ W'.heap.size ∧ (J (some N) W' ∨ J none W')

def SEntriesOk (P : Program) : List (FuncId × SEntry) → Prop
  | [] => True
  | (f, g) :: r => SEntryOk P f g ∧ SEntriesOk P r

theorem SEntriesOk.look {P : Program} : ∀ {L : List (FuncId × SEntry)} {f : FuncId} {g : SEntry}, SEntriesOk P L → lookS L f = some g → SEntryOk P f g
  | [], _, _, _, h => by simp [lookS] at h
  | (u, ui) :: r, t, ti, h, hl => by
    unfold lookS at hl
    split at hl
    · rename_i e; simp only [Option.some.injEq] at hl; subst hl; subst e; exact h.1
    · exact SEntriesOk.look h.2 hl

theorem ctrSq_ok {P : Program} {S : List (FuncId × SEntry)} (h : SEntriesOk P S) : SeqsOk P (ctrSq S) := by
  intro f args H p N gd el he hp
  unfold ctrSq at he
  split at he
  · rename_i g hg
    obtain ⟨hf, hc⟩ := h.look hg
    exact ⟨hf, fun n0 w0 β W vals hH hA => hc _ _ _ _ _ _ he hp n0 w0 β W vals (canH_sound hH) (canT_sound hA)⟩
  · simp at he

theorem ctrOfS_ok {P : Program} {L : List (FuncId × Entry)} {S : List (FuncId × SEntry)} (h : EntriesOk P L) (hS : SEntriesOk P S) : CtrOk P (ctrOfS L S) := by
  refine ⟨ctrSq_ok hS, ?_⟩
  intro f args H p r H' he hp
  change ctrFn L f args H = _ at he
  unfold ctrFn at he
  split at he
  · rename_i g hg
    split at he
    · rename_i p' r' hgr
      split at he
      · simp only [Option.some.injEq, Prod.mk.injEq] at he
        obtain ⟨rfl, rfl, rfl⟩ := he
        obtain ⟨hf, hc⟩ := h.look hg
        refine ⟨hf, fun n0 w0 β w vals hH hA => (hc _ _ _ _ hgr hp n0 w0 β w vals (canH_sound hH) (canT_sound hA)).mono ?_⟩
        rintro e w' ⟨v, rfl, hb, hr⟩
        exact ⟨v, [], rfl, by simpa using hH.after hb, by simpa using hr⟩
      · simp at he
    · simp at he
  · simp at he

theorem ctrOf_ok {P : Program} {L : List (FuncId × Entry)} (h : EntriesOk P L) : CtrOk P (ctrOf L) := ctrOfS_ok h trivial

/-! ### A function's execution as a proposition -/

def Fex (o : Bool) (T : Tab) (I : CI) (C : Ctr) (Λ : Nat → LM) (fn : Func) (args : List LV) (H : List Blk) (R : LV → List Blk → Prop) : Prop :=
  match fn.body with
  | some c => force (args ++ undefs (fn.ntmps - args.length)) fun ts => force (shut H) fun H => ex o T I C Λ c ⟨ts, H⟩ fun e st => match e with
    | .exit _ => Stuck "exit"
    | _ => match resLV T st fn.results.toList with
      | some lv => R lv st.heap
      | none => Stuck "result"
  | none => Stuck "body"

theorem ex_mono (o : Bool) (T : Tab) (I : CI) (C : Ctr) (Λ : Nat → LM) (c : Code) (st : St) {K K' : Ex → St → Prop} (hK : K = K') (h : ex o T I C Λ c st K) : ex o T I C Λ c st K' := hK ▸ h

theorem Fex.calls {P : Program} {T : Tab} (hT : TabOk P T) {I : CI} (hI : CIOk P I) {C : Ctr} (hC : CtrOk P C) (hm : P.follows .mixedOrders = true) {o : Bool} {Λ : Nat → LM} {f : FuncId} {fn : Func} (hf : P.funcs[f]? = some fn)
    {args : List LV} {H : List Blk} {R : LV → List Blk → Prop} (h : Fex o T I C Λ fn args H R)
    {n0 : Nat} {w0 : Base} {w : World} {β : List Nat} {vals : Array Value} (hH : HR n0 w0 β H w) (hA : TmR β args vals.toList) :
    Calls P f vals w fun e w' => ∃ v lv γ H', e = .returned v ∧ R lv H' ∧ Below w.heap.size w w' ∧ HR w.heap.size (Base.pl w) (β ++ γ) H' w' ∧ LVR (β ++ γ) lv v := by
  unfold Fex at h
  split at h
  · rename_i c hb
    rw [force_eq, force_eq] at h
    refine fn_calls hT hI hC hm hf hb (o := o) (Λ := Λ) (R := R) (ex_mono _ _ _ _ _ _ _ ?_ h) hH hA
    funext e st
    cases e with
    | exit _ => rfl
    | _ =>
      simp only
      cases resLV T st fn.results.toList with
      | none => simp [Stuck]
      | some lv => simp
  · exact h.elim

theorem Fex.plain {P : Program} {T : Tab} (hT : TabOk P T) {I : CI} (hI : CIOk P I) {C : Ctr} (hC : CtrOk P C) (hm : P.follows .mixedOrders = true) {o : Bool} {Λ : Nat → LM} {f : FuncId} {fn : Func} (hf : P.funcs[f]? = some fn)
    {args : List LV} {H : List Blk} {res : LV} (h : Fex o T I C Λ fn args H fun lv _ => leL lv res) (hin : inL H.length res = true)
    {n0 : Nat} {w0 : Base} {w : World} {β : List Nat} {vals : Array Value} (hH : HR n0 w0 β H w) (hA : TmR β args vals.toList) :
    Calls P f vals w fun e w' => ∃ v, e = .returned v ∧ Below w.heap.size w w' ∧ LVR β res v := by
  refine (h.calls hT hI hC hm hf hH hA).mono ?_
  rintro e w' ⟨v, lv, γ, H', rfl, hR, hb, _, hv⟩
  refine ⟨v, rfl, hb, ?_⟩
  have := (leL_sound hR hv).take hin
  rwa [← hH.len, List.take_append_of_le_length (Nat.le_refl _), List.take_length] at this

theorem HR.nil (w : World) : HR w.heap.size (Base.pl w) [] [] w := ⟨Nat.le_refl _, rfl, by simp, by simp, Nat.zero_le _, fun _ _ hg hx => hx.trans hg.below, fun _ _ _ _ _ _ _ hx => hx.elim, Below.refl _ _, by simp⟩

/-- Arguments that name no block. -/
theorem TmR.bare {β : List Nat} {ts : List LV} {vs : List Value} (h : TmR β ts vs) (hi : ts.all (inL 0) = true) : TmR [] ts vs := by simpa using h.take hi

theorem LVR.grow {β : List Nat} {x : LV} {v : Value} (h : LVR [] x v) : LVR β x v := by simpa using h.mono (γ := β)

theorem CelsR.bare {β γ : List Nat} {cs : List Cel} {vs : List Value} (h : CelsR β cs vs) (hi : cs.all (inC 0) = true) : CelsR γ cs vs := by
  have := h.take (m := 0) hi
  simpa using this.mono (γ := γ)

/-- One block of the caller's, seen by a callee. -/
theorem HR.one {n0 : Nat} {w0 : Base} {w : World} {β : List Nat} {H : List Blk} (h : HR n0 w0 β H w) {id : Nat} {o : Bool} {t : TypeId} {cs : List Cel} (hg : getB H id = .cells o t cs) (hi : cs.all (inC 0) = true) :
    ∃ b, β[id]? = some b ∧ HR w.heap.size (Base.pl w) [b] [.cells false t cs] w := by
  obtain ⟨b, arr, hb, hlt, _, hh, hc⟩ := h.get hg
  refine ⟨b, hb, Nat.le_refl _, rfl, by simp, by simpa using hlt, Nat.zero_le _, fun _ _ hg hx => hx.trans hg.below, fun _ _ _ _ _ _ _ hx => hx.elim, Below.refl _ _, ?_⟩
  intro i B b' hB hb'
  cases i with
  | zero =>
    simp at hB hb'
    subst hB; subst hb'
    exact ⟨fun e => by simp at e, arr, hh, hc.bare hi⟩
  | succ i => simp at hB

/-- A function of bare arguments, with a bare result: a contract by its execution. -/
theorem entry_bare {P : Program} {T : Tab} (hT : TabOk P T) {I : CI} (hI : CIOk P I) {C : Ctr} (hC : CtrOk P C) (hm : P.follows .mixedOrders = true) {o : Bool} {Λ : Nat → LM} {f : FuncId} {fn : Func} (hf : P.funcs[f]? = some fn)
    {args : List LV} {res : LV} (h : Fex o T I C Λ fn args [] fun lv _ => leL lv res) (hin : inL 0 res = true) (hai : args.all (inL 0) = true)
    {β : List Nat} {w : World} {vals : Array Value} (hA : TmR β args vals.toList) :
    Calls P f vals w fun e w' => ∃ v, e = .returned v ∧ Below w.heap.size w w' ∧ LVR β res v := by
  refine (h.plain hT hI hC hm hf hin (HR.nil w) (hA.bare hai)).mono ?_
  rintro e w' ⟨v, rfl, hb, hv⟩
  exact ⟨v, rfl, hb, hv.grow⟩

/-- The same with a first argument that points to a block. -/
theorem entry_ptr {P : Program} {T : Tab} (hT : TabOk P T) {I : CI} (hI : CIOk P I) {C : Ctr} (hC : CtrOk P C) (hm : P.follows .mixedOrders = true) {o : Bool} {Λ : Nat → LM} {f : FuncId} {fn : Func} (hf : P.funcs[f]? = some fn)
    {args : List LV} {res : LV} {t : TypeId} {cs : List Cel} {off : Nat} (h : Fex o T I C Λ fn (.a (.c (.ptr 0 off)) :: args) [.cells false t cs] fun lv _ => leL lv res) (hin : inL 0 res = true) (hai : args.all (inL 0) = true) (hci : cs.all (inC 0) = true)
    {n0 : Nat} {w0 : Base} {β : List Nat} {w : World} {vals : Array Value} {H : List Blk} {id : Nat} {own : Bool} (hH : HR n0 w0 β H w) (hg : getB H id = .cells own t cs) (hA : TmR β (.a (.c (.ptr id off)) :: args) vals.toList) :
    Calls P f vals w fun e w' => ∃ v, e = .returned v ∧ Below w.heap.size w w' ∧ LVR β res v := by
  obtain ⟨b, hb, hH1⟩ := hH.one hg hci
  obtain ⟨v0, rest, e, ⟨b', hb', hv0⟩, hrest⟩ := hA
  rw [hb] at hb'; simp only [Option.some.injEq] at hb'; subst hb'
  have hin1 : inL 1 res = true := by
    have mono : ∀ x, inC 0 x = true → inC 1 x = true := by
      intro x hx
      cases x <;> simp_all [inC]
    have monoA : ∀ x, inA 0 x = true → inA 1 x = true := by
      intro x hx
      cases x with
      | c x => exact mono x hx
      | agg l => simp only [inA, List.all_eq_true] at hx ⊢; exact fun c hc => mono c (hx c hc)
    cases res with
    | a x => exact monoA x hin
    | tup l => simp only [inL, List.all_eq_true] at hin ⊢; exact fun c hc => monoA c (hin c hc)
  refine (h.plain hT hI hC hm hf hin1 hH1 (w := w) (vals := vals) ?_).mono ?_
  · exact ⟨v0, rest, e, ⟨b, rfl, hv0⟩, by have := (hrest.bare hai).mono (γ := [b]); simpa using this⟩
  · rintro e w' ⟨v, rfl, hb, hv⟩
    refine ⟨v, rfl, hb, ?_⟩
    have := hv.take hin
    exact LVR.grow (by simpa using this)

/-! ### An iterator by its execution -/

/-- The iterator's run with a loop whose body is not in sight: the last of the blocks counts the rounds. -/
def SFex (o : Bool) (T : Tab) (I : CI) (C : Ctr) (Λ : Nat → LM) (fn : Func) (args : List LV) (H : List Blk) (N : Nat) (gd : Nat → Bool) (el : Nat → Int) : Prop :=
  match fn.body with
  | some c => force ((.a (.c (.yld H.length)) :: args) ++ undefs (fn.ntmps - (args.length + 1))) fun ts => forceH (shut H ++ [.gst N gd el (some 0)]) fun H' => ex o T I C Λ c ⟨ts, H'⟩ fun e st => match e with
    | .exit _ => Stuck "exit"
    | _ => match resLV T st fn.results.toList, getB st.heap H.length with
      | some _, .gst _ _ _ (some i) => i ≤ N ∧ ∀ k, i ≤ k → k < N → gd k = false
      | some _, .gst _ _ _ none => True
      | _, _ => Stuck "result"
  | none => Stuck "body"

theorem seq_by {P : Program} {T : Tab} (hT : TabOk P T) {I : CI} (hI : CIOk P I) {C : Ctr} (hC : CtrOk P C) (hm : P.follows .mixedOrders = true) {o : Bool} {Λ : Nat → LM} {f : FuncId} {fn : Func} (hf : P.funcs[f]? = some fn)
    {args : List LV} {H : List Blk} {N : Nat} {gd : Nat → Bool} {el : Nat → Int} (h : SFex o T I C Λ fn args H N gd el)
    {n0 : Nat} {w0 : Base} {β : List Nat} {W : World} {vals : Array Value} (hH : HR n0 w0 β H W) (hA : TmR β args vals.toList) (l : Nat) (J : Option Nat → World → Prop) (hl : l < W.heap.size) (hlβ : l ∉ β)
    (hst : ∀ i a b, Below W.heap.size a b → J i a → J i b)
    (hro : ∀ i, i < N → gd i = true → ∀ W1, W.heap.size ≤ W1.heap.size → J (some i) W1 → YldAt P l #[.int .i64 (el i)] W1 fun e W' =>
      RK W.heap.size W1 W' ∧ ((e = .returned (.bool true) ∧ J (some (i + 1)) W') ∨ (e = .returned (.bool false) ∧ J none W')))
    (hsk : ∀ i, i < N → gd i = false → ∀ W1, J (some i) W1 → J (some (i + 1)) W1) (h0 : J (some 0) W) :
    Calls P f (#[.func (.yield l) #[] #[]] ++ vals) W fun e W' => (∃ v, e = .returned v) ∧ W.heap.size ≤ W'.heap.size ∧ (J (some N) W' ∨ J none W') := by
  let wb : Base := ⟨fun _ => True, 0, l, fun N' gd' el' i u => N' = N ∧ gd' = gd ∧ el' = el ∧ W.heap.size ≤ u.heap.size ∧ J i u⟩
  have hB : RoundsOk P W.heap.size wb := by
    refine ⟨fun _ _ _ _ _ _ => hl, ?_, ?_, fun _ _ _ _ _ _ _ _ _ => trivial⟩
    · rintro N' gd' el' i h1 h2 W1 ⟨rfl, rfl, rfl, h3, h4⟩
      obtain ⟨fn', tm, as, bd, g1, g2⟩ := hro i h1 h2 W1 h3 h4
      refine ⟨fn', tm, as, bd, g1, fun r n => (g2 r n).mono ?_⟩
      rintro e W' ⟨hr, ⟨he, hj⟩ | ⟨he, hj⟩⟩
      · exact ⟨hr, .inl ⟨he, rfl, rfl, rfl, Nat.le_trans h3 hr.1, hj⟩⟩
      · exact ⟨hr, .inr ⟨he, rfl, rfl, rfl, Nat.le_trans h3 hr.1, hj⟩⟩
    · rintro N' gd' el' i h1 h2 W1 ⟨rfl, rfl, rfl, h3, h4⟩
      exact ⟨rfl, rfl, rfl, h3, hsk i h1 h2 W1 h4⟩
  have hHb : HR W.heap.size wb (β ++ [l]) (shut H ++ [.gst N gd el (some 0)]) W := by
    refine ⟨Nat.le_refl _, by simp [shut_len, hH.len], ?_, ?_, Nat.zero_le _, fun _ _ _ _ => trivial, ?_, trivial, ?_⟩
    · rw [List.nodup_append]
      exact ⟨hH.nd, by simp, fun a ha b hb e => by simp at hb; subst hb; subst e; exact hlβ ha⟩
    · intro b hb
      rcases List.mem_append.1 hb with hb | hb
      · exact hH.lt b hb
      · simp at hb; subst hb; exact hl
    · rintro N' gd' el' i a b hb ⟨e1, e2, e3, h4, h5⟩
      exact ⟨e1, e2, e3, Nat.le_trans h4 hb.size, hst i a b hb h5⟩
    · intro i B b hB' hb
      by_cases hi : i < (shut H).length
      · rw [List.getElem?_append_left hi] at hB'
        rw [List.getElem?_append_left (by rw [shut_len] at hi; rw [hH.len]; exact hi)] at hb
        have := hH.enter.blk i B b hB' hb
        rcases shut_get hB' with rfl | ⟨o, t, cs, rfl, _⟩
        · trivial
        · obtain ⟨g1, arr, g2, g3⟩ := this
          exact ⟨g1, arr, g2, g3.mono⟩
      · have hl' : i = (shut H).length := by
          have := (List.getElem?_eq_some_iff.1 hB').1
          simp at this; omega
        subst hl'
        have e1 : (shut H ++ [Blk.gst N gd el (some 0)])[(shut H).length]? = some (.gst N gd el (some 0)) := by simp
        have e2 : (β ++ [l])[(shut H).length]? = some l := by rw [shut_len, ← hH.len]; simp
        rw [e1] at hB'; rw [e2] at hb
        simp only [Option.some.injEq] at hB' hb
        subst hB'; subst hb
        exact ⟨rfl, rfl, rfl, rfl, Nat.le_refl _, h0⟩
  have hlen : args.length = vals.size := by rw [hA.length]; simp
  unfold SFex at h
  split at h
  · rename_i c hb
    rw [force_eq, forceH_eq] at h
    rw [← callsIn_wide (n := 0)]
    refine callsIn_of_wp_marks hf hb trivial ?_
    refine ex_sound hT hI hC hm c none _ wb _ _ (β ++ [l]) _ W _ hB (fun _ e => by cases e) h hHb ?_ trivial ?_
    · simp only [Array.toList_append, Array.toList_replicate]
      have : (#[Value.func (Fn.yield l) #[] #[]] ++ vals).size = args.length + 1 := by simp; omega
      rw [this]
      refine TmR.append ⟨_, _, rfl, ⟨l, by rw [← hH.len]; simp, rfl⟩, hA.mono⟩ (undefs_sound _ _)
    · intro e st' γ a' w' k1 k2 k3 k4
      have hβl : ((β ++ [l]) ++ γ)[H.length]? = some l := by rw [← hH.len]; simp
      have fin : (match resLV T st' fn.results.toList, getB st'.heap H.length with
          | some _, .gst _ _ _ (some i) => i ≤ N ∧ ∀ k, i ≤ k → k < N → gd k = false
          | some _, .gst _ _ _ none => True
          | _, _ => Stuck "result") → LeavesInM Fence.wide 0 P fn a'.tmps (fun e W' => (∃ v, e = .returned v) ∧ W.heap.size ≤ W'.heap.size ∧ (J (some N) W' ∨ J none W')) a'.defers .returning w' := by
        intro k1
        split at k1
        · rename_i lv N' gd' el' i hlv hg
          refine leaves_sx _ w' k2 k4 ?_
          intro w'' hH''
          obtain ⟨v, h1, h2⟩ := resLV_sound hT hH'' k3 hlv
          obtain ⟨_, rfl, rfl, rfl, h5, h6⟩ := hH''.blk _ _ _ (getB_gst hg) hβl
          have := skips (J := J) (gd := gd') (N := N') (w := w'') (fun i g1 g2 g3 => hsk i g1 g2 w'' g3) h6 (N' - i) (by omega) (fun k a b => k1.2 k a (by omega))
          rw [show i + (N' - i) = N' by omega] at this
          exact ⟨v, h1, ⟨v, rfl⟩, h5, .inl this⟩
        · rename_i lv N' gd' el' hlv hg
          refine leaves_sx _ w' k2 k4 ?_
          intro w'' hH''
          obtain ⟨v, h1, h2⟩ := resLV_sound hT hH'' k3 hlv
          obtain ⟨_, rfl, rfl, rfl, h5, h6⟩ := hH''.blk _ _ _ (getB_gst hg) hβl
          exact ⟨v, h1, ⟨v, rfl⟩, h5, .inr h6⟩
        · exact k1.elim
      cases e with
      | normal => exact fin k1
      | ret => exact fin k1
      | exit id => exact k1.elim
  · exact h.elim

theorem by_eq {p q : Prop} (h : p = q) (hq : q) : p := h ▸ hq



/-- The kind of the i-th cell of a type made of integers, arrays and structs. -/
def kindAt (P : Program) : Nat → TypeId → Nat → Option IntKind
  | 0, _, _ => none
  | n + 1, t, i => match P.underlying t with
    | some (.int k) => if i = 0 then some k else none
    | some (.array m e) => if i / P.cellsOf e < m then (if i % P.cellsOf e < P.cellsOf e then kindAt P n e (i % P.cellsOf e) else none) else none
    | some (.struct fs) => match fs.toList.find? (fun f => decide (f.offset ≤ i) && decide (i < f.offset + P.cellsOf f.type)) with
      | some f => kindAt P n f.type (i - f.offset)
      | none => none
    | _ => none

section
variable {H : Type} {enc : TypeId × Value → H} {P : Program} {w : World} {base : Nat} {spare : Nat → Bool} {held : Bool}

theorem kindAt_sound : ∀ (n : Nat) (t : TypeId) (i : Nat) (k : IntKind) (fuel : Nat) (cs : List Value) (x : DataW H × List MemPlace),
    kindAt P n t i = some k → DataW.trod enc P w base spare held fuel t cs = some x → ∃ m, cs[i]? = some (.int k m) ∧ (Lit.int k m).wf = true := by
  intro n
  induction n with
  | zero => intro t i k fuel cs x h; simp [kindAt] at h
  | succ n ih =>
    intro t i k fuel cs x h hx
    unfold kindAt at h
    split at h
    · rename_i k' hu
      split at h
      · simp only [Option.some.injEq] at h; subst h
        rename_i h0; subst h0
        obtain ⟨m, rfl, _, hw⟩ := DataW.trod_int hu hx
        exact ⟨m, rfl, hw⟩
      · simp at h
    · rename_i m e hu
      split at h
      · rename_i h1
        split at h
        · rename_i h2
          obtain ⟨xs, f, _, _, hl, hlen, hf⟩ := DataW.trod_array hu hx
          have h3 := hf _ h1
          have h4 : xs[i / P.cellsOf e]? = some xs[i / P.cellsOf e] := List.getElem?_eq_getElem (by omega)
          rw [h4] at h3
          obtain ⟨z, hz, hw⟩ := ih _ _ _ _ _ _ h h3
          refine ⟨z, ?_, hw⟩
          rw [List.getElem?_take_of_lt h2, List.getElem?_drop, Nat.mul_comm, Nat.div_add_mod] at hz
          exact hz
        · simp at h
      · simp at h
    · rename_i fs hu
      split at h
      · rename_i f hfd
        have hp := List.find?_some hfd
        simp only [Bool.and_eq_true, decide_eq_true_eq] at hp
        obtain ⟨j, hj, hjf⟩ := List.getElem_of_mem (List.mem_of_find?_eq_some hfd)
        obtain ⟨xs, m, _, _, hl, hlen, hf⟩ := DataW.trod_struct hu hx
        have hjf' : fs[j]? = some f := by
          rw [← hjf]; simp at hj ⊢
        have h3 := hf j f hjf'
        have h4 : xs[j]? = some (xs[j]'(by simp at hj; omega)) := List.getElem?_eq_getElem _
        rw [h4] at h3
        obtain ⟨z, hz, hw⟩ := ih _ _ _ _ _ _ h h3
        refine ⟨z, ?_, hw⟩
        rw [List.getElem?_take_of_lt (by omega), List.getElem?_drop, Nat.add_sub_cancel' hp.1] at hz
        exact hz
      · simp at h
    · simp at h

end

/-- How the numbers of a value are put into cells. -/
inductive ShI where
  | one (k : IntKind)
  | many (ks : List IntKind) (n : Nat)

def shKinds : List ShI → List IntKind
  | [] => []
  | .one k :: r => k :: shKinds r
  | .many ks n :: r => (List.range n).map (fun j => ks.getD (j % ks.length) .i64) ++ shKinds r

def shCels : List ShI → List Int → List Cel
  | [], _ => []
  | .one k :: r, ns => .int k (ns.headD 0) :: shCels r ns.tail
  | .many ks n :: r, ns => .run ks n (ns.take n) :: shCels r (ns.drop n)

theorem shCels_ok (β : List Nat) : ∀ (sh : List ShI) (ns : List Int), ns.length = (shKinds sh).length → CelsR β (shCels sh ns) (List.zipWith Value.int (shKinds sh) ns)
  | [], ns, _ => by simp [shCels, shKinds, CelsR]
  | .one k :: r, [], h => by simp [shKinds] at h
  | .one k :: r, a :: ns, h => ⟨[.int k a], _, rfl, ⟨_, rfl, rfl⟩, shCels_ok β r ns (by simpa [shKinds] using h)⟩
  | .many ks n :: r, ns, h => by
    simp only [shKinds, List.length_append, List.length_map, List.length_range] at h
    have h1 : (ns.take n).length = n := by simp; omega
    refine ⟨runV ks (ns.take n), List.zipWith Value.int (shKinds r) (ns.drop n), ?_, ⟨h1, rfl⟩, shCels_ok β r (ns.drop n) (by simp; omega)⟩
    conv => lhs; rw [← List.take_append_drop n ns]
    simp only [shKinds]
    rw [List.zipWith_append (by simp; omega)]
    congr 1
    apply List.ext_getElem?
    intro j
    by_cases hj : j < n
    · rw [runV_get _ _ _ (by omega)]
      simp [List.getElem?_zipWith, hj, List.getD]
      have : ns[j]? = some (ns[j]'(by omega)) := List.getElem?_eq_getElem (by omega)
      simp [this]
    · rw [List.getElem?_eq_none (by simp only [List.length_zipWith, List.length_map, List.length_range]; omega), List.getElem?_eq_none (by simp [runV]; omega)]

def getI : Value → Int
  | .int _ m => m
  | _ => 0

/-- A struct by value, opened: its numbers, each fitting its kind. -/
theorem open_flat {H : Type} {enc : TypeId × Value → H} {P : Program} {w : World} {base : Nat} {spare : Nat → Bool} {held : Bool} {r : Reach} {b0 : Nat} {t : TypeId} {fs : Array Field} {v : Value} {d : DataW H} {ps : List MemPlace}
    (ht : P.underlying t = some (.struct fs)) (hval : Value.okWide P w r b0 t v) (hd : DataW.Trod enc P w base spare held t v d ps) (sh : List ShI)
    (hk : ((P.cellsOf t == (shKinds sh).length) && ((List.range (P.cellsOf t)).map (kindAt P 8 t) == (shKinds sh).map some)) = true) :
    ∃ ns : List Int, ns.length = (shKinds sh).length ∧ (∀ (i : Nat) (k : IntKind) (n : Int), (shKinds sh)[i]? = some k → ns[i]? = some n → (Lit.int k n).wf = true) ∧ ∀ β, LVR β (.a (.agg (shCels sh ns))) v := by
  obtain ⟨cs, rfl, hsz⟩ := WideShapes.okWide_struct ht hval
  obtain ⟨fuel, hf⟩ := hd
  simp only [Bool.and_eq_true, beq_iff_eq] at hk
  obtain ⟨hk1, hk2⟩ := hk
  have key : ∀ i, i < (shKinds sh).length → ∃ k m, (shKinds sh)[i]? = some k ∧ cs.toList[i]? = some (.int k m) ∧ (Lit.int k m).wf = true := by
    intro i hi
    have h1 : (shKinds sh)[i]? = some (shKinds sh)[i] := List.getElem?_eq_getElem hi
    have h2 : ((shKinds sh).map some)[i]? = some (some (shKinds sh)[i]) := by simp [hi]
    rw [← hk2, List.getElem?_map, List.getElem?_range (by omega)] at h2
    simp only [Option.map_some, Option.some.injEq] at h2
    obtain ⟨m, hm, hw⟩ := kindAt_sound _ _ _ _ _ _ _ h2 hf
    exact ⟨_, m, h1, by simpa [Value.cells] using hm, hw⟩
  have hlen : cs.toList.length = (shKinds sh).length := by simp; omega
  have hcs : cs.toList = List.zipWith Value.int (shKinds sh) (cs.toList.map getI) := by
    apply List.ext_getElem?
    intro i
    by_cases hi : i < (shKinds sh).length
    · obtain ⟨k, m, h1, h2, _⟩ := key i hi
      rw [h2, List.getElem?_zipWith, h1, List.getElem?_map, h2]
      rfl
    · rw [List.getElem?_eq_none (by omega), List.getElem?_eq_none (by simp at hlen ⊢; omega)]
  refine ⟨cs.toList.map getI, by simpa using hlen, ?_, fun β => ⟨cs, rfl, ?_⟩⟩
  · intro i k n h1 h2
    have hi : i < (shKinds sh).length := (List.getElem?_eq_some_iff.1 h1).1
    obtain ⟨k', m, h1', h3, hw⟩ := key i hi
    rw [h1] at h1'; simp only [Option.some.injEq] at h1'; subst h1'
    rw [List.getElem?_map, h3] at h2
    simp only [Option.map_some, Option.some.injEq, getI] at h2
    subst h2; exact hw
  · have := shCels_ok β sh (cs.toList.map getI) (by simpa using hlen)
    rw [← hcs] at this
    exact this


end Go.Sx
