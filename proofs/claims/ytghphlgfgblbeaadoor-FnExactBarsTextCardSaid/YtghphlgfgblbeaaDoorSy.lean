/- A small symbolic executor over the walk calculus, and that it is sound: symbolic cells, operations, statements, loops, functions, contracts. No conditions. -/
import Derived.CallsIn
import Derived.Below
import Derived.Laws.Tables
import Derived.Laws.Cells
import Derived.Laws.CopyRow
import Derived.Laws.CopyOwn
import Derived.Laws.Sem
import Derived.Laws.World
import Derived.OneCell
import Derived.Laws.Entries
import Derived.Laws.Strings
import Derived.Laws.Rows
import Derived.IntWalk
import Derived.Laws.AppendOwn
import Derived.Laws.StructEq
import Derived.WideLaws
import Derived.ChangeKeysEq
import Derived.KernelRfl
set_option linter.unusedSimpArgs false
set_option linter.unusedVariables false
namespace Go.Sx
open Go.RowKit

/-- A string as a number: its bytes are digits, the first one the lowest. -/
def encL : List UInt8 → Nat
  | [] => 0
  | b :: r => b.toNat + 1 + 256 * encL r
def decN (n : Nat) : List UInt8 := if h : n = 0 then [] else UInt8.ofNat ((n - 1) % 256) :: decN ((n - 1) / 256)
termination_by n
decreasing_by omega
theorem decN_encL : ∀ l : List UInt8, decN (encL l) = l
  | [] => by rw [encL, decN, dif_pos rfl]
  | b :: r => by
    have hb := b.toNat_lt
    rw [encL, decN, dif_neg (by omega), show (b.toNat + 1 + 256 * encL r - 1) % 256 = b.toNat by omega, show (b.toNat + 1 + 256 * encL r - 1) / 256 = encL r by omega, decN_encL r]
    simp
/-- The string that a number stands for; none is written with 0. -/
def decS (n : Int) : ByteArray := ⟨(decN n.toNat).toArray⟩
def encS (s : ByteArray) : Int := (encL s.data.toList : Nat)
theorem decS_encS (s : ByteArray) : decS (encS s) = s := by
  unfold decS encS
  rw [Int.toNat_natCast, decN_encL]
theorem decS_zero : decS 0 = ByteArray.empty := by
  unfold decS
  rw [show (0 : Int).toNat = 0 from rfl, decN, dif_pos rfl]; rfl
attribute [irreducible] encS decS

/-- What one cell of a run is: an integer, or a bool (0 or not), or a string (by its number). -/
inductive EK where
  | i8 | i16 | i32 | i64 | u8 | u16 | u32 | u64 | bool | str
  deriving DecidableEq

def EK.val : EK → Int → Value
  | .i8, n => .int .i8 n
  | .i16, n => .int .i16 n
  | .i32, n => .int .i32 n
  | .i64, n => .int .i64 n
  | .u8, n => .int .u8 n
  | .u16, n => .int .u16 n
  | .u32, n => .int .u32 n
  | .u64, n => .int .u64 n
  | .bool, n => .bool (n != 0)
  | .str, n => .string (decS n)

def EK.of : IntKind → EK
  | .i8 => .i8
  | .i16 => .i16
  | .i32 => .i32
  | .i64 => .i64
  | .u8 => .u8
  | .u16 => .u16
  | .u32 => .u32
  | .u64 => .u64

theorem EK.of_val (k : IntKind) (n : Int) : (EK.of k).val n = .int k n := by cases k <;> rfl

inductive Cel where
  | any
  | lit (k : IntKind) (n : Int)
  | int (k : IntKind) (n : Int)
  | tt
  | ff
  | bool (b : Bool)
  | str (s : ByteArray)
  | ptr (id off : Nat)
  | pti (id base : Nat) (i : Int) (stride fo : Nat)
  | slc (id base : Nat) (i : Int) (stride : Nat) (len cap : Int)
  | val (v : Value)
  | fn (f : Fn) (caps : List Nat)
  | fnb (f : FuncId) (id base : Nat) (i : Int) (stride : Nat) (len cap : Int)
  | fna (f : FuncId) (k1 k2 : IntKind) (x y : Int) (ks : List EK) (n : Nat) (l : List Int)
  | yld (id : Nat)
  | mpr (id : Nat)
  /-- A pointer to the block, or nil. -/
  | sp (b : Bool) (id : Nat)
  | ifi (t : TypeId) (k : EK) (n : Int)
  | ifr (t : TypeId) (ks : List EK) (l : List Int)
  | ifp (t : TypeId) (id : Nat)
  | run (ks : List EK) (n : Nat) (l : List Int)

inductive Av where
  | c (x : Cel)
  | agg (l : List Cel)

inductive LV where
  | a (v : Av)
  | tup (l : List Av)

inductive Blk where
  | dead
  | cells (own : Bool) (t : TypeId) (cs : List Cel)
  | lp (s : LoopState) (pe : Option Code)
  | wnd (o : Nat) (ks : List EK) (n : Nat) (l : List Int)
  | mp (own : Bool) (ks : List EK) (ve : EK) (L : List (List Int × Int))
  /-- Cells that are slices of numbers, each with its length and its numbers. -/
  | nst (own : Bool) (t : TypeId × Option TypeId) (o : Nat) (ks : List EK) (s : Nat) (L : List (Nat × List Int))

def Blk.own : Blk → Bool
  | .cells o _ _ => o
  | .lp _ _ => true
  | .wnd _ _ _ _ => false
  | .mp o _ _ _ => o
  | .nst o _ _ _ _ _ => o
  | .dead => false

def EK.cel : EK → Int → Cel
  | .i8, n => .int .i8 n
  | .i16, n => .int .i16 n
  | .i32, n => .int .i32 n
  | .i64, n => .int .i64 n
  | .u8, n => .int .u8 n
  | .u16, n => .int .u16 n
  | .u32, n => .int .u32 n
  | .u64, n => .int .u64 n
  | .bool, n => .bool (n != 0)
  | .str, n => .str (decS n)

structure St where
  tmps : List LV
  heap : List Blk

def Cel.w : Cel → Nat
  | .run _ n _ => n
  | _ => 1

def runV (ks : List EK) (l : List Int) : List Value :=
  (List.range l.length).map fun j => (ks.getD (j % ks.length) .i64).val (l.getD j 0)

/-- A key that is an array or a struct of numbers, each of a kind. -/
def keyV (ks : List EK) (xs : List Int) : Value := .agg (List.zipWith EK.val ks xs).toArray
/-- The entries of a map that has not lost any: in the order in which they came. -/
def mpEs (ks : List EK) (ve : EK) : Nat → List (List Int × Int) → List MapEntry
  | _, [] => []
  | i, p :: r => ⟨keyV ks p.1, ve.val p.2, i⟩ :: mpEs ks ve (i + 1) r

/-- A slice's value. -/
def SlcR (β : List Nat) (id base : Nat) (i : Int) (stride : Nat) (len cap : Int) (v : Value) : Prop := 0 ≤ i ∧ 0 ≤ len ∧ len ≤ cap ∧
      ((∃ b, β[id]? = some b ∧ v = .slice (some ⟨b, base + i.toNat * stride, none⟩) len.toNat cap.toNat) ∨ (cap = 0 ∧ ∃ ao, v = .slice ao 0 0))

/-- One cell stands for one value. -/
def CelR (β : List Nat) : Cel → Value → Prop
  | .any, _ => True
  | .lit k n, v => v = .int k n
  | .int k n, v => v = .int k n
  | .tt, v => v = .bool true
  | .ff, v => v = .bool false
  | .bool b, v => v = .bool b
  | .str s, v => v = .string s
  | .ptr id off, v => ∃ b, β[id]? = some b ∧ v = .pointer (some ⟨b, off, none⟩)
  | .pti id base i stride fo, v => ∃ b, β[id]? = some b ∧ v = .pointer (some ⟨b, base + i.toNat * stride + fo, none⟩)
  | .slc id base i stride len cap, v => 0 ≤ i ∧ 0 ≤ len ∧ len ≤ cap ∧
      ((∃ b, β[id]? = some b ∧ v = .slice (some ⟨b, base + i.toNat * stride, none⟩) len.toNat cap.toNat) ∨ (cap = 0 ∧ ∃ ao, v = .slice ao 0 0))
  | .val x, v => v = x
  | .fn f caps, v => ∃ bs, caps.mapM (fun i => β[i]?) = some bs ∧ v = .func f #[] (bs.map fun b => Value.pointer (some ⟨b, 0, none⟩)).toArray
  | .fnb f id base i stride len cap, v => ∃ x, SlcR β id base i stride len cap x ∧ v = .func (.func f) #[x] #[]
  | .fna f k1 k2 x y ks n l, v => l.length = n ∧ v = .func (.func f) #[.agg (.int k1 x :: .int k2 y :: runV ks l).toArray] #[]
  | .yld id, v => ∃ b, β[id]? = some b ∧ v = .func (.yield b) #[] #[]
  | .mpr id, v => ∃ b, β[id]? = some b ∧ v = .map (some b)
  | .sp u id, v => (u = false ∧ v = .pointer none) ∨ ∃ b, β[id]? = some b ∧ u = true ∧ v = .pointer (some ⟨b, 0, none⟩)
  | .ifi t k n, v => v = .iface t (k.val n)
  | .ifr t ks l, v => l.length = ks.length ∧ v = .iface t (keyV ks l)
  | .ifp t id, v => ∃ b, β[id]? = some b ∧ v = .iface t (.pointer (some ⟨b, 0, none⟩))
  | .run _ _ _, _ => False

def Cel1 (β : List Nat) (c : Cel) (vs : List Value) : Prop :=
  match c with
  | .run ks n l => l.length = n ∧ vs = runV ks l
  | c => ∃ v, vs = [v] ∧ CelR β c v

def CelsR (β : List Nat) : List Cel → List Value → Prop
  | [], vs => vs = []
  | c :: cs, vs => ∃ pre rest, vs = pre ++ rest ∧ Cel1 β c pre ∧ CelsR β cs rest

def AvR (β : List Nat) : Av → Value → Prop
  | .c x, v => CelR β x v
  | .agg l, v => ∃ arr : Array Value, v = .agg arr ∧ CelsR β l arr.toList

def AvsR (β : List Nat) : List Av → List Value → Prop
  | [], vs => vs = []
  | a :: as, vs => ∃ v rest, vs = v :: rest ∧ AvR β a v ∧ AvsR β as rest

def LVR (β : List Nat) : LV → Value → Prop
  | .a x, v => AvR β x v
  | .tup l, v => ∃ arr : Array Value, v = .tuple arr ∧ AvsR β l arr.toList

def TmR (β : List Nat) : List LV → List Value → Prop
  | [], vs => vs = []
  | a :: as, vs => ∃ v rest, vs = v :: rest ∧ LVR β a v ∧ TmR β as rest

/-- Are all cells of the list such as may be stored (one cell each)? -/
def Cel.plain : Cel → Bool
  | .any => false
  | .val v => v.oneCell'
  | _ => true

/-- A step that writes cells from block n0 on, or lays blocks, or turns records of loops: whatever is neither and lies below m lies as it lay. -/
structure Grow (n0 m : Nat) (w w' : World) : Prop where
  below : Below n0 w w'
  ko : ∀ (k : Nat) (o : Obj), k < m → w.heap[k]? = some o → (∀ a t s, o ≠ .cells a t s) → (∀ r, o ≠ .loop r) → (∀ e c, o ≠ .map e c) → w'.heap[k]? = some o
  lo : ∀ (k : Nat) (r : Loop), w.heap[k]? = some (.loop r) → ∃ r', w'.heap[k]? = some (.loop r')

theorem Grow.refl (n0 m : Nat) (w : World) : Grow n0 m w w := ⟨Below.refl _ _, fun _ _ _ h _ _ _ => h, fun _ r h => ⟨r, h⟩⟩
theorem Grow.alloc {n0 m : Nat} {w : World} (h : n0 ≤ w.heap.size) (o : Obj) : Grow n0 m w (w.alloc o) :=
  ⟨(Below.refl _ _).alloc h o, fun k _ _ ho _ _ _ => (Below.heap_alloc w o k (Array.getElem?_eq_some_iff.1 ho).1).trans ho, fun k r ho => ⟨r, (Below.heap_alloc w o k (Array.getElem?_eq_some_iff.1 ho).1).trans ho⟩⟩
theorem Grow.drew (n0 m : Nat) (w : World) : Grow n0 m w { w with drawn := w.drawn + 1 } := ⟨(Below.refl n0 w).drew, fun _ _ _ h _ _ _ => h, fun _ r h => ⟨r, h⟩⟩
/-- What a callee leaves that turns nothing that lay there. -/
theorem Grow.of_below {n0 m : Nat} {w w' : World} (hn : n0 ≤ w.heap.size) (h : Below w.heap.size w w') : Grow n0 m w w' :=
  ⟨h.mono hn, fun k _ _ ho _ _ _ => (h.block k (Array.getElem?_eq_some_iff.1 ho).1).trans ho, fun k r ho => ⟨r, (h.block k (Array.getElem?_eq_some_iff.1 ho).1).trans ho⟩⟩

/-- What is said of worlds beside the cells, and the records of the loops over iterators that run. -/
structure Base where
  X : World → Prop
  m : Nat
  R : Nat → Loop

def Base.pl (w : World) : Base := ⟨Below w.heap.size w, 0, fun _ => default⟩

def width : List Cel → Nat
  | [] => 0
  | c :: cs => c.w + width cs

/-- One slice of a nest: where it is, and what the cells hold to which it leads; if a type is told, these are a whole block. -/
def NstAt (w : World) (own : Bool) (n0 b : Nat) (wh : Option TypeId) (o : Nat) (ks : List EK) (s : Nat) (j n : Nat) (l : List Int) : Prop :=
  ∃ a cap, w.cell? ⟨b, o + j, none⟩ = some (.slice a n cap) ∧ n ≤ cap ∧ n * s ≤ l.length ∧
    ((cap = 0 ∧ l = []) ∨ ∃ x ao, a = some ⟨x, ao, none⟩ ∧ (own = true → 0 < l.length → n0 ≤ x) ∧ (∀ k, k < l.length → w.cell? ⟨x, ao + k, none⟩ = some ((ks.getD (k % ks.length) .i64).val (l.getD k 0))) ∧
      ∀ u, wh = some u → ao = 0 ∧ (0 < l.length → ∃ arr : Array Value, arr.size = l.length ∧ w.heap[x]? = some (.cells arr u (0, 0))))

def BlkR (n0 : Nat) (w0 : Base) (β : List Nat) (w : World) (i b : Nat) : Blk → Prop
  | .dead => True
  | .nst own t o ks s L => (0 < L.length → own = true → n0 ≤ b ∧ o = 0 ∧ ∃ arr : Array Value, arr.size = L.length ∧ w.heap[b]? = some (.cells arr t.1 (0, 0))) ∧ ∀ j e, L[j]? = some e → NstAt w own n0 b t.2 o ks s j e.1 e.2
  | .lp s pe => n0 ≤ b ∧ w.heap[b]? = some (.loop { w0.R i with state := s, pending := pe })
  | .mp own ks ve L => (own = true → n0 ≤ b) ∧ (∀ p ∈ L, p.1.length = ks.length) ∧ w.heap[b]? = some (.map (mpEs ks ve 0 L).toArray L.length)
  | .wnd o ks n l => l.length = n ∧ ∀ j, j < n → w.cell? ⟨b, o + j, none⟩ = some ((ks.getD (j % ks.length) .i64).val (l.getD j 0))
  | .cells own t cs => ∃ arr : Array Value, CelsR β cs arr.toList ∧ (0 < arr.size → (own = true → n0 ≤ b) ∧ w.heap[b]? = some (.cells arr t (0, 0)))

/-- A block that says nothing: dead, or with no cells. -/
def Blk.nil : Blk → Prop
  | .dead => True
  | .lp _ _ => False
  | .mp _ _ _ _ => False
  | .wnd _ _ n _ => n = 0
  | .nst _ _ _ _ _ L => L.length = 0
  | .cells _ _ cs => width cs = 0

/-- What may be written is named once. -/
def Dist (β : List Nat) (H : List Blk) : Prop := ∀ (i j b : Nat) (B C : Blk), H[i]? = some B → B.own = true → ¬ B.nil → β[i]? = some b → β[j]? = some b → j ≠ i → H[j]? = some C → C.nil

/-- The blocks to which the slices of a nest lead. -/
def Blk.inn (w : World) (b x : Nat) : Blk → Prop
  | .nst _ _ o _ s L => ∃ j e ao cap, L[j]? = some e ∧ 0 < e.2.length ∧ w.cell? ⟨b, o + j, none⟩ = some (.slice (some ⟨x, ao, none⟩) e.1 cap)
  | _ => False

/-- What may be written is no part of a nest. -/
def NI (β : List Nat) (H : List Blk) (w : World) : Prop := ∀ (i b : Nat) (B : Blk) (x : Nat), H[i]? = some B → β[i]? = some b → B.inn w b x →
  ∀ (j c : Nat) (C : Blk), H[j]? = some C → C.own = true → ¬ C.nil → β[j]? = some c → c ≠ x

structure HR (n0 : Nat) (w0 : Base) (β : List Nat) (H : List Blk) (w : World) : Prop where
  base : n0 ≤ w.heap.size
  len : β.length = H.length
  nd : Dist β H
  ni : NI β H w
  ms : w0.m ≤ w.heap.size
  st : ∀ a b, Grow n0 w0.m a b → w0.X a → w0.X b
  ext : w0.X w
  blk : ∀ (i : Nat) (B : Blk) (b : Nat), H[i]? = some B → β[i]? = some b → BlkR n0 w0 β w i b B

/-! ### The cells -/

theorem Cel1.len {β : List Nat} {c : Cel} {vs : List Value} (h : Cel1 β c vs) : vs.length = c.w := by
  cases c <;> simp only [Cel1, Cel.w] at * <;>
    first
      | (obtain ⟨v, rfl, _⟩ := h; rfl)
      | (obtain ⟨h1, rfl⟩ := h; simp [runV, h1])

theorem CelsR.len {β : List Nat} : ∀ {cs : List Cel} {vs : List Value}, CelsR β cs vs → vs.length = width cs
  | [], vs, h => by simp only [CelsR] at h; subst h; rfl
  | c :: cs, vs, h => by
    obtain ⟨pre, rest, rfl, h1, h2⟩ := h
    simp [width, h1.len, h2.len]

theorem getElem?_prefix {β γ : List Nat} {i b : Nat} (h : β[i]? = some b) : (β ++ γ)[i]? = some b := by
  rw [List.getElem?_append_left (by exact (List.getElem?_eq_some_iff.1 h).1)]; exact h

theorem mapM_prefix {β γ : List Nat} : ∀ {caps : List Nat} {bs : List Nat}, caps.mapM (fun i => β[i]?) = some bs → caps.mapM (fun i => (β ++ γ)[i]?) = some bs
  | [], bs, h => by simpa using h
  | c :: cs, bs, h => by
    simp only [List.mapM_cons, Option.bind_eq_bind, Option.bind_eq_some_iff, Option.pure_def] at h ⊢
    obtain ⟨x, hx, y, hy, e⟩ := h
    exact ⟨x, getElem?_prefix hx, y, mapM_prefix hy, e⟩

theorem SlcR.mono {β γ : List Nat} {id base : Nat} {i : Int} {stride : Nat} {len cap : Int} {v : Value} (h : SlcR β id base i stride len cap v) : SlcR (β ++ γ) id base i stride len cap v := by
  obtain ⟨h1, h2, h3, ⟨b, h4, h5⟩ | h4⟩ := h
  · exact ⟨h1, h2, h3, .inl ⟨b, getElem?_prefix h4, h5⟩⟩
  · exact ⟨h1, h2, h3, .inr h4⟩

theorem CelR.mono {β γ : List Nat} {c : Cel} {v : Value} (h : CelR β c v) : CelR (β ++ γ) c v := by
  cases c <;> simp only [CelR] at * <;>
    first
      | exact h
      | (obtain ⟨b, h1, h2⟩ := h; exact ⟨b, getElem?_prefix h1, h2⟩)
      | (obtain ⟨h1, h2, h3, ⟨b, h4, h5⟩ | h4⟩ := h; exact ⟨h1, h2, h3, .inl ⟨b, getElem?_prefix h4, h5⟩⟩; exact ⟨h1, h2, h3, .inr h4⟩)
      | (obtain ⟨bs, h1, h2⟩ := h; exact ⟨bs, mapM_prefix h1, h2⟩)
      | (obtain ⟨x, h1, h2⟩ := h; exact ⟨x, h1.mono, h2⟩)
      | (rcases h with h | ⟨b, h1, h2⟩; exact .inl h; exact .inr ⟨b, getElem?_prefix h1, h2⟩)

theorem Cel1.mono {β γ : List Nat} {c : Cel} {vs : List Value} (h : Cel1 β c vs) : Cel1 (β ++ γ) c vs := by
  cases c <;> simp only [Cel1] at * <;>
    first
      | exact h
      | (obtain ⟨v, h1, h2⟩ := h; exact ⟨v, h1, h2.mono⟩)

theorem CelsR.mono {β γ : List Nat} : ∀ {cs : List Cel} {vs : List Value}, CelsR β cs vs → CelsR (β ++ γ) cs vs
  | [], _, h => h
  | _ :: _, _, ⟨pre, rest, h, h1, h2⟩ => ⟨pre, rest, h, h1.mono, h2.mono⟩

theorem AvR.mono {β γ : List Nat} {a : Av} {v : Value} (h : AvR β a v) : AvR (β ++ γ) a v := by
  cases a with
  | c x => exact CelR.mono h
  | agg l => obtain ⟨arr, h1, h2⟩ := h; exact ⟨arr, h1, h2.mono⟩

theorem AvsR.mono {β γ : List Nat} : ∀ {as : List Av} {vs : List Value}, AvsR β as vs → AvsR (β ++ γ) as vs
  | [], _, h => h
  | _ :: _, _, ⟨v, rest, h, h1, h2⟩ => ⟨v, rest, h, h1.mono, h2.mono⟩

theorem LVR.mono {β γ : List Nat} {a : LV} {v : Value} (h : LVR β a v) : LVR (β ++ γ) a v := by
  cases a with
  | a x => exact AvR.mono h
  | tup l => obtain ⟨arr, h1, h2⟩ := h; exact ⟨arr, h1, h2.mono⟩

theorem TmR.mono {β γ : List Nat} : ∀ {as : List LV} {vs : List Value}, TmR β as vs → TmR (β ++ γ) as vs
  | [], _, h => h
  | _ :: _, _, ⟨v, rest, h, h1, h2⟩ => ⟨v, rest, h, h1.mono, h2.mono⟩

/-- The cell at an offset. -/
def cellAt : List Cel → Nat → Option Cel
  | [], _ => none
  | c :: cs, off =>
    if off < c.w then
      match c with
      | .run ks _ l => some ((ks.getD (off % ks.length) .i64).cel (l.getD off 0))
      | c => some c
    else cellAt cs (off - c.w)

theorem EK.cel_R (β : List Nat) (k : EK) (n : Int) : CelR β (k.cel n) (k.val n) := by cases k <;> rfl

theorem runV_get (ks : List EK) (l : List Int) (j : Nat) (h : j < l.length) :
    (runV ks l)[j]? = some ((ks.getD (j % ks.length) .i64).val (l.getD j 0)) := by
  simp [runV, h]

theorem cellAt_sound {β : List Nat} : ∀ {cs : List Cel} {vs : List Value} {off : Nat} {c : Cel}, CelsR β cs vs → cellAt cs off = some c →
    ∃ v, vs[off]? = some v ∧ CelR β c v
  | [], _, _, _, _, h => by simp [cellAt] at h
  | c :: cs, vs, off, c', h, hc => by
    obtain ⟨pre, rest, rfl, h1, h2⟩ := h
    have hl := h1.len
    unfold cellAt at hc
    by_cases ho : off < c.w
    · rw [if_pos ho] at hc
      rw [List.getElem?_append_left (by omega)]
      cases c <;> simp only [Option.some.injEq] at hc <;> subst hc <;> simp only [Cel1, Cel.w] at * <;>
        first
          | (obtain ⟨v, rfl, hv⟩ := h1
             have : off = 0 := by omega
             subst this
             exact ⟨v, rfl, hv⟩)
          | (obtain ⟨h1, rfl⟩ := h1
             exact ⟨_, runV_get _ _ _ (by omega), EK.cel_R _ _ _⟩)
    · rw [if_neg ho] at hc
      obtain ⟨v, hv, hr⟩ := cellAt_sound h2 hc
      exact ⟨v, by rw [List.getElem?_append_right (by omega), hl]; exact hv, hr⟩

/-- The run that begins at an offset. -/
def runAt : List Cel → Nat → Option (List EK × Nat × List Int)
  | [], _ => none
  | c :: _, 0 => match c with
    | .run ks n l => some (ks, n, l)
    | _ => none
  | c :: cs, off + 1 => if c.w ≤ off + 1 ∧ 0 < c.w then runAt cs (off + 1 - c.w) else none

theorem runAt_sound {β : List Nat} : ∀ {cs : List Cel} {vs : List Value} {off : Nat} {ks : List EK} {n : Nat} {l : List Int}, CelsR β cs vs → runAt cs off = some (ks, n, l) →
    l.length = n ∧ ∀ j, j < n → vs[off + j]? = some ((ks.getD (j % ks.length) .i64).val (l.getD j 0))
  | [], _, _, _, _, _, _, h => by simp [runAt] at h
  | c :: cs, vs, 0, ks, n, l, h, hc => by
    obtain ⟨pre, rest, rfl, h1, h2⟩ := h
    cases c <;> simp only [runAt, Option.some.injEq, Prod.mk.injEq, reduceCtorEq] at hc
    obtain ⟨rfl, rfl, rfl⟩ := hc
    obtain ⟨h1, rfl⟩ := h1
    refine ⟨h1, fun j hj => ?_⟩
    rw [Nat.zero_add, List.getElem?_append_left (by simp [runV]; omega)]
    exact runV_get _ _ _ (by omega)
  | c :: cs, vs, off + 1, ks, n, l, h, hc => by
    obtain ⟨pre, rest, rfl, h1, h2⟩ := h
    have hl := h1.len
    simp only [runAt] at hc
    split at hc
    · rename_i hw
      obtain ⟨e1, e2⟩ := runAt_sound h2 hc
      refine ⟨e1, fun j hj => ?_⟩
      rw [List.getElem?_append_right (by omega), hl, show off + 1 + j - c.w = off + 1 - c.w + j by omega]
      exact e2 j hj
    · simp at hc

/-- n cells from an offset on, whole cells and pieces of runs. -/
def takeC : List Cel → Nat → Nat → Option (List Cel)
  | [], _, n => if n = 0 then some [] else none
  | c :: cs, off, n =>
    if n = 0 then some []
    else if off = 0 then
      if c.w ≤ n then (takeC cs 0 (n - c.w)).map (c :: ·)
      else match c with
        | .run ks _ l => some [.run ks n (l.take n)]
        | _ => none
    else if c.w ≤ off then takeC cs (off - c.w) n
    else match c with
      | .run ks m l => if off + n ≤ m ∧ off % ks.length = 0 then some [.run ks n ((l.drop off).take n)] else none
      | _ => none

theorem runV_take (ks : List EK) (l : List Int) (n : Nat) (h : n ≤ l.length) : (runV ks l).take n = runV ks (l.take n) := by
  apply List.ext_getElem?
  intro j
  by_cases hj : j < n
  · rw [List.getElem?_take_of_lt hj, runV_get _ _ _ (by omega), runV_get _ _ _ (by simp; omega)]
    simp [List.getD, List.getElem?_take_of_lt hj]
  · rw [List.getElem?_eq_none (by simp; omega), List.getElem?_eq_none (by simp [runV]; omega)]

theorem runV_drop (ks : List EK) (l : List Int) (n : Nat) (hk : n % ks.length = 0) : (runV ks l).drop n = runV ks (l.drop n) := by
  apply List.ext_getElem?
  intro j
  rw [List.getElem?_drop]
  by_cases hj : n + j < l.length
  · rw [runV_get _ _ _ hj, runV_get _ _ _ (by simp; omega)]
    simp [List.getD, Nat.add_mod, hk]
  · rw [List.getElem?_eq_none (by simp [runV]; omega), List.getElem?_eq_none (by simp [runV]; omega)]

theorem takeC_sound {β : List Nat} : ∀ {cs : List Cel} {vs : List Value} {off n : Nat} {r : List Cel}, CelsR β cs vs → takeC cs off n = some r →
    (n = 0 ∨ off + n ≤ vs.length) ∧ CelsR β r ((vs.drop off).take n)
  | [], vs, off, n, r, h, hc => by
    unfold takeC at hc
    split at hc
    · rename_i hn
      simp only [Option.some.injEq] at hc; subst hc
      subst hn
      exact ⟨.inl rfl, by simp [CelsR]⟩
    · simp at hc
  | c :: cs, vs, off, n, r, h, hc => by
    obtain ⟨pre, rest, rfl, h1, h2⟩ := h
    have hl := h1.len
    unfold takeC at hc
    split at hc
    · rename_i hn
      simp only [Option.some.injEq] at hc; subst hc
      subst hn
      exact ⟨.inl rfl, by simp [CelsR]⟩
    · rename_i hn
      split at hc
      · rename_i ho
        subst ho
        split at hc
        · rename_i hw
          obtain ⟨r', hr', rfl⟩ := Option.map_eq_some_iff.1 hc
          obtain ⟨g1, g2⟩ := takeC_sound h2 hr'
          refine ⟨.inr (by simp; omega), ⟨pre, (rest.drop 0).take (n - c.w), ?_, h1, g2⟩⟩
          simp [List.take_append, hl, List.take_of_length_le (show pre.length ≤ n by omega)]
        · rename_i hw
          cases c <;> simp only [Option.some.injEq, reduceCtorEq] at hc
          rename_i ks m l
          subst hc
          obtain ⟨e1, rfl⟩ := h1
          simp only [Cel.w] at *
          refine ⟨.inr (by simp; omega), ⟨runV ks (l.take n), [], ?_, ⟨by simp; omega, rfl⟩, rfl⟩⟩
          rw [List.drop_zero, List.take_append_of_le_length (by omega), runV_take _ _ _ (by omega), List.append_nil]
      · split at hc
        · rename_i ho hw
          obtain ⟨g1, g2⟩ := takeC_sound h2 hc
          refine ⟨by rcases g1 with g1 | g1; exact .inl g1; exact .inr (by simp; omega), ?_⟩
          rw [List.drop_append, List.drop_of_length_le (by omega), hl]
          simpa using g2
        · rename_i ho hw
          cases c <;> simp only [reduceCtorEq] at hc
          rename_i ks m l
          split at hc
          · rename_i hm
            simp only [Option.some.injEq] at hc
            subst hc
            obtain ⟨e1, rfl⟩ := h1
            simp only [Cel.w] at *
            refine ⟨.inr (by simp; omega), ⟨runV ks ((l.drop off).take n), [], ?_, ⟨by simp; omega, rfl⟩, rfl⟩⟩
            rw [List.drop_append_of_le_length (by omega), List.take_append_of_le_length (by simp; omega), runV_drop _ _ _ hm.2, runV_take _ _ _ (by simp; omega), List.append_nil]
          · simp at hc

/-- Whole cells put in the place of whole cells. -/
def dropC : List Cel → Nat → Option (List Cel)
  | cs, 0 => some cs
  | [], _ + 1 => none
  | c :: cs, n + 1 => if c.w ≤ n + 1 ∧ 0 < c.w then dropC cs (n + 1 - c.w) else none

def putC : List Cel → Nat → List Cel → Option (List Cel)
  | cs, 0, new => (dropC cs (width new)).map (new ++ ·)
  | [], _ + 1, _ => none
  | c :: cs, off + 1, new => if c.w ≤ off + 1 ∧ 0 < c.w then (putC cs (off + 1 - c.w) new).map (c :: ·) else none

theorem dropC_sound {β : List Nat} : ∀ {cs : List Cel} {vs : List Value} {n : Nat} {r : List Cel}, CelsR β cs vs → dropC cs n = some r → n ≤ vs.length ∧ CelsR β r (vs.drop n)
  | cs, vs, 0, r, h, hc => by simp only [dropC, Option.some.injEq] at hc; subst hc; exact ⟨by omega, by simpa using h⟩
  | [], vs, n + 1, r, h, hc => by simp [dropC] at hc
  | c :: cs, vs, n + 1, r, h, hc => by
    obtain ⟨pre, rest, rfl, h1, h2⟩ := h
    have hl := h1.len
    simp only [dropC] at hc
    split at hc
    · obtain ⟨g1, g2⟩ := dropC_sound h2 hc
      refine ⟨by simp; omega, ?_⟩
      rw [List.drop_append, List.drop_of_length_le (by omega), hl]
      simpa using g2
    · simp at hc

theorem CelsR.append {β : List Nat} : ∀ {cs ds : List Cel} {vs us : List Value}, CelsR β cs vs → CelsR β ds us → CelsR β (cs ++ ds) (vs ++ us)
  | [], _, _, _, h, k => by simp only [CelsR] at h; subst h; simpa using k
  | c :: cs, ds, vs, us, ⟨pre, rest, h, h1, h2⟩, k => ⟨pre, rest ++ us, by rw [h, List.append_assoc], h1, h2.append k⟩

theorem putC_sound {β : List Nat} : ∀ {cs : List Cel} {vs : List Value} {off : Nat} {new : List Cel} {r : List Cel} {us : List Value}, CelsR β cs vs → CelsR β new us → putC cs off new = some r →
    off + us.length ≤ vs.length ∧ CelsR β r (vs.take off ++ us ++ vs.drop (off + us.length))
  | cs, vs, 0, new, r, us, h, hn, hc => by
    simp only [putC] at hc
    obtain ⟨r', hr', rfl⟩ := Option.map_eq_some_iff.1 hc
    rw [← hn.len] at hr'
    obtain ⟨g1, g2⟩ := dropC_sound h hr'
    exact ⟨by omega, by simpa using hn.append g2⟩
  | [], vs, off + 1, new, r, us, h, hn, hc => by simp [putC] at hc
  | c :: cs, vs, off + 1, new, r, us, h, hn, hc => by
    obtain ⟨pre, rest, rfl, h1, h2⟩ := h
    have hl := h1.len
    simp only [putC] at hc
    split at hc
    · rename_i hw
      obtain ⟨r', hr', rfl⟩ := Option.map_eq_some_iff.1 hc
      obtain ⟨g1, g2⟩ := putC_sound h2 hn hr'
      refine ⟨by simp; omega, ⟨pre, _, ?_, h1, g2⟩⟩
      rw [List.take_append, List.drop_append, List.take_of_length_le (by omega), List.drop_of_length_le (by omega), hl]
      simp only [List.append_assoc, List.nil_append]
      rw [show off + 1 + us.length - c.w = off + 1 - c.w + us.length by omega]
    · simp at hc

/-- An integer put into a run at a computed place. -/
def putRun : List Cel → Nat → Nat → Int → Option (List Cel)
  | [], _, _, _ => none
  | c :: cs, 0, j, x => match c with
    | .run ks n l => some (.run ks n (l.set j x) :: cs)
    | _ => none
  | c :: cs, off + 1, j, x => if c.w ≤ off + 1 ∧ 0 < c.w then (putRun cs (off + 1 - c.w) j x).map (c :: ·) else none

theorem runV_set (ks : List EK) (l : List Int) (j : Nat) (x : Int) (h : j < l.length) :
    (runV ks l).set j ((ks.getD (j % ks.length) .i64).val x) = runV ks (l.set j x) := by
  apply List.ext_getElem?
  intro i
  by_cases hi : i < l.length
  · rw [runV_get _ _ _ (by simpa using hi), List.getElem?_set]
    split
    · rename_i e; subst e; simp [runV, h, List.getD]
    · rename_i e; rw [runV_get _ _ _ hi]; simp [List.getD, e]
  · rw [List.getElem?_eq_none (by simp [runV]; omega), List.getElem?_eq_none (by simp [runV]; omega)]

theorem putRun_sound {β : List Nat} : ∀ {cs : List Cel} {vs : List Value} {off j : Nat} {x : Int} {r : List Cel} {ks : List EK} {n : Nat} {l : List Int},
    CelsR β cs vs → runAt cs off = some (ks, n, l) → j < n → putRun cs off j x = some r → CelsR β r (vs.set (off + j) ((ks.getD (j % ks.length) .i64).val x))
  | [], _, _, _, _, _, _, _, _, _, h, _, _ => by simp [runAt] at h
  | c :: cs, vs, 0, j, x, r, ks, n, l, h, hr, hj, hc => by
    obtain ⟨pre, rest, rfl, h1, h2⟩ := h
    cases c <;> simp only [runAt, Option.some.injEq, Prod.mk.injEq, reduceCtorEq] at hr
    obtain ⟨rfl, rfl, rfl⟩ := hr
    simp only [putRun, Option.some.injEq] at hc
    subst hc
    obtain ⟨h1, rfl⟩ := h1
    refine ⟨_, rest, ?_, ⟨by simpa using h1, rfl⟩, h2⟩
    rw [Nat.zero_add, List.set_append_left _ _ (by simp [runV]; omega), runV_set _ _ _ _ (by omega)]
  | c :: cs, vs, off + 1, j, x, r, ks, n, l, h, hr, hj, hc => by
    obtain ⟨pre, rest, rfl, h1, h2⟩ := h
    have hl := h1.len
    simp only [runAt] at hr
    simp only [putRun] at hc
    split at hr
    · rename_i hw
      rw [if_pos hw] at hc
      obtain ⟨r', hr', rfl⟩ := Option.map_eq_some_iff.1 hc
      refine ⟨pre, _, ?_, h1, putRun_sound h2 hr hj hr'⟩
      rw [List.set_append_right _ _ (by omega), hl, show off + 1 + j - c.w = off + 1 - c.w + j by omega]
    · simp at hr



inductive TD where
  | int (k : IntKind)
  | bool
  | str
  | ptr
  | slice (e : TypeId)
  | arr (n : Nat) (e : TypeId)
  | struct (fs : List (Nat × TypeId))
  | fn
  | sca
  | ifc
  | map (k e : TypeId)
  | other

def TD.agg? : TD → Option Bool
  | .arr _ _ | .struct _ => some true
  | .other => none
  | _ => some false

structure TI where
  d : TD
  size : Nat
  zero : List Cel
  bytes : Nat

abbrev Rows := List (TypeId × TI)

/-- The types' rows, what some package-level variables hold, and the methods that are called through interfaces. -/
structure Tab where
  rows : Rows
  gv : Nat → Option Value
  mth : List (TypeId × String × FuncId)
  /-- Of which blocks it is known besides that no range of them is frozen. -/
  fz : Nat → Bool
  /-- What listed blocks hold from end to end, if it is told. -/
  tx : Nat → Option (List Value)

def lookMt : List (TypeId × String × FuncId) → TypeId → String → Option FuncId
  | [], _, _ => none
  | (t, n, f) :: r, u, m => if t = u then (if n = m then some f else lookMt r u m) else lookMt r u m

def MthOk (P : Program) : List (TypeId × String × FuncId) → Prop
  | [] => True
  | (t, n, f) :: r => (∀ v w, (Go.method (P.types.size + Made.depth) t v n).run P w = .ok (f, v) w) ∧ MthOk P r

theorem MthOk.look {P : Program} : ∀ {L : List (TypeId × String × FuncId)} {t : TypeId} {n : String} {f : FuncId}, MthOk P L → lookMt L t n = some f → ∀ v w, (Go.method (P.types.size + Made.depth) t v n).run P w = .ok (f, v) w
  | [], _, _, _, _, h => by simp [lookMt] at h
  | (u, m, g) :: r, t, n, f, h, hl => by
    unfold lookMt at hl
    split at hl
    · rename_i e
      split at hl
      · rename_i e2
        simp only [Option.some.injEq] at hl
        subst hl; subst e; subst e2; exact h.1
      · exact MthOk.look h.2 hl
    · exact MthOk.look h.2 hl

def lookL : Rows → TypeId → Option TI
  | [], _ => none
  | (t, ti) :: r, u => if t = u then some ti else lookL r u

def look (T : Tab) (t : TypeId) : Option TI := lookL T.rows t

def EK.is (k : EK) (x : Int) : Value → Bool
  | .int k' m => decide (EK.of k' = k) && decide (m = x)
  | .bool b => decide (k = .bool) && (b == (x != 0))
  | .string s => decide (k = .str) && decide (x = 0) && decide (s.data.toList = [])
  | _ => false

theorem EK.is_val {k : EK} {x : Int} {v : Value} (h : k.is x v = true) : v = k.val x := by
  unfold EK.is at h
  split at h
  · simp only [Bool.and_eq_true, decide_eq_true_eq] at h
    obtain ⟨rfl, rfl⟩ := h
    rw [EK.of_val]
  · simp only [Bool.and_eq_true, decide_eq_true_eq, beq_iff_eq] at h
    obtain ⟨rfl, rfl⟩ := h
    rfl
  · simp only [Bool.and_eq_true, decide_eq_true_eq] at h
    obtain ⟨⟨rfl, rfl⟩, h⟩ := h
    rename_i s
    have : s = ByteArray.empty := by
      cases s with | mk d => simp only at h; obtain rfl : d = #[] := Array.toList_inj.1 h; rfl
    rw [this, EK.val, decS_zero]
  · simp at h

def runEq (ks : List EK) : Nat → List Int → List Value → Option (List Value)
  | _, [], vs => some vs
  | j, x :: xs, v :: vs => if (ks.getD (j % ks.length) .i64).is x v = true then runEq ks (j + 1) xs vs else none
  | _, _, _ => none

def sameVal : Value → Value → Bool
  | .pointer none, .pointer none => true
  | .slice none 0 0, .slice none 0 0 => true
  | .map none, .map none => true
  | .chan none, .chan none => true
  | .nilFunc, .nilFunc => true
  | .nilIface, .nilIface => true
  | _, _ => false

def agrees : List Cel → List Value → Bool
  | [], [] => true
  | .lit k n :: cs, .int k' m :: vs => decide (k = k') && decide (n = m) && agrees cs vs
  | .ff :: cs, .bool b :: vs => !b && agrees cs vs
  | .str s :: cs, .string s' :: vs => decide (s.data.toList = []) && decide (s'.data.toList = []) && agrees cs vs
  | .val x :: cs, v :: vs => sameVal x v && agrees cs vs
  | .run ks n l :: cs, vs => decide (l.length = n) && (match runEq ks 0 l vs with | some rest => agrees cs rest | none => false)
  | _, _ => false

theorem sameVal_sound {x v : Value} (h : sameVal x v = true) : v = x := by
  unfold sameVal at h
  split at h <;> simp_all

theorem runEq_sound (ks : List EK) : ∀ (l : List Int) (j : Nat) (vs rest : List Value), runEq ks j l vs = some rest →
    vs = (List.range l.length).map (fun i => (ks.getD ((j + i) % ks.length) .i64).val (l.getD i 0)) ++ rest
  | [], j, vs, rest, h => by simpa [runEq] using h
  | x :: xs, j, [], rest, h => by simp [runEq] at h
  | x :: xs, j, v :: vs, rest, h => by
    simp only [runEq] at h
    split at h
    · rename_i hk
      have hk := EK.is_val hk
      subst hk
      have ih := runEq_sound ks xs (j + 1) vs rest h
      rw [List.length_cons, List.range_succ_eq_map]
      simp only [List.map_cons, Nat.add_zero, List.map_map, List.cons_append]
      rw [ih]
      congr 2
      simp only [List.map_inj_left, Function.comp]
      intro i _
      rw [show j + 1 + i = j + (i + 1) by omega]
      rfl
    · simp at h

theorem byteArray_eq_empty {s : ByteArray} (h : s.data.toList = []) : s = ByteArray.empty := by
  cases s with
  | mk d => simp only at h; rw [show d = #[] by simpa using h]; rfl

theorem agrees_sound (β : List Nat) : ∀ (cs : List Cel) (vs : List Value), agrees cs vs = true → CelsR β cs vs
  | [], [], _ => rfl
  | [], _ :: _, h => by simp [agrees] at h
  | c :: cs, vs, h => by
    cases c with
    | lit k n =>
      cases vs with
      | nil => simp [agrees] at h
      | cons v vs =>
        cases v <;> simp only [agrees, Bool.and_eq_true, decide_eq_true_eq, Bool.false_eq_true] at h
        obtain ⟨⟨rfl, rfl⟩, h⟩ := h
        exact ⟨[_], vs, rfl, ⟨_, rfl, rfl⟩, agrees_sound β cs vs h⟩
    | ff =>
      cases vs with
      | nil => simp [agrees] at h
      | cons v vs =>
        cases v <;> simp only [agrees, Bool.and_eq_true, Bool.not_eq_true', Bool.false_eq_true] at h
        obtain ⟨rfl, h⟩ := h
        exact ⟨[_], vs, rfl, ⟨_, rfl, rfl⟩, agrees_sound β cs vs h⟩
    | str s =>
      cases vs with
      | nil => simp [agrees] at h
      | cons v vs =>
        cases v <;> simp only [agrees, Bool.and_eq_true, decide_eq_true_eq, Bool.false_eq_true] at h
        obtain ⟨⟨h1, h2⟩, h⟩ := h
        exact ⟨[_], vs, rfl, ⟨_, rfl, by rw [byteArray_eq_empty h1, byteArray_eq_empty h2]; rfl⟩, agrees_sound β cs vs h⟩
    | val x =>
      cases vs with
      | nil => simp [agrees] at h
      | cons v vs =>
        simp only [agrees, Bool.and_eq_true] at h
        exact ⟨[_], vs, rfl, ⟨_, rfl, sameVal_sound h.1⟩, agrees_sound β cs vs h.2⟩
    | run ks n l =>
      simp only [agrees, Bool.and_eq_true, decide_eq_true_eq] at h
      obtain ⟨h1, h2⟩ := h
      split at h2
      · rename_i rest hr
        refine ⟨runV ks l, rest, ?_, ⟨h1, rfl⟩, agrees_sound β cs rest h2⟩
        have := runEq_sound ks l 0 vs rest hr
        simpa [runV] using this
      · simp at h2
    | _ => simp [agrees] at h

/-- What a row of the table of types says of the program. -/
def TI.ok (P : Program) (t : TypeId) (ti : TI) : Prop :=
  (∃ inf, P.info? t = some inf ∧ inf.size = ti.size ∧ ∃ z, inf.zero = some z ∧ ∀ β, CelsR β ti.zero z.cells.toList) ∧
  match ti.d with
  | .int k => P.underlying t = some (.int k)
  | .bool => P.underlying t = some .bool
  | .str => P.underlying t = some .string
  | .ptr => ∃ e, P.underlying t = some (.pointer e)
  | .slice e => P.underlying t = some (.slice e)
  | .arr n e => P.underlying t = some (.array n e)
  | .struct fs => ∃ fields : Array Field, P.underlying t = some (.struct fields) ∧ fs = fields.toList.map fun f => (f.offset, f.type)
  | .fn => ∃ a b c, P.underlying t = some (.func a b c)
  | .sca => ∃ u, P.underlying t = some u ∧ (∀ fs, u ≠ .struct fs) ∧ (∀ n e, u ≠ .array n e)
  | .ifc => ∃ ms, P.underlying t = some (.interface ms)
  | .map k e => P.underlying t = some (.map k e)
  | .other => True

def TabOk0 (P : Program) : Rows → Prop
  | [] => True
  | (t, ti) :: r => ti.ok P t ∧ TabOk0 P r

theorem TabOk0.look {P : Program} : ∀ {T : Rows} {t : TypeId} {ti : TI}, TabOk0 P T → lookL T t = some ti → ti.ok P t
  | [], _, _, _, h => by simp [lookL] at h
  | (u, ui) :: r, t, ti, h, hl => by
    unfold lookL at hl
    split at hl
    · rename_i e; simp only [Option.some.injEq] at hl; subst hl; subst e; exact h.1
    · exact TabOk0.look h.2 hl

/-- What is asked of a struct or an array that is compared. -/
def eqChk (P : Program) (t : TypeId) (ti : TI) : Bool :=
  match ti.d with
  | .struct _ => (match P.underlying t with | some (.struct fields) => fields.toList.all fun f => !(f.name == "_") | _ => false) && !(P.stoodInHeld t) && !(P.eqGuardType P.depth t)
  | .arr _ _ => !(P.eqGuardType P.depth t)
  | _ => true

def TabEq (P : Program) : Rows → Bool
  | [] => true
  | (t, ti) :: r => eqChk P t ti && TabEq P r

theorem TabEq.look {P : Program} : ∀ {T : Rows} {t : TypeId} {ti : TI}, TabEq P T = true → lookL T t = some ti → eqChk P t ti = true
  | [], _, _, _, h => by simp [lookL] at h
  | (u, ui) :: r, t, ti, h, hl => by
    unfold TabEq at h
    rw [Bool.and_eq_true] at h
    unfold lookL at hl
    split at hl
    · rename_i e; simp only [Option.some.injEq] at hl; subst hl; subst e; exact h.1
    · exact TabEq.look h.2 hl

/-- The zero of a number or a bool is one. -/
def zOk (d : TD) (z : Option Value) : Bool :=
  match d, z with
  | .int k, some (.int k' n) => decide (k = k') && decide (n = 0)
  | .bool, some (.bool b) => !b
  | .int _, _ => false
  | .bool, _ => false
  | .struct _, some (.agg _) => true
  | .arr _ _, some (.agg _) => true
  | .struct _, _ => false
  | .arr _ _, _ => false
  | _, _ => true

def TabBy (P : Program) : Rows → Bool
  | [] => true
  | (t, ti) :: r => (match P.info? t with | some inf => decide (inf.bytes = ti.bytes) && zOk ti.d inf.zero | none => false) && TabBy P r

theorem TabBy.look {P : Program} : ∀ {T : Rows} {t : TypeId} {ti : TI} {inf : TypeInfo}, TabBy P T = true → lookL T t = some ti → P.info? t = some inf → inf.bytes = ti.bytes
  | [], _, _, _, _, h, _ => by simp [lookL] at h
  | (u, ui) :: r, t, ti, inf, h, hl, hi => by
    unfold TabBy at h
    rw [Bool.and_eq_true] at h
    unfold lookL at hl
    split at hl
    · rename_i e
      simp only [Option.some.injEq] at hl
      subst hl; subst e
      rw [hi] at h
      simp only [Bool.and_eq_true, decide_eq_true_eq] at h
      exact h.1.1
    · exact TabBy.look h.2 hl hi

theorem TabBy.zero {P : Program} : ∀ {T : Rows} {t : TypeId} {ti : TI} {inf : TypeInfo}, TabBy P T = true → lookL T t = some ti → P.info? t = some inf → zOk ti.d inf.zero = true
  | [], _, _, _, _, h, _ => by simp [lookL] at h
  | (u, ui) :: r, t, ti, inf, h, hl, hi => by
    unfold TabBy at h
    rw [Bool.and_eq_true] at h
    unfold lookL at hl
    split at hl
    · rename_i e
      simp only [Option.some.injEq] at hl
      subst hl; subst e
      rw [hi] at h
      simp only [Bool.and_eq_true, decide_eq_true_eq] at h
      exact h.1.2
    · exact TabBy.zero h.2 hl hi

structure TabOk (P : Program) (T : Tab) : Prop where
  ty : TabOk0 P T.rows
  eq : TabEq P T.rows = true
  by_ : TabBy P T.rows = true
  mt : MthOk P T.mth

theorem TabOk.look {P : Program} {T : Tab} {t : TypeId} {ti : TI} (h : TabOk P T) (hl : Sx.look T t = some ti) : ti.ok P t := h.ty.look hl

def fieldsEq : List (Nat × TypeId) → List Field → Bool
  | [], [] => true
  | (o, t) :: r, f :: fs => decide (o = f.offset) && decide (t = f.type) && fieldsEq r fs
  | _, _ => false

theorem fieldsEq_sound : ∀ {l : List (Nat × TypeId)} {fs : List Field}, fieldsEq l fs = true → l = fs.map fun f => (f.offset, f.type)
  | [], [], _ => rfl
  | [], _ :: _, h => by simp [fieldsEq] at h
  | _ :: _, [], h => by simp [fieldsEq] at h
  | (o, t) :: r, f :: fs, h => by
    simp only [fieldsEq, Bool.and_eq_true, decide_eq_true_eq] at h
    obtain ⟨⟨rfl, rfl⟩, h⟩ := h
    rw [List.map_cons, fieldsEq_sound h]

/-- The row asked of the program by reckoning. -/
def TI.chk (P : Program) (t : TypeId) (ti : TI) : Bool :=
  (match P.info? t with
   | some inf => decide (inf.size = ti.size) && (match inf.zero with | some z => agrees ti.zero z.cells.toList | none => false)
   | none => false) &&
  match ti.d, P.underlying t with
  | .int k, some (.int k') => decide (k = k')
  | .bool, some .bool => true
  | .str, some .string => true
  | .ptr, some (.pointer _) => true
  | .slice e, some (.slice e') => decide (e = e')
  | .arr n e, some (.array n' e') => decide (n = n') && decide (e = e')
  | .struct fs, some (.struct fields) => fieldsEq fs fields.toList
  | .fn, some (.func _ _ _) => true
  | .sca, some (.struct _) => false
  | .sca, some (.array _ _) => false
  | .sca, some _ => true
  | .ifc, some (.interface _) => true
  | .map k e, some (.map k' e') => decide (k = k') && decide (e = e')
  | .other, _ => true
  | _, _ => false

theorem TI.chk_sound {P : Program} {t : TypeId} {ti : TI} (h : ti.chk P t = true) : ti.ok P t := by
  unfold TI.chk at h
  rw [Bool.and_eq_true] at h
  obtain ⟨h1, h2⟩ := h
  constructor
  · split at h1
    · rename_i inf hi
      rw [Bool.and_eq_true, decide_eq_true_eq] at h1
      obtain ⟨hs, h1⟩ := h1
      split at h1
      · rename_i z hz
        exact ⟨inf, hi, hs, z, hz, fun β => agrees_sound β _ _ h1⟩
      · simp at h1
    · simp at h1
  · generalize P.underlying t = u at *
    cases hd : ti.d <;> rw [hd] at h2 <;> simp only at h2 ⊢ <;> cases u <;> (try simp only [Bool.false_eq_true] at h2) <;> rename_i u <;> cases u <;>
      simp only [Bool.false_eq_true, decide_eq_true_eq, Bool.and_eq_true] at h2 <;>
      first
        | rfl
        | (subst h2; rfl)
        | (obtain ⟨rfl, rfl⟩ := h2; rfl)
        | exact ⟨_, rfl⟩
        | exact ⟨_, rfl, fieldsEq_sound h2⟩
        | exact ⟨_, _, _, rfl⟩
        | exact ⟨_, rfl, by simp, by simp⟩
        | trivial

def Tab.chk0 (P : Program) : Rows → Bool
  | [] => true
  | (t, ti) :: r => ti.chk P t && Tab.chk0 P r

theorem Tab.chk0_sound {P : Program} : ∀ {T : Rows}, Tab.chk0 P T = true → TabOk0 P T
  | [], _ => trivial
  | (t, ti) :: r, h => by
    unfold Tab.chk0 at h
    rw [Bool.and_eq_true] at h
    exact ⟨TI.chk_sound h.1, Tab.chk0_sound h.2⟩

theorem Tab.chk_sound {P : Program} {T : Tab} (h : Tab.chk0 P T.rows = true) (he : TabEq P T.rows = true) (hb : TabBy P T.rows = true) (hm : MthOk P T.mth) : TabOk P T := ⟨Tab.chk0_sound h, he, hb, hm⟩

/-! ### Operands -/

def lvOf : Value → LV
  | .int k n => .a (.c (.lit k n))
  | .bool true => .a (.c .tt)
  | .bool false => .a (.c .ff)
  | .string s => .a (.c (.str s))
  | v => .a (.c (.val v))

def getL : List LV → Nat → LV
  | [], _ => .a (.c (.val undef))
  | x :: _, 0 => x
  | _ :: xs, n + 1 => getL xs n

def St.ev (st : St) : Operand → LV
  | .tmp t => getL st.tmps t
  | .const v => lvOf v
  | .global g => .a (.c (.val (.pointer (some ⟨g, 0, none⟩))))
  | .func f => .a (.c (.fn (.func f) []))

theorem lvOf_sound (β : List Nat) (v : Value) : LVR β (lvOf v) v := by
  unfold lvOf
  split <;> rfl

theorem getL_sound {β : List Nat} : ∀ {ts : List LV} {vs : List Value} (t : Nat), TmR β ts vs → LVR β (getL ts t) (vs.getD t undef)
  | [], vs, t, h => by simp only [TmR] at h; subst h; rfl
  | x :: xs, vs, 0, ⟨v, rest, h, h1, _⟩ => by subst h; simpa [getL] using h1
  | x :: xs, vs, t + 1, ⟨v, rest, h, _, h2⟩ => by subst h; simpa [getL] using getL_sound t h2

theorem ev_sound {β : List Nat} {st : St} {a : Act} (h : TmR β st.tmps a.tmps.toList) (x : Operand) : LVR β (st.ev x) (a.eval x) := by
  cases x with
  | tmp t =>
    have := getL_sound t h
    simpa [St.ev, Act.eval] using this
  | const v => exact lvOf_sound β v
  | global g => rfl
  | func f => exact ⟨[], rfl, rfl⟩

def asI : LV → Option (IntKind × Int × Bool)
  | .a (.c (.lit k n)) => some (k, n, true)
  | .a (.c (.int k n)) => some (k, n, false)
  | _ => none

theorem asI_sound {β : List Nat} {x : LV} {v : Value} {k : IntKind} {n : Int} {l : Bool} (h : LVR β x v) (hx : asI x = some (k, n, l)) : v = .int k n := by
  unfold asI at hx
  split at hx <;> simp at hx <;> obtain ⟨rfl, rfl, rfl⟩ := hx <;> exact h

def asB : LV → Option Bool
  | .a (.c .tt) => some true
  | .a (.c .ff) => some false
  | .a (.c (.bool b)) => some b
  | _ => none

theorem asB_sound {β : List Nat} {x : LV} {v : Value} {b : Bool} (h : LVR β x v) (hx : asB x = some b) : v = .bool b := by
  unfold asB at hx
  split at hx <;> simp at hx <;> subst hx <;> exact h

def mkI (k : IntKind) (n : Int) (l : Bool) : LV := if l then .a (.c (.lit k n)) else .a (.c (.int k n))
theorem mkI_sound (β : List Nat) (k : IntKind) (n : Int) (l : Bool) : LVR β (mkI k n l) (.int k n) := by
  unfold mkI; split <;> rfl
def mkB (b : Bool) (l : Bool) : LV := if l then (if b then .a (.c .tt) else .a (.c .ff)) else .a (.c (.bool b))
theorem mkB_sound (β : List Nat) (b : Bool) (l : Bool) : LVR β (mkB b l) (.bool b) := by
  unfold mkB; cases l <;> cases b <;> rfl

/-- A number that may leave its kind: known ones are wrapped; else, where o is set and the kind is i64, it is asked to fit; else the wrap stays. -/
def wrapN (o : Bool) (k : IntKind) (e : Int) (l : Bool) : Prop × LV :=
  if l then (True, .a (.c (.lit k (k.wrap e))))
  else if o && decide (k = .i64) then (-9223372036854775808 ≤ e ∧ e ≤ 9223372036854775807, .a (.c (.int k e)))
  else (True, .a (.c (.int k (k.wrap e))))

theorem wrap_i64 {e : Int} (h : -9223372036854775808 ≤ e ∧ e ≤ 9223372036854775807) : IntKind.i64.wrap e = e := IntWalk.i64_in e h

theorem wrapN_sound (β : List Nat) (o : Bool) (k : IntKind) (e : Int) (l : Bool) (h : (wrapN o k e l).1) : LVR β (wrapN o k e l).2 (.int k (k.wrap e)) := by
  unfold wrapN at *
  cases l with
  | true => rfl
  | false =>
    simp only [Bool.false_eq_true, if_false] at h ⊢
    by_cases hk : (o && decide (k = .i64)) = true
    · rw [if_pos hk] at h ⊢
      simp only [Bool.and_eq_true, decide_eq_true_eq] at hk
      obtain ⟨_, rfl⟩ := hk
      rw [wrap_i64 h]; rfl
    · rw [if_neg hk]; rfl



def getB : List Blk → Nat → Blk
  | [], _ => .dead
  | x :: _, 0 => x
  | _ :: xs, n + 1 => getB xs n

theorem getB_some : ∀ {H : List Blk} {i : Nat} {own : Bool} {t : TypeId} {cs : List Cel}, getB H i = .cells own t cs → H[i]? = some (.cells own t cs)
  | [], _, _, _, _, h => by simp [getB] at h
  | x :: xs, 0, _, _, _, h => by simpa [getB] using h
  | x :: xs, n + 1, _, _, _, h => by simpa using getB_some (H := xs) h

theorem HR.get {n0 : Nat} {w0 : Base} {w : World} {β : List Nat} {H : List Blk} (h : HR n0 w0 β H w) {i : Nat} {own : Bool} {t : TypeId} {cs : List Cel} (hb : getB H i = .cells own t cs) :
    ∃ b arr, β[i]? = some b ∧ (0 < arr.size → (own = true → n0 ≤ b) ∧ w.heap[b]? = some (.cells arr t (0, 0))) ∧ CelsR β cs arr.toList := by
  have h1 := getB_some hb
  have hi : i < β.length := by rw [h.len]; exact (List.getElem?_eq_some_iff.1 h1).1
  have hb' : β[i]? = some β[i] := List.getElem?_eq_getElem hi
  obtain ⟨arr, ha, hc⟩ := h.blk i _ _ h1 hb'
  exact ⟨_, arr, hb', hc, ha⟩

theorem cell_at {w : World} {b : Nat} {arr : Array Value} {t : TypeId} {fr : Nat × Nat} (h : w.heap[b]? = some (.cells arr t fr)) (off : Nat) : w.cell? ⟨b, off, none⟩ = arr[off]? := by
  simp [World.cell?, h]

theorem addr_add (b off j : Nat) : (⟨b, off, none⟩ : Addr).add j = ⟨b, off + j, none⟩ := by
  unfold Addr.add; split <;> simp_all

section
variable {P : Program} {T : Tab} (hT : TabOk P T)
include hT

theorem run_sizeOf {t : TypeId} {ti : TI} (h : look T t = some ti) (w : World) : (sizeOf t).run P w = .ok ti.size w := by
  obtain ⟨⟨inf, h1, h2, _⟩, _⟩ := hT.look h
  simp [sizeOf, typeInfo, h1, h2]

theorem run_isAgg {t : TypeId} {ti : TI} {b : Bool} (h : look T t = some ti) (hb : ti.d.agg? = some b) (w : World) : (isAgg t).run P w = .ok b w := by
  obtain ⟨_, h2⟩ := hT.look h
  cases hd : ti.d <;> rw [hd] at h2 hb <;> simp only [TD.agg?, Option.some.injEq, reduceCtorEq] at hb <;> subst hb <;> simp only at h2 <;>
    first
      | (simp [isAgg, underlying, h2]; done)
      | (obtain ⟨e, h2⟩ := h2; simp [isAgg, underlying, h2]; done)
      | (obtain ⟨e, h2, _⟩ := h2; simp [isAgg, underlying, h2]; done)
      | (obtain ⟨_, _, _, h2⟩ := h2; simp [isAgg, underlying, h2]; done)
      | (obtain ⟨u, h2, h3, h4⟩ := h2; cases u <;> first | (simp [isAgg, underlying, h2]; done) | exact absurd rfl (h3 _) | exact absurd rfl (h4 _ _))

theorem run_load_scalar {t : TypeId} {ti : TI} (h : look T t = some ti) (hb : ti.d.agg? = some false) {w : World} {b off : Nat} {arr : Array Value} {e : TypeId} {v : Value}
    (hh : 0 < arr.size → w.heap[b]? = some (.cells arr e (0, 0))) (hv : arr[off]? = some v) : (loadVar t ⟨b, off, none⟩).run P w = .ok v w := by
  have hh := hh (by have := (Array.getElem?_eq_some_iff.1 hv).1; omega)
  simp [loadVar, run_isAgg hT h hb, cell_at hh, hv]

theorem run_load_agg {t : TypeId} {ti : TI} (h : look T t = some ti) (hb : ti.d.agg? = some true) {w : World} {b off : Nat} {arr : Array Value} {e : TypeId}
    (hh : 0 < arr.size → w.heap[b]? = some (.cells arr e (0, 0))) (hz : ti.size ≠ 0) (hv : off + ti.size ≤ arr.size) : (loadVar t ⟨b, off, none⟩).run P w = .ok (.agg ((arr.toList.drop off).take ti.size).toArray) w := by
  have hh := hh (by omega)
  have hl : ((arr.toList.drop off).take ti.size).length = ti.size := by simp; omega
  have := run_loadCells_list (P := P) w ⟨b, off, none⟩ ((arr.toList.drop off).take ti.size) (fun j v hj => by
    rw [addr_add, cell_at hh, ← Array.getElem?_toList]
    have hjl : j < ti.size := by have := (List.getElem?_eq_some_iff.1 hj).1; omega
    rw [List.getElem?_take_of_lt hjl, List.getElem?_drop] at hj
    exact hj)
  rw [hl] at this
  simp [loadVar, run_isAgg hT h hb, run_sizeOf hT h, this]

end

/-- What is read at a known place of a block. -/
def loadC (cs : List Cel) (ti : TI) (off : Nat) : Option LV :=
  match ti.d.agg? with
  | some true => if ti.size = 0 then none else (takeC cs off ti.size).map fun l => .a (.agg l)
  | some false => (cellAt cs off).map fun c => .a (.c c)
  | none => none

/-- What is read at a computed place of a run. -/
def loadR (ks : List EK) (n : Nat) (l : List Int) (ti : TI) (i : Int) (s fo : Nat) : Option (Prop × LV) :=
  match ti.d.agg? with
  | some false =>
    if s = 1 ∧ fo = 0 then (if ks.length = 1 then some (0 ≤ i ∧ i.toNat < n, .a (.c ((ks.getD 0 .i64).cel (l.getD i.toNat 0)))) else none)
    else if s % ks.length = 0 then some (0 ≤ i ∧ i.toNat * s + fo < n, .a (.c ((ks.getD (fo % ks.length) .i64).cel (l.getD (i.toNat * s + fo) 0)))) else none
  | some true =>
    if ti.size = 0 then none
    else if s % ks.length = 0 ∧ fo % ks.length = 0 then some (0 ≤ i ∧ i.toNat * s + fo + ti.size ≤ n, .a (.agg [.run ks ti.size ((l.drop (i.toNat * s + fo)).take ti.size)])) else none
  | none => none

def evLoad (T : Tab) (H : List Blk) (t : TypeId) (x : LV) : Option (Prop × LV) :=
  match look T t with
  | none => none
  | some ti =>
    match x with
    | .a (.c (.ptr id off)) => match getB H id with
      | .cells _ _ cs => (loadC cs ti off).map fun v => (True, v)
      | _ => none
    | .a (.c (.pti id base i s fo)) => match getB H id with
      | .cells _ _ cs => match runAt cs base with
        | some (ks, n, l) => loadR ks n l ti i s fo
        | none => (loadC cs ti (base + i.toNat * s + fo)).map fun v => (True, v)
      | .wnd b0 ks n l => (loadR ks n l ti i s fo).map fun (p, v) => (base = b0 ∧ p, v)
      | _ => none
    | .a (.c (.val (.pointer (some ⟨g, 0, none⟩)))) => match ti.d.agg?, T.gv g with
      | some false, some v => some (True, .a (.c (.val v)))
      | _, _ => none
    | _ => none

/-- What the package-level variables hold that are listed. -/
def GOk (T : Tab) (w0 : Base) : Prop := ∀ (g : Nat) (v : Value), T.gv g = some v → ∀ u, w0.X u → ∃ (t : TypeId) (fr : Nat × Nat) (cs : Array Value), u.heap[g]? = some (.cells cs t fr) ∧ cs[0]? = some v ∧ (T.fz g = true → fr = (0, 0)) ∧ ∀ l, T.tx g = some l → cs.toList = l

theorem loadC_sound {P : Program} {T : Tab} (hT : TabOk P T) {w : World} {β : List Nat} {t : TypeId} {ti : TI} (hti : look T t = some ti) {b off : Nat} {arr : Array Value} {te : TypeId} {cs : List Cel} (hh : 0 < arr.size → w.heap[b]? = some (.cells arr te (0, 0))) (hc : CelsR β cs arr.toList) {v : LV} (hv : loadC cs ti off = some v) :
    ∃ u, (Instr.loadAt t (.pointer (some ⟨b, off, none⟩))).run P w = .ok u w ∧ LVR β v u := by
  unfold loadC at hv
  split at hv
  · rename_i ha
    split at hv
    · simp at hv
    rename_i hz
    obtain ⟨l, hl, rfl⟩ := Option.map_eq_some_iff.1 hv
    obtain ⟨g1, g2⟩ := takeC_sound hc hl
    refine ⟨_, ?_, ⟨_, rfl, by simpa using g2⟩⟩
    simp [Instr.loadAt, Instr.sureAddr, run_load_agg hT hti ha hh hz (by rcases g1 with g1 | g1 <;> simp at * <;> omega)]
  · rename_i ha
    obtain ⟨c, hc', rfl⟩ := Option.map_eq_some_iff.1 hv
    obtain ⟨v, hv', hr⟩ := cellAt_sound hc hc'
    refine ⟨v, ?_, hr⟩
    simp [Instr.loadAt, Instr.sureAddr, run_load_scalar hT hti ha hh (by rw [← Array.getElem?_toList]; exact hv')]
  · simp at hv

theorem getB_wnd {o : Nat} {ks : List EK} {n : Nat} {l : List Int} : ∀ {H : List Blk} {i : Nat}, getB H i = .wnd o ks n l → H[i]? = some (.wnd o ks n l)
  | [], _, h => by simp [getB] at h
  | x :: xs, 0, h => by simpa [getB] using h
  | x :: xs, k + 1, h => by simpa using getB_wnd (H := xs) (by simpa [getB] using h)

theorem HR.getW {n0 : Nat} {w0 : Base} {w : World} {β : List Nat} {H : List Blk} (h : HR n0 w0 β H w) {i o n : Nat} {ks : List EK} {l : List Int} (hb : getB H i = .wnd o ks n l) :
    ∃ b, β[i]? = some b ∧ l.length = n ∧ ∀ j, j < n → w.cell? ⟨b, o + j, none⟩ = some ((ks.getD (j % ks.length) .i64).val (l.getD j 0)) := by
  have h1 := getB_wnd hb
  have hi : i < β.length := by rw [h.len]; exact (List.getElem?_eq_some_iff.1 h1).1
  have hb' : β[i]? = some β[i] := List.getElem?_eq_getElem hi
  exact ⟨_, hb', h.blk i _ _ h1 hb'⟩

theorem run_load_scalarW {P : Program} {T : Tab} (hT : TabOk P T) {t : TypeId} {ti : TI} (h : look T t = some ti) (hb : ti.d.agg? = some false) {w : World} {a : Addr} {v : Value}
    (hv : w.cell? a = some v) : (loadVar t a).run P w = .ok v w := by
  simp [loadVar, run_isAgg hT h hb, hv]

theorem run_load_aggW {P : Program} {T : Tab} (hT : TabOk P T) {t : TypeId} {ti : TI} (h : look T t = some ti) (hb : ti.d.agg? = some true) {w : World} {b off : Nat} {vs : List Value}
    (hl : vs.length = ti.size) (hv : ∀ j v, vs[j]? = some v → w.cell? ⟨b, off + j, none⟩ = some v) : (loadVar t ⟨b, off, none⟩).run P w = .ok (.agg vs.toArray) w := by
  have := run_loadCells_list (P := P) w ⟨b, off, none⟩ vs (fun j v hj => by rw [addr_add]; exact hv j v hj)
  rw [hl] at this
  simp [loadVar, run_isAgg hT h hb, run_sizeOf hT h, this]

theorem loadRW_sound {P : Program} {T : Tab} (hT : TabOk P T) {w : World} {β : List Nat} {t : TypeId} {ti : TI} (hti : look T t = some ti) {b base n : Nat} {ks : List EK} {l : List Int} (hl : l.length = n)
    (hget : ∀ j, j < n → w.cell? ⟨b, base + j, none⟩ = some ((ks.getD (j % ks.length) .i64).val (l.getD j 0))) {i : Int} {s fo : Nat} {p : Prop} {r : LV} (he : loadR ks n l ti i s fo = some (p, r)) (hp : p) :
    ∃ v, (Instr.loadAt t (.pointer (some ⟨b, base + i.toNat * s + fo, none⟩))).run P w = .ok v w ∧ LVR β r v := by
  unfold loadR at he
  split at he
  · rename_i ha
    split at he
    · rename_i hs
      obtain ⟨rfl, rfl⟩ := hs
      split at he
      · rename_i hk
        simp only [Option.some.injEq, Prod.mk.injEq] at he
        obtain ⟨rfl, rfl⟩ := he
        have := hget _ hp.2
        rw [hk, Nat.mod_one] at this
        refine ⟨_, ?_, EK.cel_R _ _ _⟩
        simp only [Instr.loadAt, Instr.sureAddr, Sem.run_bind, Sem.run_pure, Result.andThen_ok]
        rw [run_load_scalarW hT hti ha (by rw [Nat.mul_one, Nat.add_zero]; exact this)]
      · simp at he
    · split at he
      · rename_i hk
        simp only [Option.some.injEq, Prod.mk.injEq] at he
        obtain ⟨rfl, rfl⟩ := he
        have := hget _ hp.2
        rw [Nat.add_mod, Nat.mul_mod, hk, Nat.mul_zero, Nat.zero_mod, Nat.zero_add, Nat.mod_mod] at this
        refine ⟨_, ?_, EK.cel_R _ _ _⟩
        simp only [Instr.loadAt, Instr.sureAddr, Sem.run_bind, Sem.run_pure, Result.andThen_ok]
        rw [run_load_scalarW hT hti ha (by rw [Nat.add_assoc]; exact this)]
      · simp at he
  · rename_i ha
    split at he
    · simp at he
    split at he
    · rename_i hz hk
      simp only [Option.some.injEq, Prod.mk.injEq] at he
      obtain ⟨rfl, rfl⟩ := he
      have hk0 : (i.toNat * s + fo) % ks.length = 0 := by rw [Nat.add_mod, Nat.mul_mod, hk.1, hk.2, Nat.mul_zero, Nat.zero_mod, Nat.add_zero, Nat.zero_mod]
      have hlen : ((l.drop (i.toNat * s + fo)).take ti.size).length = ti.size := by have := hp.2; simp; omega
      refine ⟨.agg (runV ks ((l.drop (i.toNat * s + fo)).take ti.size)).toArray, ?_, ⟨_, rfl, runV ks ((l.drop (i.toNat * s + fo)).take ti.size), [], by simp, ⟨hlen, rfl⟩, rfl⟩⟩
      simp only [Instr.loadAt, Instr.sureAddr, Sem.run_bind, Sem.run_pure, Result.andThen_ok]
      rw [run_load_aggW hT hti ha (vs := runV ks ((l.drop (i.toNat * s + fo)).take ti.size)) (by rw [← hlen]; simp [runV])]
      intro j v hv
      have hj : j < ti.size := by have := (List.getElem?_eq_some_iff.1 hv).1; simpa [runV, hlen] using this
      rw [runV_get _ _ _ (by omega)] at hv
      have := hget (i.toNat * s + fo + j) (by have := hp.2; omega)
      rw [show base + i.toNat * s + fo + j = base + (i.toNat * s + fo + j) by omega, this, ← hv]
      have e1 : (i.toNat * s + fo + j) % ks.length = j % ks.length := by rw [Nat.add_mod, hk0, Nat.zero_add, Nat.mod_mod]
      have e2 : ((l.drop (i.toNat * s + fo)).take ti.size).getD j 0 = l.getD (i.toNat * s + fo + j) 0 := by
        rw [List.getD_eq_getElem?_getD, List.getD_eq_getElem?_getD, List.getElem?_take_of_lt hj, List.getElem?_drop]
      rw [e1, e2]
    · simp at he
  · simp at he

theorem evLoad_sound {P : Program} {T : Tab} (hT : TabOk P T) {n0 : Nat} {w0 : Base} (hG : GOk T w0) {w : World} {β : List Nat} {H : List Blk} (hH : HR n0 w0 β H w) {t : TypeId} {x : LV} {xv : Value} {p : Prop} {r : LV}
    (hx : LVR β x xv) (he : evLoad T H t x = some (p, r)) (hp : p) : ∃ v, (Instr.loadAt t xv).run P w = .ok v w ∧ LVR β r v := by
  unfold evLoad at he
  split at he
  · simp at he
  rename_i ti hti
  split at he
  · rename_i id off
    obtain ⟨b, hb, rfl⟩ := hx
    split at he
    · rename_i own te cs hg
      obtain ⟨b', arr, hb', hh0, hc⟩ := hH.get hg
      have hh := fun h => (hh0 h).2
      rw [hb] at hb'; simp only [Option.some.injEq] at hb'; subst hb'
      obtain ⟨v, hv, he⟩ := Option.map_eq_some_iff.1 he
      simp only [Prod.mk.injEq] at he
      obtain ⟨_, rfl⟩ := he
      unfold loadC at hv
      split at hv
      · rename_i ha
        split at hv
        · simp at hv
        rename_i hz
        obtain ⟨l, hl, rfl⟩ := Option.map_eq_some_iff.1 hv
        obtain ⟨g1, g2⟩ := takeC_sound hc hl
        refine ⟨_, ?_, ⟨_, rfl, by simpa using g2⟩⟩
        simp [Instr.loadAt, Instr.sureAddr, run_load_agg hT hti ha hh hz (by rcases g1 with g1 | g1 <;> simp at * <;> omega)]
      · rename_i ha
        obtain ⟨c, hc', rfl⟩ := Option.map_eq_some_iff.1 hv
        obtain ⟨v, hv', hr⟩ := cellAt_sound hc hc'
        refine ⟨v, ?_, hr⟩
        simp [Instr.loadAt, Instr.sureAddr, run_load_scalar hT hti ha hh (by rw [← Array.getElem?_toList]; exact hv')]
      · simp at hv
    · simp at he
  · rename_i id base i s fo
    obtain ⟨b, hb, rfl⟩ := hx
    split at he
    · rename_i own te cs hg
      obtain ⟨b', arr, hb', hh0, hc⟩ := hH.get hg
      have hh := fun h => (hh0 h).2
      rw [hb] at hb'; simp only [Option.some.injEq] at hb'; subst hb'
      split at he
      · rename_i ks n l hr
        obtain ⟨hl, hget⟩ := runAt_sound hc hr
        unfold loadR at he
        split at he
        · rename_i ha
          split at he
          · rename_i hs
            obtain ⟨rfl, rfl⟩ := hs
            split at he
            · rename_i hk
              simp only [Option.some.injEq, Prod.mk.injEq] at he
              obtain ⟨rfl, rfl⟩ := he
              have := hget _ hp.2
              rw [hk, Nat.mod_one] at this
              refine ⟨_, ?_, EK.cel_R _ _ _⟩
              simp only [Instr.loadAt, Instr.sureAddr, Sem.run_bind, Sem.run_pure, Result.andThen_ok]
              rw [run_load_scalar hT hti ha hh (by rw [← Array.getElem?_toList, Nat.mul_one, Nat.add_zero]; exact this)]
            · simp at he
          · split at he
            · rename_i hk
              simp only [Option.some.injEq, Prod.mk.injEq] at he
              obtain ⟨rfl, rfl⟩ := he
              have := hget _ hp.2
              rw [Nat.add_mod, Nat.mul_mod, hk, Nat.mul_zero, Nat.zero_mod, Nat.zero_add, Nat.mod_mod] at this
              refine ⟨_, ?_, EK.cel_R _ _ _⟩
              simp only [Instr.loadAt, Instr.sureAddr, Sem.run_bind, Sem.run_pure, Result.andThen_ok]
              rw [run_load_scalar hT hti ha hh (by rw [← Array.getElem?_toList, Nat.add_assoc]; exact this)]
            · simp at he
        · rename_i ha
          split at he
          · simp at he
          split at he
          · rename_i hz hk
            simp only [Option.some.injEq, Prod.mk.injEq] at he
            obtain ⟨rfl, rfl⟩ := he
            have hsz : base + n ≤ arr.toList.length := by
              rcases Nat.eq_zero_or_pos n with h0 | h0
              · omega
              · have := hget (n - 1) (by omega)
                have := (List.getElem?_eq_some_iff.1 this).1
                omega
            have hk0 : (i.toNat * s + fo) % ks.length = 0 := by rw [Nat.add_mod, Nat.mul_mod, hk.1, hk.2, Nat.mul_zero, Nat.zero_mod, Nat.add_zero, Nat.zero_mod]
            refine ⟨_, by
              simp only [Instr.loadAt, Instr.sureAddr, Sem.run_bind, Sem.run_pure, Result.andThen_ok]
              rw [run_load_agg hT hti ha hh hz (by have := hp.2; simp at hsz; omega)], ⟨_, rfl, runV ks ((l.drop (i.toNat * s + fo)).take ti.size), [], ?_, ⟨?_, rfl⟩, rfl⟩⟩
            · simp only [List.append_nil]
              rw [← runV_take _ _ _ (by have := hp.2; simp; omega), ← runV_drop _ _ _ hk0]
              apply List.ext_getElem?
              intro j
              by_cases hj : j < ti.size
              · rw [List.getElem?_take_of_lt hj, List.getElem?_take_of_lt hj, List.getElem?_drop, List.getElem?_drop,
                  show base + i.toNat * s + fo + j = base + (i.toNat * s + fo + j) by omega, hget _ (by have := hp.2; omega), runV_get _ _ _ (by have := hp.2; omega)]
              · rw [List.getElem?_eq_none (by simp; omega), List.getElem?_eq_none (by simp; omega)]
            · have := hp.2; simp; omega
          · simp at he
        · simp at he
      · obtain ⟨v, hv, he⟩ := Option.map_eq_some_iff.1 he
        simp only [Prod.mk.injEq] at he
        obtain ⟨_, rfl⟩ := he
        exact loadC_sound hT hti hh hc hv
    · rename_i b0 ks n l hg
      obtain ⟨⟨q, v⟩, hq, he⟩ := Option.map_eq_some_iff.1 he
      simp only [Prod.mk.injEq] at he
      obtain ⟨rfl, rfl⟩ := he
      obtain ⟨rfl, hp⟩ := hp
      obtain ⟨b', hb', hl, hget⟩ := hH.getW hg
      rw [hb] at hb'; simp only [Option.some.injEq] at hb'; subst hb'
      exact loadRW_sound hT hti hl hget hq hp
    · simp at he
  · rename_i g
    split at he
    · rename_i v ha hg
      simp only [Option.some.injEq, Prod.mk.injEq] at he
      obtain ⟨_, rfl⟩ := he
      have hx : xv = .pointer (some ⟨g, 0, none⟩) := hx
      subst hx
      obtain ⟨te, fr, cs0, hh, hc0, _⟩ := hG g v hg w hH.ext
      refine ⟨v, ?_, rfl⟩
      simp only [Instr.loadAt, Instr.sureAddr, Sem.run_bind, Sem.run_pure, Result.andThen_ok]
      rw [run_load_scalarW hT hti ha (v := v) (by rw [cell_at hh]; exact hc0)]
    · simp at he
  · simp at he

theorem loadC_cell {w : World} {β : List Nat} {ti : TI} (ha : ti.d.agg? = some false) {b off : Nat} {arr : Array Value} {te : TypeId} {cs : List Cel} (hh : 0 < arr.size → w.heap[b]? = some (.cells arr te (0, 0))) (hc : CelsR β cs arr.toList) {v : LV} (hv : loadC cs ti off = some v) :
    ∃ z, w.cell? ⟨b, off, none⟩ = some z := by
  unfold loadC at hv
  rw [ha] at hv
  simp only at hv
  obtain ⟨c, hc', rfl⟩ := Option.map_eq_some_iff.1 hv
  obtain ⟨v, hv', _⟩ := cellAt_sound hc hc'
  rw [Array.getElem?_toList] at hv'
  have hz : 0 < arr.size := by have := (Array.getElem?_eq_some_iff.1 hv').1; omega
  exact ⟨v, by rw [cell_at (hh hz)]; exact hv'⟩

theorem loadR_cell {w : World} {b base n : Nat} {ks : List EK} {l : List Int} {ti : TI} (ha : ti.d.agg? = some false) (hget : ∀ j, j < n → ∃ z, w.cell? ⟨b, base + j, none⟩ = some z) {i : Int} {s fo : Nat} {p : Prop} {r : LV} (he : loadR ks n l ti i s fo = some (p, r)) (hp : p) :
    ∃ z, w.cell? ⟨b, base + i.toNat * s + fo, none⟩ = some z := by
  unfold loadR at he
  rw [ha] at he
  simp only at he
  split at he
  · rename_i hs
    obtain ⟨rfl, rfl⟩ := hs
    split at he
    · simp only [Option.some.injEq, Prod.mk.injEq] at he
      obtain ⟨rfl, rfl⟩ := he
      obtain ⟨z, hz⟩ := hget _ hp.2
      exact ⟨z, by rw [Nat.mul_one, Nat.add_zero]; exact hz⟩
    · simp at he
  · split at he
    · simp only [Option.some.injEq, Prod.mk.injEq] at he
      obtain ⟨rfl, rfl⟩ := he
      obtain ⟨z, hz⟩ := hget _ hp.2
      exact ⟨z, by rw [Nat.add_assoc]; exact hz⟩
    · simp at he

theorem evLoad_cell {T : Tab} {n0 : Nat} {w0 : Base} (hG : GOk T w0) {w : World} {β : List Nat} {H : List Blk} (hH : HR n0 w0 β H w) {t : TypeId} {ti : TI} (hti : look T t = some ti) (ha : ti.d.agg? = some false) {x : LV} {xv : Value} {p : Prop} {r : LV}
    (hx : LVR β x xv) (he : evLoad T H t x = some (p, r)) (hp : p) : ∃ ad z, xv = .pointer (some ad) ∧ w.cell? ad = some z := by
  unfold evLoad at he
  rw [hti] at he
  simp only at he
  split at he
  · rename_i id off
    obtain ⟨b, hb, rfl⟩ := hx
    split at he
    · rename_i own te cs hg
      obtain ⟨b', arr, hb', hh0, hc⟩ := hH.get hg
      rw [hb] at hb'; simp only [Option.some.injEq] at hb'; subst hb'
      obtain ⟨v, hv, _⟩ := Option.map_eq_some_iff.1 he
      obtain ⟨z, hz⟩ := loadC_cell ha (fun h => (hh0 h).2) hc hv
      exact ⟨_, z, rfl, hz⟩
    · simp at he
  · rename_i id base i s fo
    obtain ⟨b, hb, rfl⟩ := hx
    split at he
    · rename_i own te cs hg
      obtain ⟨b', arr, hb', hh0, hc⟩ := hH.get hg
      rw [hb] at hb'; simp only [Option.some.injEq] at hb'; subst hb'
      split at he
      · rename_i ks n l hr
        obtain ⟨hl, hget⟩ := runAt_sound hc hr
        obtain ⟨z, hz⟩ := loadR_cell (w := w) (b := b) (base := base) ha (fun j hj => by
          have h1 := hget j hj
          rw [Array.getElem?_toList] at h1
          have hz : 0 < arr.size := by have := (Array.getElem?_eq_some_iff.1 h1).1; omega
          exact ⟨_, by rw [cell_at (hh0 hz).2]; exact h1⟩) he hp
        exact ⟨_, z, rfl, hz⟩
      · obtain ⟨v, hv, _⟩ := Option.map_eq_some_iff.1 he
        obtain ⟨z, hz⟩ := loadC_cell ha (fun h => (hh0 h).2) hc hv
        exact ⟨_, z, rfl, hz⟩
    · rename_i b0 ks n l hg
      obtain ⟨⟨q, v⟩, hq, he⟩ := Option.map_eq_some_iff.1 he
      simp only [Prod.mk.injEq] at he
      obtain ⟨rfl, rfl⟩ := he
      obtain ⟨rfl, hp⟩ := hp
      obtain ⟨b', hb', hl, hget⟩ := hH.getW hg
      rw [hb] at hb'; simp only [Option.some.injEq] at hb'; subst hb'
      obtain ⟨z, hz⟩ := loadR_cell (w := w) (b := b) (base := base) ha (fun j hj => ⟨_, hget j hj⟩) hq hp
      exact ⟨_, z, rfl, hz⟩
    · simp at he
  · rename_i g
    split at he
    · rename_i v _ hg
      have hx : xv = .pointer (some ⟨g, 0, none⟩) := hx
      obtain ⟨te, fr, cs0, hh, hc0, _⟩ := hG g v hg w hH.ext
      exact ⟨_, v, hx, by rw [cell_at hh]; exact hc0⟩
    · simp at he
  · simp at he

theorem loadC_cells {w : World} {β : List Nat} {ti : TI} (ha : ti.d.agg? = some true) {b off : Nat} {arr : Array Value} {te : TypeId} {cs : List Cel} (hh : 0 < arr.size → w.heap[b]? = some (.cells arr te (0, 0))) (hc : CelsR β cs arr.toList) {v : LV} (hv : loadC cs ti off = some v) :
    ∃ vs : List Value, vs.length = ti.size ∧ ∀ (j : Nat) (z : Value), vs[j]? = some z → w.cell? ⟨b, off + j, none⟩ = some z := by
  unfold loadC at hv
  rw [ha] at hv
  simp only at hv
  split at hv
  · simp at hv
  rename_i hz
  obtain ⟨l, hl, _⟩ := Option.map_eq_some_iff.1 hv
  obtain ⟨g1, _⟩ := takeC_sound hc hl
  have g1 : off + ti.size ≤ arr.toList.length := by rcases g1 with g1 | g1; exact absurd g1 hz; exact g1
  refine ⟨(arr.toList.drop off).take ti.size, by rw [List.length_take, List.length_drop]; omega, fun j z hj => ?_⟩
  have hj' : j < ti.size := by have := (List.getElem?_eq_some_iff.1 hj).1; rw [List.length_take] at this; omega
  rw [List.getElem?_take_of_lt hj', List.getElem?_drop] at hj
  rw [cell_at (hh (by simp at g1; omega)), ← Array.getElem?_toList]
  exact hj

theorem loadR_cells {w : World} {b base n : Nat} {ks : List EK} {l : List Int} {ti : TI} (ha : ti.d.agg? = some true) (hget : ∀ j, j < n → ∃ z, w.cell? ⟨b, base + j, none⟩ = some z) {i : Int} {s fo : Nat} {p : Prop} {r : LV} (he : loadR ks n l ti i s fo = some (p, r)) (hp : p) :
    ∃ vs : List Value, vs.length = ti.size ∧ ∀ (j : Nat) (z : Value), vs[j]? = some z → w.cell? ⟨b, base + i.toNat * s + fo + j, none⟩ = some z := by
  unfold loadR at he
  rw [ha] at he
  simp only at he
  split at he
  · simp at he
  split at he
  · simp only [Option.some.injEq, Prod.mk.injEq] at he
    obtain ⟨rfl, rfl⟩ := he
    refine ⟨(List.range ti.size).map fun j => (w.cell? ⟨b, base + i.toNat * s + fo + j, none⟩).getD undef, by simp, fun j z hj => ?_⟩
    have hj' : j < ti.size := by have := (List.getElem?_eq_some_iff.1 hj).1; simpa using this
    rw [List.getElem?_map, List.getElem?_range hj'] at hj
    simp only [Option.map_some, Option.some.injEq] at hj
    obtain ⟨z', hz'⟩ := hget (i.toNat * s + fo + j) (by have := hp.2; omega)
    have e : base + i.toNat * s + fo + j = base + (i.toNat * s + fo + j) := by omega
    rw [e] at hj ⊢
    rw [hz'] at hj ⊢
    simpa using hj
  · simp at he

theorem evLoad_cells {T : Tab} {n0 : Nat} {w0 : Base} {w : World} {β : List Nat} {H : List Blk} (hH : HR n0 w0 β H w) {t : TypeId} {ti : TI} (hti : look T t = some ti) (ha : ti.d.agg? = some true) {x : LV} {xv : Value} {p : Prop} {r : LV}
    (hx : LVR β x xv) (he : evLoad T H t x = some (p, r)) (hp : p) : ∃ (b off : Nat) (vs : List Value), xv = .pointer (some ⟨b, off, none⟩) ∧ vs.length = ti.size ∧ ∀ (j : Nat) (z : Value), vs[j]? = some z → w.cell? ⟨b, off + j, none⟩ = some z := by
  unfold evLoad at he
  rw [hti] at he
  simp only at he
  split at he
  · rename_i id off
    obtain ⟨b, hb, rfl⟩ := hx
    split at he
    · rename_i own te cs hg
      obtain ⟨b', arr, hb', hh0, hc⟩ := hH.get hg
      rw [hb] at hb'; simp only [Option.some.injEq] at hb'; subst hb'
      obtain ⟨v, hv, _⟩ := Option.map_eq_some_iff.1 he
      obtain ⟨vs, h1, h2⟩ := loadC_cells ha (fun h => (hh0 h).2) hc hv
      exact ⟨_, _, vs, rfl, h1, h2⟩
    · simp at he
  · rename_i id base i s fo
    obtain ⟨b, hb, rfl⟩ := hx
    split at he
    · rename_i own te cs hg
      obtain ⟨b', arr, hb', hh0, hc⟩ := hH.get hg
      rw [hb] at hb'; simp only [Option.some.injEq] at hb'; subst hb'
      split at he
      · rename_i ks n l hr
        obtain ⟨hl, hget⟩ := runAt_sound hc hr
        obtain ⟨vs, h1, h2⟩ := loadR_cells (w := w) (b := b) (base := base) ha (fun j hj => by
          have h1 := hget j hj
          rw [Array.getElem?_toList] at h1
          have hz : 0 < arr.size := by have := (Array.getElem?_eq_some_iff.1 h1).1; omega
          exact ⟨_, by rw [cell_at (hh0 hz).2]; exact h1⟩) he hp
        exact ⟨_, _, vs, rfl, h1, h2⟩
      · obtain ⟨v, hv, _⟩ := Option.map_eq_some_iff.1 he
        obtain ⟨vs, h1, h2⟩ := loadC_cells ha (fun h => (hh0 h).2) hc hv
        exact ⟨_, _, vs, rfl, h1, h2⟩
    · rename_i b0 ks n l hg
      obtain ⟨⟨q, v⟩, hq, he⟩ := Option.map_eq_some_iff.1 he
      simp only [Prod.mk.injEq] at he
      obtain ⟨rfl, rfl⟩ := he
      obtain ⟨rfl, hp⟩ := hp
      obtain ⟨b', hb', hl, hget⟩ := hH.getW hg
      rw [hb] at hb'; simp only [Option.some.injEq] at hb'; subst hb'
      obtain ⟨vs, h1, h2⟩ := loadR_cells (w := w) (b := b) (base := base) ha (fun j hj => ⟨_, hget j hj⟩) hq hp
      exact ⟨_, _, vs, rfl, h1, h2⟩
    · simp at he
  · rename_i g
    rw [ha] at he
    simp at he
  · simp at he

/-- An arithmetic operation or a comparison. -/
def evBin (o : Bool) (op : BinOp) (x y : LV) : Option (Prop × LV) :=
  match asI x, asI y with
  | some (k, a, la), some (k', b, lb) =>
    if k = k' then
      match op with
      | .add => some (wrapN o k (a + b) (la && lb))
      | .sub => some (wrapN o k (a - b) (la && lb))
      | .mul => some (wrapN o k (a * b) (la && lb))
      | .quo => some (b ≠ 0 ∧ (wrapN o k (a.tdiv b) (la && lb)).1, (wrapN o k (a.tdiv b) (la && lb)).2)
      | .rem => some (b ≠ 0, mkI k (a.tmod b) (la && lb))
      | .eql => some (True, mkB (a == b) (la && lb))
      | .neq => some (True, mkB (a != b) (la && lb))
      | .lss => some (True, mkB (decide (a < b)) (la && lb))
      | .leq => some (True, mkB (decide (a ≤ b)) (la && lb))
      | .gtr => some (True, mkB (decide (b < a)) (la && lb))
      | .geq => some (True, mkB (decide (b ≤ a)) (la && lb))
      | _ => none
    else none
  | _, _ => match x, y with
    | .a (.c (.str s)), .a (.c (.str s')) => match op with
      | .eql => some (True, .a (.c (.bool (s.toList == s'.toList))))
      | .neq => some (True, .a (.c (.bool (!(s.toList == s'.toList)))))
      | _ => none
    | _, _ => none

theorem evBin_sound {P : Program} {β : List Nat} {o : Bool} {op : BinOp} {t : TypeId} {x y : LV} {xv yv : Value} {xo yo : Operand} {p : Prop} {r : LV} (w : World)
    (hx : LVR β x xv) (hy : LVR β y yv) (he : evBin o op x y = some (p, r)) (hp : p) :
    ∃ v, (do eqGuard op t xo yo xv yv; binOp op t xv yv : Sem Value).run P w = .ok v w ∧ LVR β r v := by
  unfold evBin at he
  split at he
  · rename_i k a la k' b lb hax hay
    have e1 := asI_sound hx hax
    have e2 := asI_sound hy hay
    subst e1; subst e2
    split at he
    · rename_i hk
      subst hk
      have hg : (eqGuard op t xo yo (.int k a) (.int k b)).run P w = .ok () w := by
        unfold eqGuard
        split <;> simp
      simp only [Sem.run_bind, hg, Result.andThen_ok]
      split at he <;> simp only [Option.some.injEq, Prod.mk.injEq, reduceCtorEq] at he
      · refine ⟨_, by simp [binOp, Op.intArith]; rfl, ?_⟩
        have e2 : r = (wrapN o k (a + b) (la && lb)).2 := by rw [he]
        rw [e2]; exact wrapN_sound β o k (a + b) _ (by rw [he]; exact hp)
      · refine ⟨_, by simp [binOp, Op.intArith]; rfl, ?_⟩
        have e2 : r = (wrapN o k (a - b) (la && lb)).2 := by rw [he]
        rw [e2]; exact wrapN_sound β o k (a - b) _ (by rw [he]; exact hp)
      · refine ⟨_, by simp [binOp, Op.intArith]; rfl, ?_⟩
        have e2 : r = (wrapN o k (a * b) (la && lb)).2 := by rw [he]
        rw [e2]; exact wrapN_sound β o k (a * b) _ (by rw [he]; exact hp)
      · obtain ⟨rfl, rfl⟩ := he
        refine ⟨_, by simp [binOp, Op.intDiv, hp.1], wrapN_sound β o k (a.tdiv b) _ hp.2⟩
      · obtain ⟨rfl, rfl⟩ := he
        refine ⟨_, by simp [binOp, Op.intDiv, hp], mkI_sound β k _ _⟩
      · obtain ⟨_, rfl⟩ := he
        exact ⟨_, by simp [binOp, Op.intCmp], mkB_sound β _ _⟩
      · obtain ⟨_, rfl⟩ := he
        exact ⟨_, by simp [binOp, Op.intCmp], mkB_sound β _ _⟩
      · obtain ⟨_, rfl⟩ := he
        exact ⟨_, by simp [binOp, Op.intCmp], mkB_sound β _ _⟩
      · obtain ⟨_, rfl⟩ := he
        exact ⟨_, by simp [binOp, Op.intCmp], mkB_sound β _ _⟩
      · obtain ⟨_, rfl⟩ := he
        exact ⟨_, by simp [binOp, Op.intCmp], mkB_sound β _ _⟩
      · obtain ⟨_, rfl⟩ := he
        exact ⟨_, by simp [binOp, Op.intCmp], mkB_sound β _ _⟩
    · simp at he
  · split at he
    · rename_i s s' _
      have e1 : xv = .string s := hx
      have e2 : yv = .string s' := hy
      subst e1; subst e2
      have hg : (eqGuard op t xo yo (.string s) (.string s')).run P w = .ok () w := by
        unfold eqGuard
        split <;> simp
      simp only [Sem.run_bind, hg, Result.andThen_ok]
      split at he <;> simp only [Option.some.injEq, Prod.mk.injEq, reduceCtorEq] at he
      · obtain ⟨_, rfl⟩ := he
        exact ⟨_, by simp [binOp, Op.stringOp], rfl⟩
      · obtain ⟨_, rfl⟩ := he
        exact ⟨_, by simp [binOp, Op.stringOp], rfl⟩
    · simp at he



theorem part_sound {P : Program} {T : Tab} (hT : TabOk P T) {t : TypeId} {ti : TI} (hti : look T t = some ti) {β : List Nat} {cs : List Cel} {arr : Array Value} (hc : CelsR β cs arr.toList) {off : Nat} {r : LV}
    (h : loadC cs ti off = some r) (w : World) : ∃ v, (part t arr off).run P w = .ok v w ∧ LVR β r v := by
  unfold loadC at h
  split at h
  · rename_i ha
    split at h
    · simp at h
    obtain ⟨l, hl, rfl⟩ := Option.map_eq_some_iff.1 h
    obtain ⟨g1, g2⟩ := takeC_sound hc hl
    refine ⟨.agg (arr.extract off (off + ti.size)), ?_, ⟨_, rfl, ?_⟩⟩
    · simp [part, run_isAgg hT hti ha, run_sizeOf hT hti]
    · rw [Array.toList_extract, List.extract_eq_take_drop, show off + ti.size - off = ti.size by omega]; exact g2
  · rename_i ha
    obtain ⟨c, hc', rfl⟩ := Option.map_eq_some_iff.1 h
    obtain ⟨v, hv', hr⟩ := cellAt_sound hc hc'
    refine ⟨v, ?_, hr⟩
    rw [Array.getElem?_toList] at hv'
    simp [part, run_isAgg hT hti ha, hv']
  · simp at h

theorem partR_sound {P : Program} {T : Tab} (hT : TabOk P T) {t : TypeId} {ti : TI} (hti : look T t = some ti) {β : List Nat} {cs : List Cel} {arr : Array Value} (hc : CelsR β cs arr.toList)
    {ks : List EK} {n : Nat} {l : List Int} (hr : runAt cs 0 = some (ks, n, l)) {i : Int} {s : Nat} {p : Prop} {r : LV}
    (h : loadR ks n l ti i s 0 = some (p, r)) (hp : p) (w : World) : ∃ v, (part t arr (i.toNat * s)).run P w = .ok v w ∧ LVR β r v := by
  obtain ⟨hl, hget⟩ := runAt_sound hc hr
  unfold loadR at h
  split at h
  · rename_i ha
    split at h
    · rename_i hs
      obtain ⟨rfl, _⟩ := hs
      split at h
      · rename_i hk
        simp only [Option.some.injEq, Prod.mk.injEq] at h
        obtain ⟨rfl, rfl⟩ := h
        have := hget _ hp.2
        rw [hk, Nat.mod_one, Nat.zero_add, Array.getElem?_toList] at this
        exact ⟨(ks.getD 0 .i64).val (l.getD i.toNat 0), by simp [part, run_isAgg hT hti ha, this], EK.cel_R _ _ _⟩
      · simp at h
    · split at h
      · rename_i hk
        simp only [Option.some.injEq, Prod.mk.injEq] at h
        obtain ⟨rfl, rfl⟩ := h
        have := hget _ hp.2
        rw [Nat.add_zero, Nat.mul_mod, hk, Nat.mul_zero, Nat.zero_mod, Nat.zero_add, Array.getElem?_toList] at this
        rw [Nat.zero_mod, Nat.add_zero]
        exact ⟨(ks.getD 0 .i64).val (l.getD (i.toNat * s) 0), by simp [part, run_isAgg hT hti ha, this], EK.cel_R _ _ _⟩
      · simp at h
  · rename_i ha
    split at h
    · simp at h
    split at h
    · rename_i hz hk
      simp only [Option.some.injEq, Prod.mk.injEq] at h
      obtain ⟨rfl, rfl⟩ := h
      have hk0 : (i.toNat * s + 0) % ks.length = 0 := by rw [Nat.add_mod, Nat.mul_mod, hk.1, hk.2, Nat.mul_zero, Nat.zero_mod, Nat.add_zero, Nat.zero_mod]
      refine ⟨.agg (arr.extract (i.toNat * s) (i.toNat * s + ti.size)), by simp [part, run_isAgg hT hti ha, run_sizeOf hT hti], ⟨_, rfl, runV ks ((l.drop (i.toNat * s + 0)).take ti.size), [], ?_, ⟨?_, rfl⟩, rfl⟩⟩
      · rw [List.append_nil, Array.toList_extract, List.extract_eq_take_drop, show i.toNat * s + ti.size - i.toNat * s = ti.size by omega]
        rw [← runV_take _ _ _ (by have := hp.2; simp; omega), ← runV_drop _ _ _ hk0]
        apply List.ext_getElem?
        intro j
        by_cases hj : j < ti.size
        · have := hget (i.toNat * s + j) (by have := hp.2; omega)
          rw [List.getElem?_take_of_lt hj, List.getElem?_take_of_lt hj, List.getElem?_drop, List.getElem?_drop, Nat.add_zero,
            runV_get _ _ _ (by have := hp.2; omega), ← this, Nat.zero_add]
        · rw [List.getElem?_eq_none (by simp; omega), List.getElem?_eq_none (by simp; omega)]
      · have := hp.2; simp; omega
    · simp at h
  · simp at h

def evIdxA (T : Tab) (t : TypeId) (x i : LV) : Option (Prop × LV) :=
  match look T t, asI i with
  | some ti, some (_, iv, lit) =>
    match ti.d, x with
    | .arr n e, .a (.c (.ptr id off)) => match look T e with
      | some et =>
        if lit then (if 0 ≤ iv ∧ iv < n then some (True, .a (.c (.ptr id (off + iv.toNat * et.size)))) else none)
        else some (0 ≤ iv ∧ iv < n, .a (.c (.pti id off iv et.size 0)))
      | none => none
    | .arr n e, .a (.c (.pti id base j s fo)) => match look T e with
      | some et => if lit then (if 0 ≤ iv ∧ iv < n then some (True, .a (.c (.pti id base j s (fo + iv.toNat * et.size)))) else none) else (if et.size = 1 then (if n = s then some (0 ≤ iv ∧ iv < n, .a (.c (.pti id base ((j.toNat * s + fo + iv.toNat : Nat) : Int) 1 0))) else some (0 ≤ iv ∧ iv < n, .a (.c (.pti id (base + (j.toNat * s + fo)) iv 1 0)))) else none)
      | none => none
    | .slice e, .a (.c (.slc id base j s len _)) => match look T e with
      | some et => if et.size = s then some (0 ≤ iv ∧ iv < len, .a (.c (.pti id base (j + iv) s 0))) else none
      | none => none
    | _, _ => none
  | _, _ => none

theorem evIdxA_sound {P : Program} {T : Tab} (hT : TabOk P T) {β : List Nat} {t : TypeId} {x i : LV} {xv iv : Value} {p : Prop} {r : LV} (w : World)
    (hx : LVR β x xv) (hi : LVR β i iv) (he : evIdxA T t x i = some (p, r)) (hp : p) : ∃ v, (Instr.indexAt t xv iv).run P w = .ok v w ∧ LVR β r v := by
  unfold evIdxA at he
  split at he
  · rename_i ti k n lit hti hai
    have e := asI_sound hi hai
    subst e
    obtain ⟨_, hu⟩ := hT.look hti
    split at he
    · rename_i m e id off hd
      rw [hd] at hu
      obtain ⟨b, hb, rfl⟩ := hx
      split at he
      · rename_i et het
        have hs := run_sizeOf hT het w
        split at he
        · split at he
          · rename_i hr
            simp only [Option.some.injEq, Prod.mk.injEq] at he
            obtain ⟨_, rfl⟩ := he
            exact ⟨_, by simp [Instr.indexAt, asIntOf, underlying, hu, Instr.sureAddr, hr, hs, addr_add], ⟨b, hb, rfl⟩⟩
          · simp at he
        · simp only [Option.some.injEq, Prod.mk.injEq] at he
          obtain ⟨rfl, rfl⟩ := he
          exact ⟨_, by simp [Instr.indexAt, asIntOf, underlying, hu, Instr.sureAddr, hp, hs, addr_add], ⟨b, hb, rfl⟩⟩
      · simp at he
    · rename_i m e id base j s fo hd
      rw [hd] at hu
      obtain ⟨b, hb, rfl⟩ := hx
      split at he
      · rename_i et het
        have hs := run_sizeOf hT het w
        split at he
        · split at he
          · rename_i hr
            simp only [Option.some.injEq, Prod.mk.injEq] at he
            obtain ⟨_, rfl⟩ := he
            exact ⟨_, by simp [Instr.indexAt, asIntOf, underlying, hu, Instr.sureAddr, hr, hs, addr_add]; rfl, ⟨b, hb, by rw [Nat.add_assoc]⟩⟩
          · simp at he
        · split at he
          · rename_i h1
            split at he
            · simp only [Option.some.injEq, Prod.mk.injEq] at he
              obtain ⟨rfl, rfl⟩ := he
              exact ⟨_, by simp [Instr.indexAt, asIntOf, underlying, hu, Instr.sureAddr, hp, hs, addr_add]; rfl, ⟨b, hb, by rw [h1, Int.toNat_natCast]; congr 3; omega⟩⟩
            · simp only [Option.some.injEq, Prod.mk.injEq] at he
              obtain ⟨rfl, rfl⟩ := he
              exact ⟨_, by simp [Instr.indexAt, asIntOf, underlying, hu, Instr.sureAddr, hp, hs, addr_add]; rfl, ⟨b, hb, by rw [h1]; congr 3; omega⟩⟩
          · simp at he
      · simp at he
    · rename_i e id base j s len cap hd
      rw [hd] at hu
      obtain ⟨h1, h2, h3, hx⟩ := hx
      split at he
      · rename_i et het
        have hs := run_sizeOf hT het w
        split at he
        · rename_i hss
          simp only [Option.some.injEq, Prod.mk.injEq] at he
          obtain ⟨rfl, rfl⟩ := he
          rcases hx with ⟨b, hb, rfl⟩ | ⟨hc, _⟩
          · refine ⟨_, by simp [Instr.indexAt, asIntOf, underlying, hu, hs, addr_add, hp.1, show n < max len 0 by omega]; rfl, ⟨b, hb, ?_⟩⟩
            rw [hss, Nat.add_zero, show (j + n).toNat = j.toNat + n.toNat by omega, Nat.add_mul, Nat.add_assoc]
          · exfalso; omega
        · simp at he
      · simp at he
    · simp at he
  · simp at he

def byteAt (s : ByteArray) (i : Int) : Int := (s.data.toList.getD i.toNat 0).toNat

def evIdx (T : Tab) (t : TypeId) (x i : LV) : Option (Prop × LV) :=
  match look T t, asI i with
  | some ti, some (_, iv, lit) =>
    match ti.d, x with
    | .arr n e, .a (.agg cs) => match look T e with
      | some et =>
        if lit then (if 0 ≤ iv ∧ iv < n then (loadC cs et (iv.toNat * et.size)).map fun v => (True, v) else none)
        else match runAt cs 0 with
          | some (ks, m, l) => (loadR ks m l et iv et.size 0).map fun (q, v) => ((0 ≤ iv ∧ iv < n) ∧ q, v)
          | none => none
      | none => none
    | .str, .a (.c (.str s)) => some (0 ≤ iv ∧ iv < s.size, .a (.c (.int .u8 (byteAt s iv))))
    | _, _ => none
  | _, _ => none

theorem evIdx_sound {P : Program} {T : Tab} (hT : TabOk P T) {β : List Nat} {t : TypeId} {x i : LV} {xv iv : Value} {p : Prop} {r : LV} (w : World)
    (hx : LVR β x xv) (hi : LVR β i iv) (he : evIdx T t x i = some (p, r)) (hp : p) : ∃ v, (Instr.index t xv iv).run P w = .ok v w ∧ LVR β r v := by
  unfold evIdx at he
  split at he
  · rename_i ti k n lit hti hai
    have e := asI_sound hi hai
    subst e
    obtain ⟨_, hu⟩ := hT.look hti
    split at he
    · rename_i m e cs hd
      rw [hd] at hu
      obtain ⟨arr, rfl, hc⟩ := hx
      split at he
      · rename_i et het
        have hs := run_sizeOf hT het w
        split at he
        · split at he
          · rename_i hr
            obtain ⟨v, hv, he⟩ := Option.map_eq_some_iff.1 he
            simp only [Prod.mk.injEq] at he
            obtain ⟨_, rfl⟩ := he
            obtain ⟨v', h1, h2⟩ := part_sound hT het hc hv w
            exact ⟨v', by simp [Instr.index, asIntOf, underlying, hu, hr, hs, h1], h2⟩
          · simp at he
        · split at he
          · rename_i ks m' l hr
            obtain ⟨⟨q, v⟩, hv, he⟩ := Option.map_eq_some_iff.1 he
            simp only [Prod.mk.injEq] at he
            obtain ⟨rfl, rfl⟩ := he
            obtain ⟨v', h1, h2⟩ := partR_sound hT het hc hr hv hp.2 w
            exact ⟨v', by simp [Instr.index, asIntOf, underlying, hu, hp.1, hs, h1], h2⟩
          · simp at he
      · simp at he
    · rename_i s hd
      rw [hd] at hu
      have e : xv = .string s := hx
      subst e
      simp only [Option.some.injEq, Prod.mk.injEq] at he
      obtain ⟨rfl, rfl⟩ := he
      have hlt : n.toNat < s.size := by omega
      refine ⟨_, by rw [run_index_string (P := P) w t s k n hu, dif_pos ⟨hp.1, hp.2⟩], ?_⟩
      have e : s.data.toList.getD n.toNat 0 = s[n.toNat]'hlt := by
        rw [List.getD_eq_getElem?_getD, Array.getElem?_toList, Array.getElem?_eq_getElem (show n.toNat < s.data.size from hlt)]; rfl
      simp only [LVR, AvR, CelR, byteAt, e]
    · simp at he
  · simp at he



def cellsOf : LV → Option (List Cel)
  | .a (.agg l) => if l.all Cel.plain then some l else none
  | .a (.c x) => match x with
    | .run _ _ _ => none
    | x => if x.plain then some [x] else none
  | .tup _ => none

theorem oneCell_of {β : List Nat} {c : Cel} {v : Value} (h : CelR β c v) (hp : c.plain = true) : v.oneCell' = true := by
  cases c <;> simp only [CelR, Cel.plain, Bool.false_eq_true] at *
  case lit => subst h; rfl
  case int => subst h; rfl
  case tt => subst h; rfl
  case ff => subst h; rfl
  case bool => subst h; rfl
  case str => subst h; rfl
  case ptr => obtain ⟨_, _, rfl⟩ := h; rfl
  case pti => obtain ⟨_, _, rfl⟩ := h; rfl
  case slc => obtain ⟨_, _, _, h⟩ := h; rcases h with ⟨b, _, rfl⟩ | ⟨_, ao, rfl⟩ <;> rfl
  case val => subst h; exact hp
  case fn => obtain ⟨_, _, rfl⟩ := h; rfl
  case fnb => obtain ⟨_, _, rfl⟩ := h; rfl
  case fna => obtain ⟨_, rfl⟩ := h; rfl
  case yld => obtain ⟨_, _, rfl⟩ := h; rfl
  case mpr => obtain ⟨_, _, rfl⟩ := h; rfl
  case sp => rcases h with ⟨_, rfl⟩ | ⟨_, _, _, rfl⟩ <;> rfl
  case ifi => subst h; rfl
  case ifr => obtain ⟨_, rfl⟩ := h; rfl
  case ifp => obtain ⟨_, _, rfl⟩ := h; rfl

theorem EK.one (k : EK) (n : Int) : (k.val n).oneCell' = true := by cases k <;> rfl

theorem oneCell1 {β : List Nat} {c : Cel} {vs : List Value} (h : Cel1 β c vs) (hp : c.plain = true) : ∀ v ∈ vs, v.oneCell' = true := by
  cases c <;> simp only [Cel1] at h <;>
    first
      | (obtain ⟨v, rfl, h⟩ := h; intro u hu; rw [List.mem_singleton] at hu; subst hu; exact oneCell_of h hp)
      | (obtain ⟨_, rfl⟩ := h; intro u hu; simp only [runV, List.mem_map] at hu; obtain ⟨_, _, rfl⟩ := hu; exact EK.one _ _)

theorem oneCells {β : List Nat} : ∀ {cs : List Cel} {vs : List Value}, CelsR β cs vs → cs.all Cel.plain = true → ∀ v ∈ vs, v.oneCell' = true
  | [], vs, h, _ => by simp only [CelsR] at h; subst h; simp
  | c :: cs, vs, ⟨pre, rest, h, h1, h2⟩, hp => by
    subst h
    simp only [List.all_cons, Bool.and_eq_true] at hp
    intro v hv
    rcases List.mem_append.1 hv with hv | hv
    · exact oneCell1 h1 hp.1 v hv
    · exact oneCells h2 hp.2 v hv

theorem cells_one {v : Value} (h : v.oneCell' = true) : v.cells = #[v] := by
  cases v <;> first | rfl | simp [Value.oneCell'] at h

theorem cellsOf_sound {β : List Nat} {x : LV} {v : Value} {l : List Cel} (h : LVR β x v) (hl : cellsOf x = some l) : CelsR β l v.cells.toList ∧ l.all Cel.plain = true := by
  unfold cellsOf at hl
  split at hl
  · split at hl
    · rename_i hp
      simp only [Option.some.injEq] at hl; subst hl
      obtain ⟨arr, rfl, hc⟩ := h
      exact ⟨hc, hp⟩
    · simp at hl
  · rename_i x
    split at hl
    · simp at hl
    · rename_i hne
      split at hl
      · rename_i hp
        simp only [Option.some.injEq] at hl; subst hl
        have h' : CelR β x v := h
        rw [cells_one (oneCell_of h' hp)]
        refine ⟨⟨[v], [], rfl, ?_, rfl⟩, by simp [hp]⟩
        cases x <;> first | exact ⟨v, rfl, h'⟩ | exact absurd rfl (hne _ _ _)
      · simp at hl
  · simp at hl

theorem cell_size {w : World} {a : Addr} {v : Value} (h : w.cell? a = some v) : a.block < w.heap.size := by
  unfold World.cell? at h
  cases hb : w.heap[a.block]? with
  | none => rw [hb] at h; simp at h
  | some x => exact (Array.getElem?_eq_some_iff.1 hb).1

theorem NstAt.keep {w w' : World} {own : Bool} {n0 b o : Nat} {wh : Option TypeId} {ks : List EK} {s j n : Nat} {l : List Int} (h : NstAt w own n0 b wh o ks s j n l) (hb : w'.heap[b]? = w.heap[b]?)
    (hx : ∀ x ao cap, 0 < l.length → w.cell? ⟨b, o + j, none⟩ = some (.slice (some ⟨x, ao, none⟩) n cap) → w'.heap[x]? = w.heap[x]?) : NstAt w' own n0 b wh o ks s j n l := by
  obtain ⟨a, cap, h1, h2, h3, h4⟩ := h
  refine ⟨a, cap, by rw [World.cell?_of_block (a := ⟨b, o + j, none⟩) hb]; exact h1, h2, h3, ?_⟩
  rcases h4 with h4 | ⟨x, ao, rfl, h5, h6, h7⟩
  · exact .inl h4
  · refine .inr ⟨x, ao, rfl, h5, fun k hk => ?_, fun u hu => ⟨(h7 u hu).1, fun hl => ?_⟩⟩
    · rw [World.cell?_of_block (a := ⟨x, ao + k, none⟩) (hx x ao cap (by omega) h1)]
      exact h6 k hk
    · obtain ⟨arr, g2, g3⟩ := (h7 u hu).2 hl
      exact ⟨arr, g2, (hx x ao cap hl h1).trans g3⟩

theorem NstAt.shut {w : World} {own : Bool} {n0 n1 b o : Nat} {wh : Option TypeId} {ks : List EK} {s j n : Nat} {l : List Int} (h : NstAt w own n0 b wh o ks s j n l) : NstAt w false n1 b wh o ks s j n l := by
  obtain ⟨a, cap, h1, h2, h3, h4⟩ := h
  refine ⟨a, cap, h1, h2, h3, ?_⟩
  rcases h4 with h4 | ⟨x, ao, h5, _, h6⟩
  · exact .inl h4
  · exact .inr ⟨x, ao, h5, fun e => by simp at e, h6⟩

theorem NstAt.low {w : World} {own : Bool} {n0 n1 b o : Nat} {wh : Option TypeId} {ks : List EK} {s j n : Nat} {l : List Int} (hn : n1 ≤ n0) (h : NstAt w own n0 b wh o ks s j n l) : NstAt w own n1 b wh o ks s j n l := by
  obtain ⟨a, cap, h1, h2, h3, h4⟩ := h
  refine ⟨a, cap, h1, h2, h3, ?_⟩
  rcases h4 with h4 | ⟨x, ao, h5, h7, h6⟩
  · exact .inl h4
  · exact .inr ⟨x, ao, h5, fun e h => Nat.le_trans hn (h7 e h), h6⟩

theorem getB_nst {ow : Bool} {t : TypeId × Option TypeId} {o : Nat} {ks : List EK} {s : Nat} {L : List (Nat × List Int)} : ∀ {H : List Blk} {i : Nat}, getB H i = .nst ow t o ks s L → H[i]? = some (.nst ow t o ks s L)
  | [], _, h => by simp [getB] at h
  | x :: xs, 0, h => by simpa [getB] using h
  | x :: xs, n + 1, h => by simpa [getB] using getB_nst (H := xs) (i := n) (by simpa [getB] using h)

theorem getB_get' : ∀ {H : List Blk} {i : Nat} {B : Blk}, H[i]? = some B → getB H i = B
  | [], _, _, h => by simp at h
  | x :: xs, 0, B, h => by simpa [getB] using h
  | x :: xs, n + 1, B, h => by simpa [getB] using getB_get' (H := xs) (i := n) (by simpa using h)

theorem HR.getN {n0 : Nat} {w0 : Base} {w : World} {β : List Nat} {H : List Blk} (h : HR n0 w0 β H w) {i : Nat} {ow : Bool} {t : TypeId × Option TypeId} {o : Nat} {ks : List EK} {s : Nat} {L : List (Nat × List Int)} (hb : getB H i = .nst ow t o ks s L) :
    ∃ b, β[i]? = some b ∧ BlkR n0 w0 β w i b (.nst ow t o ks s L) := by
  have hg := getB_nst hb
  have hlt : i < β.length := by rw [h.len]; exact (List.getElem?_eq_some_iff.1 hg).1
  exact ⟨_, List.getElem?_eq_getElem hlt, h.blk i _ _ hg (List.getElem?_eq_getElem hlt)⟩

theorem BlkR.size {n0 : Nat} {w0 : Base} {β : List Nat} {w : World} {i b : Nat} {B : Blk} (h : BlkR n0 w0 β w i b B) (hn : ¬ B.nil) : b < w.heap.size := by
  cases B with
  | dead => exact absurd trivial hn
  | lp s pe => exact (Array.getElem?_eq_some_iff.1 h.2).1
  | mp o ks ve L => exact (Array.getElem?_eq_some_iff.1 h.2.2).1
  | nst o t off ks s L =>
    have hn : ¬ L.length = 0 := hn
    obtain ⟨a, cap, h1, _⟩ := h.2 0 _ (List.getElem?_eq_getElem (by omega))
    exact cell_size h1
  | wnd o ks n l =>
    have hn : ¬ n = 0 := hn
    have := h.2 0 (by omega)
    unfold World.cell? at this
    cases hb : w.heap[b]? with
    | none => rw [hb] at this; simp at this
    | some x => exact (Array.getElem?_eq_some_iff.1 hb).1
  | cells o t cs =>
    obtain ⟨arr, h1, h2⟩ := h
    have := h1.len
    have hn : ¬ width cs = 0 := hn
    exact (Array.getElem?_eq_some_iff.1 (h2 (by simp at this; omega)).2).1

/-- What says nothing is said of every world. -/
theorem BlkR.any {n0 : Nat} {w0 : Base} {β : List Nat} {w w' : World} {i b b' : Nat} {B : Blk} (h : BlkR n0 w0 β w i b B) (hn : B.nil) : BlkR n0 w0 β w' i b' B := by
  cases B with
  | dead => trivial
  | lp s pe => exact hn.elim
  | mp o ks ve L => exact hn.elim
  | nst o t off ks s L =>
    have hn : L.length = 0 := hn
    exact ⟨fun h => by omega, fun j e hj => by have := (List.getElem?_eq_some_iff.1 hj).1; omega⟩
  | wnd o ks n l => have hn : n = 0 := hn; exact ⟨h.1, fun j hj => by omega⟩
  | cells o t cs =>
    obtain ⟨arr, h1, h2⟩ := h
    have := h1.len
    have hn : width cs = 0 := hn
    exact ⟨arr, h1, fun h => by simp at this; omega⟩

theorem BlkR.mono {n0 : Nat} {w0 : Base} {β γ : List Nat} {w : World} {i b : Nat} {B : Blk} (h : BlkR n0 w0 β w i b B) : BlkR n0 w0 (β ++ γ) w i b B := by
  cases B with
  | dead => trivial
  | lp s pe => exact h
  | mp o ks ve L => exact h
  | wnd o ks n l => exact h
  | nst o t off ks s L => exact h
  | cells o t cs => obtain ⟨arr, h1, h2⟩ := h; exact ⟨arr, h1.mono, h2⟩

/-- The object at the block's place lies in another world too. -/
theorem BlkR.keep {n0 : Nat} {w0 : Base} {β : List Nat} {w w' : World} {i b : Nat} {B : Blk} (h : BlkR n0 w0 β w i b B) (hb : w'.heap[b]? = w.heap[b]?) (hx : ∀ x, B.inn w b x → w'.heap[x]? = w.heap[x]?) : BlkR n0 w0 β w' i b B := by
  cases B with
  | dead => trivial
  | nst o t off ks s L =>
    refine ⟨fun h1 h2 => ?_, fun j e he => (h.2 j e he).keep hb fun x ao cap hn hc => hx x ⟨j, e, ao, cap, he, hn, hc⟩⟩
    obtain ⟨g1, g2, arr, g3, g4⟩ := h.1 h1 h2
    exact ⟨g1, g2, arr, g3, hb.trans g4⟩
  | lp s pe => exact ⟨h.1, hb.trans h.2⟩
  | mp o ks ve L => exact ⟨h.1, h.2.1, hb.trans h.2.2⟩
  | wnd o ks n l => exact ⟨h.1, fun j hj => by rw [World.cell?_of_block (a := ⟨b, o + j, none⟩) hb]; exact h.2 j hj⟩
  | cells o t cs => obtain ⟨arr, h1, h2⟩ := h; exact ⟨arr, h1, fun h => ⟨(h2 h).1, hb.trans (h2 h).2⟩⟩

theorem HR.lt {n0 : Nat} {w0 : Base} {w : World} {β : List Nat} {H : List Blk} (h : HR n0 w0 β H w) {i b : Nat} {B : Blk} (hB : H[i]? = some B) (hb : β[i]? = some b) (hn : ¬ B.nil) : b < w.heap.size :=
  (h.blk i B b hB hb).size hn

/-- What a nest leads to lies there. -/
theorem BlkR.innSize {n0 : Nat} {w0 : Base} {β : List Nat} {w : World} {i b x : Nat} {B : Blk} (h : BlkR n0 w0 β w i b B) (hx : B.inn w b x) : x < w.heap.size := by
  cases B with
  | nst o t off ks s L =>
    obtain ⟨j, e, ao, cap, he, hn, hc⟩ := hx
    obtain ⟨a, cap', h1, h2, h3, h4⟩ := h.2 j e he
    rw [hc] at h1
    simp only [Option.some.injEq, Value.slice.injEq] at h1
    obtain ⟨rfl, _, rfl⟩ := h1
    rcases h4 with h4 | ⟨x', ao', h5, _, h6, _⟩
    · rw [h4.2] at hn; simp at hn
    · simp only [Option.some.injEq, Addr.mk.injEq] at h5
      obtain ⟨rfl, rfl, _⟩ := h5
      exact cell_size (h6 0 hn)
  | _ => exact hx.elim

/-- What a nest leads to are cells. -/
theorem BlkR.innCells {n0 : Nat} {w0 : Base} {β : List Nat} {w : World} {i b x : Nat} {B : Blk} (h : BlkR n0 w0 β w i b B) (hx : B.inn w b x) {o : Obj} (ho : w.heap[x]? = some o) (hc : ∀ a t s, o ≠ .cells a t s) : False := by
  cases B with
  | nst ow t off ks s L =>
    obtain ⟨j, e, ao, cap, he, hn, hc'⟩ := hx
    obtain ⟨a, cap', h1, h2, h3, h4⟩ := h.2 j e he
    rw [hc'] at h1
    simp only [Option.some.injEq, Value.slice.injEq] at h1
    obtain ⟨rfl, _, rfl⟩ := h1
    rcases h4 with h4 | ⟨x', ao', h5, _, h6, _⟩
    · rw [h4.2] at hn; simp at hn
    · simp only [Option.some.injEq, Addr.mk.injEq] at h5
      obtain ⟨rfl, rfl, _⟩ := h5
      have := h6 0 hn
      unfold World.cell? at this
      rw [ho] at this
      cases o <;> first | exact hc _ _ _ rfl | simp at this
  | _ => exact hx.elim

theorem HR.innLt {n0 : Nat} {w0 : Base} {w : World} {β : List Nat} {H : List Blk} (h : HR n0 w0 β H w) {i b x : Nat} {B : Blk} (hB : H[i]? = some B) (hb : β[i]? = some b) (hx : B.inn w b x) : x < w.heap.size :=
  (h.blk i B b hB hb).innSize hx

theorem HR.innNo {n0 : Nat} {w0 : Base} {w : World} {β : List Nat} {H : List Blk} (h : HR n0 w0 β H w) {i b x r : Nat} {B : Blk} (hB : H[i]? = some B) (hb : β[i]? = some b) (hx : B.inn w b x) {o : Obj} (ho : w.heap[r]? = some o) (hc : ∀ a t s, o ≠ .cells a t s) : x ≠ r := by
  rintro rfl
  exact (h.blk i B b hB hb).innCells hx ho hc

theorem Blk.inn_nil {w : World} {b x : Nat} {B : Blk} (h : B.inn w b x) : ¬ B.nil := by
  cases B with
  | nst o t off ks s L =>
    obtain ⟨j, e, _, _, he, _⟩ := h
    intro hn
    have hn : L.length = 0 := hn
    have := (List.getElem?_eq_some_iff.1 he).1
    omega
  | _ => exact h.elim

theorem Blk.inn_keep {w w' : World} {b x : Nat} {B : Blk} (hb : w'.heap[b]? = w.heap[b]?) (h : B.inn w' b x) : B.inn w b x := by
  cases B with
  | nst o t off ks s L =>
    obtain ⟨j, e, ao, cap, he, hn, hc⟩ := h
    rw [World.cell?_of_block (a := ⟨b, off + j, none⟩) hb] at hc
    exact ⟨j, e, ao, cap, he, hn, hc⟩
  | _ => exact h.elim

/-- That nests lie apart from what may be written goes over from one world to another. -/
theorem HR.niStep {n0 : Nat} {w0 : Base} {w w' : World} {β β' : List Nat} {H H' : List Blk} (h : HR n0 w0 β H w)
    (h1 : ∀ (i b : Nat) (B : Blk) (x : Nat), H'[i]? = some B → β'[i]? = some b → B.inn w' b x → ∃ (i' : Nat) (B' : Blk), H[i']? = some B' ∧ β[i']? = some b ∧ B'.inn w b x)
    (h2 : ∀ (j c : Nat) (C : Blk), H'[j]? = some C → C.own = true → ¬ C.nil → β'[j]? = some c → w.heap.size ≤ c ∨ ∃ (j' : Nat) (C' : Blk), H[j']? = some C' ∧ C'.own = true ∧ ¬ C'.nil ∧ β[j']? = some c) : NI β' H' w' := by
  intro i b B x hB hb hx j c C hC ho hn hc
  obtain ⟨i', B', g1, g2, g3⟩ := h1 i b B x hB hb hx
  rcases h2 j c C hC ho hn hc with g | ⟨j', C', k1, k2, k3, k4⟩
  · have := h.innLt g1 g2 g3; omega
  · exact h.ni i' b B' x g1 g2 g3 j' c C' k1 k2 k3 k4

/-- The same blocks, in a world in which what lay there lies. -/
theorem HR.niKeep {n0 : Nat} {w0 : Base} {w w' : World} {β : List Nat} {H : List Blk} (h : HR n0 w0 β H w) (hk : ∀ k, k < w.heap.size → w'.heap[k]? = w.heap[k]?) : NI β H w' :=
  h.niStep (fun i b B x hB hb hx => by
    by_cases hn : B.nil
    · exact absurd hn (Blk.inn_nil hx)
    · exact ⟨i, B, hB, hb, Blk.inn_keep (hk b (h.lt hB hb hn)) hx⟩) fun j c C hC ho hn hc => .inr ⟨j, C, hC, ho, hn, hc⟩

/-- One block more. -/
theorem HR.niApp {n0 : Nat} {w0 : Base} {w w' : World} {β : List Nat} {H : List Blk} (h : HR n0 w0 β H w) {B0 : Blk} {c0 : Nat} (hk : ∀ k, k < w.heap.size → w'.heap[k]? = w.heap[k]?)
    (h0 : ∀ x, ¬ B0.inn w' c0 x) (h1 : B0.own = true → ¬ B0.nil → w.heap.size ≤ c0) : NI (β ++ [c0]) (H ++ [B0]) w' := by
  have old : ∀ {i b : Nat} {B : Blk}, (H ++ [B0])[i]? = some B → (β ++ [c0])[i]? = some b → (H[i]? = some B ∧ β[i]? = some b) ∨ (B = B0 ∧ b = c0) := by
    intro i b B hB hβ
    by_cases hi : i < H.length
    · rw [List.getElem?_append_left hi] at hB
      rw [List.getElem?_append_left (by rw [h.len]; exact hi)] at hβ
      exact .inl ⟨hB, hβ⟩
    · have hl : i = H.length := by
        have := (List.getElem?_eq_some_iff.1 hB).1
        simp at this; omega
      subst hl
      have e1 : (H ++ [B0])[H.length]? = some B0 := by simp
      have e2 : (β ++ [c0])[H.length]? = some c0 := by rw [← h.len]; simp
      rw [e1] at hB; rw [e2] at hβ
      simp only [Option.some.injEq] at hB hβ
      exact .inr ⟨hB.symm, hβ.symm⟩
  refine h.niStep (fun i b B x hB hb hx => ?_) (fun j c C hC ho hn hc => ?_)
  · rcases old hB hb with ⟨i2, i3⟩ | ⟨rfl, rfl⟩
    · exact ⟨i, B, i2, i3, Blk.inn_keep (hk b (h.lt i2 i3 (Blk.inn_nil hx))) hx⟩
    · exact absurd hx (h0 x)
  · rcases old hC hc with ⟨i2, i3⟩ | ⟨rfl, rfl⟩
    · exact .inr ⟨j, C, i2, ho, hn, i3⟩
    · exact .inl (h1 ho hn)

/-- One block turned into another one, that is no nest. -/
theorem HR.niSet {n0 : Nat} {w0 : Base} {w w' : World} {β : List Nat} {H : List Blk} (h : HR n0 w0 β H w) {i b : Nat} {A B0 : Blk} (hA : H[i]? = some A) (hb : β[i]? = some b)
    (hk : ∀ k, k < w.heap.size → (A.own = true → ¬ A.nil → k ≠ b) → w'.heap[k]? = w.heap[k]?) (h0 : ∀ x, ¬ B0.inn w' b x) (h1 : B0.own = true → ¬ B0.nil → A.own = true ∧ ¬ A.nil) : NI β (H.set i B0) w' := by
  have hlt : i < H.length := (List.getElem?_eq_some_iff.1 hA).1
  refine h.niStep (fun k c B x hB hc hx => ?_) (fun j c C hC ho hn hc => ?_)
  · rw [List.getElem?_set] at hB
    by_cases hki : i = k
    · subst hki
      simp only [hlt, if_true, Option.some.injEq] at hB
      subst hB
      rw [hb] at hc; simp only [Option.some.injEq] at hc; subst hc
      exact absurd hx (h0 x)
    · rw [if_neg hki] at hB
      have hn := Blk.inn_nil hx
      refine ⟨k, B, hB, hc, Blk.inn_keep (hk c (h.lt hB hc hn) fun ho hAn e => ?_) hx⟩
      subst e
      exact hn (h.nd i k c _ B hA ho hAn hb hc (fun e => hki e.symm) hB)
  · rw [List.getElem?_set] at hC
    by_cases hki : i = j
    · subst hki
      simp only [hlt, if_true, Option.some.injEq] at hC
      subst hC
      obtain ⟨g1, g2⟩ := h1 ho hn
      exact .inr ⟨i, A, hA, g1, g2, hc⟩
    · rw [if_neg hki] at hC
      exact .inr ⟨j, C, hC, ho, hn, hc⟩

/-- What is not written by a step that writes one own block. -/
theorem HR.innNe {n0 : Nat} {w0 : Base} {w : World} {β : List Nat} {H : List Blk} (h : HR n0 w0 β H w) {i b : Nat} {A : Blk} (hA : H[i]? = some A) (hb : β[i]? = some b) (ho : A.own = true) (hn : ¬ A.nil)
    {j c x : Nat} {B : Blk} (hB : H[j]? = some B) (hc : β[j]? = some c) (hx : B.inn w c x) : x ≠ b := fun e => h.ni j c B x hB hc hx i b A hA ho hn hb e.symm

/-- What a plain callee leaves: the caller's blocks as they were. -/
theorem HR.after {n0 : Nat} {w0 : Base} {w w' : World} {β : List Nat} {H : List Blk} (h : HR n0 w0 β H w) (hb : Below w.heap.size w w') : HR n0 w0 β H w' :=
  ⟨Nat.le_trans h.base hb.size, h.len, h.nd, h.niKeep hb.block, Nat.le_trans h.ms hb.size, h.st, h.st _ _ (Grow.of_below h.base hb) h.ext, fun i B b hB hbβ => by
    have := h.blk i B b hB hbβ
    by_cases hn : B.nil
    · exact this.any hn
    · exact this.keep (hb.block b (this.size hn)) fun x hx => hb.block x (this.innSize hx)⟩

theorem HR.push {n0 : Nat} {w0 : Base} {w : World} {β : List Nat} {H : List Blk} (h : HR n0 w0 β H w) {arr : Array Value} {t : TypeId} {cs : List Cel} (hc : CelsR β cs arr.toList) :
    HR n0 w0 (β ++ [w.heap.size]) (H ++ [.cells true t cs]) { w with heap := w.heap.push (.cells arr t) } := by
  have hgr : Grow n0 w0.m w (w.alloc (.cells arr t)) := Grow.alloc h.base _
  have old : ∀ {i b : Nat} {B : Blk}, (H ++ [Blk.cells true t cs])[i]? = some B → (β ++ [w.heap.size])[i]? = some b → (i < H.length ∧ H[i]? = some B ∧ β[i]? = some b) ∨ (i = H.length ∧ B = .cells true t cs ∧ b = w.heap.size) := by
    intro i b B hB hβ
    by_cases hi : i < H.length
    · rw [List.getElem?_append_left hi] at hB
      rw [List.getElem?_append_left (by rw [h.len]; exact hi)] at hβ
      exact .inl ⟨hi, hB, hβ⟩
    · have hl : i = H.length := by
        have := (List.getElem?_eq_some_iff.1 hB).1
        simp at this; omega
      subst hl
      have e1 : (H ++ [Blk.cells true t cs])[H.length]? = some (.cells true t cs) := by simp
      have e2 : (β ++ [w.heap.size])[H.length]? = some w.heap.size := by rw [← h.len]; simp
      rw [e1] at hB; rw [e2] at hβ
      simp only [Option.some.injEq] at hB hβ
      exact .inr ⟨rfl, hB.symm, hβ.symm⟩
  have kp : ∀ k, k < w.heap.size → (w.heap.push (Obj.cells arr t))[k]? = w.heap[k]? := fun k hk => by
    rw [Array.getElem?_push, if_neg (by omega)]
  refine ⟨?_, by simp [h.len], ?_, ?_, by have := h.ms; simp; omega, h.st, h.st _ _ hgr h.ext, ?_⟩
  · have := h.base; simp; omega
  · intro i j b B C hB ho hn hb hb' hne hC
    rcases old hB hb with ⟨i1, i2, i3⟩ | ⟨i1, i2, i3⟩ <;> rcases old hC hb' with ⟨j1, j2, j3⟩ | ⟨j1, j2, j3⟩
    · exact h.nd i j b B C i2 ho hn i3 j3 hne j2
    · have := h.lt i2 i3 hn; omega
    · by_cases hcn : C.nil
      · exact hcn
      · have := h.lt j2 j3 hcn; omega
    · omega
  · refine h.niStep (fun i b B x hB hb hx => ?_) (fun j c C hC ho hn hc => ?_)
    · rcases old hB hb with ⟨i1, i2, i3⟩ | ⟨_, rfl, _⟩
      · exact ⟨i, B, i2, i3, Blk.inn_keep (kp b (h.lt i2 i3 (Blk.inn_nil hx))) hx⟩
      · exact hx.elim
    · rcases old hC hc with ⟨_, i2, i3⟩ | ⟨_, _, rfl⟩
      · exact .inr ⟨j, C, i2, ho, hn, i3⟩
      · exact .inl (Nat.le_refl _)
  · intro i B b hB hβ
    rcases old hB hβ with ⟨i1, i2, i3⟩ | ⟨i1, rfl, rfl⟩
    · have hr := h.blk i B b i2 i3
      by_cases hn : B.nil
      · exact (hr.any hn).mono
      · have hlt := hr.size hn
        exact (hr.keep (kp b hlt) fun x hx => kp x (hr.innSize hx)).mono
    · exact ⟨arr, hc.mono, fun _ => ⟨fun _ => h.base, by simp⟩⟩

theorem HR.set {n0 : Nat} {w0 : Base} {w : World} {β : List Nat} {H : List Blk} (h : HR n0 w0 β H w) {i b : Nat} {t : TypeId} {cs cs' : List Cel} {arr arr' : Array Value}
    (hg : getB H i = .cells true t cs) (hb : β[i]? = some b) (ha : CelsR β cs arr.toList) (hz : 0 < arr.size) (hh : 0 < arr.size → (true = true → n0 ≤ b) ∧ w.heap[b]? = some (.cells arr t (0, 0))) (hc : CelsR β cs' arr'.toList) :
    HR n0 w0 β (H.set i (.cells true t cs')) (w.setRow b arr') := by
  have hg' := getB_some hg
  obtain ⟨hbn, hh⟩ := hh hz
  have hbn := hbn rfl
  have hnn : ¬ (Blk.cells true t cs).nil := by
    intro hn
    have hn : width cs = 0 := hn
    have := ha.len
    simp at this; omega
  have hgr : Grow n0 w0.m w (w.setRow b arr') := ⟨below_setRow (Below.refl n0 w) hbn _, fun k o _ ho hno _ _ => by
    by_cases hk : k = b
    · subst hk; rw [hh] at ho; simp only [Option.some.injEq] at ho; exact absurd ho.symm (hno _ _ _)
    · rw [setRow_other w b k arr' hk]; exact ho, fun k r ho => ⟨r, by
    by_cases hk : k = b
    · subst hk; rw [hh] at ho; simp only [Option.some.injEq, reduceCtorEq] at ho
    · rw [setRow_other w b k arr' hk]; exact ho⟩⟩
  have hlt : i < H.length := (List.getElem?_eq_some_iff.1 hg').1
  refine ⟨by simpa using h.base, by simp [h.len], ?_, ?_, by simpa using h.ms, h.st, h.st _ _ hgr h.ext, ?_⟩
  · intro k j c B C hB ho hn hb1 hb2 hne hC
    rw [List.getElem?_set] at hB hC
    by_cases hk : i = k
    · subst hk
      rw [if_neg (fun e => hne e.symm)] at hC
      exact h.nd i j c _ C hg' rfl hnn hb1 hb2 hne hC
    · rw [if_neg hk] at hB
      by_cases hj : i = j
      · subst hj
        exact absurd (h.nd k i c B _ hB ho hn hb1 hb2 hne hg') hnn
      · rw [if_neg hj] at hC
        exact h.nd k j c B C hB ho hn hb1 hb2 hne hC
  · refine h.niStep (fun k c B x hB hc hx => ?_) (fun j c C hC ho hn hc => ?_)
    · rw [List.getElem?_set] at hB
      by_cases hk : i = k
      · subst hk
        simp only [hlt, if_true, Option.some.injEq] at hB
        subst hB; exact hx.elim
      · rw [if_neg hk] at hB
        refine ⟨k, B, hB, hc, Blk.inn_keep (setRow_other w b c arr' fun e => ?_) hx⟩
        subst e
        exact Blk.inn_nil hx (h.nd i k c _ B hg' rfl hnn hb hc (fun e => hk e.symm) hB)
    · rw [List.getElem?_set] at hC
      by_cases hk : i = j
      · subst hk
        exact .inr ⟨i, _, hg', rfl, hnn, hc⟩
      · rw [if_neg hk] at hC
        exact .inr ⟨j, C, hC, ho, hn, hc⟩
  intro j B b' hB hβ
  rw [List.getElem?_set] at hB
  by_cases hij : i = j
  · subst hij
    rw [hb] at hβ; simp only [Option.some.injEq] at hβ; subst hβ
    simp only [hlt, if_true, Option.some.injEq] at hB
    subst hB
    exact ⟨arr', hc, fun _ => ⟨fun _ => hbn, setRow_heap w b arr arr' t (0, 0) hh⟩⟩
  · rw [if_neg hij] at hB
    have hr := h.blk j B b' hB hβ
    by_cases hne : b' = b
    · subst hne
      exact hr.any (h.nd i j b' _ B hg' rfl hnn hb hβ (fun e => hij e.symm) hB)
    · exact hr.keep (by rw [setRow_other w b b' arr' hne]) fun x hx => setRow_other w b x arr' fun e => h.ni j b' B x hB hβ hx i b _ hg' rfl hnn hb e.symm

/-- The cells of a block told in other words. -/
theorem HR.same {n0 : Nat} {w0 : Base} {w : World} {β : List Nat} {H : List Blk} (h : HR n0 w0 β H w) {i b : Nat} {own : Bool} {t : TypeId} {cs cs' : List Cel} {arr : Array Value}
    (hg : getB H i = .cells own t cs) (hb : β[i]? = some b) (hc : CelsR β cs' arr.toList) (hh : 0 < arr.size → (own = true → n0 ≤ b) ∧ w.heap[b]? = some (.cells arr t (0, 0))) (hw : width cs' = width cs) :
    HR n0 w0 β (H.set i (.cells own t cs')) w := by
  have hg' := getB_some hg
  have hlt : i < H.length := (List.getElem?_eq_some_iff.1 hg').1
  have hnil : (Blk.cells own t cs').nil ↔ (Blk.cells own t cs).nil := by
    show width cs' = 0 ↔ width cs = 0
    rw [hw]
  refine ⟨h.base, by simp [h.len], ?_, ?_, h.ms, h.st, h.ext, ?_⟩
  · intro k j c B C hB ho hn hb1 hb2 hne hC
    rw [List.getElem?_set] at hB hC
    by_cases hk : i = k
    · subst hk
      rw [if_neg (fun e => hne e.symm)] at hC
      simp only [hlt, if_true, Option.some.injEq] at hB
      subst hB
      exact h.nd i j c _ C hg' ho (fun h' => hn (hnil.2 h')) hb1 hb2 hne hC
    · rw [if_neg hk] at hB
      by_cases hj : i = j
      · subst hj
        simp only [hlt, if_true, Option.some.injEq] at hC
        subst hC
        exact hnil.2 (h.nd k i c B _ hB ho hn hb1 hb2 hne hg')
      · rw [if_neg hj] at hC
        exact h.nd k j c B C hB ho hn hb1 hb2 hne hC
  · refine h.niStep (fun k c B x hB hc hx => ?_) (fun j c C hC ho hn hc => ?_)
    · rw [List.getElem?_set] at hB
      by_cases hk : i = k
      · subst hk
        simp only [hlt, if_true, Option.some.injEq] at hB
        subst hB; exact hx.elim
      · rw [if_neg hk] at hB
        exact ⟨k, B, hB, hc, hx⟩
    · rw [List.getElem?_set] at hC
      by_cases hk : i = j
      · subst hk
        simp only [hlt, if_true, Option.some.injEq] at hC
        subst hC
        exact .inr ⟨i, _, hg', ho, fun h' => hn (hnil.2 h'), hc⟩
      · rw [if_neg hk] at hC
        exact .inr ⟨j, C, hC, ho, hn, hc⟩
  intro j B b' hB hβ
  rw [List.getElem?_set] at hB
  by_cases hij : i = j
  · subst hij
    rw [hb] at hβ; simp only [Option.some.injEq] at hβ; subst hβ
    simp only [hlt, if_true, Option.some.injEq] at hB
    subst hB
    exact ⟨arr, hc, hh⟩
  · rw [if_neg hij] at hB
    exact h.blk j B b' hB hβ

/-- A list's length, handed on as a numeral. -/
def withLen {α γ : Type} : List α → List Nat → (Nat → Option γ) → Option γ
  | [], n :: _, k => k n
  | _ :: xs, _ :: ns, k => withLen xs ns k
  | _, [], _ => none

def numerals : List Nat := [0, 1, 2, 3, 4, 5, 6, 7, 8, 9, 10, 11, 12, 13, 14, 15, 16, 17, 18, 19, 20, 21, 22, 23, 24, 25, 26, 27, 28, 29, 30, 31, 32, 33, 34, 35, 36, 37, 38, 39, 40, 41, 42, 43, 44, 45, 46, 47, 48]

theorem withLen_go {α γ : Type} : ∀ (xs : List α) (ns : List Nat) (k : Nat → Option γ) (r : γ) (j : Nat), (∀ i n, ns[i]? = some n → n = j + i) → withLen xs ns k = some r → k (j + xs.length) = some r
  | [], [], k, r, j, _, h => by simp [withLen] at h
  | [], n :: ns, k, r, j, hn, h => by
    simp only [withLen] at h
    have := hn 0 n rfl
    rw [this] at h; exact h
  | x :: xs, [], k, r, j, _, h => by simp [withLen] at h
  | x :: xs, n :: ns, k, r, j, hn, h => by
    simp only [withLen] at h
    have := withLen_go xs ns k r (j + 1) (fun i n' hi => by have := hn (i + 1) n' (by simpa using hi); omega) h
    rw [List.length_cons, show j + (xs.length + 1) = j + 1 + xs.length by omega]; exact this

theorem withLen_sound {α γ : Type} {xs : List α} {k : Nat → Option γ} {r : γ} (h : withLen xs numerals k = some r) : k xs.length = some r := by
  have := withLen_go xs numerals k r 0 (by
    intro i n hi
    have hlt : i < numerals.length := (List.getElem?_eq_some_iff.1 hi).1
    have : ∀ i : Fin 49, numerals[i.val]? = some i.val := by decide
    have e := this ⟨i, hlt⟩
    simp only at e
    rw [e] at hi; simp at hi; omega) h
  simpa using this

def evAlloc (T : Tab) (H : List Blk) (t : TypeId) : Option (Prop × LV × List Blk) :=
  match look T t with
  | some ⟨_, _, z, _⟩ => withLen H numerals fun n => some (True, .a (.c (.ptr n 0)), H ++ [.cells true t z])
  | none => none

theorem evAlloc_sound {P : Program} {T : Tab} (hT : TabOk P T) {n0 : Nat} {w0 : Base} {w : World} {β : List Nat} {H H' : List Blk} (hH : HR n0 w0 β H w) {t : TypeId} {p : Prop} {r : LV}
    (he : evAlloc T H t = some (p, r, H')) : ∃ v w' γ, (Instr.alloc t true (.tuple #[])).run P w = .ok v w' ∧ HR n0 w0 (β ++ γ) H' w' ∧ LVR (β ++ γ) r v := by
  unfold evAlloc at he
  split at he
  · rename_i d sz z hti
    have he := withLen_sound he
    simp only [Option.some.injEq, Prod.mk.injEq] at he
    obtain ⟨_, rfl, rfl⟩ := he
    obtain ⟨⟨inf, h1, h2, z', hz, hc⟩, _⟩ := hT.look hti
    refine ⟨.pointer (some ⟨w.heap.size, 0, none⟩), _, [w.heap.size], ?_, hH.push (hc β), ⟨w.heap.size, by rw [← hH.len]; simp, rfl⟩⟩
    simp [Instr.alloc, zeroValue, typeInfo, h1, hz, newVar, newRow]
  · simp at he

def evBox (H : List Blk) (t : TypeId) (x : LV) : Option (Prop × LV × List Blk) :=
  match cellsOf x with
  | some l => withLen H numerals fun n => some (True, .a (.c (.ptr n 0)), H ++ [.cells true t l])
  | none => none

theorem evBox_sound {P : Program} {n0 : Nat} {w0 : Base} {w : World} {β : List Nat} {H H' : List Blk} (hH : HR n0 w0 β H w) {t : TypeId} {x : LV} {xv : Value} {p : Prop} {r : LV} (hx : LVR β x xv)
    (he : evBox H t x = some (p, r, H')) : ∃ v w' γ, (Instr.box t xv).run P w = .ok v w' ∧ HR n0 w0 (β ++ γ) H' w' ∧ LVR (β ++ γ) r v := by
  unfold evBox at he
  split at he
  · rename_i l hl
    have he := withLen_sound he
    simp only [Option.some.injEq, Prod.mk.injEq] at he
    obtain ⟨_, rfl, rfl⟩ := he
    obtain ⟨hc, _⟩ := cellsOf_sound hx hl
    refine ⟨.pointer (some ⟨w.heap.size, 0, none⟩), _, [w.heap.size], ?_, hH.push hc, ⟨w.heap.size, by rw [← hH.len]; simp, rfl⟩⟩
    simp [Instr.box, newVar, newRow]
  · simp at he

/-- An integer put into a run at a known place. -/
def putLit : List Cel → Nat → EK → Int → Option (List Cel)
  | [], _, _, _ => none
  | c :: cs, off, k, x =>
    if off < c.w then
      match c with
      | .run ks n l => if ks.getD (off % ks.length) .i64 = k then some (.run ks n (l.set off x) :: cs) else none
      | _ => none
    else (putLit cs (off - c.w) k x).map (c :: ·)

theorem putLit_sound {β : List Nat} : ∀ {cs : List Cel} {vs : List Value} {off : Nat} {k : EK} {x : Int} {r : List Cel}, CelsR β cs vs → putLit cs off k x = some r →
    off < vs.length ∧ CelsR β r (vs.set off (k.val x))
  | [], _, _, _, _, _, _, h => by simp [putLit] at h
  | c :: cs, vs, off, k, x, r, h, hc => by
    obtain ⟨pre, rest, rfl, h1, h2⟩ := h
    have hl := h1.len
    unfold putLit at hc
    split at hc
    · rename_i ho
      cases c <;> simp only [reduceCtorEq] at hc
      rename_i ks n l
      split at hc
      · rename_i hk
        simp only [Option.some.injEq] at hc
        subst hc
        obtain ⟨e1, rfl⟩ := h1
        simp only [Cel.w] at *
        refine ⟨by simp; omega, _, rest, ?_, ⟨by simpa using e1, rfl⟩, h2⟩
        rw [List.set_append_left _ _ (by omega), ← hk, runV_set _ _ _ _ (by omega)]
      · simp at hc
    · rename_i ho
      obtain ⟨r', hr', rfl⟩ := Option.map_eq_some_iff.1 hc
      obtain ⟨g1, g2⟩ := putLit_sound h2 hr'
      refine ⟨by simp; omega, pre, _, ?_, h1, g2⟩
      rw [List.set_append_right _ _ (by omega), hl]

/-- A piece of a run put at a computed place. -/
def putSub : List Cel → Nat → Nat → Nat → List Int → Option (List Cel)
  | [], _, _, _, _ => none
  | c :: cs, 0, j, m, x => match c with
    | .run ks n l => some (.run ks n (l.take j ++ x ++ l.drop (j + m)) :: cs)
    | _ => none
  | c :: cs, off + 1, j, m, x => if c.w ≤ off + 1 ∧ 0 < c.w then (putSub cs (off + 1 - c.w) j m x).map (c :: ·) else none

theorem runV_sub (ks : List EK) (l x : List Int) (j m : Nat) (hx : x.length = m) (hj : j + m ≤ l.length) (hk : j % ks.length = 0) :
    (runV ks l).take j ++ runV ks x ++ (runV ks l).drop (j + m) = runV ks (l.take j ++ x ++ l.drop (j + m)) := by
  have hlen : (l.take j ++ x ++ l.drop (j + m)).length = l.length := by simp; omega
  have h1 : ((runV ks l).take j).length = j := by simp [runV]; omega
  have h2 : (runV ks x).length = m := by simp [runV, hx]
  apply List.ext_getElem?
  intro i
  by_cases hi : i < l.length
  · rw [runV_get _ _ _ (by omega)]
    by_cases c1 : i < j
    · rw [List.append_assoc, List.getElem?_append_left (by omega), List.getElem?_take_of_lt c1, runV_get _ _ _ hi]
      congr 2
      rw [List.getD_eq_getElem?_getD, List.getD_eq_getElem?_getD, List.append_assoc, List.getElem?_append_left (by rw [List.length_take]; omega), List.getElem?_take_of_lt c1]
    · by_cases c2 : i < j + m
      · rw [List.getElem?_append_left (by rw [List.length_append]; omega), List.getElem?_append_right (by omega), h1, runV_get _ _ _ (by omega)]
        have e : i % ks.length = (i - j) % ks.length := by
          have : i = j + (i - j) := by omega
          conv => lhs; rw [this, Nat.add_mod, hk, Nat.zero_add, Nat.mod_mod]
        rw [e]
        congr 2
        rw [List.getD_eq_getElem?_getD, List.getD_eq_getElem?_getD, List.getElem?_append_left (by rw [List.length_append, List.length_take]; omega), List.getElem?_append_right (by rw [List.length_take]; omega), List.length_take, Nat.min_eq_left (by omega)]
      · rw [List.getElem?_append_right (by rw [List.length_append]; omega), List.length_append, h1, h2, List.getElem?_drop, show j + m + (i - (j + m)) = i by omega, runV_get _ _ _ hi]
        congr 2
        rw [List.getD_eq_getElem?_getD, List.getD_eq_getElem?_getD, List.getElem?_append_right (by rw [List.length_append, List.length_take]; omega), List.length_append, List.length_take, Nat.min_eq_left (by omega), hx, List.getElem?_drop, show j + m + (i - (j + m)) = i by omega]
  · have h3 : ∀ z : List Int, (runV ks z).length = z.length := fun z => by simp [runV]
    rw [List.getElem?_eq_none (by rw [List.length_append, List.length_append, h1, h2, List.length_drop, h3]; omega), List.getElem?_eq_none (by rw [h3]; omega)]

theorem putSub_sound {β : List Nat} : ∀ {cs : List Cel} {vs : List Value} {off j m : Nat} {x : List Int} {r : List Cel} {ks : List EK} {n : Nat} {l : List Int},
    CelsR β cs vs → runAt cs off = some (ks, n, l) → x.length = m → j + m ≤ n → j % ks.length = 0 → putSub cs off j m x = some r → CelsR β r (vs.take (off + j) ++ runV ks x ++ vs.drop (off + j + m))
  | [], _, _, _, _, _, _, _, _, _, _, h, _, _, _, _ => by simp [runAt] at h
  | c :: cs, vs, 0, j, m, x, r, ks, n, l, h, hr, hx, hj, hk, hc => by
    obtain ⟨pre, rest, rfl, h1, h2⟩ := h
    cases c <;> simp only [runAt, Option.some.injEq, Prod.mk.injEq, reduceCtorEq] at hr
    obtain ⟨rfl, rfl, rfl⟩ := hr
    simp only [putSub, Option.some.injEq] at hc
    subst hc
    obtain ⟨h1, rfl⟩ := h1
    rename_i ks n l
    have h3 : (runV ks l).length = n := by simp [runV, h1]
    refine ⟨runV ks (l.take j ++ x ++ l.drop (j + m)), rest, ?_, ⟨by simp; omega, rfl⟩, h2⟩
    rw [← runV_sub ks l x j m hx (by omega) hk, Nat.zero_add, List.take_append_of_le_length (by omega), List.drop_append_of_le_length (by omega)]
    simp only [List.append_assoc]
  | c :: cs, vs, off + 1, j, m, x, r, ks, n, l, h, hr, hx, hj, hk, hc => by
    obtain ⟨pre, rest, rfl, h1, h2⟩ := h
    have hl := h1.len
    simp only [runAt] at hr
    simp only [putSub] at hc
    split at hr
    · rename_i hw
      rw [if_pos hw] at hc
      obtain ⟨r', hr', rfl⟩ := Option.map_eq_some_iff.1 hc
      refine ⟨pre, _, ?_, h1, putSub_sound h2 hr hx hj hk hr'⟩
      rw [List.take_append, List.drop_append, List.take_of_length_le (by omega), List.drop_of_length_le (by omega), hl]
      simp only [List.append_assoc, List.nil_append]
      rw [show off + 1 + j - c.w = off + 1 - c.w + j by omega, show off + 1 + j + m - c.w = off + 1 - c.w + j + m by omega]
    · simp at hr

/-- The one integer of a list of cells. -/
def oneI : List Cel → Option (EK × Int)
  | [.lit k n] => some (EK.of k, n)
  | [.int k n] => some (EK.of k, n)
  | [.tt] => some (.bool, 1)
  | [.ff] => some (.bool, 0)
  | [.bool b] => some (.bool, if b then 1 else 0)
  | [.str s] => some (.str, encS s)
  | _ => none

theorem oneI_sound {β : List Nat} {l : List Cel} {vs : List Value} {k : EK} {n : Int} (h : CelsR β l vs) (ho : oneI l = some (k, n)) : vs = [k.val n] := by
  unfold oneI at ho
  split at ho <;> simp at ho <;> obtain ⟨rfl, rfl⟩ := ho <;> obtain ⟨pre, rest, rfl, ⟨v, rfl, hv⟩, hr⟩ := h <;> simp only [CelsR] at hr <;> subst hr <;> simp only [CelR] at hv <;> subst hv
  · simp [EK.of_val]
  · simp [EK.of_val]
  · rfl
  · rfl
  · rename_i b; cases b <;> rfl
  · rw [EK.val, decS_encS]; rfl

/-- Cells as the numbers of a run. -/
def asRun (ks : List EK) : Nat → List Cel → Option (List Int)
  | _, [] => some []
  | j, .run ks' n l :: r => if ks' = ks ∧ j % ks.length = 0 then (asRun ks (j + n) r).map (l ++ ·) else none
  | j, c :: r => match oneI [c] with
    | some (k, x) => if ks.getD (j % ks.length) .i64 = k then (asRun ks (j + 1) r).map (x :: ·) else none
    | none => none

theorem asRun_sound {β : List Nat} {ks : List EK} : ∀ {cs : List Cel} {vs : List Value} {j : Nat} {xs : List Int}, CelsR β cs vs → asRun ks j cs = some xs →
    xs.length = width cs ∧ vs = (List.range xs.length).map (fun i => (ks.getD ((j + i) % ks.length) .i64).val (xs.getD i 0))
  | [], vs, j, xs, h, hx => by
    simp only [CelsR] at h; subst h
    simp only [asRun, Option.some.injEq] at hx; subst hx
    exact ⟨rfl, rfl⟩
  | c :: cs, vs, j, xs, ⟨pre, rest, e, h1, h2⟩, hx => by
    subst e
    have hl := h1.len
    unfold asRun at hx
    split at hx
    · simp_all
    · rename_i j' ks' n l r heq
      simp only [List.cons.injEq] at heq
      obtain ⟨rfl, rfl⟩ := heq
      split at hx
      · rename_i hk
        obtain ⟨rfl, hk⟩ := hk
        obtain ⟨ys, hy, rfl⟩ := Option.map_eq_some_iff.1 hx
        obtain ⟨g1, g2⟩ := asRun_sound h2 hy
        obtain ⟨e1, rfl⟩ := h1
        refine ⟨by simp [width, Cel.w, g1, e1], ?_⟩
        rw [g2, List.length_append, List.range_add, List.map_append, List.map_map]
        congr 1
        · unfold runV
          rw [List.map_inj_left]
          intro i hi
          rw [List.mem_range] at hi
          congr 1
          · rw [Nat.add_mod, hk, Nat.zero_add, Nat.mod_mod]
          · rw [List.getD_eq_getElem?_getD, List.getD_eq_getElem?_getD, List.getElem?_append_left hi]
        · rw [List.map_inj_left]
          intro i _
          simp only [Function.comp]
          congr 1
          · rw [e1, Nat.add_assoc]
          · rw [List.getD_eq_getElem?_getD, List.getD_eq_getElem?_getD, List.getElem?_append_right (by omega), Nat.add_sub_cancel_left]
      · simp at hx
    · rename_i j' c' r' hne heq
      simp only [List.cons.injEq] at heq
      obtain ⟨rfl, rfl⟩ := heq
      split at hx
      · rename_i k x ho
        split at hx
        · rename_i hk
          obtain ⟨ys, hy, rfl⟩ := Option.map_eq_some_iff.1 hx
          obtain ⟨g1, g2⟩ := asRun_sound h2 hy
          have e1 := oneI_sound (β := β) (l := [c]) (vs := pre) ⟨pre, [], by simp, h1, rfl⟩ ho
          subst e1
          have hw : c.w = 1 := by simpa using hl.symm
          refine ⟨by simp [width, g1, hw]; omega, ?_⟩
          rw [g2, List.length_cons, List.range_succ_eq_map]
          simp only [List.map_cons, Nat.add_zero, List.map_map, List.cons_append, List.nil_append]
          rw [hk]
          congr 1
          rw [List.map_inj_left]
          intro i _
          simp only [Function.comp]
          rw [show ∀ a : Nat, a + 1 + i = a + (i + 1) by omega]
          rfl
        · simp at hx
      · simp at hx

theorem runAt_le {β : List Nat} : ∀ {cs : List Cel} {vs : List Value} {off : Nat} {ks : List EK} {n : Nat} {l : List Int}, CelsR β cs vs → runAt cs off = some (ks, n, l) → off + n ≤ vs.length
  | [], _, _, _, _, _, _, h => by simp [runAt] at h
  | c :: cs, vs, 0, ks, n, l, h, hc => by
    obtain ⟨pre, rest, rfl, h1, h2⟩ := h
    cases c <;> simp only [runAt, Option.some.injEq, Prod.mk.injEq, reduceCtorEq] at hc
    obtain ⟨rfl, rfl, rfl⟩ := hc
    have := h1.len
    simp only [Cel.w] at this
    simp; omega
  | c :: cs, vs, off + 1, ks, n, l, h, hc => by
    obtain ⟨pre, rest, rfl, h1, h2⟩ := h
    have hl := h1.len
    simp only [runAt] at hc
    split at hc
    · rename_i hw
      have := runAt_le h2 hc
      simp; omega
    · simp at hc

/-- What a store makes of a block's cells. -/
def storeAtC (cs : List Cel) (x : LV) (new : List Cel) : Option (Prop × List Cel) :=
  match x with
  | .a (.c (.ptr _ off)) =>
    match putC cs off new with
    | some r => some (True, r)
    | none => match oneI new with
      | some (k, n) => (putLit cs off k n).map fun r => (True, r)
      | none => none
  | .a (.c (.pti _ base i s fo)) =>
    match runAt cs base, oneI new with
    | some (ks, m, _), some (k, n) =>
      if s = 1 ∧ fo = 0 then
        if ks.length = 1 ∧ ks.getD 0 .i64 = k then (putRun cs base i.toNat n).map fun r => (0 ≤ i ∧ i.toNat < m, r) else none
      else if s % ks.length = 0 ∧ ks.getD (fo % ks.length) .i64 = k then (putRun cs base (i.toNat * s + fo) n).map fun r => (0 ≤ i ∧ i.toNat * s + fo < m, r)
      else none
    | some (ks, m, _), none => match asRun ks 0 new with
      | some xs => if s % ks.length = 0 ∧ fo % ks.length = 0 then (putSub cs base (i.toNat * s + fo) (width new) xs).map fun r => (0 ≤ i ∧ i.toNat * s + fo + width new ≤ m, r) else none
      | _ => none
    | _, _ => none
  | _ => none

def idOf : LV → Option Nat
  | .a (.c (.ptr id _)) => some id
  | .a (.c (.pti id _ _ _ _)) => some id
  | _ => none

def isPtr : LV → Bool
  | .a (.c (.ptr _ _)) => true
  | _ => false

def evStore (T : Tab) (H : List Blk) (t : TypeId) (x v : LV) : Option (Prop × LV × List Blk) :=
  match look T t, idOf x, cellsOf v with
  | some ti, some id, some new =>
    if width new = ti.size ∧ 0 < ti.size then
      match getB H id with
      | .cells true te cs => (storeAtC cs x new).map fun (p, r) => (p, .a (.c (.val undef)), H.set id (.cells true te r))
      | _ => none
    else if width new = ti.size ∧ ti.size = 0 ∧ isPtr x = true then some (True, .a (.c (.val undef)), H)
    else none
  | _, _, _ => none

theorem run_storeVar {P : Program} {T : Tab} (hT : TabOk P T) {t : TypeId} {ti : TI} (hti : look T t = some ti) {w : World} {b off : Nat} {arr : Array Value} {te : TypeId} {v : Value}
    (hh : w.heap[b]? = some (.cells arr te (0, 0))) (hs : v.cells.size = ti.size) (hf : off + v.cells.size ≤ arr.size) (h1 : ∀ u ∈ v.cells.toList, u.oneCell' = true) :
    (storeVar t ⟨b, off, none⟩ v).run P w = .ok () (w.setRow b (arr.toList.take off ++ v.cells.toList ++ arr.toList.drop (off + v.cells.size)).toArray) := by
  have := run_storeCells_at P b off te v.cells.toList 0 arr w hh (by simpa using hf) h1
  simp only [Nat.add_zero, Array.length_toList] at this
  simp [storeVar, run_sizeOf hT hti, hs]
  simpa [hs] using this

theorem splice_one (l : List Value) (j : Nat) (v : Value) (h : j < l.length) : l.take j ++ [v] ++ l.drop (j + 1) = l.set j v := by
  rw [List.set_eq_take_append_cons_drop, if_pos h]; simp

theorem evStore_sound {P : Program} {T : Tab} (hT : TabOk P T) {n0 : Nat} {w0 : Base} {w : World} {β : List Nat} {H H' : List Blk} (hH : HR n0 w0 β H w) {t : TypeId} {x v : LV} {xv vv : Value} {p : Prop} {r : LV}
    (hx : LVR β x xv) (hv : LVR β v vv) (he : evStore T H t x v = some (p, r, H')) (hp : p) :
    ∃ w', (Instr.storeAt t xv vv).run P w = .ok () w' ∧ HR n0 w0 β H' w' ∧ r = .a (.c (.val undef)) := by
  unfold evStore at he
  split at he
  · rename_i ti id new hti hid hnew
    obtain ⟨hcn, hpl⟩ := cellsOf_sound hv hnew
    split at he
    · rename_i hw
      obtain ⟨hw, hpos⟩ := hw
      split at he
      · rename_i te cs hg
        obtain ⟨⟨q, cs'⟩, hq, he⟩ := Option.map_eq_some_iff.1 he
        simp only [Prod.mk.injEq] at he
        obtain ⟨rfl, rfl, rfl⟩ := he
        obtain ⟨b, arr, hb, hh0, hc⟩ := hH.get hg
        have hsz : vv.cells.size = ti.size := by rw [← Array.length_toList, hcn.len, hw]
        have h1 := oneCells hcn hpl
        unfold storeAtC at hq
        split at hq
        · rename_i id' off
          simp only [idOf, Option.some.injEq] at hid
          subst hid
          obtain ⟨b', hb', rfl⟩ := hx
          rw [hb] at hb'; simp only [Option.some.injEq] at hb'; subst hb'
          split at hq
          · rename_i r' hr
            simp only [Option.some.injEq, Prod.mk.injEq] at hq
            obtain ⟨_, rfl⟩ := hq
            obtain ⟨g1, g2⟩ := putC_sound hc hcn hr
            simp only [Array.length_toList] at g1 g2
            have hz : 0 < arr.size := by omega
            have hh := (hh0 hz).2
            refine ⟨_, ?_, hH.set hg hb hc hz hh0 (arr' := (arr.toList.take off ++ vv.cells.toList ++ arr.toList.drop (off + vv.cells.size)).toArray) (by simpa using g2), rfl⟩
            simp only [Instr.storeAt, Instr.sureAddr, Sem.run_bind, Sem.run_pure, Result.andThen_ok]
            exact run_storeVar hT hti hh hsz g1 h1
          · split at hq
            · rename_i k n ho
              obtain ⟨r', hr, he⟩ := Option.map_eq_some_iff.1 hq
              simp only [Prod.mk.injEq] at he
              obtain ⟨_, rfl⟩ := he
              have e1 := oneI_sound hcn ho
              obtain ⟨g1, g2⟩ := putLit_sound hc hr
              have hs1 : vv.cells.size = 1 := by rw [← Array.length_toList, e1]; rfl
              simp only [Array.length_toList] at g1
              have hz : 0 < arr.size := by omega
              have hh := (hh0 hz).2
              refine ⟨_, ?_, hH.set hg hb hc hz hh0 (arr' := (arr.toList.take off ++ vv.cells.toList ++ arr.toList.drop (off + vv.cells.size)).toArray) (by rw [e1, hs1, splice_one _ _ _ (by simpa using g1)]; simpa using g2), rfl⟩
              simp only [Instr.storeAt, Instr.sureAddr, Sem.run_bind, Sem.run_pure, Result.andThen_ok]
              exact run_storeVar hT hti hh hsz (by omega) h1
            · simp at hq
        · rename_i id' base i s fo
          simp only [idOf, Option.some.injEq] at hid
          subst hid
          obtain ⟨b', hb', rfl⟩ := hx
          rw [hb] at hb'; simp only [Option.some.injEq] at hb'; subst hb'
          split at hq
          · rename_i ks m l k n hr ho
            have e1 := oneI_sound hcn ho
            have hs1 : vv.cells.size = 1 := by rw [← Array.length_toList, e1]; rfl
            obtain ⟨hl, hget⟩ := runAt_sound hc hr
            have key : ∀ j, j < m → ks.getD (j % ks.length) .i64 = k → ∀ r', putRun cs base j n = some r' →
                ∃ w', (Instr.storeAt t (.pointer (some ⟨b, base + j, none⟩)) vv).run P w = .ok () w' ∧ HR n0 w0 β (H.set id' (.cells true te r')) w' := by
              intro j hj hk r' hr'
              have g2 := putRun_sound hc hr hj hr'
              rw [hk] at g2
              have g1 : base + j < arr.size := by
                have := (List.getElem?_eq_some_iff.1 (hget j hj)).1
                simpa using this
              have hz : 0 < arr.size := by omega
              have hh := (hh0 hz).2
              refine ⟨_, ?_, hH.set hg hb hc hz hh0 (arr' := (arr.toList.take (base + j) ++ vv.cells.toList ++ arr.toList.drop (base + j + vv.cells.size)).toArray) (by rw [e1, hs1, splice_one _ _ _ (by simpa using g1)]; simpa using g2)⟩
              simp only [Instr.storeAt, Instr.sureAddr, Sem.run_bind, Sem.run_pure, Result.andThen_ok]
              exact run_storeVar hT hti hh hsz (by omega) h1
            split at hq
            · rename_i hs
              obtain ⟨rfl, rfl⟩ := hs
              split at hq
              · rename_i hk
                obtain ⟨r', hr', he⟩ := Option.map_eq_some_iff.1 hq
                simp only [Prod.mk.injEq] at he
                obtain ⟨rfl, rfl⟩ := he
                obtain ⟨w', e2, e3⟩ := key i.toNat hp.2 (by rw [hk.1, Nat.mod_one]; exact hk.2) _ hr'
                exact ⟨w', by rw [Nat.mul_one, Nat.add_zero]; exact e2, e3, rfl⟩
              · simp at hq
            · split at hq
              · rename_i hk
                obtain ⟨r', hr', he⟩ := Option.map_eq_some_iff.1 hq
                simp only [Prod.mk.injEq] at he
                obtain ⟨rfl, rfl⟩ := he
                obtain ⟨w', e2, e3⟩ := key _ hp.2 (by rw [Nat.add_mod, Nat.mul_mod, hk.1, Nat.mul_zero, Nat.zero_mod, Nat.zero_add, Nat.mod_mod]; exact hk.2) _ hr'
                exact ⟨w', by rw [Nat.add_assoc]; exact e2, e3, rfl⟩
              · simp at hq
          · rename_i ks m l hr hno
            split at hq
            · rename_i xs hxs
              split at hq
              · rename_i hk
                obtain ⟨hk1, hk2⟩ := hk
                obtain ⟨r', hr', he⟩ := Option.map_eq_some_iff.1 hq
                simp only [Prod.mk.injEq] at he
                obtain ⟨rfl, rfl⟩ := he
                obtain ⟨hl', e1⟩ := asRun_sound hcn hxs
                have e1 : vv.cells.toList = runV ks xs := by rw [e1]; simp [runV]
                obtain ⟨hl, hget⟩ := runAt_sound hc hr
                have hk0 : (i.toNat * s + fo) % ks.length = 0 := by rw [Nat.add_mod, Nat.mul_mod, hk1, hk2, Nat.mul_zero, Nat.zero_mod, Nat.add_zero, Nat.zero_mod]
                have g2 := putSub_sound hc hr hl' hp.2 hk0 hr'
                have hcs : vv.cells.size = width new := by rw [← Array.length_toList, e1]; simp [runV, hl']
                have hfit : base + (i.toNat * s + fo) + width new ≤ arr.size := by
                  have g1 := runAt_le hc hr
                  have := hp.2
                  simp only [Array.length_toList] at g1
                  omega
                have hz : 0 < arr.size := by omega
                have hh := (hh0 hz).2
                refine ⟨_, ?_, hH.set hg hb hc hz hh0 (arr' := (arr.toList.take (base + (i.toNat * s + fo)) ++ vv.cells.toList ++ arr.toList.drop (base + (i.toNat * s + fo) + vv.cells.size)).toArray) (by rw [e1, hcs]; simpa using g2), rfl⟩
                simp only [Instr.storeAt, Instr.sureAddr, Sem.run_bind, Sem.run_pure, Result.andThen_ok]
                rw [show base + i.toNat * s + fo = base + (i.toNat * s + fo) by omega]
                exact run_storeVar hT hti hh hsz (by omega) h1
              · simp at hq
            · simp at hq
          · simp at hq
        · simp at hq
      · simp at he
    · split at he
      · rename_i hw
        obtain ⟨hw, hz, hpt⟩ := hw
        simp only [Option.some.injEq, Prod.mk.injEq] at he
        obtain ⟨_, rfl, rfl⟩ := he
        unfold isPtr at hpt
        split at hpt
        · rename_i id' off
          obtain ⟨b, _, rfl⟩ := hx
          have h0 : vv.cells.toList.length = 0 := by rw [hcn.len, hw, hz]
          have h0' : vv.cells = #[] := Array.toList_inj.1 (List.length_eq_zero_iff.1 h0)
          refine ⟨w, ?_, hH, rfl⟩
          simp [Instr.storeAt, Instr.sureAddr, storeVar, run_sizeOf hT hti, h0', hz, storeCells]
        · cases hpt
      · simp at he
  · simp at he



def evField (T : Tab) (s : TypeId) (x : LV) (f : Nat) : Option (Prop × LV) :=
  match look T s, x with
  | some ti, .a (.agg cs) => match ti.d with
    | .struct fs => match fs[f]? with
      | some (o, ft) => match look T ft with
        | some fi => (loadC cs fi o).map fun v => (True, v)
        | none => none
      | none => none
    | _ => none
  | _, _ => none

theorem evField_sound {P : Program} {T : Tab} (hT : TabOk P T) {β : List Nat} {s : TypeId} {x : LV} {xv : Value} {f : Nat} {p : Prop} {r : LV} (w : World)
    (hx : LVR β x xv) (he : evField T s x f = some (p, r)) : ∃ v, (Instr.field s xv f).run P w = .ok v w ∧ LVR β r v := by
  unfold evField at he
  split at he
  · rename_i ti cs hti
    obtain ⟨_, hu⟩ := hT.look hti
    obtain ⟨arr, rfl, hc⟩ := hx
    split at he
    · rename_i fs hd
      rw [hd] at hu
      obtain ⟨fields, hu, hfs⟩ := hu
      split at he
      · rename_i o ft hf
        split at he
        · rename_i fi hfi
          obtain ⟨v, hv, he⟩ := Option.map_eq_some_iff.1 he
          simp only [Prod.mk.injEq] at he
          obtain ⟨_, rfl⟩ := he
          rw [hfs, List.getElem?_map] at hf
          obtain ⟨fld, hfld, e⟩ := Option.map_eq_some_iff.1 hf
          simp only [Prod.mk.injEq] at e
          obtain ⟨rfl, rfl⟩ := e
          obtain ⟨v', h1, h2⟩ := part_sound hT hfi hc hv w
          rw [Array.getElem?_toList] at hfld
          exact ⟨v', by simp [Instr.field, underlying, hu, hfld, asAgg, h1], h2⟩
        · simp at he
      · simp at he
    · simp at he
  · simp at he

def evFieldA (T : Tab) (s : TypeId) (x : LV) (f : Nat) : Option (Prop × LV) :=
  match look T s with
  | some ti => match ti.d with
    | .struct fs => match fs[f]? with
      | some (o, ft) => match look T ft with
        | some fi => if fi.size = 0 then none else
          match x with
          | .a (.c (.ptr id off)) => some (True, .a (.c (.ptr id (off + o))))
          | .a (.c (.pti id base i st fo)) => some (True, .a (.c (.pti id base i st (fo + o))))
          | _ => none
        | none => none
      | none => none
    | _ => none
  | none => none

theorem evFieldA_sound {P : Program} {T : Tab} (hT : TabOk P T) {β : List Nat} {s : TypeId} {x : LV} {xv : Value} {f : Nat} {p : Prop} {r : LV} (w : World)
    (hx : LVR β x xv) (he : evFieldA T s x f = some (p, r)) : ∃ v, (Instr.fieldAt s xv f).run P w = .ok v w ∧ LVR β r v := by
  unfold evFieldA at he
  split at he
  · rename_i ti hti
    obtain ⟨_, hu⟩ := hT.look hti
    split at he
    · rename_i fs hd
      rw [hd] at hu
      obtain ⟨fields, hu, hfs⟩ := hu
      split at he
      · rename_i o ft hf
        split at he
        · rename_i fi hfi
          split at he
          · simp at he
          rename_i hz
          rw [hfs, List.getElem?_map] at hf
          obtain ⟨fld, hfld, e⟩ := Option.map_eq_some_iff.1 hf
          simp only [Prod.mk.injEq] at e
          obtain ⟨rfl, rfl⟩ := e
          rw [Array.getElem?_toList] at hfld
          have hs := run_sizeOf hT hfi w
          split at he
          · simp only [Option.some.injEq, Prod.mk.injEq] at he
            obtain ⟨_, rfl⟩ := he
            obtain ⟨b, hb, rfl⟩ := hx
            exact ⟨_, by simp [Instr.fieldAt, underlying, hu, hfld, Instr.sureAddr, fieldPlace, hs, hz, addr_add], ⟨b, hb, rfl⟩⟩
          · simp only [Option.some.injEq, Prod.mk.injEq] at he
            obtain ⟨_, rfl⟩ := he
            obtain ⟨b, hb, rfl⟩ := hx
            exact ⟨_, by simp [Instr.fieldAt, underlying, hu, hfld, Instr.sureAddr, fieldPlace, hs, hz, addr_add]; rfl, ⟨b, hb, by rw [Nat.add_assoc]⟩⟩
          · simp at he
        · simp at he
      · simp at he
    · simp at he
  · simp at he

def evConv (o : Bool) (T : Tab) (s d : TypeId) (x : LV) : Option (Prop × LV) :=
  match look T s, look T d with
  | some si, some di => match si.d, di.d, asI x with
    | .int _, .int k, some (_, n, l) => some (wrapN o k n l)
    | _, _, _ => none
  | _, _ => none

theorem evConv_sound {P : Program} {T : Tab} (hT : TabOk P T) {β : List Nat} {o : Bool} {s d : TypeId} {x : LV} {xv : Value} {p : Prop} {r : LV} (w : World)
    (hx : LVR β x xv) (he : evConv o T s d x = some (p, r)) (hp : p) : ∃ v, (convert s d xv).run P w = .ok v w ∧ LVR β r v := by
  unfold evConv at he
  split at he
  · rename_i si di hsi hdi
    obtain ⟨_, hu⟩ := hT.look hsi
    obtain ⟨_, hv⟩ := hT.look hdi
    split at he
    · rename_i k' k k'' n l h1 h2 hax
      rw [h1] at hu; rw [h2] at hv
      have e := asI_sound hx hax
      subst e
      simp only [Option.some.injEq] at he
      refine ⟨_, by simp [convert, underlying, hu, hv, Conv.intToInt]; rfl, ?_⟩
      have e2 : r = (wrapN o k n l).2 := by rw [he]
      rw [e2]; exact wrapN_sound β o k n _ (by rw [he]; exact hp)
    · simp at he
  · simp at he

def evUn (o : Bool) (op : UnOp) (x : LV) : Option (Prop × LV) :=
  match op, x with
  | .not, .a (.c .tt) => some (True, .a (.c .ff))
  | .not, .a (.c .ff) => some (True, .a (.c .tt))
  | .not, .a (.c (.bool b)) => some (True, .a (.c (.bool !b)))
  | .neg, .a (.c (.lit k n)) => some (wrapN o k (0 - n) true)
  | .neg, .a (.c (.int k n)) => some (wrapN o k (0 - n) false)
  | _, _ => none

theorem evUn_sound {P : Program} {β : List Nat} {o : Bool} {op : UnOp} {x : LV} {xv : Value} {p : Prop} {r : LV} (w : World)
    (hx : LVR β x xv) (he : evUn o op x = some (p, r)) (hp : p) : ∃ v, (Op.unary op xv).run P w = .ok v w ∧ LVR β r v := by
  unfold evUn at he
  split at he <;> simp only [Option.some.injEq, Prod.mk.injEq, reduceCtorEq] at he
  · obtain ⟨_, rfl⟩ := he
    have e : xv = .bool true := hx
    subst e; exact ⟨.bool false, by simp [Op.unary], rfl⟩
  · obtain ⟨_, rfl⟩ := he
    have e : xv = .bool false := hx
    subst e; exact ⟨.bool true, by simp [Op.unary], rfl⟩
  · rename_i b
    obtain ⟨_, rfl⟩ := he
    have e : xv = .bool b := hx
    subst e; exact ⟨.bool !b, by simp [Op.unary], rfl⟩
  · rename_i k n
    have e : xv = .int k n := hx
    subst e
    refine ⟨_, by simp [Op.unary, Op.intArith]; rfl, ?_⟩
    have e2 : r = (wrapN o k (0 - n) true).2 := by rw [he]
    rw [e2]; have := wrapN_sound β o k (0 - n) true (by rw [he]; exact hp); simpa using this
  · rename_i k n
    have e : xv = .int k n := hx
    subst e
    refine ⟨_, by simp [Op.unary, Op.intArith]; rfl, ?_⟩
    have e2 : r = (wrapN o k (0 - n) false).2 := by rw [he]
    rw [e2]; have := wrapN_sound β o k (0 - n) false (by rw [he]; exact hp); simpa using this

def evPick (c x y : LV) : Option (Prop × LV) :=
  match c with
  | .a (.c .tt) => some (True, x)
  | .a (.c .ff) => some (True, y)
  | .a (.c (.bool b)) => match asB x, asB y with
    | some p, some q => some (True, .a (.c (.bool (if b then p else q))))
    | _, _ => none
  | _ => none

def evNil (x : LV) : Option (Prop × LV) :=
  match x with
  | .a (.c (.ptr id off)) => some (True, .a (.c (.ptr id off)))
  | .a (.c (.pti id b i s fo)) => some (True, .a (.c (.pti id b i s fo)))
  | .a (.c (.fn (.func f) caps)) => some (True, .a (.c (.fn (.func f) caps)))
  | .a (.c (.ifi t k n)) => some (True, .a (.c (.ifi t k n)))
  | .a (.c (.ifr t ks l)) => some (True, .a (.c (.ifr t ks l)))
  | _ => none

def evExt (x : LV) (i : Nat) : Option (Prop × LV) :=
  match x with
  | .tup l => (l[i]?).map fun a => (True, .a a)
  | _ => none

theorem AvsR_get {β : List Nat} : ∀ {as : List Av} {vs : List Value} {i : Nat} {a : Av}, AvsR β as vs → as[i]? = some a → ∃ v, vs[i]? = some v ∧ AvR β a v
  | [], _, _, _, _, h => by simp at h
  | x :: xs, vs, 0, a, ⟨v, rest, h, h1, _⟩, ha => by subst h; simp at ha; subst ha; exact ⟨v, by simp, h1⟩
  | x :: xs, vs, i + 1, a, ⟨v, rest, h, _, h2⟩, ha => by subst h; simp at ha; obtain ⟨u, hu, hr⟩ := AvsR_get h2 ha; exact ⟨u, by simpa using hu, hr⟩

/-- Kinds that are all one, as one. -/
def kc : List EK → List EK
  | [] => []
  | k :: r => if r.all (· == k) = true then [k] else k :: r
theorem runV_kc (ks : List EK) (x : List Int) : runV (kc ks) x = runV ks x := by
  unfold kc
  split
  · rfl
  · rename_i k r
    split
    · rename_i h
      unfold runV
      rw [List.map_inj_left]
      intro i _
      have e1 : ∀ j, j < (k :: r).length → (k :: r).getD j .i64 = k := fun j hj => by
        rw [List.getD_eq_getElem?_getD, List.getElem?_eq_getElem hj, Option.getD_some]
        have hm := List.getElem_mem hj
        rcases List.mem_cons.1 hm with e | e
        · exact e
        · exact eq_of_beq (List.all_eq_true.1 h _ e)
      rw [e1 _ (Nat.mod_lt _ (by simp)), List.length_singleton, Nat.mod_one]
      rfl
    · rfl
/-- A run put into a greater one. -/
def putRn : List Cel → Nat → List EK → Nat → List Int → Option (List Cel)
  | [], _, _, _, _ => none
  | c :: cs, off, ks, m, x =>
    if off < c.w then
      match c with
      | .run ks' n l => if kc ks' = kc ks ∧ off % ks'.length = 0 ∧ off + m ≤ n then some (.run ks' n (l.take off ++ x ++ l.drop (off + m)) :: cs) else none
      | _ => none
    else (putRn cs (off - c.w) ks m x).map (c :: ·)

theorem putRn_sound {β : List Nat} {ks : List EK} {m : Nat} {x : List Int} (hx : x.length = m) : ∀ {cs : List Cel} {vs : List Value} {off : Nat} {r : List Cel}, CelsR β cs vs → putRn cs off ks m x = some r →
    off + m ≤ vs.length ∧ CelsR β r (vs.take off ++ runV ks x ++ vs.drop (off + m))
  | [], _, _, _, _, h => by simp [putRn] at h
  | c :: cs, vs, off, r, h, hc => by
    obtain ⟨pre, rest, rfl, h1, h2⟩ := h
    have hl := h1.len
    unfold putRn at hc
    split at hc
    · rename_i ho
      cases c <;> simp only [reduceCtorEq] at hc
      rename_i ks' n l
      split at hc
      · rename_i hk
        obtain ⟨hk1, hk2, hk3⟩ := hk
        have hkx : runV ks x = runV ks' x := by rw [← runV_kc ks, ← hk1, runV_kc]
        rw [hkx]
        simp only [Option.some.injEq] at hc
        subst hc
        obtain ⟨e1, rfl⟩ := h1
        simp only [Cel.w] at *
        have hv : (runV ks' l).length = n := by simp [runV, e1]
        refine ⟨by simp; omega, runV ks' (l.take off ++ x ++ l.drop (off + m)), rest, ?_, ⟨by simp; omega, rfl⟩, h2⟩
        rw [← runV_sub ks' l x off m hx (by omega) hk2, List.take_append_of_le_length (by omega), List.drop_append_of_le_length (by omega)]
        simp only [List.append_assoc]
      · simp at hc
    · rename_i ho
      obtain ⟨r', hr', rfl⟩ := Option.map_eq_some_iff.1 hc
      obtain ⟨g1, g2⟩ := putRn_sound hx h2 hr'
      refine ⟨by simp; omega, pre, _, ?_, h1, g2⟩
      rw [List.take_append, List.take_of_length_le (by omega), List.drop_append, List.drop_of_length_le (by omega), hl, List.nil_append, show off + m - c.w = off - c.w + m by omega]
      simp only [List.append_assoc]

theorem runV_asRun {β : List Nat} {ks : List EK} {cs : List Cel} {vs : List Value} {xs : List Int} (hc : CelsR β cs vs) (h : asRun ks 0 cs = some xs) : xs.length = width cs ∧ vs = runV ks xs := by
  obtain ⟨h1, h2⟩ := asRun_sound hc h
  refine ⟨h1, ?_⟩
  rw [h2]
  unfold runV
  rw [List.map_inj_left]
  intro i _
  rw [Nat.zero_add]

def kindC : List Cel → Option EK
  | .int k _ :: _ => some (EK.of k)
  | .lit k _ :: _ => some (EK.of k)
  | _ => none
/-- Cells as one run: a run itself, or numbers of one kind. -/
def oneRun (cs : List Cel) : Option (List EK × Nat × List Int) := match cs with
  | [.run ks m x] => some (ks, m, x)
  | cs => match kindC cs with
    | some k => match asRun [k] 0 cs with
      | some xs => some ([k], xs.length, xs)
      | none => none
    | none => none
theorem oneRun_sound {β : List Nat} {new : List Cel} {vs : List Value} {ks : List EK} {m : Nat} {x : List Int} (hc : CelsR β new vs) (h : oneRun new = some (ks, m, x)) : x.length = m ∧ vs = runV ks x := by
  unfold oneRun at h
  split at h
  · simp only [Option.some.injEq, Prod.mk.injEq] at h
    obtain ⟨rfl, rfl, rfl⟩ := h
    obtain ⟨pre, rest', ec, ⟨hxm, hpre⟩, hrest⟩ := hc
    have hrest : rest' = [] := hrest
    subst hrest
    rw [List.append_nil, hpre] at ec
    exact ⟨hxm, ec⟩
  · split at h
    · split at h
      · rename_i xs hx
        simp only [Option.some.injEq, Prod.mk.injEq] at h
        obtain ⟨rfl, rfl, rfl⟩ := h
        exact ⟨rfl, (runV_asRun hc hx).2⟩
      · simp at h
    · simp at h

/-- The cells of a struct or an array, put together. -/
def evParts (st : St) (place : Nat → Option (Nat × Nat)) : List (Nat × Operand) → List Cel → Option (List Cel)
  | [], cs => some cs
  | (i, x) :: rest, cs =>
    match place i, cellsOf (st.ev x) with
    | some (off, size), some new => if width new = size then
        match putC cs off new with
        | some r => evParts st place rest r
        | none => match oneI new with
          | some (k, n) => match putLit cs off k n with
            | some r => evParts st place rest r
            | none => none
          | none => match oneRun new with
            | some (ks, m, x) => match putRn cs off ks m x with
              | some r => evParts st place rest r
              | none => none
            | none => none
      else none
    | _, _ => none

theorem fold_splice (off : Nat) : ∀ (us : List Value) (k : Nat) (cs : Array Value), off + k + us.length ≤ cs.size →
    ((us.zipIdx k).foldl (fun (cs : Array Value) (c, j) => cs.setIfInBounds (off + j) c) cs).toList = cs.toList.take (off + k) ++ us ++ cs.toList.drop (off + k + us.length)
  | [], k, cs, _ => by simp
  | u :: us, k, cs, h => by
    rw [List.zipIdx_cons, List.foldl_cons]
    simp only at *
    rw [fold_splice off us (k + 1) _ (by simp at h ⊢; omega), Array.toList_setIfInBounds]
    have e := list_seg_step cs.toList (off + k) u us (by simp at h ⊢; omega)
    simpa [Nat.add_assoc] using e

theorem evParts_sound {P : Program} {β : List Nat} {st : St} {a : Act} (hM : TmR β st.tmps a.tmps.toList) {place : Nat → Option (Nat × Nat)} : ∀ (ps : List (Nat × Operand)) (cs : List Cel) (arr : Array Value) (r : List Cel),
    CelsR β cs arr.toList → evParts st place ps cs = some r → ∃ out, Instr.fill place arr (ps.map fun (i, x) => (i, a.eval x)) = some out ∧ CelsR β r out.toList
  | [], cs, arr, r, hc, h => by
    simp only [evParts, Option.some.injEq] at h; subst h
    exact ⟨arr, rfl, hc⟩
  | (i, x) :: rest, cs, arr, r, hc, h => by
    unfold evParts at h
    split at h
    · rename_i off size new hpl hnew
      obtain ⟨hcn, _⟩ := cellsOf_sound (ev_sound hM x) hnew
      have hlen : (a.eval x).cells.size = width new := by rw [← Array.length_toList, hcn.len]
      split at h
      · rename_i hw
        have key : ∀ r', off + (a.eval x).cells.size ≤ arr.size → CelsR β r' (arr.toList.take off ++ (a.eval x).cells.toList ++ arr.toList.drop (off + (a.eval x).cells.size)) → evParts st place rest r' = some r →
            ∃ out, Instr.fill place arr (((i, x) :: rest).map fun (i, x) => (i, a.eval x)) = some out ∧ CelsR β r out.toList := by
          intro r' g1 g2 h
          have hf := fold_splice off (a.eval x).cells.toList 0 arr (by simpa using g1)
          simp only [Nat.add_zero, Array.length_toList] at hf
          obtain ⟨out, h1, h2⟩ := evParts_sound (P := P) hM rest r' _ r (by rw [← hf] at g2; exact g2) h
          refine ⟨out, ?_, h2⟩
          simp only [List.map_cons, Instr.fill, hpl]
          rw [if_neg (by rw [hlen, hw]; simp; omega)]
          rw [← h1]
          congr 1
          rw [← Array.foldl_toList, Array.toList_zipIdx]
        split at h
        · rename_i r' hr
          obtain ⟨g1, g2⟩ := putC_sound hc hcn hr
          simp only [Array.length_toList] at g1 g2
          exact key r' g1 g2 h
        · split at h
          · rename_i k n ho
            split at h
            · rename_i r' hr
              have e1 := oneI_sound hcn ho
              have hs1 : (a.eval x).cells.size = 1 := by rw [← Array.length_toList, e1]; rfl
              obtain ⟨g1, g2⟩ := putLit_sound hc hr
              refine key r' (by rw [hs1]; simp at g1; omega) ?_ h
              rw [e1, hs1, splice_one _ _ _ g1]; exact g2
            · simp at h
          · split at h
            · rename_i ks m xs ho
              obtain ⟨hxm, ec⟩ := oneRun_sound hcn ho
              split at h
              · rename_i r' hr
                have hsz : (a.eval x).cells.size = m := by rw [← Array.length_toList, ec]; simp [runV, hxm]
                obtain ⟨g1, g2⟩ := putRn_sound hxm hc hr
                refine key r' (by rw [hsz]; simpa using g1) ?_ h
                rw [hsz, ec]; exact g2
              · simp at h
            · simp at h
      · simp at h
    · simp at h

def placeS (T : Tab) (fs : List (Nat × TypeId)) (i : Nat) : Option (Nat × Nat) :=
  match fs[i]? with
  | some (o, ft) => match look T ft with
    | some fi => some (o, fi.size)
    | none => none
  | none => none

def evBuild (T : Tab) (st : St) (t : TypeId) (parts : Array (Nat × Operand)) : Option (Prop × LV) :=
  match look T t with
  | some ti => match ti.d with
    | .struct fs =>
      if (fs.all fun x => (look T x.2).isSome) = true then (evParts st (placeS T fs) parts.toList ti.zero).map fun l => (True, .a (.agg l)) else none
    | .arr _ e => match look T e with
      | some et => (evParts st (fun i => some (i * et.size, et.size)) parts.toList ti.zero).map fun l => (True, .a (.agg l))
      | none => none
    | _ => none
  | none => none

theorem run_places {P : Program} {T : Tab} (hT : TabOk P T) : ∀ (fields : List Field) (w : World), ((fields.map fun f => (f.offset, f.type)).all fun (x : Nat × TypeId) => (look T x.2).isSome) = true →
    (fields.mapM (fun f => Functor.map (Prod.mk f.offset) (sizeOf f.type) : Field → Sem (Nat × Nat))).run P w = .ok (fields.map fun f => (f.offset, ((look T f.type).map TI.size).getD 0)) w
  | [], w, _ => by simp
  | f :: fs, w, h => by
    simp only [List.map_cons, List.all_cons, Bool.and_eq_true] at h
    obtain ⟨fi, hfi⟩ := Option.isSome_iff_exists.1 h.1
    have ih := run_places hT fs w h.2
    simp [List.mapM_cons, run_sizeOf hT hfi, hfi] at ih ⊢
    rw [ih]; simp

theorem evBuild_sound {P : Program} {T : Tab} (hT : TabOk P T) {β : List Nat} {st : St} {a : Act} (hM : TmR β st.tmps a.tmps.toList) {t : TypeId} {parts : Array (Nat × Operand)} {p : Prop} {r : LV} (w : World)
    (he : evBuild T st t parts = some (p, r)) : ∃ v, (Instr.build t (parts.map fun (i, x) => (i, a.eval x))).run P w = .ok v w ∧ LVR β r v := by
  unfold evBuild at he
  split at he
  · rename_i ti hti
    obtain ⟨⟨inf, h1, h2, z, hz, hc⟩, hu⟩ := hT.look hti
    split at he
    · rename_i fs hd
      rw [hd] at hu
      obtain ⟨fields, hu, hfs⟩ := hu

      split at he
      · rename_i hall
        obtain ⟨l, hl, he⟩ := Option.map_eq_some_iff.1 he
        simp only [Prod.mk.injEq] at he
        obtain ⟨_, rfl⟩ := he
        obtain ⟨out, ho, hr⟩ := evParts_sound (P := P) hM _ _ _ _ (hc β) hl
        refine ⟨.agg out, ?_, ⟨out, rfl, hr⟩⟩
        subst hfs
        have hp := run_places hT fields.toList w hall
        have hpl : (fun i => (fields.toList.map fun f => (f.offset, ((look T f.type).map TI.size).getD 0))[i]?) = placeS T (fields.toList.map fun f => (f.offset, f.type)) := by
          funext i
          simp only [placeS, List.getElem?_map]
          cases hf : fields.toList[i]? with
          | none => simp
          | some f =>
            have hm : (look T f.type).isSome = true := by
              have := List.all_eq_true.1 hall (f.offset, f.type) (List.mem_map.2 ⟨f, List.mem_of_getElem? hf, rfl⟩)
              exact this
            obtain ⟨fi, hfi⟩ := Option.isSome_iff_exists.1 hm
            simp [hfi]
        rw [← hpl] at ho
        have hp' : (fields.mapM (fun f => Functor.map (Prod.mk f.offset) (sizeOf f.type) : Field → Sem (Nat × Nat))).run P w = .ok (fields.toList.map fun f => (f.offset, ((look T f.type).map TI.size).getD 0)).toArray w := by
          rw [← Array.toArray_toList (xs := fields), List.mapM_toArray]
          simp only [Sem.run_map, hp, Result.andThen_ok]
        simp only [Instr.build, zeroValue, typeInfo, underlying, Sem.run_bind, run_program, Result.andThen_ok, h1, hz, hu, Sem.run_pure, bind_pure_comp, hp', List.getElem?_toArray]
        have ho' : Instr.fill (fun x => (fields.toList.map fun f => (f.offset, ((look T f.type).map TI.size).getD 0))[x]?) z.cells (Array.map (fun x => (x.fst, a.eval x.snd)) parts).toList = some out := by
          rw [Array.toList_map]; exact ho
        rw [ho']; rfl
      · simp at he
    · rename_i n e hd
      rw [hd] at hu
      split at he
      · rename_i et het
        obtain ⟨l, hl, he⟩ := Option.map_eq_some_iff.1 he
        simp only [Prod.mk.injEq] at he
        obtain ⟨_, rfl⟩ := he
        obtain ⟨out, ho, hr⟩ := evParts_sound (P := P) hM _ _ _ _ (hc β) hl
        refine ⟨.agg out, ?_, ⟨out, rfl, hr⟩⟩
        simp [Instr.build, zeroValue, typeInfo, h1, hz, underlying, hu, run_sizeOf hT het]
        simp [ho]
      · simp at he
    · simp at he
  · simp at he

/-- The kinds of zero cells. -/
def kindsOf : List Cel → List EK
  | [] => []
  | .lit k _ :: r => EK.of k :: kindsOf r
  | .ff :: r => .bool :: kindsOf r
  | .str _ :: r => .str :: kindsOf r
  | .run ks n _ :: r => ((List.range n).map fun j => ks.getD (j % ks.length) .i64) ++ kindsOf r
  | _ :: _ => []

def patOf (z : List Cel) : List EK :=
  match kindsOf z with
  | [] => []
  | k :: r => if r.all (fun x => decide (x = k)) = true then [k] else k :: r

/-- Is it the string of no bytes? -/
def isStr0 : List Cel → Bool
  | [.str s] => match s.data.toList with
    | [] => true
    | _ => false
  | _ => false
/-- The kinds of the numbers of which a type's values are made. -/
def flatE (et : TI) : Option (List EK) :=
  if isStr0 et.zero = true ∧ et.size = 1 then some [.str]
  else if asRun (patOf et.zero) 0 et.zero = some (List.replicate et.size 0) ∧ 0 < et.size ∧ et.size % (patOf et.zero).length = 0 ∧ 0 < (patOf et.zero).length then some (patOf et.zero) else none

theorem flatE_sound {et : TI} {ks : List EK} (h : flatE et = some ks) {β : List Nat} {vs : List Value} (hc : CelsR β et.zero vs) : vs = runV ks (List.replicate et.size 0) ∧ 0 < et.size ∧ et.size % ks.length = 0 := by
  unfold flatE at h
  split at h
  · rename_i hh
    obtain ⟨h1, h2⟩ := hh
    simp only [Option.some.injEq] at h
    subst h
    unfold isStr0 at h1
    split at h1
    · rename_i s hz
      split at h1
      · rename_i hs
        rw [hz] at hc
        obtain ⟨pre, rest, rfl, ⟨v, rfl, hv⟩, hr⟩ := hc
        have hr : rest = [] := hr
        have hv : v = .string s := hv
        have : s = ByteArray.empty := by
          cases s with | mk d => simp only at hs; obtain rfl : d = #[] := Array.toList_inj.1 hs; rfl
        subst hr hv this
        refine ⟨?_, by omega, by rw [h2]; rfl⟩
        rw [h2]
        simp [runV, EK.val, decS_zero]
      · simp at h1
    · simp at h1
  split at h
  · rename_i hh
    obtain ⟨h1, h2, h3, h4⟩ := hh
    simp only [Option.some.injEq] at h
    rw [h] at h1 h3 h4
    obtain ⟨g1, g2⟩ := asRun_sound hc h1
    refine ⟨?_, h2, h3⟩
    rw [g2]
    unfold runV
    rw [List.map_inj_left]
    intro i _
    rw [Nat.zero_add]
  · simp at h

def reps : Nat → List Cel → List Cel
  | 0, _ => []
  | n + 1, z => z ++ reps n z

def repV : Nat → List Value → List Value
  | 0, _ => []
  | n + 1, z => z ++ repV n z

theorem reps_R {β : List Nat} {z : List Cel} {vs : List Value} (h : CelsR β z vs) : ∀ n, CelsR β (reps n z) (repV n vs)
  | 0 => rfl
  | n + 1 => h.append (reps_R h n)

theorem repV_len (vs : List Value) : ∀ n, (repV n vs).length = n * vs.length
  | 0 => by simp [repV]
  | n + 1 => by rw [repV, List.length_append, repV_len vs n, Nat.add_mul, Nat.one_mul, Nat.add_comm]

theorem repV_get (vs : List Value) : ∀ (n i : Nat), i < n * vs.length → (repV n vs)[i]? = vs[i % vs.length]?
  | 0, i, h => by simp at h
  | n + 1, i, h => by
    unfold repV
    by_cases hi : i < vs.length
    · rw [List.getElem?_append_left hi, Nat.mod_eq_of_lt hi]
    · rw [List.getElem?_append_right (by omega), repV_get vs n (i - vs.length) (by rw [Nat.add_mul, Nat.one_mul] at h; omega)]
      rw [← Nat.mod_eq_sub_mod (by omega)]

/-- Zero cells, so many times. -/
theorem made_eq (z : Array Value) (n : Nat) : ((Array.range (n * z.size)).map (fun i => z[i % z.size]!)).toList = repV n z.toList := by
  apply List.ext_getElem?
  intro i
  by_cases hi : i < n * z.size
  · rw [repV_get _ _ _ (by simpa using hi), Array.length_toList, Array.getElem?_toList]
    have hz : 0 < z.size := by
      rcases Nat.eq_zero_or_pos z.size with h | h
      · rw [h] at hi; simp at hi
      · exact h
    have hm : i % z.size < z.size := Nat.mod_lt _ hz
    simp [hi, hm]
  · rw [List.getElem?_eq_none (by simp; omega), List.getElem?_eq_none (by rw [repV_len]; simp; omega)]

theorem runV_app {ks : List EK} {a b : List Int} (h : a.length % ks.length = 0) : runV ks (a ++ b) = runV ks a ++ runV ks b := by
  unfold runV
  rw [List.length_append, List.range_add, List.map_append, List.map_map]
  congr 1
  · rw [List.map_inj_left]
    intro i hi
    rw [List.mem_range] at hi
    rw [List.getD_eq_getElem?_getD (l := a ++ b), List.getElem?_append_left hi, ← List.getD_eq_getElem?_getD]
  · rw [List.map_inj_left]
    intro i _
    simp only [Function.comp]
    rw [Nat.add_mod, h, Nat.zero_add, Nat.mod_mod, List.getD_eq_getElem?_getD (l := a ++ b), List.getElem?_append_right (by omega), Nat.add_sub_cancel_left, ← List.getD_eq_getElem?_getD]

theorem repV_run {ks : List EK} {s : Nat} (hs : s % ks.length = 0) : ∀ n, repV n (runV ks (List.replicate s 0)) = runV ks (List.replicate (n * s) 0)
  | 0 => by simp [repV, runV]
  | n + 1 => by
    unfold repV
    rw [repV_run hs n, ← runV_app (by simpa using hs), List.replicate_append_replicate]
    congr 2
    rw [Nat.add_mul, Nat.one_mul, Nat.add_comm]

/-- A slice laid with its parts. -/
def evBuildS (T : Tab) (st : St) (t : TypeId) (len : Nat) (parts : Array (Nat × Operand)) : Option (Prop × LV × List Blk) :=
  match look T t with
  | some ti => match ti.d with
    | .slice e => match look T e with
      | some et => if 0 < et.size ∧ 0 < len ∧ len * et.size ≤ 2 ^ 24 ∧ width et.zero = et.size then
            match evParts st (fun i => some (i * et.size, et.size)) parts.toList (reps len et.zero) with
            | some l => withLen st.heap numerals fun n => match flatE et with
              | some ks => match asRun ks 0 l with
                | some xs => some (True, .a (.c (.slc n 0 0 et.size len len)), st.heap ++ [.cells true e [.run ks (width l) xs]])
                | none => some (True, .a (.c (.slc n 0 0 et.size len len)), st.heap ++ [.cells true e l])
              | none => some (True, .a (.c (.slc n 0 0 et.size len len)), st.heap ++ [.cells true e l])
            | none => none
          else if len = 0 ∧ parts = #[] then match flatE et with
            | some ks => withLen st.heap numerals fun n => some (True, .a (.c (.slc n 0 0 et.size 0 0)), st.heap ++ [.cells true e [.run ks 0 []]])
            | none => none
          else none
      | none => none
    | _ => none
  | none => none

theorem CelsR_replicate {β : List Nat} {z : Cel} {v : Value} (h : Cel1 β z [v]) : ∀ n, CelsR β (List.replicate n z) (List.replicate n v)
  | 0 => rfl
  | n + 1 => ⟨[v], List.replicate n v, rfl, h, CelsR_replicate h n⟩

theorem evBuildS_sound {P : Program} {T : Tab} (hT : TabOk P T) {n0 : Nat} {w0 : Base} {w : World} {β : List Nat} {st : St} {a : Act} (hH : HR n0 w0 β st.heap w) (hM : TmR β st.tmps a.tmps.toList) {t : TypeId} {len : Nat} {parts : Array (Nat × Operand)} {p : Prop} {r : LV} {H' : List Blk}
    (he : evBuildS T st t len parts = some (p, r, H')) : ∃ v w' γ, (Instr.buildSlice t len (parts.map fun (i, x) => (i, a.eval x))).run P w = .ok v w' ∧ HR n0 w0 (β ++ γ) H' w' ∧ LVR (β ++ γ) r v := by
  unfold evBuildS at he
  split at he
  · rename_i ti hti
    obtain ⟨_, hu⟩ := hT.look hti
    split at he
    · rename_i e hd
      rw [hd] at hu
      split at he
      · rename_i et het
        obtain ⟨⟨inf, h1, h2, z', hz, hc⟩, _⟩ := hT.look het
        split at he
        · rename_i hcond
          obtain ⟨hs0, hl0, hl1, hwz⟩ := hcond
          cases hev : evParts st (fun i => some (i * et.size, et.size)) parts.toList (reps len et.zero) with
          | none => rw [hev] at he; simp at he
          | some l =>
            rw [hev] at he
            have he := withLen_sound he
            have hzc := hc β
            have hzs : z'.cells.size = et.size := by rw [← Array.length_toList, hzc.len, hwz]
            have harr : CelsR β (reps len et.zero) ((Array.range (len * et.size)).map (fun i => z'.cells[i % et.size]!)).toList := by
              rw [← hzs, made_eq]
              exact reps_R hzc len
            obtain ⟨out, ho, hr⟩ := evParts_sound (P := P) hM _ _ _ _ harr hev
            have hs := run_sizeOf hT het w
            have hrun : (Instr.buildSlice t len (parts.map fun (i, x) => (i, a.eval x))).run P w = .ok (.slice (some ⟨w.heap.size, 0, none⟩) len len) (w.alloc (.cells out e)) := by
              have hne : ¬ len * et.size = 0 := by
                have := Nat.mul_pos hl0 hs0
                omega
              simp only [Instr.buildSlice, underlying, Sem.run_bind, run_program, Result.andThen_ok, hu, Sem.run_pure, hs, Nat.not_lt.2 hl1, gt_iff_lt, if_false, hne, zeroValue, typeInfo, h1, hz, hzs, newRow, Array.toList_map]
              rw [ho]
              simp
            have fin : ∀ {cs : List Cel}, CelsR β cs out.toList → p = True → r = .a (.c (.slc st.heap.length 0 0 et.size len len)) → H' = st.heap ++ [.cells true e cs] → ∃ v w' γ, (Instr.buildSlice t len (parts.map fun (i, x) => (i, a.eval x))).run P w = .ok v w' ∧ HR n0 w0 (β ++ γ) H' w' ∧ LVR (β ++ γ) r v := by
              rintro cs hcs _ rfl rfl
              exact ⟨_, _, [w.heap.size], hrun, hH.push hcs, ⟨by omega, by omega, by omega, .inl ⟨w.heap.size, by rw [← hH.len]; simp, by simp⟩⟩⟩
            split at he
            · split at he
              · rename_i ks hk _ xs hx
                simp only [Option.some.injEq, Prod.mk.injEq] at he
                obtain ⟨e1, e2, e3⟩ := he
                obtain ⟨g1, g2⟩ := runV_asRun hr hx
                exact fin (cs := [.run ks (width l) xs]) ⟨out.toList, [], by rw [List.append_nil], ⟨g1, g2⟩, rfl⟩ e1.symm e2.symm e3.symm
              · simp only [Option.some.injEq, Prod.mk.injEq] at he
                obtain ⟨e1, e2, e3⟩ := he
                exact fin hr e1.symm e2.symm e3.symm
            · simp only [Option.some.injEq, Prod.mk.injEq] at he
              obtain ⟨e1, e2, e3⟩ := he
              exact fin hr e1.symm e2.symm e3.symm
        · split at he
          · rename_i hz0
            obtain ⟨rfl, rfl⟩ := hz0
            split at he
            · rename_i ks hk
              have he := withLen_sound he
              simp only [Option.some.injEq, Prod.mk.injEq] at he
              obtain ⟨_, rfl, rfl⟩ := he
              have hs := run_sizeOf hT het w
              have hrun : (Instr.buildSlice t 0 ((#[] : Array (Nat × Operand)).map fun (i, x) => (i, a.eval x))).run P w = .ok (.slice (some ⟨w.heap.size, 0, none⟩) 0 0) (w.alloc (.cells #[] e)) := by
                simp only [Instr.buildSlice, underlying, Sem.run_bind, run_program, Result.andThen_ok, hu, Sem.run_pure, hs, Nat.zero_mul]
                simp [Instr.fill, newRow]
                rw [show ((Array.range 0).map fun (x : Nat) => (default : Value)) = #[] from Array.eq_empty_of_size_eq_zero (by simp)]
              exact ⟨_, _, [w.heap.size], hrun, hH.push (cs := [.run ks 0 []]) ⟨[], [], rfl, ⟨rfl, rfl⟩, rfl⟩, ⟨by omega, by omega, by omega, .inl ⟨w.heap.size, by rw [← hH.len]; simp, by simp⟩⟩⟩
            · simp at he
          · simp at he
      · simp at he
    · simp at he
  · simp at he

/-! ### Equality -/

def intOf? (T : Tab) (e : TypeId) : Option IntKind :=
  match look T e with
  | some ti => match ti.d with
    | .int k => if ti.size = 1 then some k else none
    | _ => none
  | none => none

theorem intOf?_sound {T : Tab} {e : TypeId} {k : IntKind} (h : intOf? T e = some k) : ∃ ti, look T e = some ti ∧ ti.d = .int k ∧ ti.size = 1 := by
  unfold intOf? at h
  split at h
  · rename_i ti hti
    split at h
    · rename_i k' hd
      split at h
      · rename_i hs
        simp only [Option.some.injEq] at h; subst h
        exact ⟨ti, hti, hd, hs⟩
      · simp at h
    · simp at h
  · simp at h

/-- Arrays of so many cells. -/
def arrOf? (T : Tab) (e : TypeId) : Option (Nat × TypeId) :=
  match look T e with
  | some ti => match ti.d with
    | .arr c e2 => if ti.size = c then some (c, e2) else none
    | _ => none
  | none => none

theorem arrOf?_sound {T : Tab} {e e2 : TypeId} {c : Nat} (h : arrOf? T e = some (c, e2)) : ∃ ti, look T e = some ti ∧ ti.d = .arr c e2 ∧ ti.size = c := by
  unfold arrOf? at h
  split at h
  · rename_i ti hti
    split at h
    · rename_i c' e' hd
      split at h
      · rename_i hs
        simp only [Option.some.injEq, Prod.mk.injEq] at h
        obtain ⟨rfl, rfl⟩ := h
        exact ⟨ti, hti, hd, hs⟩
      · simp at h
    · simp at h
  · simp at h

mutual
/-- Are two values of a type equal? -/
def evEq (T : Tab) : Nat → TypeId → Av → Av → Option Bool
  | 0, _, _, _ => none
  | d + 1, t, x, y =>
    match look T t with
    | some ti => match ti.d with
      | .int k => match asI (.a x), asI (.a y) with
        | some (k1, a, _), some (k2, b, _) => if k1 = k ∧ k2 = k then some (a == b) else none
        | _, _ => none
      | .bool => match asB (.a x), asB (.a y) with
        | some a, some b => some (a == b)
        | _, _ => none
      | .str => match x, y with
        | .c (.str a), .c (.str b) => some (a.toList == b.toList)
        | _, _ => none
      | .arr n e => match intOf? T e, x, y with
        | some k, .agg [.run [k1] n1 l], .agg [.run [k2] n2 m] => if k1 = EK.of k ∧ k2 = EK.of k ∧ n1 = n ∧ n2 = n ∧ 1 ≤ d then some (l == m) else none
        | none, .agg [.run [k1] n1 l], .agg [.run [k2] n2 m] => match arrOf? T e with
          | some (c, e2) => match intOf? T e2 with
            | some k => if k1 = EK.of k ∧ k2 = EK.of k ∧ n1 = n * c ∧ n2 = n * c ∧ 0 < c ∧ 3 ≤ d then some (l == m) else none
            | none => none
          | none => none
        | _, _, _ => none
      | .struct fs => match x, y with
        | .agg cs, .agg ds => evEqF T d fs cs ds
        | _, _ => none
      | _ => none
    | none => none
def evEqF (T : Tab) : Nat → List (Nat × TypeId) → List Cel → List Cel → Option Bool
  | 0, _, _, _ => none
  | _ + 1, [], _, _ => some true
  | d + 1, (o, ft) :: r, cs, ds =>
    match look T ft with
    | some fi => match loadC cs fi o, loadC ds fi o with
      | some (.a x), some (.a y) => match evEq T d ft x y with
        | some b => match r with
          | [] => some b
          | r => match evEqF T d r cs ds with
            | some c => some (b && c)
            | none => none
        | none => none
      | _, _ => none
    | none => none
end

theorem eqItems_run {P : Program} {T : Tab} (hT : TabOk P T) {e : TypeId} {k : IntKind} (he : intOf? T e = some k) {β : List Nat} {n : Nat} {l m : List Int} {xs ys : Array Value} (hx : xs.toList = runV [EK.of k] l) (hy : ys.toList = runV [EK.of k] m) (hl : l.length = n) (hm : m.length = n) (d : Nat) (w : World) :
    ∀ (c j : Nat), j + c = n → (Op.eqItems (d + 1) e 1 xs ys (List.range' j c)).run P w = .ok (l.drop j == m.drop j) w
  | 0, j, h => by
    simp only [List.range'_zero, Op.eqItems, Sem.run_pure]
    rw [List.drop_of_length_le (by omega), List.drop_of_length_le (by omega)]; rfl
  | c + 1, j, h => by
    obtain ⟨ti, hti, hd, _⟩ := intOf?_sound he
    obtain ⟨_, hu⟩ := hT.look hti
    rw [hd] at hu
    have g : ∀ (zs : Array Value) (z : List Int), zs.toList = runV [EK.of k] z → z.length = n → (part e zs (j * 1)).run P w = .ok (.int k (z.getD j 0)) w := by
      intro zs z hz hzl
      have := runV_get [EK.of k] z j (by omega)
      rw [← hz, Array.getElem?_toList] at this
      simp only [List.length_singleton, Nat.mod_one] at this
      rw [Nat.mul_one]
      have e0 : ([EK.of k].getD 0 .i64).val (z.getD j 0) = .int k (z.getD j 0) := EK.of_val _ _
      rw [e0] at this
      simp only [part, Sem.run_bind, run_isAgg hT hti (b := false) (by rw [hd]; rfl), Result.andThen_ok, Bool.false_eq_true, if_false, this, Sem.run_pure]
    rw [List.range'_succ]
    simp only [Op.eqItems, Sem.run_bind, g xs l hx hl, g ys m hy hm, Result.andThen_ok, run_equalIn_int w d e k k _ _ hu]
    have hlj : l.drop j = l.getD j 0 :: l.drop (j + 1) := by rw [List.drop_eq_getElem_cons (by omega), List.getD_eq_getElem?_getD, List.getElem?_eq_getElem (by omega)]; rfl
    have hmj : m.drop j = m.getD j 0 :: m.drop (j + 1) := by rw [List.drop_eq_getElem_cons (by omega), List.getD_eq_getElem?_getD, List.getElem?_eq_getElem (by omega)]; rfl
    rw [hlj, hmj]
    by_cases hab : l.getD j 0 = m.getD j 0
    · rw [hab]
      simp only [beq_self_eq_true, Bool.not_true, Bool.false_eq_true, if_false]
      rw [eqItems_run hT he (β := β) hx hy hl hm d w c (j + 1) (by omega)]
      simp
    · have : (l.getD j 0 == m.getD j 0) = false := by simpa using hab
      simp only [this, Bool.not_false, if_true, Sem.run_pure]
      rw [List.cons_beq_cons, this, Bool.false_and]

theorem beq_split {l m : List Int} {c : Nat} (h : l.length = m.length) : (l == m) = ((l.take c == m.take c) && (l.drop c == m.drop c)) := by
  rw [Bool.eq_iff_iff, Bool.and_eq_true, beq_iff_eq, beq_iff_eq, beq_iff_eq]
  constructor
  · rintro rfl; exact ⟨rfl, rfl⟩
  · rintro ⟨h1, h2⟩
    rw [← List.take_append_drop c l, ← List.take_append_drop c m, h1, h2]

theorem takeC_run {k : EK} {n off m : Nat} {z : List Int} (hm : 0 < m) (h : off + m ≤ n) (hz : z.length = n) : takeC [.run [k] n z] off m = some [.run [k] m ((z.drop off).take m)] := by
  unfold takeC
  rw [if_neg (by omega)]
  by_cases h0 : off = 0
  · subst h0
    rw [if_pos rfl]
    by_cases hn : n ≤ m
    · have e : n = m := by omega
      subst e
      simp only [Cel.w, Nat.le_refl, if_true, Nat.sub_self, takeC, Option.map_some, List.drop_zero]
      rw [List.take_of_length_le (by omega)]
    · rw [if_neg (show ¬ (Cel.run [k] n z).w ≤ m from hn)]; simp
  · rw [if_neg h0, if_neg (show ¬ (Cel.run [k] n z).w ≤ off by show ¬ n ≤ off; omega)]
    show (if off + m ≤ n ∧ off % [k].length = 0 then _ else none) = _
    rw [if_pos ⟨h, by simp [Nat.mod_one]⟩]

theorem eqItems_runA {P : Program} {T : Tab} (hT : TabOk P T) {e : TypeId} {ti : TI} (hti : look T e = some ti) (hagg : ti.d.agg? = some true) {c : Nat} (hc : ti.size = c) (hc0 : 0 < c) {β : List Nat} {k : EK} {n : Nat} {l m : List Int} {xs ys : Array Value} (hx : xs.toList = runV [k] l) (hy : ys.toList = runV [k] m) (hl : l.length = n * c) (hm : m.length = n * c) (D : Nat) (w : World)
    (heq : ∀ (a b : List Int) (us vs : Array Value), us.toList = runV [k] a → vs.toList = runV [k] b → a.length = c → b.length = c → (Op.equalIn D e (.agg us) (.agg vs)).run P w = .ok (a == b) w) :
    ∀ (q j : Nat), j + q = n → (Op.eqItems D e c xs ys (List.range' j q)).run P w = .ok (l.drop (j * c) == m.drop (j * c)) w
  | 0, j, h => by
    have : j = n := by omega
    subst this
    simp only [List.range'_zero, Op.eqItems, Sem.run_pure]
    rw [List.drop_of_length_le (by omega), List.drop_of_length_le (by omega)]; rfl
  | q + 1, j, h => by
    have hjc : j * c + c ≤ n * c := by
      have : (j + 1) * c ≤ n * c := Nat.mul_le_mul_right c (by omega)
      rw [Nat.add_mul, Nat.one_mul] at this; exact this
    have g : ∀ (zs : Array Value) (z : List Int), zs.toList = runV [k] z → z.length = n * c → ∃ us : Array Value, (part e zs (j * c)).run P w = .ok (.agg us) w ∧ us.toList = runV [k] ((z.drop (j * c)).take c) := by
      intro zs z hz hzl
      have hcs : CelsR β [.run [k] (n * c) z] zs.toList := ⟨zs.toList, [], by simp, ⟨hzl, hz⟩, rfl⟩
      have hld : loadC [.run [k] (n * c) z] ti (j * c) = some (.a (.agg [.run [k] c ((z.drop (j * c)).take c)])) := by
        unfold loadC
        rw [hagg]
        simp only
        rw [if_neg (by omega), hc]
        rw [takeC_run hc0 hjc hzl]; rfl
      obtain ⟨u, hu1, hu2⟩ := part_sound hT hti hcs hld w
      obtain ⟨us, rfl, p1, r1, e1, ⟨_, rfl⟩, hr1⟩ := hu2
      simp only [CelsR] at hr1
      subst hr1
      exact ⟨us, hu1, by rw [e1, List.append_nil]⟩
    obtain ⟨us, hu1, hu2⟩ := g xs l hx hl
    obtain ⟨vs, hv1, hv2⟩ := g ys m hy hm
    have he := heq _ _ us vs hu2 hv2 (by rw [List.length_take, List.length_drop]; omega) (by rw [List.length_take, List.length_drop]; omega)
    rw [List.range'_succ]
    simp only [Op.eqItems, Sem.run_bind, hu1, hv1, he, Result.andThen_ok]
    rw [beq_split (l := l.drop (j * c)) (m := m.drop (j * c)) (c := c) (by rw [List.length_drop, List.length_drop]; omega), List.drop_drop, List.drop_drop]
    by_cases hab : ((l.drop (j * c)).take c == (m.drop (j * c)).take c) = true
    · rw [hab]
      simp only [Bool.not_true, Bool.false_eq_true, if_false, Bool.true_and]
      rw [eqItems_runA hT hti hagg hc hc0 (β := β) hx hy hl hm D w heq q (j + 1) (by omega)]
      rw [Nat.add_mul, Nat.one_mul]
    · have hab : ((l.drop (j * c)).take c == (m.drop (j * c)).take c) = false := by simpa using hab
      simp only [hab, Bool.not_false, if_true, Sem.run_pure, Bool.false_and]

mutual
theorem evEq_sound {P : Program} {T : Tab} (hT : TabOk P T) {β : List Nat} : ∀ (d : Nat) {t : TypeId} {x y : Av} {xv yv : Value} {b : Bool} (w : World) (D : Nat), AvR β x xv → AvR β y yv → evEq T d t x y = some b → d ≤ D →
    (Op.equalIn D t xv yv).run P w = .ok b w
  | 0, _, _, _, _, _, _, _, _, _, _, h, _ => by simp [evEq] at h
  | d + 1, t, x, y, xv, yv, b, w, D, hx, hy, h, hD => by
    obtain ⟨D', rfl⟩ : ∃ D', D = D' + 1 := ⟨D - 1, by omega⟩
    simp only [evEq] at h
    split at h
    · rename_i ti hti
      obtain ⟨⟨inf, hi, hsz, _⟩, hu⟩ := hT.look hti
      have hq := TabEq.look hT.eq hti
      split at h
      · rename_i k hd
        rw [hd] at hu
        split at h
        · rename_i k1 a l1 k2 b' l2 h1 h2
          split at h
          · rename_i hk
            simp only [Option.some.injEq] at h; subst h
            have e1 := asI_sound (x := .a x) hx h1
            have e2 := asI_sound (x := .a y) hy h2
            obtain ⟨rfl, rfl⟩ := hk
            subst e1; subst e2
            exact run_equalIn_int w D' t _ _ _ _ hu
          · simp at h
        · simp at h
      · rename_i hd
        rw [hd] at hu
        split at h
        · rename_i a b' h1 h2
          simp only [Option.some.injEq] at h; subst h
          have e1 := asB_sound (x := .a x) hx h1
          have e2 := asB_sound (x := .a y) hy h2
          subst e1; subst e2
          exact run_equalIn_bool' w D' t _ _ hu
        · simp at h
      · rename_i hd
        rw [hd] at hu
        split at h
        · rename_i a b'
          simp only [Option.some.injEq] at h; subst h
          have e1 : xv = .string a := hx
          have e2 : yv = .string b' := hy
          subst e1; subst e2
          exact run_equalIn_string w D' t _ _ hu
        · simp at h
      · rename_i n e hd
        rw [hd] at hu
        split at h
        · rename_i k k1 n1 l k2 n2 m hk
          split at h
          · rename_i hkk
            simp only [Option.some.injEq] at h; subst h
            obtain ⟨rfl, rfl, rfl, rfl, hd1⟩ := hkk
            obtain ⟨xs, rfl, p1, r1, e1, ⟨hl, rfl⟩, hr1⟩ := hx
            obtain ⟨ys, rfl, p2, r2, e2, ⟨hm, rfl⟩, hr2⟩ := hy
            simp only [CelsR] at hr1 hr2
            subst hr1; subst hr2
            rw [List.append_nil] at e1 e2
            obtain ⟨et, het, hed, hes⟩ := intOf?_sound hk
            obtain ⟨⟨ie, hie, hse, _⟩, _⟩ := hT.look het
            rw [run_equalIn_array w D' xs ys hu hie]
            have hco : P.cellsOf e = 1 := by simp only [Program.cellsOf, hie, Option.map_some, Option.getD_some]; omega
            rw [hco]
            obtain ⟨D'', rfl⟩ : ∃ D'', D' = D'' + 1 := ⟨D' - 1, by omega⟩
            rw [List.range_eq_range', eqItems_run hT hk (β := β) e1 e2 hl hm D'' w _ 0 (by omega)]
            simp
          · simp at h
        · rename_i k1 n1 l k2 n2 m hk0
          split at h
          · rename_i c e2t hao
            split at h
            · rename_i k hk
              split at h
              · rename_i hkk
                simp only [Option.some.injEq] at h; subst h
                obtain ⟨rfl, rfl, rfl, rfl, hc0, hd1⟩ := hkk
                obtain ⟨xs, rfl, p1, r1, e1, ⟨hl, rfl⟩, hr1⟩ := hx
                obtain ⟨ys, rfl, p2, r2, e2, ⟨hm, rfl⟩, hr2⟩ := hy
                simp only [CelsR] at hr1 hr2
                subst hr1; subst hr2
                rw [List.append_nil] at e1 e2
                obtain ⟨at', hat, hatd, hats⟩ := arrOf?_sound hao
                obtain ⟨⟨ia, hia, hsa, _⟩, hua⟩ := hT.look hat
                rw [hatd] at hua
                rw [run_equalIn_array w D' xs ys hu hia]
                have hco : P.cellsOf e = c := by simp only [Program.cellsOf, hia, Option.map_some, Option.getD_some]; omega
                rw [hco]
                obtain ⟨et, het, hed, hes⟩ := intOf?_sound hk
                obtain ⟨⟨ie, hie, hse, _⟩, _⟩ := hT.look het
                obtain ⟨D'', rfl⟩ : ∃ D'', D' = D'' + 2 := ⟨D' - 2, by omega⟩
                rw [List.range_eq_range', eqItems_runA hT hat (by rw [hatd]; rfl) hats hc0 (β := β) e1 e2 hl hm (D'' + 2) w ?_ _ 0 (by omega)]
                · simp
                · intro a b us vs ha hb hla hlb
                  rw [run_equalIn_array w (D'' + 1) us vs hua hie]
                  have hco2 : P.cellsOf e2t = 1 := by simp only [Program.cellsOf, hie, Option.map_some, Option.getD_some]; omega
                  rw [hco2, List.range_eq_range', eqItems_run hT hk (β := β) ha hb hla hlb D'' w _ 0 (by omega)]
                  simp
              · simp at h
            · simp at h
          · simp at h
        · simp at h
      · rename_i fs hd
        rw [hd] at hu
        obtain ⟨fields, hu, hfs⟩ := hu
        split at h
        · rename_i cs ds
          obtain ⟨xs, rfl, hcx⟩ := hx
          obtain ⟨ys, rfl, hcy⟩ := hy
          simp only [eqChk, hd, hu, Bool.and_eq_true, Bool.not_eq_true'] at hq
          have hfo : P.fieldsOf t = fields := by simp [Program.fieldsOf, hu]
          rw [run_equalIn_struct w D' t xs ys (by rw [hfo]; exact hu) hq.1.2, hfo]
          exact evEqF_sound hT d fields.toList w D' hcx hcy (by rw [← hfs]; exact h) (fun f hf => by have := List.all_eq_true.1 hq.1.1 f hf; simpa using this) (by omega)
        · simp at h
      · simp at h
    · simp at h
theorem evEqF_sound {P : Program} {T : Tab} (hT : TabOk P T) {β : List Nat} : ∀ (d : Nat) (fields : List Field) {cs ds : List Cel} {xs ys : Array Value} {b : Bool} (w : World) (D : Nat), CelsR β cs xs.toList → CelsR β ds ys.toList →
    evEqF T d (fields.map fun f => (f.offset, f.type)) cs ds = some b → (∀ f ∈ fields, (f.name == "_") = false) → d ≤ D → (Op.eqFields D xs ys fields).run P w = .ok b w
  | 0, _, _, _, _, _, _, _, _, _, _, h, _, _ => by simp [evEqF] at h
  | d + 1, [], cs, ds, xs, ys, b, w, D, hx, hy, h, hn, hD => by
    simp only [List.map_nil, evEqF, Option.some.injEq] at h; subst h; rfl
  | d + 1, f :: fs, cs, ds, xs, ys, b, w, D, hx, hy, h, hn, hD => by
    simp only [List.map_cons, evEqF] at h
    split at h
    · rename_i fi hfi
      split at h
      · rename_i x y h1 h2
        split at h
        · rename_i b1 hb1
          obtain ⟨xv, hx1, hx2⟩ := part_sound hT hfi hx h1 w
          obtain ⟨yv, hy1, hy2⟩ := part_sound hT hfi hy h2 w
          have e := evEq_sound hT d w D hx2 hy2 hb1 (by omega)
          have hnm : f.name ≠ "_" := by have := hn f (by simp); simpa using this
          simp only [Op.eqFields, hnm, ne_eq, not_false_eq_true, if_true, Sem.run_bind, hx1, hy1, e, Result.andThen_ok]
          split at h
          · rename_i hr
            simp only [Option.some.injEq] at h; subst h
            have hfs : fs = [] := by simpa using hr
            subst hfs
            cases b1 <;> simp [Op.eqFields]
          · split at h
            · rename_i c hc
              simp only [Option.some.injEq] at h; subst h
              have ih := evEqF_sound hT d fs w D hx hy hc (fun f hf => hn f (by simp [hf])) (by omega)
              cases b1 <;> simp [ih]
            · simp at h
        · simp at h
      · simp at h
    · simp at h
end

/-- Interface values, at least one of them nil; two that are nil only where one operand is written so. -/
def ifcEq (k : Bool) : Value → Value → Option Bool
  | .nilIface, .nilIface => if k then some true else none
  | .iface _ _, .nilIface => some false
  | .nilIface, .iface _ _ => some false
  | _, _ => none

def isK : Operand → Bool
  | .const _ => true
  | _ => false

theorem ifcEq_sound {P : Program} {t : TypeId} {ms : Array (String × TypeId)} (h : P.underlying t = some (.interface ms)) {k : Bool} {u v : Value} {b : Bool} (he : ifcEq k u v = some b) (w : World) :
    (Op.equal t u v).run P w = .ok b w := by
  have h' : P.underlying t = some (.interface (P.methodsAt t)) := by simp [Program.methodsAt, h]
  have q : ∀ (d : Nat) (tp : TypeId) (x : Value), (Op.equalIn (d + 1) t .nilIface (.iface tp x)).run P w = .ok false w := fun d tp x => by simp [Op.equalIn, run_underlying h]
  cases u <;> cases v <;> simp only [ifcEq, reduceCtorEq, Option.some.injEq] at he <;> first
    | (subst he; exact run_equal_held_nil w t _ _ h')
    | (subst he; exact q 9999 _ _)
    | (split at he
       · simp only [Option.some.injEq] at he; subst he; exact run_equal_nil_nil w t h'
       · simp at he)

theorem ifcEq_bin {P : Program} {t : TypeId} {ms : Array (String × TypeId)} (h : P.underlying t = some (.interface ms)) {k : Bool} {u v : Value} {b : Bool} (he : ifcEq k u v = some b) (w : World) :
    (binOp .eql t u v).run P w = .ok (.bool b) w ∧ (binOp .neq t u v).run P w = .ok (.bool !b) w := by
  have e := ifcEq_sound h he w
  cases u <;> cases v <;> simp only [ifcEq, reduceCtorEq] at he <;> (constructor <;> simp only [binOp, Sem.run_bind, e, Result.andThen_ok, Sem.run_pure])

theorem ifcEq_guard {P : Program} {u v : Value} {b : Bool} (op : BinOp) (t : TypeId) (xo yo : Operand) (he : ifcEq (isK xo || isK yo) u v = some b) (w : World) :
    (eqGuard op t xo yo u v).run P w = .ok () w := by
  cases u <;> cases v <;> simp only [ifcEq, reduceCtorEq, Option.some.injEq] at he <;> first
    | (subst he; cases op <;> simp [eqGuard]; done)
    | (split at he
       · rename_i hk
         simp only [Bool.or_eq_true] at hk
         rcases hk with hk | hk
         · cases xo <;> simp [isK] at hk
           cases op <;> simp [eqGuard]
         · cases yo <;> simp [isK] at hk
           cases op <;> simp [eqGuard]
       · simp at he)

def evEqOp (T : Tab) (op : BinOp) (k : Bool) (t : TypeId) (x y : LV) : Option (Prop × LV) :=
  match x, y with
  | .a (.c (.val u)), .a (.c (.val v)) =>
    match look T t with
    | some ti => match ti.d with
      | .ifc => match op with
        | .eql => (ifcEq k u v).map fun b => (True, mkB b true)
        | .neq => (ifcEq k u v).map fun b => (True, mkB (!b) true)
        | _ => none
      | _ => none
    | none => none
  | .a (.agg l), .a (.agg m) =>
    match op with
    | .eql => (evEq T 8 t (.agg l) (.agg m)).map fun b => (True, .a (.c (.bool b)))
    | .neq => (evEq T 8 t (.agg l) (.agg m)).map fun b => (True, .a (.c (.bool !b)))
    | _ => none
  | x, y => match asB x, asB y, look T t with
    | some a, some b, some ti => match ti.d with
      | .bool => match op with
        | .eql => some (True, .a (.c (.bool (a == b))))
        | .neq => some (True, .a (.c (.bool !(a == b))))
        | _ => none
      | _ => none
    | _, _, _ => none

theorem evEq_guard {P : Program} {T : Tab} (hT : TabOk P T) {d : Nat} {t : TypeId} {l m : List Cel} {b : Bool} (h : evEq T d t (.agg l) (.agg m) = some b) : P.eqGuardType P.depth t = false := by
  cases d with
  | zero => simp [evEq] at h
  | succ d =>
    simp only [evEq] at h
    split at h
    · rename_i ti hti
      have hq := TabEq.look hT.eq hti
      split at h
      · simp [asI] at h
      · simp [asB] at h
      · simp at h
      · rename_i n e hd
        simp only [eqChk, hd, Bool.not_eq_true'] at hq
        exact hq
      · rename_i fs hd
        simp only [eqChk, hd, Bool.and_eq_true, Bool.not_eq_true'] at hq
        exact hq.2
      · simp at h
    · simp at h

theorem evEqOp_sound {P : Program} {T : Tab} (hT : TabOk P T) {β : List Nat} {op : BinOp} {t : TypeId} {x y : LV} {xv yv : Value} {xo yo : Operand} {p : Prop} {r : LV} (w : World)
    (hx : LVR β x xv) (hy : LVR β y yv) (he : evEqOp T op (isK xo || isK yo) t x y = some (p, r)) :
    ∃ v, (do eqGuard op t xo yo xv yv; binOp op t xv yv : Sem Value).run P w = .ok v w ∧ LVR β r v := by
  unfold evEqOp at he
  split at he
  · rename_i u v
    have hx : xv = u := hx
    have hy : yv = v := hy
    subst hx; subst hy
    split at he
    · rename_i ti hti
      obtain ⟨_, hu⟩ := hT.look hti
      split at he
      · rename_i hd
        rw [hd] at hu
        obtain ⟨ms, hu⟩ := hu
        split at he
        · obtain ⟨b, hb, he⟩ := Option.map_eq_some_iff.1 he
          simp only [Prod.mk.injEq] at he
          obtain ⟨_, rfl⟩ := he
          exact ⟨_, by simp only [Sem.run_bind, ifcEq_guard .eql t xo yo hb, Result.andThen_ok, (ifcEq_bin hu hb w).1], mkB_sound β _ _⟩
        · obtain ⟨b, hb, he⟩ := Option.map_eq_some_iff.1 he
          simp only [Prod.mk.injEq] at he
          obtain ⟨_, rfl⟩ := he
          exact ⟨_, by simp only [Sem.run_bind, ifcEq_guard .neq t xo yo hb, Result.andThen_ok, (ifcEq_bin hu hb w).2], mkB_sound β _ _⟩
        · simp at he
      · simp at he
    · simp at he
  · rename_i l m
    have hx' : AvR β (.agg l) xv := hx
    have hy' : AvR β (.agg m) yv := hy
    obtain ⟨xs, rfl, _⟩ := hx
    obtain ⟨ys, rfl, _⟩ := hy
    split at he
    · obtain ⟨b, hb, he⟩ := Option.map_eq_some_iff.1 he
      simp only [Prod.mk.injEq] at he
      obtain ⟨_, rfl⟩ := he
      have e := evEq_sound hT 8 w 10000 hx' hy' hb (by omega)
      exact ⟨_, by simp only [Sem.run_bind, run_eqGuard_agg w _ t xo yo xs ys (evEq_guard hT hb), Result.andThen_ok, run_eql_struct, e], rfl⟩
    · obtain ⟨b, hb, he⟩ := Option.map_eq_some_iff.1 he
      simp only [Prod.mk.injEq] at he
      obtain ⟨_, rfl⟩ := he
      have e := evEq_sound hT 8 w 10000 hx' hy' hb (by omega)
      exact ⟨_, by simp only [Sem.run_bind, run_eqGuard_agg w _ t xo yo xs ys (evEq_guard hT hb), Result.andThen_ok, run_neq_struct, e], rfl⟩
    · simp at he
  · split at he
    · rename_i a b ti ha hb hti
      obtain ⟨_, hu⟩ := hT.look hti
      have e1 := asB_sound hx ha
      have e2 := asB_sound hy hb
      subst e1; subst e2
      split at he
      · rename_i hd
        rw [hd] at hu
        have hg : (eqGuard op t xo yo (.bool a) (.bool b)).run P w = .ok () w := by
          unfold eqGuard
          split <;> simp
        have e : (Op.equal t (.bool a) (.bool b)).run P w = .ok (a == b) w := run_equalIn_bool' w 9999 t a b hu
        split at he <;> simp only [Option.some.injEq, Prod.mk.injEq, reduceCtorEq] at he
        · obtain ⟨_, rfl⟩ := he
          exact ⟨_, by simp only [Sem.run_bind, hg, Result.andThen_ok, binOp, e, Sem.run_pure], rfl⟩
        · obtain ⟨_, rfl⟩ := he
          exact ⟨_, by simp only [Sem.run_bind, hg, Result.andThen_ok, binOp, e, Sem.run_pure], rfl⟩
      · simp at he
    · simp at he

/-- A slice that has room, against nil as it is written. -/
def evNilS (T : Tab) (op : BinOp) (t : TypeId) (x y : LV) : Option (Prop × LV) :=
  match x, y with
  | .a (.c (.slc _ _ _ _ _ cap)), .a (.c (.val (.slice none 0 0))) =>
    match look T t with
    | some ti => match ti.d with
      | .slice _ => match op with
        | .eql => some (0 < cap, .a (.c .ff))
        | .neq => some (0 < cap, .a (.c .tt))
        | _ => none
      | _ => none
    | none => none
  | _, _ => none

theorem evNilS_sound {P : Program} {T : Tab} (hT : TabOk P T) {β : List Nat} {op : BinOp} {t : TypeId} {x y : LV} {xv yv : Value} {xo yo : Operand} {p : Prop} {r : LV} (w : World)
    (hx : LVR β x xv) (hy : LVR β y yv) (he : evNilS T op t x y = some (p, r)) (hp : p) :
    ∃ v, (do eqGuard op t xo yo xv yv; binOp op t xv yv : Sem Value).run P w = .ok v w ∧ LVR β r v := by
  unfold evNilS at he
  split at he
  · rename_i cap
    have hy : yv = .slice none 0 0 := hy
    subst hy
    obtain ⟨_, _, _, hx⟩ := hx
    split at he
    · rename_i ti hti
      obtain ⟨_, hu⟩ := hT.look hti
      split at he
      · rename_i e hd
        rw [hd] at hu
        have hu : P.underlying t = some (.slice e) := hu
        split at he
        · simp only [Option.some.injEq, Prod.mk.injEq] at he
          obtain ⟨rfl, rfl⟩ := he
          rcases hx with ⟨b, _, rfl⟩ | ⟨h0, _⟩
          · have q0 : ∀ (d : Nat) (a : Addr) (l c : Nat), (Op.equalIn (d + 1) t (.slice (some a) l c) (.slice none 0 0)).run P w = .ok false w := fun d a l c => by simp [Op.equalIn, run_underlying hu]
            have q : ∀ (a : Addr) (l c : Nat), (Op.equal t (.slice (some a) l c) (.slice none 0 0)).run P w = .ok false w := q0 9999
            refine ⟨.bool false, ?_, rfl⟩
            simp [eqGuard, binOp, q]
          · omega
        · simp only [Option.some.injEq, Prod.mk.injEq] at he
          obtain ⟨rfl, rfl⟩ := he
          rcases hx with ⟨b, _, rfl⟩ | ⟨h0, _⟩
          · have q0 : ∀ (d : Nat) (a : Addr) (l c : Nat), (Op.equalIn (d + 1) t (.slice (some a) l c) (.slice none 0 0)).run P w = .ok false w := fun d a l c => by simp [Op.equalIn, run_underlying hu]
            have q : ∀ (a : Addr) (l c : Nat), (Op.equal t (.slice (some a) l c) (.slice none 0 0)).run P w = .ok false w := q0 9999
            refine ⟨.bool true, ?_, rfl⟩
            simp [eqGuard, binOp, q]
          · omega
        · simp at he
      · simp at he
    · simp at he
  · simp at he

/-! ### Slices of arrays, slices and strings; lengths; function values -/

def bndI (st : St) (d : Int) : Option Operand → Option Int
  | none => some d
  | some x => match asI (st.ev x) with
    | some (_, n, _) => some n
    | none => none

theorem bndI_sound {β : List Nat} {st : St} {a : Act} (hM : TmR β st.tmps a.tmps.toList) {x : Option Operand} {d r : Int} (h : bndI st d x = some r) :
    (x.map a.eval = none ∧ r = d) ∨ ∃ k, x.map a.eval = some (.int k r) := by
  cases x with
  | none => simp only [bndI, Option.some.injEq] at h; exact .inl ⟨rfl, h.symm⟩
  | some x =>
    simp only [bndI] at h
    split at h
    · rename_i k n l hx
      simp only [Option.some.injEq] at h
      subst h
      exact .inr ⟨k, by rw [Option.map_some, asI_sound (ev_sound hM x) hx]⟩
    · simp at h

theorem run_bounds {P : Program} {w : World} {b : Bool} {len cap : Nat} {lo hi mx : Option Value} {l h m : Int} (hmx : (mx = none ∧ m = cap) ∨ ∃ k, mx = some (.int k m)) (hhi : (hi = none ∧ h = len) ∨ ∃ k, hi = some (.int k h))
    (hlo : (lo = none ∧ l = 0) ∨ ∃ k, lo = some (.int k l)) (hmh : mx.isSome = true → hi.isSome = true) (hb : 0 ≤ l ∧ l ≤ h ∧ h ≤ m ∧ m ≤ cap) :
    (Instr.sliceBounds b len cap lo hi mx).run P w = .ok (l.toNat, h.toNat, m.toNat) w := by
  obtain ⟨b1, b2, b3, b4⟩ := hb
  have bound : ∀ (k : IntKind) (i : Int) (y : Nat) (c : BoundsCode), 0 ≤ i → i ≤ y → (Instr.sliceBound (.int k i) y c).run P w = .ok i.toNat w := by
    intro k i y c h1 h2
    simp [Instr.sliceBound, asIntOf, h1, h2]
  have hm0 : (m.toNat : Int) = m := by omega
  have hh0 : (h.toNat : Int) = h := by omega
  rcases hmx with ⟨rfl, rfl⟩ | ⟨km, rfl⟩ <;> rcases hhi with ⟨rfl, rfl⟩ | ⟨kh, rfl⟩ <;> rcases hlo with ⟨rfl, rfl⟩ | ⟨kl, rfl⟩ <;>
    first
      | (simp at hmh; done)
      | skip
  · simp [Instr.sliceBounds]
  · simp only [Instr.sliceBounds, Sem.run_bind, Sem.run_pure, Result.andThen_ok, bound kl l len _ b1 (by omega)]; simp
  · simp only [Instr.sliceBounds, Sem.run_bind, Sem.run_pure, Result.andThen_ok, bound kh h cap _ (by omega) (by omega)]; simp
  · simp only [Instr.sliceBounds, Sem.run_bind, Sem.run_pure, Result.andThen_ok, bound kh h cap _ (by omega) (by omega), bound kl l h.toNat _ b1 (by omega)]; simp
  · simp only [Instr.sliceBounds, Sem.run_bind, Sem.run_pure, Result.andThen_ok, bound km m cap _ (by omega) (by omega), bound kh h m.toNat _ (by omega) (by omega)]; simp
  · simp only [Instr.sliceBounds, Sem.run_bind, Sem.run_pure, Result.andThen_ok, bound km m cap _ (by omega) (by omega), bound kh h m.toNat _ (by omega) (by omega), bound kl l h.toNat _ b1 (by omega)]

def evSlice (T : Tab) (st : St) (t : TypeId) (x : Operand) (lo hi mx : Option Operand) : Option (Prop × LV) :=
  if mx.isSome && !hi.isSome then none else
  match look T t, st.ev x with
  | some ti, .a (.c (.ptr id off)) => match ti.d with
    | .arr n e => match look T e, bndI st 0 lo, bndI st n hi, bndI st n mx with
      | some et, some l, some h, some m => some (0 ≤ l ∧ l ≤ h ∧ h ≤ m ∧ m ≤ n, .a (.c (.slc id off l et.size (h - l) (m - l))))
      | _, _, _, _ => none
    | _ => none
  | some ti, .a (.c (.slc id base i s len cap)) => match ti.d with
    | .slice e => match look T e, bndI st 0 lo, bndI st len hi, bndI st cap mx with
      | some et, some l, some h, some m => if et.size = s then some (0 ≤ l ∧ l ≤ h ∧ h ≤ m ∧ m ≤ cap, .a (.c (.slc id base (i + l) s (h - l) (m - l)))) else none
      | _, _, _, _ => none
    | _ => none
  | some ti, .a (.c (.str s)) => match ti.d with
    | .str => if mx.isSome then none else match bndI st 0 lo, bndI st s.size hi with
      | some l, some h => some (0 ≤ l ∧ l ≤ h ∧ h ≤ s.size, .a (.c (.str (s.extract l.toNat h.toNat))))
      | _, _ => none
    | _ => none
  | _, _ => none

theorem evSlice_all {P : Program} {T : Tab} (hT : TabOk P T) {β : List Nat} {st : St} {a : Act} (hM : TmR β st.tmps a.tmps.toList) {t : TypeId} {x : Operand} {lo hi mx : Option Operand} {p : Prop} {r : LV}
    (he : evSlice T st t x lo hi mx = some (p, r)) (hp : p) : ∃ v, (∀ w : World, (Instr.sliceAt t (a.eval x) (lo.map a.eval) (hi.map a.eval) (mx.map a.eval)).run P w = .ok v w) ∧ LVR β r v := by
  unfold evSlice at he
  split at he
  · simp at he
  rename_i hmh
  have hmh' : (mx.map a.eval).isSome = true → (hi.map a.eval).isSome = true := by
    cases mx <;> cases hi <;> simp_all
  have hx := ev_sound hM x
  split at he
  · rename_i ti id off hti hxe
    rw [hxe] at hx
    obtain ⟨b, hb, hx⟩ := hx
    obtain ⟨_, hu⟩ := hT.look hti
    split at he
    · rename_i n e hd
      rw [hd] at hu
      split at he
      · rename_i et l h m het hl hh hm
        simp only [Option.some.injEq, Prod.mk.injEq] at he
        obtain ⟨rfl, rfl⟩ := he
        have hb' := fun w : World => run_bounds (P := P) (w := w) (b := false) (len := n) (cap := n) (bndI_sound hM hm) (bndI_sound hM hh) (bndI_sound hM hl) hmh' hp
        obtain ⟨p1, p2, p3, p4⟩ := hp
        refine ⟨_, fun w => by
          simp only [Instr.sliceAt, Sem.run_bind, run_underlying hu, Result.andThen_ok, hx, Instr.sureAddr, Sem.run_pure, hb', run_sizeOf hT het]; rfl, ?_⟩
        refine ⟨p1, by omega, by omega, ?_⟩
        by_cases hc : m.toNat = l.toNat
        · right
          refine ⟨by omega, some ⟨b, off, none⟩, ?_⟩
          rw [if_pos hc, hc, show h.toNat - l.toNat = 0 by omega, Nat.sub_self]
        · left
          refine ⟨b, hb, ?_⟩
          rw [if_neg hc, addr_add, show h.toNat - l.toNat = (h - l).toNat by omega, show m.toNat - l.toNat = (m - l).toNat by omega]
      · simp at he
    · simp at he
  · rename_i ti id base i s len cap hti hxe
    rw [hxe] at hx
    obtain ⟨q1, q2, q3, hx⟩ := hx
    obtain ⟨_, hu⟩ := hT.look hti
    split at he
    · rename_i e hd
      rw [hd] at hu
      split at he
      · rename_i et l h m het hl hh hm
        split at he
        · rename_i hs
          simp only [Option.some.injEq, Prod.mk.injEq] at he
          obtain ⟨rfl, rfl⟩ := he
          obtain ⟨p1, p2, p3, p4⟩ := hp
          have e1 : ((len.toNat : Nat) : Int) = len := by omega
          have e2 : ((cap.toNat : Nat) : Int) = cap := by omega
          have hb' := fun w : World => run_bounds (P := P) (w := w) (b := true) (len := len.toNat) (cap := cap.toNat) (by rw [e2]; exact bndI_sound hM hm) (by rw [e1]; exact bndI_sound hM hh) (bndI_sound hM hl) hmh' ⟨p1, p2, p3, by omega⟩
          rcases hx with ⟨b, hb, hx⟩ | ⟨hc0, hx⟩
          · refine ⟨_, fun w => by
              simp only [Instr.sliceAt, Instr.slice, Sem.run_bind, run_underlying hu, Result.andThen_ok, hx, hb', run_sizeOf hT het, Sem.run_pure]; rfl, ?_⟩
            refine ⟨by omega, by omega, by omega, ?_⟩
            by_cases hc : m.toNat = l.toNat
            · right
              refine ⟨by omega, some ⟨b, base + i.toNat * s, none⟩, ?_⟩
              rw [if_pos hc, hc, show h.toNat - l.toNat = 0 by omega, Nat.sub_self]
            · left
              refine ⟨b, hb, ?_⟩
              rw [if_neg hc, Option.map_some, addr_add, hs, show h.toNat - l.toNat = (h - l).toNat by omega, show m.toNat - l.toNat = (m - l).toNat by omega, Nat.add_assoc, ← Nat.add_mul, show i.toNat + l.toNat = (i + l).toNat by omega]
          · have z1 : len.toNat = 0 := by omega
            have z2 : cap.toNat = 0 := by omega
            rw [z1, z2] at hb'
            obtain ⟨ao, hx⟩ := hx
            refine ⟨_, fun w => by
                simp only [Instr.sliceAt, Instr.slice, Sem.run_bind, run_underlying hu, Result.andThen_ok, hx, hb', run_sizeOf hT het, Sem.run_pure]; rfl, ?_⟩
            refine ⟨by omega, by omega, by omega, .inr ⟨by omega, ao, ?_⟩⟩
            rw [if_pos (by omega), show h.toNat - l.toNat = 0 by omega, show m.toNat - l.toNat = 0 by omega]
        · simp at he
      · simp at he
    · simp at he
  · rename_i ti s hti hxe
    rw [hxe] at hx
    have hx : a.eval x = .string s := hx
    obtain ⟨_, hu⟩ := hT.look hti
    split at he
    · rename_i hd
      rw [hd] at hu
      split at he
      · simp at he
      rename_i hms
      have hmx : mx = none := by cases mx <;> simp_all
      subst hmx
      split at he
      · rename_i l h hl hh
        simp only [Option.some.injEq, Prod.mk.injEq] at he
        obtain ⟨rfl, rfl⟩ := he
        have hb' := fun w : World => run_bounds (P := P) (w := w) (b := false) (len := s.size) (cap := s.size) (mx := none) (m := s.size) (.inl ⟨rfl, rfl⟩) (bndI_sound hM hh) (bndI_sound hM hl) (by simp) ⟨hp.1, hp.2.1, hp.2.2, by omega⟩
        refine ⟨_, fun w => by
          simp only [Instr.sliceAt, Instr.slice, Sem.run_bind, run_underlying hu, Result.andThen_ok, hx, hb', Option.map_none, Option.isSome_none, Bool.false_eq_true, if_false, Sem.run_pure], rfl⟩
      · simp at he
    · simp at he
  · simp at he

theorem evSlice_sound {P : Program} {T : Tab} (hT : TabOk P T) {β : List Nat} {st : St} {a : Act} (hM : TmR β st.tmps a.tmps.toList) {t : TypeId} {x : Operand} {lo hi mx : Option Operand} {p : Prop} {r : LV} (w : World)
    (he : evSlice T st t x lo hi mx = some (p, r)) (hp : p) : ∃ v, (Instr.sliceAt t (a.eval x) (lo.map a.eval) (hi.map a.eval) (mx.map a.eval)).run P w = .ok v w ∧ LVR β r v := by
  obtain ⟨v, h1, h2⟩ := evSlice_all hT hM he hp
  exact ⟨v, h1 w, h2⟩

def evLen (T : Tab) (st : St) (c : Call) : Option (Prop × LV) :=
  match c.callee, c.args.toList, c.argTypes.toList with
  | .builtin .len, [x], [t] => match look T t, st.ev x with
    | some ti, .a (.c (.slc _ _ _ _ len _)) => match ti.d with
      | .slice _ => some (True, .a (.c (.int .i64 len)))
      | _ => none
    | some ti, .a (.c (.str s)) => match ti.d with
      | .str => some (True, .a (.c (.int .i64 s.size)))
      | _ => none
    | some ti, .a (.c (.val (.slice none 0 0))) => match ti.d with
      | .slice _ => some (True, .a (.c (.lit .i64 0)))
      | _ => none
    | some ti, _ => match ti.d with
      | .arr n _ => some (True, .a (.c (.lit .i64 n)))
      | _ => none
    | _, _ => none
  | _, _, _ => none

theorem evLen_sound {P : Program} {T : Tab} (hT : TabOk P T) {β : List Nat} {st : St} {a : Act} (hM : TmR β st.tmps a.tmps.toList) {op : Oper} {c : Call} (ho : op.op = .call c) {p : Prop} {r : LV} (w : World)
    (he : evLen T st c = some (p, r)) : ∃ v, (execOp a.eval op).run P w = .ok (.value v) w ∧ LVR β r v := by
  unfold evLen at he
  split at he
  · rename_i x t hc ha ht
    have ha' : c.args = #[x] := Array.toList_inj.1 ha
    have ht' : c.argTypes = #[t] := Array.toList_inj.1 ht
    have key : ∀ v, (Builtin.len_ #[t] op.type #[a.eval x]).run P w = .ok v w → (execOp a.eval op).run P w = .ok (.value v) w := by
      intro v hv
      simp [execOp, ho, resolve, hc, ha', ht', invoke, builtin, hv]
    have hx := ev_sound hM x
    split at he
    · rename_i ti id base i s len cap hti hxe
      rw [hxe] at hx
      obtain ⟨q1, q2, q3, hx⟩ := hx
      obtain ⟨_, hu⟩ := hT.look hti
      split at he
      · rename_i e hd
        rw [hd] at hu
        simp only [Option.some.injEq, Prod.mk.injEq] at he
        obtain ⟨_, rfl⟩ := he
        rcases hx with ⟨b, hb, hx⟩ | ⟨hc0, ao, hx⟩
        · refine ⟨.int .i64 len, key _ ?_, rfl⟩
          simp [Builtin.len_, run_underlying hu, hx, goInt, show ((len.toNat : Nat) : Int) = len by omega]
        · refine ⟨.int .i64 len, key _ ?_, rfl⟩
          simp [Builtin.len_, run_underlying hu, hx, goInt]
          omega
      · simp at he
    · rename_i ti s hti hxe
      rw [hxe] at hx
      have hx : a.eval x = .string s := hx
      obtain ⟨_, hu⟩ := hT.look hti
      split at he
      · rename_i hd
        rw [hd] at hu
        simp only [Option.some.injEq, Prod.mk.injEq] at he
        obtain ⟨_, rfl⟩ := he
        exact ⟨.int .i64 s.size, key _ (by simp [Builtin.len_, run_underlying hu, hx, goInt]), rfl⟩
      · simp at he
    · rename_i ti hti hxe
      rw [hxe] at hx
      have hx : a.eval x = .slice none 0 0 := hx
      obtain ⟨_, hu⟩ := hT.look hti
      split at he
      · rename_i e hd
        rw [hd] at hu
        simp only [Option.some.injEq, Prod.mk.injEq] at he
        obtain ⟨_, rfl⟩ := he
        exact ⟨.int .i64 0, key _ (by simp [Builtin.len_, run_underlying hu, hx, goInt]), rfl⟩
      · simp at he
    · rename_i ti hti _ _ _
      obtain ⟨_, hu⟩ := hT.look hti
      split at he
      · rename_i n e hd
        rw [hd] at hu
        simp only [Option.some.injEq, Prod.mk.injEq] at he
        obtain ⟨_, rfl⟩ := he
        exact ⟨.int .i64 n, key _ (by simp [Builtin.len_, run_underlying hu, goInt]), rfl⟩
      · simp at he
    · simp at he
  · simp at he

/-- The blocks at whose heads captured pointers stand. -/
def capIds (st : St) : List Operand → Option (List Nat)
  | [] => some []
  | x :: xs => match st.ev x, capIds st xs with
    | .a (.c (.ptr id 0)), some l => some (id :: l)
    | _, _ => none

def evFunc (st : St) (f : Fn) (first captured : Array Operand) : Option (Prop × LV) :=
  match first.toList with
  | [] => (capIds st captured.toList).map fun l => (True, .a (.c (.fn f l)))
  | [x] => match f, captured.toList, st.ev x with
    | .func f, [], .a (.c (.slc id b i s len cap)) => some (True, .a (.c (.fnb f id b i s len cap)))
    | .func f, [], .a (.agg [.int k1 x, .int k2 y, .run ks n l]) => some (True, .a (.c (.fna f k1 k2 x y ks n l)))
    | _, _, _ => none
  | _ => none

theorem capIds_sound {β : List Nat} {st : St} {a : Act} (hM : TmR β st.tmps a.tmps.toList) : ∀ {xs : List Operand} {l : List Nat}, capIds st xs = some l →
    ∃ bs, l.mapM (fun i => β[i]?) = some bs ∧ xs.map a.eval = bs.map fun b => Value.pointer (some ⟨b, 0, none⟩)
  | [], l, h => by simp only [capIds, Option.some.injEq] at h; subst h; exact ⟨[], by simp, rfl⟩
  | x :: xs, l, h => by
    simp only [capIds] at h
    split at h
    · rename_i id l' hx hl
      simp only [Option.some.injEq] at h; subst h
      have := ev_sound hM x
      rw [hx] at this
      obtain ⟨b, hb, hv⟩ := this
      obtain ⟨bs, h1, h2⟩ := capIds_sound hM hl
      exact ⟨b :: bs, by simp [List.mapM_cons, hb, h1], by simp [hv, h2]⟩
    · simp at h

/-- Two integers and a run, as a value. -/
theorem agg3_sound {β : List Nat} {k1 k2 : IntKind} {x y : Int} {ks : List EK} {n : Nat} {l : List Int} {v : Value} : LVR β (.a (.agg [.int k1 x, .int k2 y, .run ks n l])) v ↔ l.length = n ∧ v = .agg (.int k1 x :: .int k2 y :: runV ks l).toArray := by
  constructor
  · rintro ⟨arr, rfl, _, r1, e1, ⟨_, rfl, h1⟩, _, r2, rfl, ⟨_, rfl, h2⟩, _, r3, rfl, ⟨h3, rfl⟩, h4⟩
    have h1 : _ = Value.int k1 x := h1
    have h2 : _ = Value.int k2 y := h2
    have h4 : r3 = [] := h4
    subst h1 h2 h4
    refine ⟨h3, ?_⟩
    congr 1
    apply Array.toList_inj.1
    rw [e1]; simp
  · rintro ⟨h1, rfl⟩
    exact ⟨_, rfl, [.int k1 x], .int k2 y :: runV ks l, rfl, ⟨_, rfl, rfl⟩, [.int k2 y], runV ks l, rfl, ⟨_, rfl, rfl⟩, runV ks l, [], (List.append_nil _).symm, ⟨h1, rfl⟩, rfl⟩

theorem evFunc_sound {P : Program} {β : List Nat} {st : St} {a : Act} (hM : TmR β st.tmps a.tmps.toList) {f : Fn} {first captured : Array Operand} {p : Prop} {r : LV} (w : World)
    (he : evFunc st f first captured = some (p, r)) : ∃ v, (Instr.makeFunc f (first.map a.eval) (captured.map a.eval)).run P w = .ok v w ∧ LVR β r v := by
  unfold evFunc at he
  split at he
  · rename_i hf
    have hf' : first = #[] := Array.toList_inj.1 hf
    obtain ⟨l, hl, he⟩ := Option.map_eq_some_iff.1 he
    simp only [Prod.mk.injEq] at he
    obtain ⟨_, rfl⟩ := he
    obtain ⟨bs, h1, h2⟩ := capIds_sound hM hl
    refine ⟨.func f #[] (captured.map a.eval), by simp [Instr.makeFunc, hf'], ⟨bs, h1, ?_⟩⟩
    congr 1
    apply Array.toList_inj.1
    simpa using h2
  · rename_i x hf
    have hf' : first = #[x] := Array.toList_inj.1 hf
    split at he
    · rename_i g id b i s len cap hc hx
      have hc' : captured = #[] := Array.toList_inj.1 hc
      simp only [Option.some.injEq, Prod.mk.injEq] at he
      obtain ⟨_, rfl⟩ := he
      have hv := ev_sound hM x
      rw [hx] at hv
      exact ⟨.func (.func g) #[a.eval x] #[], by simp [Instr.makeFunc, hf', hc'], a.eval x, hv, rfl⟩
    · rename_i g k1 z k2 y ks n l hc hx
      have hc' : captured = #[] := Array.toList_inj.1 hc
      simp only [Option.some.injEq, Prod.mk.injEq] at he
      obtain ⟨_, rfl⟩ := he
      have hv := ev_sound hM x
      rw [hx] at hv
      obtain ⟨hl, e⟩ := agg3_sound.1 hv
      exact ⟨.func (.func g) #[a.eval x] #[], by simp [Instr.makeFunc, hf', hc'], ⟨hl, by rw [e]⟩⟩
    · simp at he
  · simp at he

theorem runAt_len {β : List Nat} : ∀ {cs : List Cel} {vs : List Value} {off : Nat} {ks : List EK} {n : Nat} {l : List Int}, CelsR β cs vs → runAt cs off = some (ks, n, l) → off + n ≤ vs.length
  | [], _, _, _, _, _, _, h => by simp [runAt] at h
  | c :: cs, vs, 0, ks, n, l, h, hc => by
    obtain ⟨pre, rest, rfl, h1, h2⟩ := h
    have := h1.len
    cases c <;> simp only [runAt, Option.some.injEq, Prod.mk.injEq, reduceCtorEq] at hc
    obtain ⟨rfl, rfl, rfl⟩ := hc
    simp only [Cel.w] at this
    simp; omega
  | c :: cs, vs, off + 1, ks, n, l, h, hc => by
    obtain ⟨pre, rest, rfl, h1, h2⟩ := h
    have hl := h1.len
    simp only [runAt] at hc
    split at hc
    · have := runAt_len h2 hc
      simp; omega
    · simp at hc

/-- The list of a run, put anew. -/
def setRun : List Cel → Nat → List Int → Option (List Cel)
  | [], _, _ => none
  | c :: cs, 0, x => match c with
    | .run ks n _ => some (.run ks n x :: cs)
    | _ => none
  | c :: cs, off + 1, x => if c.w ≤ off + 1 ∧ 0 < c.w then (setRun cs (off + 1 - c.w) x).map (c :: ·) else none

theorem setRun_sound {β : List Nat} : ∀ {cs : List Cel} {vs : List Value} {off : Nat} {x : List Int} {r : List Cel} {ks : List EK} {n : Nat} {l : List Int},
    CelsR β cs vs → runAt cs off = some (ks, n, l) → x.length = n → setRun cs off x = some r → CelsR β r (vs.take off ++ runV ks x ++ vs.drop (off + n))
  | [], _, _, _, _, _, _, _, _, h, _, _ => by simp [runAt] at h
  | c :: cs, vs, 0, x, r, ks, n, l, h, hr, hx, hc => by
    obtain ⟨pre, rest, rfl, h1, h2⟩ := h
    cases c <;> simp only [runAt, Option.some.injEq, Prod.mk.injEq, reduceCtorEq] at hr
    obtain ⟨rfl, rfl, rfl⟩ := hr
    simp only [setRun, Option.some.injEq] at hc
    subst hc
    obtain ⟨h1, rfl⟩ := h1
    rename_i ks n l
    have h3 : (runV ks l).length = n := by simp [runV, h1]
    refine ⟨runV ks x, rest, ?_, ⟨hx, rfl⟩, h2⟩
    rw [Nat.zero_add, List.drop_append, List.drop_of_length_le (by omega), h3, Nat.sub_self, List.drop_zero]; simp
  | c :: cs, vs, off + 1, x, r, ks, n, l, h, hr, hx, hc => by
    obtain ⟨pre, rest, rfl, h1, h2⟩ := h
    have hl := h1.len
    simp only [runAt] at hr
    simp only [setRun] at hc
    split at hr
    · rename_i hw
      rw [if_pos hw] at hc
      obtain ⟨r', hr', rfl⟩ := Option.map_eq_some_iff.1 hc
      refine ⟨pre, _, ?_, h1, setRun_sound h2 hr hx hr'⟩
      rw [List.take_append, List.drop_append, List.take_of_length_le (by omega), List.drop_of_length_le (by omega), hl]
      simp only [List.append_assoc, List.nil_append]
      rw [show off + 1 + n - c.w = off + 1 - c.w + n by omega]
    · simp at hr

def one? (T : Tab) (e : TypeId) : Bool :=
  match look T e with
  | some ti => decide (ti.size = 1)
  | none => false

/-- The built-in copy, between two rows of numbers, a cell each. -/
def evCopy (T : Tab) (st : St) (c : Call) : Option (Prop × LV × List Blk) :=
  match c.callee, c.args.toList, c.argTypes.toList with
  | .builtin .copy, [x, y], [t, _] => match look T t, st.ev x, st.ev y with
    | some ti, .a (.c (.slc id base i s len _)), .a (.c (.slc id' base' i' s' len' _)) => match ti.d with
      | .slice e => match one? T e, getB st.heap id, getB st.heap id' with
        | true, .cells true te cs, .cells _ _ cs' => match runAt cs base, runAt cs' base' with
          | some ([k1], n, l), some ([k2], n', l') =>
            if s = 1 ∧ s' = 1 ∧ k1 = k2 then
              (setRun cs base (l.take i.toNat ++ (l'.drop i'.toNat).take (min len'.toNat len.toNat) ++ l.drop (i.toNat + min len'.toNat len.toNat))).map fun r =>
                (0 ≤ i ∧ 0 ≤ i' ∧ i + len ≤ n ∧ i' + len' ≤ n', .a (.c (.int .i64 (min len'.toNat len.toNat : Nat))), st.heap.set id (.cells true te r))
            else none
          | _, _ => none
        | _, _, _ => none
      | _ => none
    | _, _, _ => none
  | _, _, _ => none

theorem runV_one (k : EK) (l : List Int) : runV [k] l = l.map k.val := by
  apply List.ext_getElem?
  intro j
  by_cases hj : j < l.length
  · rw [runV_get _ _ _ hj]
    simp [Nat.mod_one, List.getD, hj]
  · rw [List.getElem?_eq_none (by simp [runV]; omega), List.getElem?_eq_none (by simp; omega)]

theorem copy_splice (L : List Value) (base n : Nat) (k : EK) (l x : List Int) (i : Nat) (hl : l.length = n) (hb : base + n ≤ L.length) (hget : ∀ j, j < n → L[base + j]? = some (k.val (l.getD j 0))) (hi : i + x.length ≤ n) :
    L.take (base + i) ++ runV [k] x ++ L.drop (base + i + x.length) = L.take base ++ runV [k] (l.take i ++ x ++ l.drop (i + x.length)) ++ L.drop (base + n) := by
  have hL : L = L.take base ++ (l.map k.val ++ L.drop (base + n)) := by
    apply List.ext_getElem?
    intro j
    by_cases c1 : j < base
    · rw [List.getElem?_append_left (by rw [List.length_take]; omega), List.getElem?_take_of_lt c1]
    · rw [List.getElem?_append_right (by rw [List.length_take]; omega), List.length_take]
      by_cases c2 : j < base + n
      · rw [List.getElem?_append_left (by rw [List.length_map]; omega)]
        have := hget (j - base) (by omega)
        rw [show base + (j - base) = j by omega] at this
        rw [this, show j - min base L.length = j - base by omega]
        simp [List.getD, show j - base < l.length by omega]
      · rw [List.getElem?_append_right (by rw [List.length_map]; omega), List.length_map, List.getElem?_drop]
        congr 1; omega
  have la : (L.take base).length = base := by rw [List.length_take]; omega
  generalize L.take base = A at *
  generalize L.drop (base + n) = B at *
  subst hL
  rw [runV_one, runV_one]
  have e1 : (A ++ (l.map k.val ++ B)).take (base + i) = A ++ (l.take i).map k.val := by
    rw [List.take_append, List.take_of_length_le (by omega), la, show base + i - base = i by omega, List.take_append_of_le_length (by rw [List.length_map]; omega), List.map_take]
  have e2 : (A ++ (l.map k.val ++ B)).drop (base + i + x.length) = (l.drop (i + x.length)).map k.val ++ B := by
    rw [List.drop_append, List.drop_of_length_le (by omega), la, show base + i + x.length - base = i + x.length by omega, List.drop_append_of_le_length (by rw [List.length_map]; omega), List.map_drop, List.nil_append]
  rw [e1, e2]
  simp [List.append_assoc]

theorem run_copy_zero {P : Program} {w : World} {t t' ty e : TypeId} {et : TI} {T : Tab} (hT : TabOk P T) (hu : P.underlying t = some (.slice e)) (het : look T e = some et) (db sb : Option Addr) (dl dc sl sc : Nat) (h0 : Nat.min sl dl = 0) :
    (Builtin.copy_ #[t, t'] ty #[.slice db dl dc, .slice sb sl sc]).run P w = .ok (goInt 0) w := by
  cases db <;> cases sb <;> simp [Builtin.copy_, run_underlying hu, Builtin.lenOf, h0, Builtin.firstCells, run_sizeOf hT het, loadCells, loadCellsFrom, storeCells]

theorem evCopy_sound {P : Program} {T : Tab} (hT : TabOk P T) {n0 : Nat} {w0 : Base} {w : World} {β : List Nat} {st : St} {a : Act} (hH : HR n0 w0 β st.heap w) (hM : TmR β st.tmps a.tmps.toList) {op : Oper} {c : Call} (ho : op.op = .call c) {p : Prop} {r : LV} {H' : List Blk}
    (he : evCopy T st c = some (p, r, H')) (hp : p) : ∃ v w', (execOp a.eval op).run P w = .ok (.value v) w' ∧ HR n0 w0 β H' w' ∧ LVR β r v := by
  unfold evCopy at he
  split at he
  · rename_i x y t t' hc ha ht
    have ha' : c.args = #[x, y] := Array.toList_inj.1 ha
    have ht' : c.argTypes = #[t, t'] := Array.toList_inj.1 ht
    have hx := ev_sound hM x
    have hy := ev_sound hM y
    split at he
    · rename_i ti id base i s len cap id' base' i' s' len' cap' hti hxe hye
      rw [hxe] at hx; rw [hye] at hy
      obtain ⟨q1, q2, q3, hx⟩ := hx
      obtain ⟨u1, u2, u3, hy⟩ := hy
      obtain ⟨_, hu⟩ := hT.look hti
      split at he
      · rename_i e hd
        rw [hd] at hu
        split at he
        · rename_i te cs own te' cs' hk hg hg'
          split at he
          · rename_i k1 n l k2 n' l' hr hr'
            split at he
            · rename_i hs
              obtain ⟨rfl, rfl, rfl⟩ := hs
              obtain ⟨r', hput, he⟩ := Option.map_eq_some_iff.1 he
              simp only [Prod.mk.injEq] at he
              obtain ⟨rfl, rfl, rfl⟩ := he
              obtain ⟨p1, p2, p3, p4⟩ := hp
              obtain ⟨et, het, hes⟩ : ∃ et, look T e = some et ∧ et.size = 1 := by
                unfold one? at hk
                split at hk
                · rename_i et het; exact ⟨et, het, by simpa using hk⟩
                · simp at hk
              obtain ⟨⟨ie, hie, hse, _⟩, _⟩ := hT.look het
              obtain ⟨b1, arr, hb1, hh0, hcr⟩ := hH.get hg
              obtain ⟨b2, arr', hb2, hh0', hcr'⟩ := hH.get hg'
              obtain ⟨hl, hget⟩ := runAt_sound hcr hr
              obtain ⟨hl', hget'⟩ := runAt_sound hcr' hr'
              obtain ⟨m, hm⟩ : ∃ m, m = min len'.toNat len.toNat := ⟨_, rfl⟩
              rw [← hm] at hput ⊢
              have hm1 : m ≤ len.toNat := by omega
              have hm2 : m ≤ len'.toNat := by omega
              have szd : base + n ≤ arr.toList.length := runAt_len hcr hr
              have szs : base' + n' ≤ arr'.toList.length := runAt_len hcr' hr'
              have hxl : (l.take i.toNat ++ (l'.drop i'.toNat).take m ++ l.drop (i.toNat + m)).length = n := by simp; omega
              have g2 := setRun_sound hcr hr hxl hput
              -- what the machine writes
              have harr := copy_splice arr.toList base n k1 l ((l'.drop i'.toNat).take m) i.toNat hl szd (fun j hj => by have := hget j hj; simpa [Nat.mod_one] using this) (by simp; omega)
              rw [show ((l'.drop i'.toNat).take m).length = m by simp; omega] at harr
              rw [← harr] at g2
              by_cases m0 : m = 0
              · -- nothing to write
                have e0 : (arr.toList.take (base + i.toNat) ++ runV [k1] ((l'.drop i'.toNat).take m) ++ arr.toList.drop (base + i.toNat + m)) = arr.toList := by
                  rw [m0]; simp [runV]
                rw [e0] at g2
                have hset : HR n0 w0 β (st.heap.set id (.cells true te r')) w := by
                  refine hH.same hg hb1 g2 hh0 ?_
                  have h1 := hcr.len
                  have h2 := g2.len
                  omega
                have hv : ∃ db dl dc sb sl sc, a.eval x = .slice db dl dc ∧ a.eval y = .slice sb sl sc ∧ Nat.min sl dl = 0 := by
                  have hmm : Nat.min len'.toNat len.toNat = 0 := by
                    have : Nat.min len'.toNat len.toNat = min len'.toNat len.toNat := rfl
                    omega
                  rcases hx with ⟨b, hb, hx⟩ | ⟨hc0, ao, hx⟩ <;> rcases hy with ⟨b', hb', hy⟩ | ⟨hc0', bo, hy⟩ <;>
                    first
                      | exact ⟨_, _, _, _, _, _, hx, hy, hmm⟩
                      | exact ⟨_, _, _, _, _, _, hx, hy, by simp [Nat.min]⟩
                obtain ⟨db, dl, dc, sb, sl, sc, e1, e2, e3⟩ := hv
                refine ⟨goInt 0, w, ?_, hset, by rw [m0]; rfl⟩
                have := run_copy_zero (w := w) (t' := t') (ty := op.type) hT hu het db sb dl dc sl sc e3
                simp [execOp, ho, resolve, hc, ha', ht', invoke, builtin, e1, e2, this]
              · rcases hx with ⟨b, hb, hx⟩ | ⟨hc0, hx⟩
                · rcases hy with ⟨b', hb', hy⟩ | ⟨hc0', hy⟩
                  · rw [hb] at hb1; simp only [Option.some.injEq] at hb1; subst hb1
                    rw [hb'] at hb2; simp only [Option.some.injEq] at hb2; subst hb2
                    have hz : 0 < arr.size := by simp at szd; omega
                    have hz' : 0 < arr'.size := by simp at szs; omega
                    have hh := (hh0 hz).2
                    have hh' := (hh0' hz').2
                    have hsrc : ∀ j v, (runV [k1] ((l'.drop i'.toNat).take m))[j]? = some v → w.cell? ((⟨b', base' + i'.toNat * 1, none⟩ : Addr).add j) = some v := by
                      intro j v hv
                      have hj : j < m := by have := (List.getElem?_eq_some_iff.1 hv).1; simp [runV] at this; omega
                      rw [runV_get _ _ _ (by simp; omega)] at hv
                      rw [addr_add, cell_at hh', ← Array.getElem?_toList, ← hv]
                      have := hget' (i'.toNat + j) (by omega)
                      rw [show base' + i'.toNat * 1 + j = base' + (i'.toNat + j) by omega, this]
                      simp only [List.length_singleton, Nat.mod_one, List.getD_eq_getElem?_getD]
                      rw [List.getElem?_take_of_lt hj, List.getElem?_drop]
                    have lv : (runV [k1] ((l'.drop i'.toNat).take m)).length = m := by simp [runV]; omega
                    have one : ∀ v ∈ runV [k1] ((l'.drop i'.toNat).take m), v.oneCell' = true := by
                      intro v hv; simp only [runV, List.mem_map] at hv; obtain ⟨_, _, rfl⟩ := hv; exact EK.one _ _
                    have := run_copy_row P w t t' op.type e b (base + i.toNat) len.toNat cap.toNat ⟨b', base' + i'.toNat * 1, none⟩ len'.toNat cap'.toNat arr te (runV [k1] ((l'.drop i'.toNat).take m)) hu (by rw [hie]; simp; omega) hh (by rw [lv]; exact hm) hsrc (by rw [lv]; simp at szd; omega) one
                    rw [lv] at this
                    refine ⟨goInt m, _, ?_, hH.set hg hb hcr hz hh0 (arr' := (arr.toList.take (base + i.toNat) ++ runV [k1] ((l'.drop i'.toNat).take m) ++ arr.toList.drop (base + i.toNat + m)).toArray) (by simpa using g2), rfl⟩
                    rw [Nat.mul_one] at hx hy this
                    simp [execOp, ho, resolve, hc, ha', ht', invoke, builtin, hx, hy, this]
                  · omega
                · omega
            · simp at he
          · simp at he
        · simp at he
      · simp at he
    · simp at he
  · simp at he


end Go.Sx
