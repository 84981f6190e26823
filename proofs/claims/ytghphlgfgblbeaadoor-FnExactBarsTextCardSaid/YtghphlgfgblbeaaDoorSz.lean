/- A small symbolic executor over the walk calculus, and that it is sound: symbolic cells, operations, statements, loops, functions, contracts. No conditions. -/
import Derived.Test.YtghphlgfgblbeaaDoorSy
import Derived.Laws.MakeOwn
import Derived.Laws.Append
import Derived.Laws.AppendOwn
import Derived.Lib.AppendStr
import Derived.MapKept
import Derived.ChangeMaps4
import Derived.ChangeKeysEq
import Derived.Carry
import Derived.Laws.Small
import Derived.Laws.BytesString
import Derived.Laws.Concat
import Derived.TacticsIn
import Derived.Sort.QuietThIn
import Derived.RangeFuncRecord
import Derived.KernelRfl
set_option linter.unusedSimpArgs false
set_option linter.unusedVariables false
namespace Go.Sx
open Go.RowKit

/-- A slice of zeros. -/
def evMakeS (T : Tab) (H : List Blk) (t : TypeId) (x y : LV) : Option (Prop × LV × List Blk) :=
  match look T t, asI x, asI y with
  | some ti, some (_, l, _), some (_, c, _) => match ti.d with
    | .slice e => match look T e with
      | some et => match flatE et with
        | some ks => withLen H numerals fun n =>
          some (0 ≤ l ∧ l ≤ c ∧ c ≤ 9223372036854775807 ∧ (et.bytes : Int) * c ≤ 281474976710656, .a (.c (.slc n 0 0 et.size l c)), H ++ [.cells true e [.run ks (c.toNat * et.size) (List.replicate (c.toNat * et.size) 0)]])
        | none => none
      | none => none
    | _ => none
  | _, _, _ => none

theorem evMakeS_sound {P : Program} {T : Tab} (hT : TabOk P T) {n0 : Nat} {w0 : Base} {w : World} {β : List Nat} {H H' : List Blk} (hH : HR n0 w0 β H w) {t : TypeId} {x y : LV} {xv yv : Value} {p : Prop} {r : LV}
    (hx : LVR β x xv) (hy : LVR β y yv) (he : evMakeS T H t x y = some (p, r, H')) (hp : p) : ∃ v w' γ, (Instr.makeSlice t xv yv).run P w = .ok v w' ∧ HR n0 w0 (β ++ γ) H' w' ∧ LVR (β ++ γ) r v := by
  unfold evMakeS at he
  split at he
  · rename_i ti kl l ll kc c lc hti hl hc
    have e1 := asI_sound hx hl
    have e2 := asI_sound hy hc
    subst e1; subst e2
    obtain ⟨_, hu⟩ := hT.look hti
    split at he
    · rename_i e hd
      rw [hd] at hu
      split at he
      · rename_i et het
        obtain ⟨⟨inf, h1, h2, z, hz, hzc⟩, _⟩ := hT.look het
        have hby := TabBy.look hT.by_ het h1
        split at he
        · rename_i ks hk
          have he := withLen_sound he
          simp only [Option.some.injEq, Prod.mk.injEq] at he
          obtain ⟨rfl, rfl, rfl⟩ := he
          obtain ⟨p1, p2, p3, p4⟩ := hp
          obtain ⟨f1, f2, f3⟩ := flatE_sound hk (hzc β)
          have hr := run_make (P := P) w t e inf z hu h1 hz kl kc l c p1 p2 (by rw [hby]; exact p4) p3
          have hzs : z.cells.size = et.size := by rw [← Array.length_toList, f1]; simp [runV]
          have hcs : CelsR β [.run ks (c.toNat * et.size) (List.replicate (c.toNat * et.size) 0)] (Builtin.zeroCells z.cells c.toNat).toList := by
            refine ⟨_, [], by rw [List.append_nil], ⟨by simp, ?_⟩, rfl⟩
            unfold Builtin.zeroCells
            rw [made_eq, f1, repV_run f3]
          have hm : madeCells z.cells (c.toNat * inf.size) = Builtin.zeroCells z.cells c.toNat := by
            simp only [madeCells, Builtin.zeroCells]
            rw [h2, hzs]
          rw [hm] at hr
          exact ⟨_, _, [w.heap.size], hr, hH.push hcs, ⟨by omega, by omega, by omega, .inl ⟨w.heap.size, by rw [← hH.len]; simp, by simp⟩⟩⟩
        · simp at he
      · simp at he
    · simp at he
  · simp at he

/-! ### Blocks that are dropped, moved, laid with no cells -/

theorem append_one {α : Type} {l : List α} {a b : α} {i : Nat} (h : (l ++ [a])[i]? = some b) : l[i]? = some b ∨ (i = l.length ∧ b = a) := by
  by_cases hi : i < l.length
  · rw [List.getElem?_append_left hi] at h; exact .inl h
  · have hl : i = l.length := by
      have := (List.getElem?_eq_some_iff.1 h).1
      simp at this; omega
    subst hl
    simp at h
    exact .inr ⟨rfl, h.symm⟩

theorem HR.kill {n0 : Nat} {w0 : Base} {w : World} {β : List Nat} {H : List Blk} (h : HR n0 w0 β H w) (id : Nat) : HR n0 w0 β (H.set id .dead) w := by
  have old : ∀ {i : Nat} {B : Blk}, (H.set id .dead)[i]? = some B → B = .dead ∨ (i ≠ id ∧ H[i]? = some B) := by
    intro i B hB
    rw [List.getElem?_set] at hB
    by_cases hi : id = i
    · subst hi
      split at hB
      · split at hB
        · simp only [Option.some.injEq] at hB; exact .inl hB.symm
        · simp at hB
      · rename_i hne; exact absurd rfl hne
    · rw [if_neg hi] at hB; exact .inr ⟨fun e => hi e.symm, hB⟩
  refine ⟨h.base, by simp [h.len], ?_, h.niStep (fun i b B x hB hb hx => ?_) (fun j c C hC ho hn hc => ?_), h.ms, h.st, h.ext, ?_⟩
  rotate_left
  · rcases old hB with rfl | ⟨i1, i2⟩
    · exact hx.elim
    · exact ⟨i, B, i2, hb, hx⟩
  · rcases old hC with rfl | ⟨i1, i2⟩
    · exact absurd trivial hn
    · exact .inr ⟨j, C, i2, ho, hn, hc⟩
  rotate_left
  · intro i j b B C hB ho hn hb hb' hne hC
    rcases old hB with rfl | ⟨i1, i2⟩
    · exact absurd trivial hn
    · rcases old hC with rfl | ⟨j1, j2⟩
      · trivial
      · exact h.nd i j b B C i2 ho hn hb hb' hne j2
  · intro i B b hB hb
    rcases old hB with rfl | ⟨i1, i2⟩
    · trivial
    · exact h.blk i B b i2 hb

/-- A block named anew. -/
theorem HR.move {n0 : Nat} {w0 : Base} {w : World} {β : List Nat} {H : List Blk} (h : HR n0 w0 β H w) {id b : Nat} {t : TypeId} {cs : List Cel} (hg : H[id]? = some (.cells true t cs)) (hb : β[id]? = some b) :
    HR n0 w0 (β ++ [b]) (H.set id .dead ++ [.cells true t cs]) w := by
  have hk := h.kill id
  have hidl : id < H.length := (List.getElem?_eq_some_iff.1 hg).1
  have hlen : (H.set id .dead).length = H.length := by simp
  have hdead : (H.set id .dead)[id]? = some .dead := by rw [List.getElem?_set, if_pos rfl, if_pos hidl]
  have cs2 : ∀ {i c : Nat} {B : Blk}, (H.set id .dead ++ [Blk.cells true t cs])[i]? = some B → (β ++ [b])[i]? = some c → (i < H.length ∧ (H.set id .dead)[i]? = some B ∧ β[i]? = some c) ∨ (i = H.length ∧ B = .cells true t cs ∧ c = b) := by
    intro i c B hB hc
    rcases append_one hB with hB | ⟨rfl, rfl⟩
    · have hi : i < H.length := by have := (List.getElem?_eq_some_iff.1 hB).1; simpa using this
      rw [List.getElem?_append_left (by rw [h.len]; exact hi)] at hc
      exact .inl ⟨hi, hB, hc⟩
    · rw [hlen] at hc ⊢
      rw [← h.len] at hc
      simp at hc
      exact .inr ⟨rfl, rfl, hc.symm⟩
  have same : ∀ {i : Nat} {B : Blk}, (H.set id .dead)[i]? = some B → ¬ B.nil → i ≠ id ∧ H[i]? = some B := by
    intro i B hB hn
    by_cases hi : id = i
    · subst hi; rw [hdead] at hB; simp only [Option.some.injEq] at hB; subst hB; exact absurd trivial hn
    · rw [List.getElem?_set, if_neg hi] at hB; exact ⟨fun e => hi e.symm, hB⟩
  refine ⟨h.base, by simp [h.len], ?_, h.niStep (fun i b B x hB hb hx => ?_) (fun j c C hC ho hn hc => ?_), h.ms, h.st, h.ext, ?_⟩
  rotate_left
  · rcases cs2 hB hb with ⟨i1, i2, i3⟩ | ⟨i1, rfl, i3⟩
    · exact ⟨i, B, (same i2 (Blk.inn_nil hx)).2, i3, hx⟩
    · exact hx.elim
  · rcases cs2 hC hc with ⟨i1, i2, i3⟩ | ⟨i1, rfl, rfl⟩
    · exact .inr ⟨j, C, (same i2 hn).2, ho, hn, i3⟩
    · exact .inr ⟨id, _, hg, ho, hn, hb⟩
  rotate_left
  · intro i j c B C hB ho hn hc hc' hne hC
    rcases cs2 hB hc with ⟨i1, i2, i3⟩ | ⟨i1, i2, i3⟩ <;> rcases cs2 hC hc' with ⟨j1, j2, j3⟩ | ⟨j1, j2, j3⟩
    · exact hk.nd i j c B C i2 ho hn i3 j3 hne j2
    · obtain ⟨s1, s2⟩ := same i2 hn
      subst j2; subst j3
      exact h.nd i id c B _ s2 ho hn i3 hb (fun e => s1 e.symm) hg
    · subst i2; subst i3
      by_cases hcn : C.nil
      · exact hcn
      · obtain ⟨s1, s2⟩ := same j2 hcn
        exact h.nd id j c _ C hg rfl hn hb j3 s1 s2
    · omega
  · intro i B c hB hc
    rcases cs2 hB hc with ⟨i1, i2, i3⟩ | ⟨i1, rfl, rfl⟩
    · exact (hk.blk i B c i2 i3).mono
    · exact (h.blk id _ c hg hb).mono

/-- A block with no cells may be named anywhere. -/
theorem HR.ghost {n0 : Nat} {w0 : Base} {w : World} {β : List Nat} {H : List Blk} (h : HR n0 w0 β H w) (b : Nat) {t : TypeId} {cs : List Cel} (hc : CelsR β cs []) : HR n0 w0 (β ++ [b]) (H ++ [.cells true t cs]) w := by
  have hz : (Blk.cells true t cs).nil := by
    show width cs = 0
    have := hc.len
    simpa using this.symm
  have cs2 : ∀ {i c : Nat} {B : Blk}, (H ++ [Blk.cells true t cs])[i]? = some B → (β ++ [b])[i]? = some c → (H[i]? = some B ∧ β[i]? = some c) ∨ B = .cells true t cs := by
    intro i c B hB hc
    rcases append_one hB with hB | ⟨rfl, rfl⟩
    · have hi : i < H.length := (List.getElem?_eq_some_iff.1 hB).1
      rw [List.getElem?_append_left (by rw [h.len]; exact hi)] at hc
      exact .inl ⟨hB, hc⟩
    · exact .inr rfl
  refine ⟨h.base, by simp [h.len], ?_, h.niApp (fun _ _ => rfl) (fun x hx => hx.elim) (fun _ hn => absurd hz hn), h.ms, h.st, h.ext, ?_⟩
  · intro i j c B C hB ho hn hc hc' hne hC
    rcases cs2 hC hc' with ⟨j2, j3⟩ | rfl
    · rcases cs2 hB hc with ⟨i2, i3⟩ | rfl
      · exact h.nd i j c B C i2 ho hn i3 j3 hne j2
      · exact absurd hz hn
    · exact hz
  · intro i B c hB hc'
    rcases cs2 hB hc' with ⟨i2, i3⟩ | rfl
    · exact (h.blk i B c i2 i3).mono
    · exact ⟨#[], hc.mono, fun h => by simp at h⟩

theorem HR.draw {n0 : Nat} {w0 : Base} {w : World} {β : List Nat} {H : List Blk} (h : HR n0 w0 β H w) : HR n0 w0 β H { w with drawn := w.drawn + 1 } :=
  ⟨h.base, h.len, h.nd, h.niKeep fun _ _ => rfl, h.ms, h.st, h.st _ _ (Grow.drew _ _ w) h.ext, fun i B b hB hb => (h.blk i B b hB hb).keep rfl fun _ _ => rfl⟩

/-! ### append -/

/-- The elements of a slice, as numbers. -/
def srcOf (ks : List EK) (st : Nat) (H : List Blk) (x : LV) : Option (Prop × Int × List Int) :=
  match x with
  | .a (.c (.slc id base i s len _)) => match getB H id with
    | .cells _ _ cs => match runAt cs base with
      | some (ks', n, l) => if ks' = ks ∧ s = st then some ((i.toNat + len.toNat) * s ≤ n, len, (l.drop (i.toNat * s)).take (len.toNat * s)) else none
      | none => none
    | .wnd b0 ks' n l => if ks' = ks ∧ s = st then some (base = b0 ∧ (i.toNat + len.toNat) * s ≤ n, len, (l.drop (i.toNat * s)).take (len.toNat * s)) else none
    | _ => none
  | .a (.c (.val (.slice none 0 0))) => some (True, 0, [])
  | _ => none

theorem srcOf_sound {n0 : Nat} {w0 : Base} {w : World} {β : List Nat} {H : List Blk} (hH : HR n0 w0 β H w) {ks : List EK} {st : Nat} (hks : st % ks.length = 0) {x : LV} {xv : Value} {p : Prop} {len : Int} {xs : List Int}
    (hx : LVR β x xv) (he : srcOf ks st H x = some (p, len, xs)) (hp : p) : ∃ ao sl sc, xv = .slice ao sl sc ∧ (sl : Int) = len ∧ sl ≤ sc ∧ xs.length = sl * st ∧
      (0 < sl → ∃ a, ao = some a ∧ ∀ j v, (runV ks xs)[j]? = some v → w.cell? (a.add j) = some v) := by
  unfold srcOf at he
  split at he
  · rename_i id base i s l0 cap
    split at he
    · rename_i own te cs hg
      split at he
      · rename_i ks' n l hr
        split at he
        · rename_i hk
          obtain ⟨rfl, rfl⟩ := hk
          simp only [Option.some.injEq, Prod.mk.injEq] at he
          obtain ⟨rfl, rfl, rfl⟩ := he
          obtain ⟨q1, q2, q3, hx⟩ := hx
          obtain ⟨b', arr, hb', hh0, hc⟩ := hH.get hg
          obtain ⟨hl, hget⟩ := runAt_sound hc hr
          have hle := runAt_le hc hr
          have hlen : ((l.drop (i.toNat * s)).take (l0.toNat * s)).length = l0.toNat * s := by
            rw [List.length_take, List.length_drop]
            rw [Nat.add_mul] at hp
            omega
          rcases hx with ⟨b, hb, rfl⟩ | ⟨hc0, hx⟩
          · rw [hb] at hb'; simp only [Option.some.injEq] at hb'; subst hb'
            refine ⟨_, _, _, rfl, by omega, by omega, hlen, fun h0 => ⟨_, rfl, ?_⟩⟩
            intro j v hv
            have hj := (List.getElem?_eq_some_iff.1 hv).1
            have hj' : j < l0.toNat * s := by simpa [runV, hlen] using hj
            have hz : 0 < arr.size := by
              rw [Nat.add_mul] at hp
              simp at hle
              omega
            have hh := (hh0 hz).2
            rw [runV_get _ _ _ (by omega)] at hv
            rw [addr_add, cell_at hh, ← Array.getElem?_toList, ← hv]
            have := hget (i.toNat * s + j) (by rw [Nat.add_mul] at hp; omega)
            rw [show base + i.toNat * s + j = base + (i.toNat * s + j) by omega, this]
            have e1 : (i.toNat * s + j) % ks'.length = j % ks'.length := by
              rw [Nat.add_mod, Nat.mul_mod, hks, Nat.mul_zero, Nat.zero_mod, Nat.zero_add, Nat.mod_mod]
            have e2 : ((l.drop (i.toNat * s)).take (l0.toNat * s)).getD j 0 = l.getD (i.toNat * s + j) 0 := by
              rw [List.getD_eq_getElem?_getD, List.getD_eq_getElem?_getD, List.getElem?_take_of_lt hj', List.getElem?_drop]
            rw [e1, e2]
          · have z : l0.toNat = 0 := by omega
            obtain ⟨ao, rfl⟩ := hx
            exact ⟨_, _, _, rfl, by omega, Nat.le_refl _, by rw [hlen, z], fun h => by omega⟩
        · simp at he
      · simp at he
    · rename_i b0 ks' n l hg
      split at he
      · rename_i hk
        obtain ⟨rfl, rfl⟩ := hk
        simp only [Option.some.injEq, Prod.mk.injEq] at he
        obtain ⟨rfl, rfl, rfl⟩ := he
        obtain ⟨rfl, hp⟩ := hp
        obtain ⟨q1, q2, q3, hx⟩ := hx
        obtain ⟨b', hb', hl, hget⟩ := hH.getW hg
        have hlen : ((l.drop (i.toNat * s)).take (l0.toNat * s)).length = l0.toNat * s := by
          rw [List.length_take, List.length_drop]
          rw [Nat.add_mul] at hp
          omega
        rcases hx with ⟨b, hb, rfl⟩ | ⟨hc0, hx⟩
        · rw [hb] at hb'; simp only [Option.some.injEq] at hb'; subst hb'
          refine ⟨_, _, _, rfl, by omega, by omega, hlen, fun h0 => ⟨_, rfl, ?_⟩⟩
          intro j v hv
          have hj := (List.getElem?_eq_some_iff.1 hv).1
          have hj' : j < l0.toNat * s := by simpa [runV, hlen] using hj
          rw [runV_get _ _ _ (by omega)] at hv
          have := hget (i.toNat * s + j) (by rw [Nat.add_mul] at hp; omega)
          rw [addr_add, ← hv, show base + i.toNat * s + j = base + (i.toNat * s + j) by omega, this]
          have e1 : (i.toNat * s + j) % ks'.length = j % ks'.length := by
            rw [Nat.add_mod, Nat.mul_mod, hks, Nat.mul_zero, Nat.zero_mod, Nat.zero_add, Nat.mod_mod]
          have e2 : ((l.drop (i.toNat * s)).take (l0.toNat * s)).getD j 0 = l.getD (i.toNat * s + j) 0 := by
            rw [List.getD_eq_getElem?_getD, List.getD_eq_getElem?_getD, List.getElem?_take_of_lt hj', List.getElem?_drop]
          rw [e1, e2]
        · have z : l0.toNat = 0 := by omega
          obtain ⟨ao, rfl⟩ := hx
          exact ⟨_, _, _, rfl, by omega, Nat.le_refl _, by rw [hlen, z], fun h => by omega⟩
      · simp at he
    · simp at he
  · simp only [Option.some.injEq, Prod.mk.injEq] at he
    obtain ⟨rfl, rfl, rfl⟩ := he
    have hx : xv = .slice none 0 0 := hx
    exact ⟨_, _, _, hx, rfl, Nat.le_refl _, by simp, fun h => by omega⟩
  · simp at he

/-- What comes behind an append. -/
def appK (H : List Blk) (e : TypeId) (ks : List EK) (s : Nat) (total : Int) (xs : List Int) (K : LV → List Blk → Prop) : Prop :=
  ∀ (n : Nat) (L : List Int) (cap : Int), total ≤ cap → n = cap.toNat * s → L.length = n → L.take (total.toNat * s) = xs →
    K (.a (.c (.slc H.length 0 0 s total cap))) (H ++ [.cells true e [.run ks n L]])

def Stuck (_ : String) : Prop := False

/-- A list's length, handed on as a numeral. -/
def withLenP {α : Type} (l : List α) (k : Nat → Prop) : Prop := match withLen l numerals some with
  | some n => k n
  | none => False

theorem withLenP_sound {α : Type} {l : List α} {k : Nat → Prop} (h : withLenP l k) : k l.length := by
  unfold withLenP at h
  split at h
  · rename_i n hn
    have := withLen_sound hn
    simp only [Option.some.injEq] at this
    rw [this]; exact h
  · exact h.elim

def appN (H : List Blk) (e : TypeId) (ks : List EK) (s : Nat) (total : Int) (xs : List Int) (K : LV → List Blk → Prop) : Prop :=
  withLenP H fun m => ∀ (n : Nat) (L : List Int) (cap : Int), total ≤ cap → n = cap.toNat * s → L.length = n → L.take (total.toNat * s) = xs →
    K (.a (.c (.slc m 0 0 s total cap))) (H ++ [.cells true e [.run ks n L]])

theorem appN_sound {H : List Blk} {e : TypeId} {ks : List EK} {s : Nat} {total : Int} {xs : List Int} {K : LV → List Blk → Prop} (h : appN H e ks s total xs K) : appK H e ks s total xs K := by
  unfold appN at h
  exact withLenP_sound h

def evApp0 (T : Tab) (st : St) (c : Call) (K : LV → List Blk → Prop) : Prop :=
  match c.args.toList, c.argTypes.toList with
  | [x, y], [t, t'] => match look T t with
    | some ti => match ti.d with
      | .slice e => match look T e with
        | some et => match flatE et with
          | some ks => match srcOf ks et.size st.heap (st.ev x), srcOf ks et.size st.heap (st.ev y) with
            | some (p1, n1, xs1), some (p2, n2, xs2) =>
              if t = t' then
                (p1 ∧ p2 ∧ (n1 + n2) * et.bytes ≤ 140737488355328 ∧ n1 + n2 ≤ 9223372036854775807) ∧
                match st.ev x with
                | .a (.c (.slc id 0 i s _ cap)) => match getB st.heap id with
                  | .cells true te [.run _ n _] => if te = e then (i = 0 ∧ n = cap.toNat * s) ∧ appN (st.heap.set id .dead) e ks et.size (n1 + n2) (xs1 ++ xs2) K
                    else (0 < n2 ∧ cap < n1 + n2) ∧ appN st.heap e ks et.size (n1 + n2) (xs1 ++ xs2) K
                  | _ => (0 < n2 ∧ cap < n1 + n2) ∧ appN st.heap e ks et.size (n1 + n2) (xs1 ++ xs2) K
                | .a (.c (.slc _ _ _ _ _ cap)) => (0 < n2 ∧ cap < n1 + n2) ∧ appN st.heap e ks et.size (n1 + n2) (xs1 ++ xs2) K
                | _ => appN st.heap e ks et.size (n1 + n2) (xs1 ++ xs2) K
              else Stuck "append"
            | _, _ => Stuck "append elements"
          | none => Stuck "append kinds"
        | none => Stuck "append"
      | _ => Stuck "append"
    | none => Stuck "append"
  | _, _ => Stuck "append"

/-- Nothing appended. -/
theorem run_append_zero {P : Program} {T : Tab} (hT : TabOk P T) {w : World} {t ty e : TypeId} {et : TI} (hu : P.underlying t = some (.slice e)) (het : look T e = some et) (ao bo : Option Addr) (sl sc xc : Nat) (h : sl ≤ sc) :
    (Builtin.append_ #[t, t] ty #[.slice ao sl sc, .slice bo 0 xc]).run P w = .ok (.slice ao sl sc) w := by
  cases ao <;> cases bo <;> simp [Builtin.append_, run_underlying hu, run_sizeOf hT het, Builtin.lenOf, h, Builtin.firstCells, loadCells, loadCellsFrom, storeCells]

/-- Where something is appended, and there is no room. -/
theorem run_append_more {P : Program} {w : World} (t ty e : TypeId) (i : TypeInfo) (z : Value) (ht : P.underlying t = some (.slice e)) (hi : P.info? e = some i) (hz : i.zero = some z)
    (ao : Option Addr) (sLen sCap : Nat) (hle : sLen ≤ sCap) (olds : List Value) (hlo : olds.length = sLen * i.size) (holds : 0 < sLen → ∃ b, ao = some b ∧ ∀ j v, olds[j]? = some v → w.cell? (b.add j) = some v)
    (hn : ao = none → sCap = 0) (a : Addr) (n c : Nat) (news : List Value) (hl : news.length = n * i.size) (hnews : ∀ j v, news[j]? = some v → w.cell? (a.add j) = some v)
    (h0 : 0 < n) (hg : sCap < sLen + n) (h63 : sLen + n ≤ 9223372036854775807) (hb : (sLen + n) * i.bytes ≤ 140737488355328) :
    ∃ cap, sLen + n ≤ cap ∧ (Builtin.append_ #[t, t] ty #[.slice ao sLen sCap, .slice (some a) n c]).run P w =
      .ok (.slice (some ⟨w.heap.size, 0, none⟩) (sLen + n) cap) (w.drew.alloc (.cells (olds.toArray ++ news.toArray ++ Builtin.zeroCells z.cells (cap - (sLen + n))) e)) := by
  cases ao with
  | none =>
    have h1 := hn rfl
    subst h1
    have h2 : sLen = 0 := by omega
    subst h2
    have h3 : olds = [] := List.eq_nil_of_length_eq_zero (by simpa using hlo)
    subst h3
    refine ⟨grownCap w n 0 e, by have := grownCap_ge w n 0 e; omega, ?_⟩
    have := run_append_nil (P := P) w t ty e i z ht hi hz a n c news hl hnews h0 (by omega) (by simp only [Nat.zero_add] at hb; omega)
    simpa using this
  | some b =>
    refine ⟨grownCap w (sLen + n) sCap e, grownCap_ge _ _ _ _, ?_⟩
    refine run_append_grow (P := P) w t ty e i z ht hi hz b sLen sCap olds hlo ?_ a n c news hl hnews hg (by omega) (growslice_fits hg hb)
    intro j v hv
    by_cases h1 : 0 < sLen
    · obtain ⟨b', hb', h2⟩ := holds h1
      simp only [Option.some.injEq] at hb'; subst hb'
      exact h2 j v hv
    · have h2 : olds = [] := List.eq_nil_of_length_eq_zero (by rw [hlo, show sLen = 0 by omega, Nat.zero_mul])
      subst h2; simp at hv

theorem evApp0_sound {P : Program} {T : Tab} (hT : TabOk P T) {n0 : Nat} {w0 : Base} {w : World} {β : List Nat} {st : St} {a : Act} (hH : HR n0 w0 β st.heap w) (hM : TmR β st.tmps a.tmps.toList) {op : Oper} {c : Call} (ho : op.op = .call c) (hcal : c.callee = .builtin .append) {K : LV → List Blk → Prop}
    (h : evApp0 T st c K) : ∃ v w' γ lv H', (execOp a.eval op).run P w = .ok (.value v) w' ∧ K lv H' ∧ HR n0 w0 (β ++ γ) H' w' ∧ LVR (β ++ γ) lv v := by
  unfold evApp0 at h
  split at h
  · rename_i x y t t' ha ht
    have ha' : c.args = #[x, y] := Array.toList_inj.1 ha
    have ht' : c.argTypes = #[t, t'] := Array.toList_inj.1 ht
    have hx := ev_sound hM x
    have hy := ev_sound hM y
    split at h
    · rename_i ti hti
      obtain ⟨_, hu⟩ := hT.look hti
      split at h
      · rename_i e hd
        rw [hd] at hu
        split at h
        · rename_i et het
          obtain ⟨⟨inf, h1, h2, z, hz, hzc⟩, _⟩ := hT.look het
          have hby := TabBy.look hT.by_ het h1
          split at h
          · rename_i ks hk
            obtain ⟨f1, f2, f3⟩ := flatE_sound hk (hzc β)
            split at h
            · rename_i p1 n1 xs1 p2 n2 xs2 hs1 hs2
              split at h
              · rename_i htt
                subst htt
                obtain ⟨⟨hp1, hp2, hb48, hb63⟩, h⟩ := h
                obtain ⟨ao, sl, sc, ex, en1, hsc, hl1, hc1⟩ := srcOf_sound hH f3 hx hs1 hp1
                obtain ⟨bo, xl, xc, ey, en2, _, hl2, hc2⟩ := srcOf_sound hH f3 hy hs2 hp2
                subst en1; subst en2
                have key : ∀ {v w'}, (Builtin.append_ #[t, t] op.type #[a.eval x, a.eval y]).run P w = .ok v w' → (execOp a.eval op).run P w = .ok (.value v) w' := by
                  intro v w' hv
                  simp [execOp, ho, resolve, hcal, ha', ht', invoke, builtin, hv]
                have hrl : ∀ xs : List Int, (runV ks xs).length = xs.length := fun xs => by simp [runV]
                have tot : ((sl : Int) + (xl : Int)).toNat = sl + xl := by omega
                have hb48' : (sl + xl) * inf.bytes ≤ 140737488355328 := by
                  rw [hby]
                  have : (((sl + xl) * et.bytes : Nat) : Int) ≤ 140737488355328 := by
                    rw [Int.natCast_mul, Int.natCast_add]; exact hb48
                  omega
                -- growing
                have grow : ∀ (H0 : List Blk), HR n0 w0 β H0 w → 0 < xl → sc < sl + xl → (ao = none → sc = 0) → appN H0 e ks et.size (sl + xl) (xs1 ++ xs2) K →
                    ∃ v w' γ lv H', (execOp a.eval op).run P w = .ok (.value v) w' ∧ K lv H' ∧ HR n0 w0 (β ++ γ) H' w' ∧ LVR (β ++ γ) lv v := by
                  intro H0 hH0 hx0 hg hnn hk'
                  obtain ⟨a2, hbo, hnews⟩ := hc2 hx0
                  subst hbo
                  obtain ⟨cap, hcap, hrun⟩ := run_append_more (P := P) (w := w) t op.type e inf z hu h1 hz ao sl sc hsc (runV ks xs1) (by rw [hrl, hl1, h2]) hc1 hnn a2 xl xc (runV ks xs2) (by rw [hrl, hl2, h2]) hnews hx0 hg (by omega) hb48'
                  have hL : (xs1 ++ xs2 ++ List.replicate ((cap - (sl + xl)) * et.size) 0).length = cap * et.size := by
                    rw [List.length_append, List.length_append, hl1, hl2, List.length_replicate, ← Nat.add_mul, ← Nat.add_mul]
                    congr 1; omega
                  have hcs : CelsR β [.run ks (cap * et.size) (xs1 ++ xs2 ++ List.replicate ((cap - (sl + xl)) * et.size) 0)] ((runV ks xs1).toArray ++ (runV ks xs2).toArray ++ Builtin.zeroCells z.cells (cap - (sl + xl))).toList := by
                    refine ⟨_, [], by rw [List.append_nil], ⟨hL, ?_⟩, rfl⟩
                    have hm1 : xs1.length % ks.length = 0 := by rw [hl1, Nat.mul_mod, f3, Nat.mul_zero, Nat.zero_mod]
                    have hm2 : xs2.length % ks.length = 0 := by rw [hl2, Nat.mul_mod, f3, Nat.mul_zero, Nat.zero_mod]
                    rw [runV_app (by rw [List.length_append, Nat.add_mod, hm1, hm2, Nat.add_zero, Nat.zero_mod]), runV_app hm1, Array.toList_append, Array.toList_append]
                    congr 1
                    unfold Builtin.zeroCells
                    rw [made_eq, f1, repV_run f3]
                  have hp := (hH0.draw).push (t := e) hcs
                  have := appN_sound hk' (cap * et.size) _ (cap : Int) (by omega) (by simp) hL (by rw [tot, List.take_append_of_le_length (by rw [List.length_append, hl1, hl2, ← Nat.add_mul]; exact Nat.le_refl _), List.take_of_length_le (by rw [List.length_append, hl1, hl2, ← Nat.add_mul]; exact Nat.le_refl _)])
                  refine ⟨_, _, [w.heap.size], _, _, key (by rw [ex, ey]; exact hrun), this, hp, ⟨by omega, by omega, by omega, .inl ⟨w.heap.size, by rw [← hH0.len]; simp, ?_⟩⟩⟩
                  rw [tot]; simp
                -- nothing to append
                have zero : xl = 0 → (Builtin.append_ #[t, t] op.type #[a.eval x, a.eval y]).run P w = .ok (.slice ao sl sc) w := by
                  intro h0
                  subst h0
                  rw [ex, ey]
                  exact run_append_zero hT hu het ao bo sl sc xc hsc
                have hnone : ∀ {id base : Nat} {i l0 cap : Int} {s : Nat}, LVR β (.a (.c (.slc id base i s l0 cap))) (a.eval x) → (ao = none → sc = 0) ∧ ((cap.toNat = sc ∧ l0.toNat = sl) ∧ l0 ≤ cap ∧ 0 ≤ l0) := by
                  rintro id base i l0 cap s ⟨q1, q2, q3, hx⟩
                  rw [ex] at hx
                  rcases hx with ⟨b, hb, hx⟩ | ⟨hc0, ao', hx⟩ <;> simp only [Value.slice.injEq] at hx <;> obtain ⟨r1, r2, r3⟩ := hx
                  · exact ⟨fun h => (by rw [r1] at h; cases h), ⟨⟨r3.symm, r2.symm⟩, q3, q2⟩⟩
                  · exact ⟨fun _ => r3, ⟨⟨by omega, by omega⟩, q3, q2⟩⟩
                split at h
                · rename_i id i s l0 cap hxe
                  rw [hxe] at hx
                  obtain ⟨hno, ⟨hcs1, hcs2⟩, hcl, hl00⟩ := hnone hx
                  split at h
                  · rename_i te ks' n l hg
                    split at h
                    · rename_i hte
                      subst hte
                      obtain ⟨⟨hi0, hn⟩, hkk⟩ := h
                      -- what the source says
                      rw [hxe] at hs1
                      simp only [srcOf, hg, runAt] at hs1
                      split at hs1
                      · rename_i hkk'
                        obtain ⟨rfl, rfl⟩ := hkk'
                        simp only [Option.some.injEq, Prod.mk.injEq] at hs1
                        obtain ⟨rfl, hl0, rfl⟩ := hs1
                        subst hi0
                        simp only [Int.toNat_zero, Nat.zero_mul, List.drop_zero] at *
                        have hg' := getB_some hg
                        obtain ⟨b, arr, hb, hh0, hc⟩ := hH.get hg
                        have hlr : l.length = n ∧ arr.toList = runV ks' l := by
                          obtain ⟨pre, rest, e1, ⟨e2, rfl⟩, e3⟩ := hc
                          simp only [CelsR] at e3
                          subst e3
                          exact ⟨e2, by rw [e1, List.append_nil]⟩
                        have hsl : l0.toNat = sl := hcs2
                        by_cases hx0 : xl = 0
                        · have hr := zero hx0
                          have hm := hH.move hg' hb
                          have hx2 : xs2 = [] := List.eq_nil_of_length_eq_zero (by rw [hl2, hx0, Nat.zero_mul])
                          subst hx2
                          have hK := appN_sound hkk n l cap (by omega) hn hlr.1 (by rw [tot, hx0, List.append_nil, Nat.add_zero, hsl])
                          refine ⟨_, _, [b], _, _, key hr, hK, hm, ?_⟩
                          obtain ⟨q1, q2, q3, hx⟩ := hx
                          rw [ex] at hx
                          refine ⟨by omega, by omega, by omega, ?_⟩
                          rcases hx with ⟨b', hb', hx⟩ | ⟨hc0, hx⟩
                          · rw [hb] at hb'; simp only [Option.some.injEq] at hb'; subst hb'
                            refine .inl ⟨b, by rw [List.length_set, ← hH.len]; simp, ?_⟩
                            rw [hx, tot, hx0, Nat.add_zero, hsl]
                          · exact .inr ⟨hc0, hx⟩
                        · by_cases hroom : sl + xl ≤ sc
                          · -- in its place
                            obtain ⟨a2, hbo, hnews⟩ := hc2 (by omega)
                            subst hbo
                            have hxv : a.eval x = .slice (some ⟨b, 0, none⟩) sl sc := by
                              obtain ⟨q1, q2, q3, hx⟩ := hx
                              rcases hx with ⟨b', hb', hx⟩ | ⟨hc0, hx⟩
                              · rw [hb] at hb'; simp only [Option.some.injEq] at hb'; subst hb'
                                rw [hx, hcs1, hcs2]; simp
                              · omega
                            have hn' : n = sc * et.size := by rw [hn, hcs1]
                            have hle : (sl + xl) * et.size ≤ n := by rw [hn']; exact Nat.mul_le_mul_right _ hroom
                            rw [Nat.add_mul] at hle
                            have hxp : 0 < xl * et.size := Nat.mul_pos (by omega) f2
                            have hsz : arr.size = n := by rw [← Array.length_toList, hlr.2, hrl, hlr.1]
                            have hz0 : 0 < arr.size := by omega
                            have hh := (hh0 hz0).2
                            have hrun := run_append_room (P := P) w t op.type te inf hu h1 b sl sc arr hh a2 xl xc (runV ks' xs2) (by rw [hrl, hl2, h2]) hnews (by
                              intro u hu'
                              simp only [runV, List.mem_map] at hu'
                              obtain ⟨_, _, rfl⟩ := hu'
                              exact EK.one _ _) hroom (by rw [hrl, hl2, h2, hsz]; exact hle)
                            have hj0 : (sl * et.size) % ks'.length = 0 := by rw [Nat.mul_mod, f3, Nat.mul_zero, Nat.zero_mod]
                            have hsub := runV_sub ks' l xs2 (sl * et.size) (xl * et.size) hl2 (by rw [hlr.1]; exact hle) hj0
                            have hL : (l.take (sl * et.size) ++ xs2 ++ l.drop (sl * et.size + xl * et.size)).length = n := by
                              rw [List.length_append, List.length_append, List.length_take, List.length_drop, hl2, hlr.1]; omega
                            have hcs : CelsR β [.run ks' n (l.take (sl * et.size) ++ xs2 ++ l.drop (sl * et.size + xl * et.size))] (arr.toList.take (sl * inf.size) ++ runV ks' xs2 ++ arr.toList.drop (sl * inf.size + (runV ks' xs2).length)).toArray.toList := by
                              refine ⟨_, [], by rw [List.append_nil], ⟨hL, ?_⟩, rfl⟩
                              rw [hrl, hl2, h2, hlr.2]
                              exact hsub
                            have hset := hH.set hg hb hc hz0 hh0 hcs
                            have hidl : id < st.heap.length := (List.getElem?_eq_some_iff.1 hg').1
                            have hm := hset.move (id := id) (by rw [List.getElem?_set, if_pos rfl, if_pos hidl]) hb
                            rw [List.set_set] at hm
                            have hK := appN_sound hkk n _ cap (by omega) hn hL (by
                              rw [tot, Nat.add_mul, List.take_append_of_le_length (by rw [List.length_append, List.length_take, hl2, hlr.1]; omega), List.take_of_length_le (by rw [List.length_append, List.length_take, hl2, hlr.1]; omega), hsl])
                            refine ⟨_, _, [b], _, _, key (by rw [hxv, ey]; exact hrun), hK, hm, ⟨by omega, by omega, by omega, .inl ⟨b, by rw [List.length_set, ← hH.len]; simp, ?_⟩⟩⟩
                            rw [tot, hcs1]; simp
                          · exact grow _ (hH.kill id) (by omega) (by omega) hno hkk
                      · simp at hs1
                    · exact grow _ hH (by omega) (by omega) hno h.2
                  · exact grow _ hH (by omega) (by omega) hno h.2
                · rename_i id base i s l0 cap _ hxe
                  rw [hxe] at hx
                  obtain ⟨hno, ⟨hcs1, hcs2⟩, hcl, hl00⟩ := hnone hx
                  exact grow _ hH (by omega) (by omega) hno h.2
                · rename_i hne1 hne2
                  -- the nil slice
                  have hxe : st.ev x = .a (.c (.val (.slice none 0 0))) := by
                    unfold srcOf at hs1
                    split at hs1
                    · rename_i id base i s l0 cap hh
                      exact absurd hh (hne2 _ _ _ _ _ _)
                    · rename_i hh; exact hh
                    · simp at hs1
                  rw [hxe] at hx
                  have hx : a.eval x = .slice none 0 0 := hx
                  rw [ex] at hx
                  simp only [Value.slice.injEq] at hx
                  obtain ⟨rfl, rfl, rfl⟩ := hx
                  by_cases hx0 : xl = 0
                  · have hr := zero hx0
                    have hx1 : xs1 = [] := List.eq_nil_of_length_eq_zero (by rw [hl1, Nat.zero_mul])
                    have hx2 : xs2 = [] := List.eq_nil_of_length_eq_zero (by rw [hl2, hx0, Nat.zero_mul])
                    subst hx1; subst hx2
                    have hK := appN_sound h 0 [] 0 (by omega) (by simp) rfl (by simp)
                    exact ⟨_, _, [0], _, _, key hr, hK, hH.ghost 0 ⟨[], [], rfl, ⟨rfl, rfl⟩, rfl⟩, ⟨by omega, by omega, by omega, .inr ⟨rfl, none, rfl⟩⟩⟩
                  · exact grow _ hH (by omega) (by omega) (fun _ => rfl) h
              · exact h.elim
            · exact h.elim
          · exact h.elim
        · exact h.elim
      · exact h.elim
    · exact h.elim
  · exact h.elim

/-! ### A string behind bytes -/
def strI (s : ByteArray) : List Int := s.data.toList.map fun b => (b.toNat : Int)
theorem strI_len (s : ByteArray) : (strI s).length = s.size := by rw [strI, List.length_map, Array.length_toList]; rfl
theorem strI_cells (s : ByteArray) : runV [.u8] (strI s) = Lib.strCells s := by
  rw [runV_one, strI, Lib.strCells, List.map_map]; rfl
def evAppS (T : Tab) (st : St) (c : Call) (s : ByteArray) (K : LV → List Blk → Prop) : Prop :=
  match c.args.toList, c.argTypes.toList with
  | [x, _], [t, t'] => match look T t, look T t' with
    | some ti, some ti' => match ti.d, ti'.d with
      | .slice e, .str => match look T e with
        | some et => if flatE et = some [.u8] ∧ et.size = 1 ∧ et.bytes = 1 then
            match srcOf [.u8] 1 st.heap (st.ev x) with
            | some (p1, n1, xs1) => (p1 ∧ n1 + (s.size : Int) ≤ 140737488355328) ∧
                match st.ev x with
                | .a (.c (.slc id 0 i 1 _ cap)) => match getB st.heap id with
                  | .cells true te [.run _ n _] => (te = e ∧ i = 0 ∧ n = cap.toNat * 1) ∧ appN (st.heap.set id .dead) e [.u8] 1 (n1 + (s.size : Int)) (xs1 ++ strI s) K
                  | _ => Stuck "append a string"
                | .a (.c (.val (.slice none 0 0))) => appN st.heap e [.u8] 1 (n1 + (s.size : Int)) (xs1 ++ strI s) K
                | _ => Stuck "append a string"
            | none => Stuck "append a string"
          else Stuck "append a string"
        | none => Stuck "append a string"
      | _, _ => Stuck "append a string"
    | _, _ => Stuck "append a string"
  | _, _ => Stuck "append a string"
theorem run_append_string_zero {P : Program} {T : Tab} (hT : TabOk P T) {w : World} {t t' ty e : TypeId} {et : TI} (hu : P.underlying t = some (.slice e)) (hu' : P.underlying t' = some .string) (het : look T e = some et) (ao : Option Addr) (sl sc : Nat) (s : ByteArray) (h0 : s.size = 0) (h : sl ≤ sc) :
    (Builtin.append_ #[t, t'] ty #[.slice ao sl sc, .string s]).run P w = .ok (.slice ao sl sc) w := by
  have hf := Lib.run_firstCells_string (P := P) w et.size s
  rw [h0, show Lib.strCells s = [] from List.eq_nil_of_length_eq_zero (by rw [Lib.strCells_length]; exact h0)] at hf
  cases ao <;> simp [Builtin.append_, run_underlying hu, run_underlying hu', run_sizeOf hT het, Builtin.lenOf, h0, h, hf, storeCells]
theorem run_append_string_more {P : Program} {w : World} (t t' ty e : TypeId) (i : TypeInfo) (z : Value) (ht : P.underlying t = some (.slice e)) (hu : P.underlying t' = some .string) (hi : P.info? e = some i) (hz : i.zero = some z) (hs1 : i.size = 1) (hb1 : i.bytes = 1)
    (ao : Option Addr) (sLen sCap : Nat) (hle : sLen ≤ sCap) (olds : List Value) (hlo : olds.length = sLen) (holds : 0 < sLen → ∃ b, ao = some b ∧ ∀ j v, olds[j]? = some v → w.cell? (b.add j) = some v)
    (hn : ao = none → sCap = 0) (s : ByteArray) (h0 : 0 < s.size) (hg : sCap < sLen + s.size) (hb : sLen + s.size ≤ 140737488355328) :
    ∃ cap, sLen + s.size ≤ cap ∧ (Builtin.append_ #[t, t'] ty #[.slice ao sLen sCap, .string s]).run P w =
      .ok (.slice (some ⟨w.heap.size, 0, none⟩) (sLen + s.size) cap) (w.drew.alloc (.cells (olds.toArray ++ (Lib.strCells s).toArray ++ Builtin.zeroCells z.cells (cap - (sLen + s.size))) e)) := by
  cases ao with
  | none =>
    have h1 := hn rfl
    subst h1
    have h2 : sLen = 0 := by omega
    subst h2
    have h3 : olds = [] := List.eq_nil_of_length_eq_zero (by simpa using hlo)
    subst h3
    refine ⟨grownCap w s.size 0 e, by have := grownCap_ge w s.size 0 e; omega, ?_⟩
    have := run_append_nil_string (P := P) w t t' ty e i z ht hu hi hz s h0 (by omega) (by rw [hb1]; omega)
    have e1 : (s.data.map fun b => Value.int .u8 b.toNat) = (Lib.strCells s).toArray := by
      apply Array.ext'
      simp [Lib.strCells]
    rw [e1] at this
    simpa using this
  | some b =>
    refine ⟨grownCap w (sLen + s.size) sCap e, grownCap_ge _ _ _ _, ?_⟩
    refine Lib.run_append_grow_string (P := P) w t t' ty e i z ht hu hi hz b sLen sCap olds (by rw [hs1, Nat.mul_one]; exact hlo) ?_ s hg (by omega) (growslice_fits hg (by rw [hb1, Nat.mul_one]; exact hb))
    intro j v hv
    by_cases h1 : 0 < sLen
    · obtain ⟨b', hb', h2⟩ := holds h1
      simp only [Option.some.injEq] at hb'; subst hb'
      exact h2 j v hv
    · have h2 : olds = [] := List.eq_nil_of_length_eq_zero (by omega)
      subst h2; simp at hv
theorem evAppS_sound {P : Program} {T : Tab} (hT : TabOk P T) {n0 : Nat} {w0 : Base} {w : World} {β : List Nat} {st : St} {a : Act} (hH : HR n0 w0 β st.heap w) (hM : TmR β st.tmps a.tmps.toList) {op : Oper} {c : Call} (ho : op.op = .call c) (hcal : c.callee = .builtin .append) {s : ByteArray} {x0 y0 : Operand} (ha0 : c.args.toList = [x0, y0]) (hs : st.ev y0 = .a (.c (.str s))) {K : LV → List Blk → Prop}
    (h : evAppS T st c s K) : ∃ v w' γ lv H', (execOp a.eval op).run P w = .ok (.value v) w' ∧ K lv H' ∧ HR n0 w0 (β ++ γ) H' w' ∧ LVR (β ++ γ) lv v := by
  unfold evAppS at h
  split at h
  · rename_i x y t t' ha ht
    rw [ha0] at ha
    obtain ⟨rfl, rfl⟩ : x0 = x ∧ y0 = y := by simpa using ha
    have ha' : c.args = #[x0, y0] := Array.toList_inj.1 ha0
    have ht' : c.argTypes = #[t, t'] := Array.toList_inj.1 ht
    have hx := ev_sound hM x0
    have ey := ev_sound hM y0
    rw [hs] at ey
    have ey : a.eval y0 = .string s := ey
    split at h
    · rename_i ti ti' hti hti'
      obtain ⟨_, hu⟩ := hT.look hti
      obtain ⟨_, hu'⟩ := hT.look hti'
      split at h
      · rename_i e hd hd'
        rw [hd] at hu
        rw [hd'] at hu'
        split at h
        · rename_i et het
          obtain ⟨⟨inf, h1, h2, z, hz, hzc⟩, _⟩ := hT.look het
          have hby := TabBy.look hT.by_ het h1
          split at h
          · rename_i hk
            obtain ⟨hk, hk2, hk3⟩ := hk
            obtain ⟨f1, f2, f3⟩ := flatE_sound hk (hzc β)
            have i1 : inf.size = 1 := by rw [h2, hk2]
            have i2 : inf.bytes = 1 := by rw [hby, hk3]
            split at h
            · rename_i p1 n1 xs1 hs1
              obtain ⟨⟨hp1, hb48⟩, h⟩ := h
              obtain ⟨ao, sl, sc, ex, en1, hsc, hl1, hc1⟩ := srcOf_sound hH (show 1 % ([.u8] : List EK).length = 0 from rfl) hx hs1 hp1
              subst en1
              rw [Nat.mul_one] at hl1
              have key : ∀ {v w'}, (Builtin.append_ #[t, t'] op.type #[a.eval x0, a.eval y0]).run P w = .ok v w' → (execOp a.eval op).run P w = .ok (.value v) w' := by
                intro v w' hv
                simp [execOp, ho, resolve, hcal, ha', ht', invoke, builtin, hv]
              have hrl : ∀ xs : List Int, (runV [.u8] xs).length = xs.length := fun xs => by simp [runV]
              have hl2 := strI_len s
              have tot : ((sl : Int) + (s.size : Int)).toNat = sl + s.size := by omega
              -- growing
              have grow : ∀ (H0 : List Blk), HR n0 w0 β H0 w → 0 < s.size → sc < sl + s.size → (ao = none → sc = 0) → appN H0 e [.u8] 1 (sl + s.size) (xs1 ++ strI s) K →
                  ∃ v w' γ lv H', (execOp a.eval op).run P w = .ok (.value v) w' ∧ K lv H' ∧ HR n0 w0 (β ++ γ) H' w' ∧ LVR (β ++ γ) lv v := by
                intro H0 hH0 hx0 hg hnn hk'
                obtain ⟨cap, hcap, hrun⟩ := run_append_string_more (P := P) (w := w) t t' op.type e inf z hu hu' h1 hz i1 i2 ao sl sc hsc (runV [.u8] xs1) (by rw [hrl, hl1]) hc1 hnn s hx0 hg (by omega)
                have hL : (xs1 ++ strI s ++ List.replicate (cap - (sl + s.size)) 0).length = cap := by
                  rw [List.length_append, List.length_append, hl1, hl2, List.length_replicate]; omega
                have hcs : CelsR β [.run [.u8] cap (xs1 ++ strI s ++ List.replicate (cap - (sl + s.size)) 0)] ((runV [.u8] xs1).toArray ++ (Lib.strCells s).toArray ++ Builtin.zeroCells z.cells (cap - (sl + s.size))).toList := by
                  refine ⟨_, [], by rw [List.append_nil], ⟨hL, ?_⟩, rfl⟩
                  rw [runV_app (by simp [Nat.mod_one]), runV_app (by simp [Nat.mod_one]), Array.toList_append, Array.toList_append, strI_cells]
                  congr 1
                  unfold Builtin.zeroCells
                  rw [made_eq, f1, repV_run f3, hk2, Nat.mul_one]
                have hp := (hH0.draw).push (t := e) hcs
                have := appN_sound hk' cap _ (cap : Int) (by omega) (by simp) hL (by rw [tot, Nat.mul_one, List.take_append_of_le_length (by rw [List.length_append, hl1, hl2]; exact Nat.le_refl _), List.take_of_length_le (by rw [List.length_append, hl1, hl2]; exact Nat.le_refl _)])
                refine ⟨_, _, [w.heap.size], _, _, key (by rw [ex, ey]; exact hrun), this, hp, ⟨by omega, by omega, by omega, .inl ⟨w.heap.size, by rw [← hH0.len]; simp, ?_⟩⟩⟩
                rw [tot]; simp
              -- nothing to append
              have zero : s.size = 0 → (Builtin.append_ #[t, t'] op.type #[a.eval x0, a.eval y0]).run P w = .ok (.slice ao sl sc) w := by
                intro h0
                rw [ex, ey]
                exact run_append_string_zero hT hu hu' het ao sl sc s h0 hsc
              have hnone : ∀ {id base : Nat} {i l0 cap : Int} {s : Nat}, LVR β (.a (.c (.slc id base i s l0 cap))) (a.eval x0) → (ao = none → sc = 0) ∧ ((cap.toNat = sc ∧ l0.toNat = sl) ∧ l0 ≤ cap ∧ 0 ≤ l0) := by
                rintro id base i l0 cap s ⟨q1, q2, q3, hx⟩
                rw [ex] at hx
                rcases hx with ⟨b, hb, hx⟩ | ⟨hc0, ao', hx⟩ <;> simp only [Value.slice.injEq] at hx <;> obtain ⟨r1, r2, r3⟩ := hx
                · exact ⟨fun h => (by rw [r1] at h; cases h), ⟨⟨r3.symm, r2.symm⟩, q3, q2⟩⟩
                · exact ⟨fun _ => r3, ⟨⟨by omega, by omega⟩, q3, q2⟩⟩
              split at h
              · rename_i id i l0 cap hxe
                rw [hxe] at hx
                obtain ⟨hno, ⟨hcs1, hcs2⟩, hcl, hl00⟩ := hnone hx
                split at h
                · rename_i te ks' n l hg
                  obtain ⟨⟨rfl, hi0, hn⟩, hkk⟩ := h
                  rw [hxe] at hs1
                  simp only [srcOf, hg, runAt] at hs1
                  split at hs1
                  · rename_i hkk'
                    obtain ⟨rfl, _⟩ := hkk'
                    simp only [Option.some.injEq, Prod.mk.injEq] at hs1
                    obtain ⟨rfl, hl0, rfl⟩ := hs1
                    subst hi0
                    simp only [Int.toNat_zero, Nat.zero_mul, List.drop_zero, Nat.mul_one] at *
                    have hg' := getB_some hg
                    obtain ⟨b, arr, hb, hh0, hc⟩ := hH.get hg
                    have hlr : l.length = n ∧ arr.toList = runV [.u8] l := by
                      obtain ⟨pre, rest, e1, ⟨e2, rfl⟩, e3⟩ := hc
                      simp only [CelsR] at e3
                      subst e3
                      exact ⟨e2, by rw [e1, List.append_nil]⟩
                    have hsl : l0.toNat = sl := hcs2
                    by_cases hx0 : s.size = 0
                    · have hr := zero hx0
                      have hm := hH.move hg' hb
                      have hx2 : strI s = [] := List.eq_nil_of_length_eq_zero (by rw [hl2, hx0])
                      have hK := appN_sound hkk n l cap (by omega) (by omega) hlr.1 (by rw [tot, hx0, hx2, List.append_nil, Nat.mul_one, Nat.add_zero, hsl])
                      refine ⟨_, _, [b], _, _, key hr, hK, hm, ?_⟩
                      obtain ⟨q1, q2, q3, hx⟩ := hx
                      rw [ex] at hx
                      refine ⟨by omega, by omega, by omega, ?_⟩
                      rcases hx with ⟨b', hb', hx⟩ | ⟨hc0, hx⟩
                      · rw [hb] at hb'; simp only [Option.some.injEq] at hb'; subst hb'
                        refine .inl ⟨b, by rw [List.length_set, ← hH.len]; simp, ?_⟩
                        rw [hx, tot, hx0, Nat.add_zero, hsl]
                      · exact .inr ⟨hc0, hx⟩
                    · by_cases hroom : sl + s.size ≤ sc
                      · -- in its place
                        have hxv : a.eval x0 = .slice (some ⟨b, 0, none⟩) sl sc := by
                          obtain ⟨q1, q2, q3, hx⟩ := hx
                          rcases hx with ⟨b', hb', hx⟩ | ⟨hc0, hx⟩
                          · rw [hb] at hb'; simp only [Option.some.injEq] at hb'; subst hb'
                            rw [hx, hcs1, hcs2]; simp
                          · omega
                        have hn' : n = sc := by rw [hn, hcs1]
                        have hsz : arr.size = n := by rw [← Array.length_toList, hlr.2, hrl, hlr.1]
                        have hz0 : 0 < arr.size := by omega
                        have hh := (hh0 hz0).2
                        have hrun := Lib.run_append_room_string (P := P) w t t' op.type te inf hu hu' h1 i1 b sl sc arr hh s hroom (by omega)
                        have hsub := runV_sub [.u8] l (strI s) sl s.size hl2 (by rw [hlr.1]; omega) (Nat.mod_one _)
                        have hL : (l.take sl ++ strI s ++ l.drop (sl + s.size)).length = n := by
                          rw [List.length_append, List.length_append, List.length_take, List.length_drop, hl2, hlr.1]; omega
                        have hcs : CelsR β [.run [.u8] n (l.take sl ++ strI s ++ l.drop (sl + s.size))] (arr.toList.take sl ++ Lib.strCells s ++ arr.toList.drop (sl + s.size)).toArray.toList := by
                          refine ⟨_, [], by rw [List.append_nil], ⟨hL, ?_⟩, rfl⟩
                          rw [hlr.2, ← strI_cells]
                          exact hsub
                        have hset := hH.set hg hb hc hz0 hh0 hcs
                        have hidl : id < st.heap.length := (List.getElem?_eq_some_iff.1 hg').1
                        have hm := hset.move (id := id) (by rw [List.getElem?_set, if_pos rfl, if_pos hidl]) hb
                        rw [List.set_set] at hm
                        have hK := appN_sound hkk n _ cap (by omega) (by omega) hL (by
                          rw [tot, Nat.mul_one, List.take_append_of_le_length (by rw [List.length_append, List.length_take, hl2, hlr.1]; omega), List.take_of_length_le (by rw [List.length_append, List.length_take, hl2, hlr.1]; omega), hsl])
                        refine ⟨_, _, [b], _, _, key (by rw [hxv, ey]; exact hrun), hK, hm, ⟨by omega, by omega, by omega, .inl ⟨b, by rw [List.length_set, ← hH.len]; simp, ?_⟩⟩⟩
                        rw [tot, hcs1]; simp
                      · exact grow _ (hH.kill id) (by omega) (by omega) hno hkk
                  · simp at hs1
                · exact h.elim
              · rename_i hxe
                rw [hxe] at hx
                have hx : a.eval x0 = .slice none 0 0 := hx
                rw [ex] at hx
                simp only [Value.slice.injEq] at hx
                obtain ⟨rfl, rfl, rfl⟩ := hx
                by_cases hx0 : s.size = 0
                · have hr := zero hx0
                  have hx1 : xs1 = [] := List.eq_nil_of_length_eq_zero hl1
                  have hx2 : strI s = [] := List.eq_nil_of_length_eq_zero (by rw [hl2, hx0])
                  have hK := appN_sound h 0 [] 0 (by omega) (by simp) rfl (by rw [hx1, hx2]; simp)
                  refine ⟨_, _, [0], _, _, key hr, hK, hH.ghost 0 ⟨[], [], rfl, ⟨rfl, rfl⟩, rfl⟩, ⟨by omega, by omega, by omega, .inr ⟨by omega, none, ?_⟩⟩⟩
                  rfl
                · exact grow _ hH (by omega) (by omega) (fun _ => rfl) h
              · exact h.elim
            · exact h.elim
          · exact h.elim
        · exact h.elim
      · exact h.elim
    · exact h.elim
  · exact h.elim

/-- What a text or a slice appended comes to. -/
def evApp (T : Tab) (st : St) (c : Call) (K : LV → List Blk → Prop) : Prop :=
  match c.args.toList with
  | [_, y] => match st.ev y with
    | .a (.c (.str s)) => evAppS T st c s K
    | _ => evApp0 T st c K
  | _ => Stuck "append"
theorem evApp_sound {P : Program} {T : Tab} (hT : TabOk P T) {n0 : Nat} {w0 : Base} {w : World} {β : List Nat} {st : St} {a : Act} (hH : HR n0 w0 β st.heap w) (hM : TmR β st.tmps a.tmps.toList) {op : Oper} {c : Call} (ho : op.op = .call c) (hcal : c.callee = .builtin .append) {K : LV → List Blk → Prop}
    (h : evApp T st c K) : ∃ v w' γ lv H', (execOp a.eval op).run P w = .ok (.value v) w' ∧ K lv H' ∧ HR n0 w0 (β ++ γ) H' w' ∧ LVR (β ++ γ) lv v := by
  unfold evApp at h
  split at h
  · rename_i x y ha
    split at h
    · rename_i s hs
      exact evAppS_sound hT hH hM ho hcal ha hs h
    · exact evApp0_sound hT hH hM ho hcal h
  · exact h.elim



/-! ### What the cells of a key are -/

def fldK (T : Tab) (t : TypeId) : Option (Bool × List EK) :=
  match look T t with
  | some ti => match ti.d with
    | .int k => if ti.size = 1 then some (true, [EK.of k]) else none
    | .arr n e => match intOf? T e with
      | some k => if ti.size = n ∧ 0 < n then some (false, List.replicate n (EK.of k)) else none
      | none => none
    | _ => none
  | none => none

def fldsK (T : Tab) : Nat → List (Nat × TypeId) → Option (List EK)
  | _, [] => some []
  | o, (o', t) :: r => if o = o' then match fldK T t with
      | some (_, ks) => (fldsK T (o + ks.length) r).map (ks ++ ·)
      | none => none
    else none

def keyK (T : Tab) (t : TypeId) : Option (List EK) :=
  match look T t with
  | some ti => match ti.d with
    | .arr _ _ => (fldK T t).map (·.2)
    | .struct fs => fldsK T 0 fs
    | _ => none
  | none => none

def kv (ks : List EK) (xs : List Int) : List Value := List.zipWith EK.val ks xs

theorem kv_len {ks : List EK} {xs : List Int} (h : xs.length = ks.length) : (kv ks xs).length = ks.length := by simp [kv, h]

theorem kv_get {ks : List EK} {xs : List Int} {i : Nat} (h : xs.length = ks.length) (hi : i < ks.length) : (kv ks xs)[i]? = some ((ks.getD i .i64).val (xs.getD i 0)) := by
  simp [kv, List.getElem?_zipWith, List.getD, List.getElem?_eq_getElem hi, List.getElem?_eq_getElem (show i < xs.length by omega)]

theorem kv_app {k1 k2 : List EK} {x1 x2 : List Int} (h : x1.length = k1.length) : kv (k1 ++ k2) (x1 ++ x2) = kv k1 x1 ++ kv k2 x2 := by
  simp only [kv]; rw [List.zipWith_append h.symm]

theorem kv_rep {k : EK} {n : Nat} {xs : List Int} (h : xs.length = n) : kv (List.replicate n k) xs = runV [k] xs := by
  apply List.ext_getElem?
  intro i
  by_cases hi : i < n
  · rw [kv_get (by simpa using h) (by simpa using hi), runV_get _ _ _ (by omega)]
    simp [List.getD, hi, Nat.mod_one]
  · rw [List.getElem?_eq_none (by rw [kv_len (by simpa using h)]; simp; omega), List.getElem?_eq_none (by simp [runV]; omega)]

theorem kv_sub {k1 k2 : List EK} {xs : List Int} (h : xs.length = (k1 ++ k2).length) : kv (k1 ++ k2) xs = kv k1 (xs.take k1.length) ++ kv k2 (xs.drop k1.length) := by
  rw [← kv_app (by rw [List.length_take]; simp at h; omega), List.take_append_drop]

/-- The value of a field. -/
def fldV (sc : Bool) (ks : List EK) (xs : List Int) : Value := if sc then (ks.getD 0 .i64).val (xs.getD 0 0) else .agg (kv ks xs).toArray

theorem fldK_part {P : Program} {T : Tab} (hT : TabOk P T) {t : TypeId} {sc : Bool} {ks : List EK} (h : fldK T t = some (sc, ks)) {A : Array Value} {o : Nat} {xs : List Int} {rest : List Value} (hl : xs.length = ks.length)
    (hA : A.toList.drop o = kv ks xs ++ rest) (w : World) : (part t A o).run P w = .ok (fldV sc ks xs) w ∧ 0 < ks.length := by
  unfold fldK at h
  split at h
  · rename_i ti hti
    split at h
    · rename_i k hd
      split at h
      · simp only [Option.some.injEq, Prod.mk.injEq] at h
        obtain ⟨rfl, rfl⟩ := h
        have h0 : A[o]? = some ((EK.of k).val (xs.getD 0 0)) := by
          rw [← Array.getElem?_toList, ← Nat.add_zero o, ← List.getElem?_drop, hA, List.getElem?_append_left (by rw [kv_len hl]; simp), kv_get hl (by simp)]
          rfl
        refine ⟨?_, by simp⟩
        simp [part, run_isAgg hT hti (b := false) (by rw [hd]; rfl), h0, fldV]
      · simp at h
    · rename_i n e hd
      split at h
      · rename_i k hk
        split at h
        · rename_i hn
          simp only [Option.some.injEq, Prod.mk.injEq] at h
          obtain ⟨rfl, rfl⟩ := h
          refine ⟨?_, by simpa using hn.2⟩
          have e1 : (A.extract o (o + n)).toList = kv (List.replicate n (EK.of k)) xs := by
            rw [Array.toList_extract, List.extract_eq_take_drop, show o + n - o = n by omega, hA, List.take_append_of_le_length (by rw [kv_len hl]; simp), List.take_of_length_le (by rw [kv_len hl]; simp)]
          have e2 : A.extract o (o + n) = (kv (List.replicate n (EK.of k)) xs).toArray := by rw [← e1]
          simp [part, run_isAgg hT hti (b := true) (by rw [hd]; rfl), run_sizeOf hT hti, hn.1, e2, fldV]
        · simp at h
      · simp at h
    · simp at h
  · simp at h

theorem fld_eq {P : Program} {T : Tab} (hT : TabOk P T) {t : TypeId} {sc : Bool} {ks : List EK} (h : fldK T t = some (sc, ks)) {xs ys : List Int} (hx : xs.length = ks.length) (hy : ys.length = ks.length) (D : Nat) (w : World) :
    (Op.equalIn (D + 2) t (fldV sc ks xs) (fldV sc ks ys)).run P w = .ok (xs == ys) w := by
  unfold fldK at h
  split at h
  · rename_i ti hti
    obtain ⟨_, hu⟩ := hT.look hti
    split at h
    · rename_i k hd
      rw [hd] at hu
      split at h
      · simp only [Option.some.injEq, Prod.mk.injEq] at h
        obtain ⟨rfl, rfl⟩ := h
        match xs, ys, hx, hy with
        | [x], [y], _, _ =>
          have e : ∀ z : Int, fldV true [EK.of k] [z] = .int k z := fun z => EK.of_val _ _
          rw [e, e, run_equalIn_int w (D + 1) t k k x y hu]
          simp
      · simp at h
    · rename_i n e hd
      rw [hd] at hu
      split at h
      · rename_i k hk
        split at h
        · rename_i hn
          simp only [Option.some.injEq, Prod.mk.injEq] at h
          obtain ⟨rfl, rfl⟩ := h
          simp only [List.length_replicate] at hx hy
          obtain ⟨et, het, hed, hes⟩ := intOf?_sound hk
          obtain ⟨⟨ie, hie, hse, _⟩, _⟩ := hT.look het
          simp only [fldV, Bool.false_eq_true, if_false]
          rw [run_equalIn_array w (D + 1) _ _ hu hie]
          have hco : P.cellsOf e = 1 := by simp only [Program.cellsOf, hie, Option.map_some, Option.getD_some]; omega
          rw [hco, List.range_eq_range', eqItems_run hT hk (β := []) (l := xs) (m := ys) (by rw [List.toList_toArray]; exact kv_rep hx) (by rw [List.toList_toArray]; exact kv_rep hy) hx hy D w _ 0 (by omega)]
          simp
        · simp at h
      · simp at h
    · simp at h
  · simp at h

theorem flds_eq {P : Program} {T : Tab} (hT : TabOk P T) (D : Nat) (w : World) : ∀ (fs : List Field) (o : Nat) (ks : List EK), fldsK T o (fs.map fun f => (f.offset, f.type)) = some ks → (∀ f ∈ fs, (f.name == "_") = false) →
    ∀ (A B : Array Value) (xs ys : List Int), xs.length = ks.length → ys.length = ks.length → A.toList.drop o = kv ks xs → B.toList.drop o = kv ks ys → (Op.eqFields (D + 2) A B fs).run P w = .ok (xs == ys) w
  | [], o, ks, h, _, A, B, xs, ys, hx, hy, _, _ => by
    simp only [List.map_nil, fldsK, Option.some.injEq] at h
    subst h
    rw [List.length_nil, List.length_eq_zero_iff] at hx hy
    subst hx; subst hy
    rfl
  | f :: fs, o, ks, h, hn, A, B, xs, ys, hx, hy, hA, hB => by
    simp only [List.map_cons, fldsK] at h
    split at h
    · rename_i ho
      split at h
      · rename_i sc k1 hk1
        obtain ⟨k2, h2, rfl⟩ := Option.map_eq_some_iff.1 h
        have hx1 : (xs.take k1.length).length = k1.length := by rw [List.length_take, hx, List.length_append]; omega
        have hy1 : (ys.take k1.length).length = k1.length := by rw [List.length_take, hy, List.length_append]; omega
        rw [kv_sub hx] at hA
        rw [kv_sub hy] at hB
        obtain ⟨p1, p0⟩ := fldK_part hT hk1 hx1 hA w
        obtain ⟨p2, _⟩ := fldK_part hT hk1 hy1 hB w
        have hnm : f.name ≠ "_" := by have := hn f (by simp); simpa using this
        have e := fld_eq hT hk1 hx1 hy1 D w
        have ih := flds_eq hT D w fs (o + k1.length) k2 h2 (fun f hf => hn f (by simp [hf])) A B (xs.drop k1.length) (ys.drop k1.length) (by rw [List.length_drop, hx, List.length_append]; omega) (by rw [List.length_drop, hy, List.length_append]; omega)
          (by rw [← List.drop_drop, hA, List.drop_append_of_le_length (by rw [kv_len hx1]; omega), List.drop_of_length_le (by rw [kv_len hx1]; omega), List.nil_append])
          (by rw [← List.drop_drop, hB, List.drop_append_of_le_length (by rw [kv_len hy1]; omega), List.drop_of_length_le (by rw [kv_len hy1]; omega), List.nil_append])
        simp only [Op.eqFields, hnm, ne_eq, not_false_eq_true, if_true, Sem.run_bind, ← ho, p1, p2, e, Result.andThen_ok]
        rw [beq_split (l := xs) (m := ys) (c := k1.length) (by omega)]
        cases hb : (xs.take k1.length == ys.take k1.length) <;> simp [ih]
      · simp at h
    · simp at h

theorem key_eq {P : Program} {T : Tab} (hT : TabOk P T) {t : TypeId} {ks : List EK} (h : keyK T t = some ks) {xs ys : List Int} (hx : xs.length = ks.length) (hy : ys.length = ks.length) (w : World) :
    (Op.equal t (keyV ks xs) (keyV ks ys)).run P w = .ok (xs == ys) w := by
  unfold keyK at h
  split at h
  · rename_i ti hti
    obtain ⟨_, hu⟩ := hT.look hti
    split at h
    · rename_i n e hd
      obtain ⟨⟨sc, k'⟩, h', rfl⟩ := Option.map_eq_some_iff.1 h
      have hs : sc = false := by
        unfold fldK at h'
        rw [hti] at h'
        simp only [hd] at h'
        split at h'
        · split at h'
          · simp only [Option.some.injEq, Prod.mk.injEq] at h'; exact h'.1.symm
          · simp at h'
        · simp at h'
      subst hs
      have := fld_eq hT h' hx hy 9998 w
      simp only [fldV, Bool.false_eq_true, if_false] at this
      exact this
    · rename_i fs hd
      rw [hd] at hu
      obtain ⟨fields, hu, hfs⟩ := hu
      have hq := TabEq.look hT.eq hti
      simp only [eqChk, hd, hu, Bool.and_eq_true, Bool.not_eq_true'] at hq
      have hfo : P.fieldsOf t = fields := by simp [Program.fieldsOf, hu]
      show (Op.equalIn 10000 t (keyV ks xs) (keyV ks ys)).run P w = _
      unfold keyV
      rw [run_equalIn_struct w 9999 t _ _ (by rw [hfo]; exact hu) hq.1.2, hfo]
      rw [hfs] at h
      exact flds_eq hT 9997 w fields.toList 0 ks h (fun f hf => by have := List.all_eq_true.1 hq.1.1 f hf; simpa using this) _ _ xs ys hx hy (by simp [kv]) (by simp [kv])
    · simp at h
  · simp at h

/-! ### A key is fit to be one -/

theorem chk_int {P : Program} {t : TypeId} {k : IntKind} (hu : P.underlying t = some (.int k)) (em : Bool) (n : Nat) (x : Int) (w : World) : (Instr.checkKey em (n + 1) t (.int k x)).run P w = .ok () w := by
  simp [Instr.checkKey, run_underlying hu]

theorem fld_chk {P : Program} {T : Tab} (hT : TabOk P T) {t : TypeId} {sc : Bool} {ks : List EK} (h : fldK T t = some (sc, ks)) {xs : List Int} (hx : xs.length = ks.length) (em : Bool) (D : Nat) (w : World) :
    (Instr.checkKey em (D + 2) t (fldV sc ks xs)).run P w = .ok () w := by
  unfold fldK at h
  split at h
  · rename_i ti hti
    obtain ⟨_, hu⟩ := hT.look hti
    split at h
    · rename_i k hd
      rw [hd] at hu
      split at h
      · simp only [Option.some.injEq, Prod.mk.injEq] at h
        obtain ⟨rfl, rfl⟩ := h
        have e : fldV true [EK.of k] xs = .int k (xs.getD 0 0) := EK.of_val _ _
        rw [e]
        exact chk_int hu em (D + 1) _ w
      · simp at h
    · rename_i n e hd
      rw [hd] at hu
      split at h
      · rename_i k hk
        split at h
        · rename_i hn
          simp only [Option.some.injEq, Prod.mk.injEq] at h
          obtain ⟨rfl, rfl⟩ := h
          simp only [List.length_replicate] at hx
          obtain ⟨et, het, hed, hes⟩ := intOf?_sound hk
          obtain ⟨⟨ie, hie, hse, _⟩, hue⟩ := hT.look het
          rw [hed] at hue
          simp only [fldV, Bool.false_eq_true, if_false]
          rw [show D + 2 = (D + 1) + 1 from rfl, Instr.checkKey]
          simp only [Sem.run_bind, run_underlying hu, Result.andThen_ok]
          simp only [Std.Legacy.Range.forIn_eq_forIn_range', Std.Legacy.Range.size, Nat.sub_zero, Nat.add_one_sub_one, Nat.div_one]
          have each : ∀ j ∈ List.range' 0 n, j < n := by intro j hj; rw [List.mem_range'_1] at hj; omega
          generalize List.range' 0 n = is at each
          induction is with
          | nil => simp
          | cons j is ih =>
            have hj := each j (by simp)
            have hp : (part e (kv (List.replicate n (EK.of k)) xs).toArray (j * et.size)).run P w = .ok (.int k (xs.getD j 0)) w := by
              have h0 : (kv (List.replicate n (EK.of k)) xs).toArray[j * et.size]? = some (.int k (xs.getD j 0)) := by
                rw [hes, Nat.mul_one, List.getElem?_toArray, kv_get (by simpa using hx) (by simpa using hj)]
                simp [List.getD, hj, EK.of_val]
              simp [part, run_isAgg hT het (b := false) (by rw [hed]; rfl), h0]
            simp only [List.forIn_cons, Sem.run_bind, run_sizeOf hT het, Result.andThen_ok, hp, chk_int hue em D (xs.getD j 0) w, Sem.run_pure]
            exact ih (fun y hy => each y (by simp [hy]))
        · simp at h
      · simp at h
    · simp at h
  · simp at h

theorem forIn_ok {P : Program} {α : Type} {w : World} {g : α → PUnit → Sem (ForInStep PUnit)} : ∀ {fs : List α}, (∀ f ∈ fs, (g f PUnit.unit).run P w = .ok (.yield PUnit.unit) w) → (forIn fs PUnit.unit g).run P w = .ok PUnit.unit w
  | [], _ => by simp
  | f :: fs, h => by
    simp only [List.forIn_cons, Sem.run_bind, h f (by simp), Result.andThen_ok]
    exact forIn_ok (fun g hg => h g (by simp [hg]))

theorem flds_chk {P : Program} {T : Tab} (hT : TabOk P T) (em : Bool) (D : Nat) (w : World) : ∀ (fs : List Field) (o : Nat) (ks : List EK), fldsK T o (fs.map fun f => (f.offset, f.type)) = some ks →
    ∀ (A : Array Value) (xs : List Int), xs.length = ks.length → A.toList.drop o = kv ks xs → ∀ f ∈ fs, ∃ v, (part f.type A f.offset).run P w = .ok v w ∧ (Instr.checkKey em (D + 2) f.type v).run P w = .ok () w
  | [], o, ks, h, A, xs, hx, _ => by simp
  | f :: fs, o, ks, h, A, xs, hx, hA => by
    simp only [List.map_cons, fldsK] at h
    split at h
    · rename_i ho
      split at h
      · rename_i sc k1 hk1
        obtain ⟨k2, h2, rfl⟩ := Option.map_eq_some_iff.1 h
        have hx1 : (xs.take k1.length).length = k1.length := by rw [List.length_take, hx, List.length_append]; omega
        rw [kv_sub hx] at hA
        obtain ⟨p1, p0⟩ := fldK_part hT hk1 hx1 hA w
        have e := fld_chk hT hk1 hx1 em D w
        have ih := flds_chk hT em D w fs (o + k1.length) k2 h2 A (xs.drop k1.length) (by rw [List.length_drop, hx, List.length_append]; omega)
          (by rw [← List.drop_drop, hA, List.drop_append_of_le_length (by rw [kv_len hx1]; omega), List.drop_of_length_le (by rw [kv_len hx1]; omega), List.nil_append])
        intro g hg
        rcases List.mem_cons.1 hg with rfl | hg
        · exact ⟨_, by rw [← ho]; exact p1, e⟩
        · exact ih g hg
      · simp at h
    · simp at h

theorem key_chk {P : Program} {T : Tab} (hT : TabOk P T) {t : TypeId} {ks : List EK} (h : keyK T t = some ks) {xs : List Int} (hx : xs.length = ks.length) (em : Bool) (w : World) :
    (Instr.checkKey em 10000 t (keyV ks xs)).run P w = .ok () w := by
  unfold keyK at h
  split at h
  · rename_i ti hti
    obtain ⟨_, hu⟩ := hT.look hti
    split at h
    · rename_i n e hd
      obtain ⟨⟨sc, k'⟩, h', rfl⟩ := Option.map_eq_some_iff.1 h
      have hs : sc = false := by
        unfold fldK at h'
        rw [hti] at h'
        simp only [hd] at h'
        split at h'
        · split at h'
          · simp only [Option.some.injEq, Prod.mk.injEq] at h'; exact h'.1.symm
          · simp at h'
        · simp at h'
      subst hs
      have := fld_chk hT h' hx em 9998 w
      simp only [fldV, Bool.false_eq_true, if_false] at this
      exact this
    · rename_i fs hd
      rw [hd] at hu
      obtain ⟨fields, hu, hfs⟩ := hu
      rw [hfs] at h
      unfold keyV
      rw [show (10000 : Nat) = 9999 + 1 from rfl, Instr.checkKey]
      simp only [Sem.run_bind, run_underlying hu, Result.andThen_ok]
      have hc := flds_chk hT em 9997 w fields.toList 0 ks h (kv ks xs).toArray xs hx (by simp)
      rw [← Array.forIn_toList]
      rw [forIn_ok (fun f hf => by
        obtain ⟨v, h1, h2⟩ := hc f hf
        have h1 : (part f.type (List.zipWith EK.val ks xs).toArray f.offset).run P w = .ok v w := h1
        by_cases hnm : f.name = "_"
        · simp [hnm]
        · simp [hnm, h1, h2])]
      simp
    · simp at h
  · simp at h

theorem bytes_beq (a : ByteArray) : (a == a) = true := by
  rw [show (a == a) = (a.data == a.data) from by cases a; rfl]; simp
theorem sameBits_val (k : EK) (x : Int) (n : Nat) : Instr.sameBits n (k.val x) (k.val x) = true := by
  cases k <;> simp [EK.val, Instr.sameBits, bytes_beq]

theorem key_stays {P : Program} {ks : List EK} (xs : List Int) (w : World) : (Instr.keyThatStays (keyV ks xs) (keyV ks xs)).run P w = .ok (keyV ks xs) w := by
  have h : Instr.sameBits 10000 (keyV ks xs) (keyV ks xs) = true := by
    unfold keyV
    simp only [Instr.sameBits, beq_self_eq_true, Bool.true_and, List.all_eq_true]
    rintro ⟨a, b⟩ hab
    have hab : (a, b) ∈ (List.zipWith EK.val ks xs).zip (List.zipWith EK.val ks xs) := hab
    show Instr.sameBits 9999 a b = true
    have : ∀ (l : List Value) (a b : Value), (a, b) ∈ l.zip l → a = b ∧ a ∈ l := by
      intro l
      induction l with
      | nil => intro a b h; simp at h
      | cons z zs ih =>
        intro a b h
        rw [List.zip_cons_cons, List.mem_cons] at h
        rcases h with h | h
        · simp only [Prod.mk.injEq] at h; exact ⟨by rw [h.1, h.2], by rw [h.1]; simp⟩
        · exact ⟨(ih a b h).1, by simp [(ih a b h).2]⟩
    obtain ⟨rfl, hm⟩ := this _ _ _ hab
    have : ∀ (ks : List EK) (xs : List Int) (a : Value), a ∈ List.zipWith EK.val ks xs → ∃ k x, a = EK.val k x := by
      intro ks
      induction ks with
      | nil => intro xs a h; simp at h
      | cons k ks ih =>
        intro xs a h
        cases xs with
        | nil => simp at h
        | cons x xs =>
          rw [List.zipWith_cons_cons, List.mem_cons] at h
          rcases h with h | h
          · exact ⟨k, x, h⟩
          · exact ih xs a h
    obtain ⟨k, x, rfl⟩ := this _ _ _ hm
    exact sameBits_val k x _
  simp [Instr.keyThatStays, h]

/-! ### What a map holds -/

def mpFind (k : List Int) : Nat → List (List Int × Int) → Option (Nat × Int)
  | _, [] => none
  | i, p :: r => if k == p.1 then some (i, p.2) else mpFind k (i + 1) r
def mpPut : List (List Int × Int) → List Int → Int → List (List Int × Int)
  | [], k, v => [(k, v)]
  | p :: r, k, v => if k == p.1 then (k, v) :: r else p :: mpPut r k v
def mpHas : List (List Int × Int) → List Int → Bool
  | [], _ => false
  | p :: r, k => k == p.1 || mpHas r k
def mpGet : List (List Int × Int) → List Int → Int
  | [], _ => 0
  | p :: r, k => if k == p.1 then p.2 else mpGet r k
def mpIdx : List (List Int × Int) → List Int → Nat
  | [], _ => 0
  | p :: r, k => if k == p.1 then 0 else mpIdx r k + 1
/-- The element at a place set anew. -/
def mpSet : List (List Int × Int) → Nat → Int → List (List Int × Int)
  | [], _, _ => []
  | p :: r, 0, v => (p.1, v) :: r
  | p :: r, i + 1, v => p :: mpSet r i v

theorem mpFind_none {k : List Int} : ∀ {L : List (List Int × Int)} {i : Nat}, mpFind k i L = none → mpHas L k = false ∧ mpGet L k = 0 ∧ (∀ v, mpPut L k v = L ++ [(k, v)]) ∧ mpIdx L k = L.length
  | [], _, _ => ⟨rfl, rfl, fun _ => rfl, rfl⟩
  | p :: r, i, h => by
    unfold mpFind at h
    split at h
    · simp at h
    · rename_i hk
      have hk : (k == p.1) = false := by simpa using hk
      obtain ⟨h1, h2, h3, h4⟩ := mpFind_none h
      refine ⟨by simp [mpHas, hk, h1], by simp [mpGet, hk, h2], fun v => by simp [mpPut, hk, h3], by simp [mpIdx, hk, h4]⟩

theorem mpFind_some {k : List Int} : ∀ {L : List (List Int × Int)} {i j : Nat} {v : Int}, mpFind k i L = some (j, v) → mpHas L k = true ∧ mpGet L k = v ∧ j = i + mpIdx L k ∧ L[mpIdx L k]? = some (k, v) ∧ ∀ x, mpPut L k x = L.set (mpIdx L k) (k, x)
  | [], _, _, _, h => by simp [mpFind] at h
  | p :: r, i, j, v, h => by
    unfold mpFind at h
    split at h
    · rename_i hk
      simp only [Option.some.injEq, Prod.mk.injEq] at h
      obtain ⟨rfl, rfl⟩ := h
      have e : k = p.1 := by simpa using hk
      subst e
      simp [mpHas, mpGet, mpIdx, mpPut]
    · rename_i hk
      have hk : (k == p.1) = false := by simpa using hk
      obtain ⟨h1, h2, h3, h4, h5⟩ := mpFind_some h
      refine ⟨by simp [mpHas, h1], by simp [mpGet, hk, h2], by simp [mpIdx, hk]; omega, by simp [mpIdx, hk, h4], fun x => by simp [mpPut, mpIdx, hk, h5]⟩

theorem mpEs_get {ks : List EK} {ve : EK} : ∀ {L : List (List Int × Int)} {i j : Nat}, (mpEs ks ve i L)[j]? = L[j]?.map fun p => ⟨keyV ks p.1, ve.val p.2, i + j⟩
  | [], _, _ => by simp [mpEs]
  | p :: r, i, 0 => by simp [mpEs]
  | p :: r, i, j + 1 => by
    simp only [mpEs, List.getElem?_cons_succ]
    rw [mpEs_get (L := r)]
    simp [show i + 1 + j = i + (j + 1) by omega]

theorem mpEs_len {ks : List EK} {ve : EK} : ∀ {L : List (List Int × Int)} {i : Nat}, (mpEs ks ve i L).length = L.length
  | [], _ => rfl
  | p :: r, i => by simp [mpEs, mpEs_len (L := r)]

theorem mpEs_app {ks : List EK} {ve : EK} {q : List Int × Int} : ∀ {L : List (List Int × Int)} {i : Nat}, mpEs ks ve i (L ++ [q]) = mpEs ks ve i L ++ [⟨keyV ks q.1, ve.val q.2, i + L.length⟩]
  | [], i => rfl
  | p :: r, i => by
    simp only [List.cons_append, mpEs, List.length_cons]
    rw [mpEs_app (L := r), show i + 1 + r.length = i + (r.length + 1) by omega]

theorem mpEs_set {ks : List EK} {ve : EK} {q : List Int × Int} {L : List (List Int × Int)} {i j : Nat} : mpEs ks ve i (L.set j q) = (mpEs ks ve i L).set j ⟨keyV ks q.1, ve.val q.2, i + j⟩ := by
  apply List.ext_getElem?
  intro m
  rw [mpEs_get, List.getElem?_set, List.getElem?_set, mpEs_get]
  by_cases h : j = m
  · subst h
    simp only [if_true, mpEs_len]
    split <;> rfl
  · simp [h]

theorem run_findAsking {P : Program} {T : Tab} (hT : TabOk P T) {t : TypeId} {ks : List EK} (h : keyK T t = some ks) {k : List Int} (hk : k.length = ks.length) {ve : EK} (w : World) : ∀ (L : List (List Int × Int)) (b i : Nat), (∀ p ∈ L, p.1.length = ks.length) →
    (Instr.findAsking t (keyV ks k) (mpEs ks ve b L) i).run P w = .ok ((mpFind k i L).map fun q => (q.1, ve.val q.2)) w
  | [], b, i, _ => by simp [mpEs, Instr.findAsking, mpFind]
  | p :: r, b, i, hl => by
    simp only [mpEs, Instr.findAsking, Sem.run_bind, key_eq hT h hk (hl p (by simp)) w, Result.andThen_ok, mpFind]
    split
    · simp
    · exact run_findAsking hT h hk w r (b + 1) (i + 1) (fun q hq => hl q (by simp [hq]))

theorem run_findKey' {P : Program} {T : Tab} (hT : TabOk P T) {t : TypeId} {ks : List EK} (h : keyK T t = some ks) {k : List Int} (hk : k.length = ks.length) {ve : EK} (w : World) (L : List (List Int × Int)) (hl : ∀ p ∈ L, p.1.length = ks.length) :
    (Instr.findKey t (keyV ks k) (mpEs ks ve 0 L)).run P w = .ok ((mpFind k 0 L).map fun q => (q.1, ve.val q.2)) w := by
  have hu : ∃ d, P.underlying t = some d ∧ ∀ a b, Instr.sameNow d (.agg a) (.agg b) = none := by
    unfold keyK at h
    split at h
    · rename_i ti hti
      obtain ⟨_, hu⟩ := hT.look hti
      split at h
      · rename_i n e hd
        rw [hd] at hu
        exact ⟨_, hu, fun _ _ => rfl⟩
      · rename_i fs hd
        rw [hd] at hu
        obtain ⟨fields, hu, _⟩ := hu
        exact ⟨_, hu, fun _ _ => rfl⟩
      · simp at h
    · simp at h
  obtain ⟨d, hu, hd⟩ := hu
  unfold Instr.findKey
  simp only [Sem.run_bind, run_underlying hu, Result.andThen_ok]
  cases L with
  | nil => simp [mpEs, Instr.findNow, mpFind]
  | cons p r =>
    have : Instr.findNow d (keyV ks k) (mpEs ks ve 0 (p :: r)) 0 = none := by
      simp only [mpEs, Instr.findNow]
      have : Instr.sameNow d (keyV ks k) (keyV ks p.1) = none := hd _ _
      rw [this]
    rw [this]
    exact run_findAsking hT h hk w (p :: r) 0 0 hl

/-! ### Maps among the blocks -/

theorem getB_mp {o : Bool} {ks : List EK} {ve : EK} {L : List (List Int × Int)} : ∀ {H : List Blk} {i : Nat}, getB H i = .mp o ks ve L → H[i]? = some (.mp o ks ve L)
  | [], _, h => by simp [getB] at h
  | x :: xs, 0, h => by simpa [getB] using h
  | x :: xs, n + 1, h => by simpa [getB] using getB_mp (H := xs) (i := n) (by simpa [getB] using h)

theorem HR.getM {n0 : Nat} {w0 : Base} {w : World} {β : List Nat} {H : List Blk} (h : HR n0 w0 β H w) {i : Nat} {o : Bool} {ks : List EK} {ve : EK} {L : List (List Int × Int)} (hb : getB H i = .mp o ks ve L) :
    ∃ b, β[i]? = some b ∧ (o = true → n0 ≤ b) ∧ (∀ p ∈ L, p.1.length = ks.length) ∧ w.heap[b]? = some (.map (mpEs ks ve 0 L).toArray L.length) := by
  have hg := getB_mp hb
  have hlt : i < β.length := by rw [h.len]; exact (List.getElem?_eq_some_iff.1 hg).1
  exact ⟨_, List.getElem?_eq_getElem hlt, h.blk i _ _ hg (List.getElem?_eq_getElem hlt)⟩

theorem HR.pushM {n0 : Nat} {w0 : Base} {w : World} {β : List Nat} {H : List Blk} (h : HR n0 w0 β H w) (ks : List EK) (ve : EK) :
    HR n0 w0 (β ++ [w.heap.size]) (H ++ [.mp true ks ve []]) { w with heap := w.heap.push (.map #[] 0) } := by
  have hgr : Grow n0 w0.m w { w with heap := w.heap.push (.map #[] 0) } := Grow.alloc h.base _
  have old : ∀ {i b : Nat} {B : Blk}, (H ++ [Blk.mp true ks ve []])[i]? = some B → (β ++ [w.heap.size])[i]? = some b → (i < H.length ∧ H[i]? = some B ∧ β[i]? = some b) ∨ (i = H.length ∧ B = .mp true ks ve [] ∧ b = w.heap.size) := by
    intro i b B hB hβ
    by_cases hi : i < H.length
    · rw [List.getElem?_append_left hi] at hB
      rw [List.getElem?_append_left (by rw [h.len]; exact hi)] at hβ
      exact .inl ⟨hi, hB, hβ⟩
    · have hl : i = H.length := by
        have := (List.getElem?_eq_some_iff.1 hB).1
        simp at this; omega
      subst hl
      have e1 : (H ++ [Blk.mp true ks ve []])[H.length]? = some (.mp true ks ve []) := by simp
      have e2 : (β ++ [w.heap.size])[H.length]? = some w.heap.size := by rw [← h.len]; simp
      rw [e1] at hB; rw [e2] at hβ
      simp only [Option.some.injEq] at hB hβ
      exact .inr ⟨rfl, hB.symm, hβ.symm⟩
  have kp : ∀ k, k < w.heap.size → (w.heap.push (Obj.map #[] 0))[k]? = w.heap[k]? := fun k hk => by
    rw [Array.getElem?_push, if_neg (by omega)]
  refine ⟨?_, by simp [h.len], ?_, h.niApp kp (fun x hx => hx.elim) (fun _ _ => Nat.le_refl _), by have := h.ms; simp; omega, h.st, h.st _ _ hgr h.ext, ?_⟩
  · have := h.base; simp; omega
  · intro i j b B C hB ho hn hb hb' hne hC
    rcases old hB hb with ⟨i1, i2, i3⟩ | ⟨i1, i2, i3⟩ <;> rcases old hC hb' with ⟨j1, j2, j3⟩ | ⟨j1, j2, j3⟩
    · exact h.nd i j b B C i2 ho hn i3 j3 hne j2
    · have := h.lt i2 i3 hn; omega
    · by_cases hcn : C.nil
      · exact hcn
      · have := h.lt j2 j3 hcn; omega
    · omega
  · intro i B b hB hβ
    rcases old hB hβ with ⟨i1, i2, i3⟩ | ⟨i1, rfl, rfl⟩
    · have hr := h.blk i B b i2 i3
      by_cases hn : B.nil
      · exact (hr.any hn).mono
      · have hlt := hr.size hn
        exact (hr.keep (kp b hlt) fun x hx => kp x (hr.innSize hx)).mono
    · exact ⟨fun _ => h.base, by simp, by simp [mpEs]⟩

theorem HR.setM {n0 : Nat} {w0 : Base} {w : World} {β : List Nat} {H : List Blk} (h : HR n0 w0 β H w) {i b : Nat} {ks : List EK} {ve : EK} {L L' : List (List Int × Int)}
    (hg : getB H i = .mp true ks ve L) (hb : β[i]? = some b) (hl : ∀ p ∈ L', p.1.length = ks.length) :
    HR n0 w0 β (H.set i (.mp true ks ve L')) { w with heap := w.heap.setIfInBounds b (.map (mpEs ks ve 0 L').toArray L'.length) } := by
  obtain ⟨b', hb', hbn, _, hh⟩ := h.getM hg
  rw [hb] at hb'; simp only [Option.some.injEq] at hb'; subst hb'
  have hbn := hbn rfl
  have hg' := getB_mp hg
  have hnn : ¬ (Blk.mp true ks ve L).nil := fun hn => hn
  have hbs : b < w.heap.size := (Array.getElem?_eq_some_iff.1 hh).1
  have oth : ∀ k, k ≠ b → (w.heap.setIfInBounds b (.map (mpEs ks ve 0 L').toArray L'.length))[k]? = w.heap[k]? := fun k hk => by
    rw [Array.getElem?_setIfInBounds, if_neg (fun e => hk e.symm)]
  have own : (w.heap.setIfInBounds b (.map (mpEs ks ve 0 L').toArray L'.length))[b]? = some (.map (mpEs ks ve 0 L').toArray L'.length) := by
    rw [Array.getElem?_setIfInBounds, if_pos rfl, if_pos hbs]
  have hgr : Grow n0 w0.m w { w with heap := w.heap.setIfInBounds b (.map (mpEs ks ve 0 L').toArray L'.length) } :=
    ⟨⟨rfl, rfl, rfl, by simp, fun k hk => oth k (by omega)⟩, fun k o _ ho hno _ hnm => by
      by_cases hk : k = b
      · subst hk; rw [hh] at ho; simp only [Option.some.injEq] at ho; exact absurd ho.symm (hnm _ _)
      · rw [oth k hk]; exact ho, fun k r ho => ⟨r, by
      by_cases hk : k = b
      · subst hk; rw [hh] at ho; simp only [Option.some.injEq, reduceCtorEq] at ho
      · rw [oth k hk]; exact ho⟩⟩
  have hlt : i < H.length := (List.getElem?_eq_some_iff.1 hg').1
  refine ⟨by simpa using h.base, by simp [h.len], ?_, h.niSet hg' hb (fun k _ hk => oth k (hk rfl hnn)) (fun x hx => hx.elim) (fun _ _ => ⟨rfl, hnn⟩), by simpa using h.ms, h.st, h.st _ _ hgr h.ext, ?_⟩
  · intro k j c B C hB ho hn hb1 hb2 hne hC
    rw [List.getElem?_set] at hB hC
    by_cases hk : i = k
    · subst hk
      rw [if_neg (fun e => hne e.symm)] at hC
      exact h.nd i j c _ C hg' rfl hnn hb1 hb2 hne hC
    · rw [if_neg hk] at hB
      by_cases hj : i = j
      · subst hj
        exact absurd (h.nd k i c B _ hB ho hn hb1 hb2 hne hg') hnn
      · rw [if_neg hj] at hC
        exact h.nd k j c B C hB ho hn hb1 hb2 hne hC
  intro j B b' hB hβ
  rw [List.getElem?_set] at hB
  by_cases hij : i = j
  · subst hij
    rw [hb] at hβ; simp only [Option.some.injEq] at hβ; subst hβ
    simp only [hlt, if_true, Option.some.injEq] at hB
    subst hB
    exact ⟨fun _ => hbn, hl, own⟩
  · rw [if_neg hij] at hB
    have hr := h.blk j B b' hB hβ
    by_cases hne : b' = b
    · subst hne
      exact hr.any (h.nd i j b' _ B hg' rfl hnn hb hβ (fun e => hij e.symm) hB)
    · exact hr.keep (oth b' hne) fun x hx => oth x (h.innNe hg' hb rfl hnn hB hβ hx)

/-! ### The operations -/

/-- The cells of a value as the numbers of a key. -/
def asK : List EK → List Cel → Option (List Int)
  | [], [] => some []
  | ks, .run k' n l :: r => if ks.take n = (List.range n).map (fun j => k'.getD (j % k'.length) .i64) then (asK (ks.drop n) r).map (l ++ ·) else none
  | k :: ks, c :: r => match oneI [c] with
    | some (k', x) => if k = k' then (asK ks r).map (x :: ·) else none
    | none => none
  | _, _ => none

theorem runV_kv {k' : List EK} {n : Nat} {l : List Int} (hl : l.length = n) : runV k' l = kv ((List.range n).map (fun j => k'.getD (j % k'.length) .i64)) l := by
  apply List.ext_getElem?
  intro i
  by_cases hi : i < n
  · rw [runV_get _ _ _ (by omega), kv_get (by simpa using hl) (by simpa using hi)]
    simp [List.getD, hi]
  · rw [List.getElem?_eq_none (by simp [runV]; omega), List.getElem?_eq_none (by rw [kv_len (by simpa using hl)]; simp; omega)]

theorem asK_cons {k : EK} {ks : List EK} {c : Cel} {cs : List Cel} (h : ∀ k' n l, c ≠ .run k' n l) : asK (k :: ks) (c :: cs) = match oneI [c] with
    | some (k', x) => if k = k' then (asK ks cs).map (x :: ·) else none
    | none => none := by cases c <;> first | rfl | exact absurd rfl (h _ _ _)
theorem asK_nil {c : Cel} {cs : List Cel} (h : ∀ k' n l, c ≠ .run k' n l) : asK [] (c :: cs) = none := by cases c <;> first | rfl | exact absurd rfl (h _ _ _)

theorem asK_sound {β : List Nat} : ∀ {ks : List EK} {cs : List Cel} {vs : List Value} {xs : List Int}, CelsR β cs vs → asK ks cs = some xs → xs.length = ks.length ∧ vs = kv ks xs
  | ks, [], vs, xs, h, hx => by
    simp only [CelsR] at h; subst h
    cases ks with
    | nil => simp only [asK, Option.some.injEq] at hx; subst hx; exact ⟨rfl, rfl⟩
    | cons k ks => simp [asK] at hx
  | ks, c :: cs, vs, xs, ⟨pre, rest, e, h1, h2⟩, hx => by
    subst e
    by_cases hr : ∃ k' n l, c = .run k' n l
    · obtain ⟨k', n, l, rfl⟩ := hr
      simp only [asK] at hx
      split at hx
      · rename_i hk
        obtain ⟨ys, hy, rfl⟩ := Option.map_eq_some_iff.1 hx
        obtain ⟨g1, g2⟩ := asK_sound h2 hy
        obtain ⟨e1, rfl⟩ := h1
        have hn : n ≤ ks.length := by
          have := congrArg List.length hk
          simp at this; omega
        refine ⟨by simp [g1, e1]; omega, ?_⟩
        rw [g2, runV_kv e1, ← hk, ← kv_app (by rw [List.length_take]; omega), List.take_append_drop]
      · simp at hx
    · have hr : ∀ k' n l, c ≠ .run k' n l := fun k' n l e => hr ⟨k', n, l, e⟩
      cases ks with
      | nil => rw [asK_nil hr] at hx; simp at hx
      | cons k ks =>
        rw [asK_cons hr] at hx
        split at hx
        · rename_i k' x ho
          split at hx
          · rename_i hk
            subst hk
            obtain ⟨ys, hy, rfl⟩ := Option.map_eq_some_iff.1 hx
            obtain ⟨g1, g2⟩ := asK_sound h2 hy
            have e1 := oneI_sound (β := β) (l := [c]) (vs := pre) ⟨pre, [], by simp, h1, rfl⟩ ho
            subst e1
            exact ⟨by simp [g1], by rw [g2]; rfl⟩
          · simp at hx
        · simp at hx

/-- The numbers of an element that is one number. -/
def elK (T : Tab) (e : TypeId) : Option EK :=
  match look T e with
  | some ti => match ti.d with
    | .int k => if ti.size = 1 then some (EK.of k) else none
    | .bool => if ti.size = 1 then some .bool else none
    | _ => none
  | none => none

def mapK (T : Tab) (t : TypeId) : Option (TypeId × TypeId × List EK × EK) :=
  match look T t with
  | some ti => match ti.d with
    | .map k e => match keyK T k, elK T e with
      | some ks, some ve => some (k, e, ks, ve)
      | _, _ => none
    | _ => none
  | none => none

theorem mapK_sound {P : Program} {T : Tab} (hT : TabOk P T) {t k e : TypeId} {ks : List EK} {ve : EK} (h : mapK T t = some (k, e, ks, ve)) : P.underlying t = some (.map k e) ∧ keyK T k = some ks ∧ elK T e = some ve := by
  unfold mapK at h
  split at h
  · rename_i ti hti
    obtain ⟨_, hu⟩ := hT.look hti
    split at h
    · rename_i k' e' hd
      rw [hd] at hu
      split at h
      · rename_i ks' ve' h1 h2
        simp only [Option.some.injEq, Prod.mk.injEq] at h
        obtain ⟨rfl, rfl, rfl, rfl⟩ := h
        exact ⟨hu, h1, h2⟩
      · simp at h
    · simp at h
  · simp at h

theorem elK_zero {P : Program} {T : Tab} (hT : TabOk P T) {e : TypeId} {ve : EK} (h : elK T e = some ve) (w : World) : (zeroValue e).run P w = .ok (ve.val 0) w := by
  unfold elK at h
  split at h
  · rename_i ti hti
    obtain ⟨⟨inf, h1, h2, z, hz, hc⟩, hu⟩ := hT.look hti
    have hz0 := TabBy.zero hT.by_ hti h1
    rw [hz] at hz0
    split at h
    · rename_i k hd
      split at h
      · simp only [Option.some.injEq] at h; subst h
        rw [hd] at hz0
        cases z <;> simp only [zOk, Bool.and_eq_true, decide_eq_true_eq, Bool.false_eq_true] at hz0
        obtain ⟨rfl, rfl⟩ := hz0
        simp [zeroValue, typeInfo, h1, hz, EK.of_val]
      · simp at h
    · rename_i hd
      split at h
      · simp only [Option.some.injEq] at h; subst h
        rw [hd] at hz0
        cases z <;> simp only [zOk, Bool.not_eq_true', Bool.false_eq_true] at hz0
        subst hz0
        simp [zeroValue, typeInfo, h1, hz, EK.val]
      · simp at h
    · simp at h
  · simp at h

def evMkMap (T : Tab) (H : List Blk) (t : TypeId) (x : Option Operand) : Option (Prop × LV × List Blk) :=
  match x, mapK T t with
  | none, some (_, _, ks, ve) => withLen H numerals fun n => some (True, .a (.c (.mpr n)), H ++ [.mp true ks ve []])
  | _, _ => none

theorem evMkMap_sound {P : Program} {T : Tab} {n0 : Nat} {w0 : Base} {w : World} {β : List Nat} {H H' : List Blk} (hH : HR n0 w0 β H w) {t : TypeId} {x : Option Operand} {p : Prop} {r : LV}
    (he : evMkMap T H t x = some (p, r, H')) : ∃ v w' γ, x = none ∧ (Instr.makeMap t none).run P w = .ok v w' ∧ HR n0 w0 (β ++ γ) H' w' ∧ LVR (β ++ γ) r v := by
  unfold evMkMap at he
  split at he
  · rename_i ks ve hm
    have he := withLen_sound he
    simp only [Option.some.injEq, Prod.mk.injEq] at he
    obtain ⟨_, rfl, rfl⟩ := he
    exact ⟨_, _, [w.heap.size], rfl, run_makeMap t w, hH.pushM ks ve, ⟨w.heap.size, by rw [← hH.len]; simp, rfl⟩⟩
  · simp at he

/-- The numbers of a key. -/
def keyOf' (ks : List EK) : LV → Option (List Int)
  | .a (.agg cs) => asK ks cs
  | _ => none

theorem keyOf'_sound {β : List Nat} {ks : List EK} {x : LV} {v : Value} {xs : List Int} (h : LVR β x v) (hx : keyOf' ks x = some xs) : v = keyV ks xs ∧ xs.length = ks.length := by
  unfold keyOf' at hx
  split at hx
  · obtain ⟨arr, rfl, hc⟩ := h
    obtain ⟨h1, h2⟩ := asK_sound hc hx
    refine ⟨?_, h1⟩
    unfold keyV
    rw [show arr = arr.toList.toArray by simp, h2]
    rfl
  · simp at hx

/-- A value that is one number of a kind. -/
def plainV (ve : EK) : LV → Option Int
  | .a (.c x) => match oneI [x] with
    | some (k, n) => if k = ve then some n else none
    | none => none
  | _ => none

theorem plainV_sound {β : List Nat} {ve : EK} {x : LV} {v : Value} {n : Int} (h : LVR β x v) (hx : plainV ve x = some n) : v = ve.val n := by
  unfold plainV at hx
  split at hx
  · rename_i x
    have h : CelR β x v := h
    split at hx
    · rename_i k m ho
      split at hx
      · rename_i hk
        subst hk
        simp only [Option.some.injEq] at hx; subst hx
        have hc : CelsR β [x] [v] := ⟨[v], [], rfl, by cases x <;> first | exact ⟨v, rfl, h⟩ | simp [oneI] at ho, rfl⟩
        simpa using oneI_sound hc ho
      · simp at hx
    · simp at hx
  · simp at hx

def evMapUp (T : Tab) (H : List Blk) (t : TypeId) (m k v : LV) : Option (Prop × LV × List Blk) :=
  match mapK T t, m with
  | some (_, _, ks, ve), .a (.c (.mpr id)) => match getB H id with
    | .mp true ks' ve' L => if ks' = ks ∧ ve' = ve then
        match keyOf' ks k, plainV ve v with
        | some xs, some n => some (True, .a (.c (.val undef)), H.set id (.mp true ks ve (mpPut L xs n)))
        | _, _ => none
      else none
    | _ => none
  | _, _ => none

theorem mpPut_len {ks : List EK} {L : List (List Int × Int)} {k : List Int} {v : Int} (hl : ∀ p ∈ L, p.1.length = ks.length) (hk : k.length = ks.length) : ∀ p ∈ mpPut L k v, p.1.length = ks.length := by
  induction L with
  | nil => intro p hp; simp [mpPut] at hp; subst hp; exact hk
  | cons q r ih =>
    intro p hp
    unfold mpPut at hp
    split at hp
    · rcases List.mem_cons.1 hp with rfl | hp
      · exact hk
      · exact hl p (by simp [hp])
    · rcases List.mem_cons.1 hp with rfl | hp
      · exact hl _ (by simp)
      · exact ih (fun p hp => hl p (by simp [hp])) p hp

theorem evMapUp_sound {P : Program} {T : Tab} (hT : TabOk P T) {n0 : Nat} {w0 : Base} {w : World} {β : List Nat} {H H' : List Blk} (hH : HR n0 w0 β H w) {t : TypeId} {m k v : LV} {mv kv' vv : Value} {p : Prop} {r : LV}
    (hm : LVR β m mv) (hk : LVR β k kv') (hv : LVR β v vv) (he : evMapUp T H t m k v = some (p, r, H')) :
    ∃ w', (Instr.mapUpdate t mv kv' vv).run P w = .ok () w' ∧ HR n0 w0 β H' w' ∧ r = .a (.c (.val undef)) := by
  unfold evMapUp at he
  split at he
  · rename_i kt et ks ve id hmk
    obtain ⟨hu, hks, hve⟩ := mapK_sound hT hmk
    split at he
    · rename_i ks' ve' L hg
      split at he
      · rename_i hkk
        obtain ⟨rfl, rfl⟩ := hkk
        split at he
        · rename_i xs n hx hn
          simp only [Option.some.injEq, Prod.mk.injEq] at he
          obtain ⟨_, rfl, rfl⟩ := he
          obtain ⟨rfl, hxl⟩ := keyOf'_sound hk hx
          have hvv := plainV_sound hv hn
          subst hvv
          obtain ⟨b, hb, rfl⟩ := hm
          obtain ⟨b', hb', hbn, hl, hh⟩ := hH.getM hg
          rw [hb] at hb'; simp only [Option.some.injEq] at hb'; subst hb'
          have hset := hH.setM hg hb (mpPut_len hl hxl (v := n))
          refine ⟨_, ?_, hset, rfl⟩
          have hf := run_findKey' (P := P) hT hks hxl (ve := ve') w L hl
          cases hfd : mpFind xs 0 L with
          | none =>
            obtain ⟨_, _, h3, _⟩ := mpFind_none hfd
            rw [hfd] at hf
            have e1 : (mpEs ks' ve' 0 L).toArray.push ⟨keyV ks' xs, ve'.val n, L.length⟩ = (mpEs ks' ve' 0 (mpPut L xs n)).toArray := by
              rw [h3, mpEs_app]; simp
            have e2 : L.length + 1 = (mpPut L xs n).length := by rw [h3]; simp
            simp [Instr.mapUpdate, run_underlying hu, MapKept.run_getObj_map hh, key_chk hT hks hxl, hf, MapKept.run_setObj_map _ hh, Result.andThen, e1, e2]
          | some q =>
            obtain ⟨j, x⟩ := q
            obtain ⟨_, _, h3, h4, h5⟩ := mpFind_some hfd
            rw [hfd] at hf
            have hj : j = mpIdx L xs := by omega
            subst hj
            have hget : (mpEs ks' ve' 0 L)[mpIdx L xs]? = some ⟨keyV ks' xs, ve'.val x, mpIdx L xs⟩ := by
              rw [mpEs_get, h4]; simp
            have e1 : (mpEs ks' ve' 0 L).modify (mpIdx L xs) (fun e => { e with key := keyV ks' xs, val := ve'.val n }) = mpEs ks' ve' 0 (mpPut L xs n) := by
              rw [h5, mpEs_set, ChangeMaps.modify_eq_set _ _ _ _ hget]
              simp
            have e2 : L.length = (mpPut L xs n).length := by rw [h5]; simp
            simp [Instr.mapUpdate, run_underlying hu, MapKept.run_getObj_map hh, key_chk hT hks hxl, hf, hget, key_stays, MapKept.run_setObj_map _ hh, Result.andThen, e1, ← e2]
        · simp at he
      · simp at he
    · simp at he
  · simp at he

def evMapLook (T : Tab) (H : List Blk) (t : TypeId) (m k : LV) (ok : Bool) : Option (Prop × LV) :=
  match mapK T t, m with
  | some (_, _, ks, ve), .a (.c (.mpr id)) => match getB H id with
    | .mp _ ks' ve' L => if ks' = ks ∧ ve' = ve then
        match keyOf' ks k with
        | some xs => some (True, if ok then .tup [.c (ve.cel (mpGet L xs)), .c (.bool (mpHas L xs))] else .a (.c (ve.cel (mpGet L xs))))
        | none => none
      else none
    | _ => none
  | _, _ => none

theorem mpEs_nil {ks : List EK} {ve : EK} {L : List (List Int × Int)} : (mpEs ks ve 0 L).toArray.isEmpty = L.isEmpty := by
  cases L <;> simp [mpEs]

theorem evMapLook_sound {P : Program} {T : Tab} (hT : TabOk P T) {n0 : Nat} {w0 : Base} {w : World} {β : List Nat} {H : List Blk} (hH : HR n0 w0 β H w) {t : TypeId} {m k : LV} {mv kv' : Value} {ok : Bool} {p : Prop} {r : LV}
    (hm : LVR β m mv) (hk : LVR β k kv') (he : evMapLook T H t m k ok = some (p, r)) :
    ∃ v, (Instr.lookup t mv kv' ok).run P w = .ok v w ∧ LVR β r v := by
  unfold evMapLook at he
  split at he
  · rename_i kt et ks ve id hmk
    obtain ⟨hu, hks, hve⟩ := mapK_sound hT hmk
    split at he
    · rename_i o ks' ve' L hg
      split at he
      · rename_i hkk
        obtain ⟨rfl, rfl⟩ := hkk
        split at he
        · rename_i xs hx
          simp only [Option.some.injEq, Prod.mk.injEq] at he
          obtain ⟨_, rfl⟩ := he
          obtain ⟨rfl, hxl⟩ := keyOf'_sound hk hx
          obtain ⟨b, hb, rfl⟩ := hm
          obtain ⟨b', hb', hbn, hl, hh⟩ := hH.getM hg
          rw [hb] at hb'; simp only [Option.some.injEq] at hb'; subst hb'
          have hf := run_findKey' (P := P) hT hks hxl (ve := ve') w L hl
          have fin : (Instr.lookup t (.map (some b)) (keyV ks' xs) ok).run P w = .ok (if ok then .tuple #[ve'.val (mpGet L xs), .bool (mpHas L xs)] else ve'.val (mpGet L xs)) w := by
            cases hfd : mpFind xs 0 L with
            | none =>
              obtain ⟨h1, h2, _, _⟩ := mpFind_none hfd
              rw [hfd] at hf
              simp [Instr.lookup, run_underlying hu, MapKept.run_getObj_map hh, key_chk hT hks hxl, hf, elK_zero hT hve, Result.andThen, h1, h2]
            | some q =>
              obtain ⟨j, x⟩ := q
              obtain ⟨h1, h2, _, _, _⟩ := mpFind_some hfd
              rw [hfd] at hf
              simp [Instr.lookup, run_underlying hu, MapKept.run_getObj_map hh, key_chk hT hks hxl, hf, Result.andThen, h1, h2]
          refine ⟨_, fin, ?_⟩
          cases ok with
          | true => exact ⟨_, rfl, _, _, rfl, EK.cel_R _ _ _, _, [], rfl, rfl, rfl⟩
          | false => exact EK.cel_R _ _ _
        · simp at he
      · simp at he
    · simp at he
  · simp at he

/-! ### m[k] += x: an entry, and what is stored into it -/
def evMapEnt (T : Tab) (H : List Blk) (t : TypeId) (m k : LV) : Option (Prop × LV × List Blk) :=
  match mapK T t, m with
  | some (_, _, ks, ve), .a (.c (.mpr id)) => match getB H id with
    | .mp true ks' ve' L => if ks' = ks ∧ ve' = ve then
        match keyOf' ks k with
        | some xs => some (True, .tup [.c (ve.cel (mpGet L xs)), .c (.int .i64 (mpIdx L xs))], H.set id (.mp true ks ve (mpPut L xs (mpGet L xs))))
        | none => none
      else none
    | _ => none
  | _, _ => none

theorem evMapEnt_sound {P : Program} {T : Tab} (hT : TabOk P T) {n0 : Nat} {w0 : Base} {w : World} {β : List Nat} {H H' : List Blk} (hH : HR n0 w0 β H w) {t : TypeId} {m k : LV} {mv kv' : Value} {p : Prop} {r : LV}
    (hm : LVR β m mv) (hk : LVR β k kv') (he : evMapEnt T H t m k = some (p, r, H')) :
    ∃ v w', (Instr.mapEntry t mv kv').run P w = .ok v w' ∧ HR n0 w0 β H' w' ∧ LVR β r v := by
  unfold evMapEnt at he
  split at he
  · rename_i kt et ks ve id hmk
    obtain ⟨hu, hks, hve⟩ := mapK_sound hT hmk
    split at he
    · rename_i ks' ve' L hg
      split at he
      · rename_i hkk
        obtain ⟨rfl, rfl⟩ := hkk
        split at he
        · rename_i xs hx
          simp only [Option.some.injEq, Prod.mk.injEq] at he
          obtain ⟨_, rfl, rfl⟩ := he
          obtain ⟨rfl, hxl⟩ := keyOf'_sound hk hx
          obtain ⟨b, hb, rfl⟩ := hm
          obtain ⟨b', hb', hbn, hl, hh⟩ := hH.getM hg
          rw [hb] at hb'; simp only [Option.some.injEq] at hb'; subst hb'
          have hset := hH.setM hg hb (mpPut_len hl hxl (v := mpGet L xs))
          have hf := run_findKey' (P := P) hT hks hxl (ve := ve') w L hl
          refine ⟨.tuple #[ve'.val (mpGet L xs), .int .i64 (mpIdx L xs)], _, ?_, hset, ⟨_, rfl, _, _, rfl, EK.cel_R _ _ _, _, [], rfl, rfl, rfl⟩⟩
          cases hfd : mpFind xs 0 L with
          | none =>
            obtain ⟨_, h2, h3, h4⟩ := mpFind_none hfd
            rw [hfd] at hf
            have e1 : (mpEs ks' ve' 0 L).toArray.push ⟨keyV ks' xs, ve'.val 0, L.length⟩ = (mpEs ks' ve' 0 (mpPut L xs (mpGet L xs))).toArray := by
              rw [h2, h3, mpEs_app]; simp
            have e2 : L.length + 1 = (mpPut L xs (mpGet L xs)).length := by rw [h3]; simp
            simp [Instr.mapEntry, run_underlying hu, MapKept.run_getObj_map hh, key_chk hT hks hxl, hf, elK_zero hT hve, MapKept.run_setObj_map _ hh, Result.andThen, e2, h2, h4, goInt]
            rw [h3, mpEs_app, Nat.zero_add]
          | some q =>
            obtain ⟨j, x⟩ := q
            obtain ⟨_, h2, h3, h4, h5⟩ := mpFind_some hfd
            rw [hfd] at hf
            have hj : j = mpIdx L xs := by omega
            subst hj
            have hget : (mpEs ks' ve' 0 L)[mpIdx L xs]? = some ⟨keyV ks' xs, ve'.val x, mpIdx L xs⟩ := by
              rw [mpEs_get, h4]; simp
            have e1 : (mpEs ks' ve' 0 L).modify (mpIdx L xs) (fun e => { e with key := keyV ks' xs }) = mpEs ks' ve' 0 (mpPut L xs (mpGet L xs)) := by
              rw [h5, mpEs_set, ChangeMaps.modify_eq_set _ _ _ _ hget, h2]
              simp
            have e2 : L.length = (mpPut L xs (mpGet L xs)).length := by rw [h5]; simp
            simp [Instr.mapEntry, run_underlying hu, MapKept.run_getObj_map hh, key_chk hT hks hxl, hf, hget, key_stays, MapKept.run_setObj_map _ hh, Result.andThen, e1, h2, goInt]
            rw [h2] at e2
            rw [e2]
        · simp at he
      · simp at he
    · simp at he
  · simp at he

theorem mpSet_eq {x : Int} : ∀ {L : List (List Int × Int)} {i : Nat} {q : List Int × Int}, L[i]? = some q → mpSet L i x = L.set i (q.1, x)
  | [], _, _, h => by simp at h
  | p :: r, 0, q, h => by simp at h; subst h; rfl
  | p :: r, i + 1, q, h => by
    have := mpSet_eq (x := x) (L := r) (i := i) (q := q) (by simpa using h)
    simp [mpSet, this]
theorem mpEs_born {ks : List EK} {ve : EK} : ∀ {L : List (List Int × Int)} {i j : Nat}, j < L.length → (mpEs ks ve i L).findIdx? (fun e => ((e.born : Nat) : Int) == ((i + j : Nat) : Int)) = some j
  | [], _, _, h => by simp at h
  | p :: r, i, 0, _ => by simp [mpEs, List.findIdx?_cons]
  | p :: r, i, j + 1, h => by
    have ih := mpEs_born (ks := ks) (ve := ve) (L := r) (i := i + 1) (j := j) (by simpa using h)
    rw [show i + 1 + j = i + (j + 1) by omega] at ih
    have hne : (((i : Nat) : Int) == ((i + (j + 1) : Nat) : Int)) = false := by
      rw [beq_eq_false_iff_ne]; omega
    simp only [mpEs, List.findIdx?_cons, hne, ih]
    rfl

def evEntSt (T : Tab) (H : List Blk) (t : TypeId) (m s v : LV) : Option (Prop × LV × List Blk) :=
  match mapK T t, m, asI s with
  | some (_, _, ks, ve), .a (.c (.mpr id)), some (_, n, _) => match getB H id with
    | .mp true ks' ve' L => if ks' = ks ∧ ve' = ve then
        match plainV ve v with
        | some x => some (0 ≤ n ∧ n.toNat < L.length, .a (.c (.val undef)), H.set id (.mp true ks ve (mpSet L n.toNat x)))
        | none => none
      else none
    | _ => none
  | _, _, _ => none

theorem evEntSt_sound {P : Program} {T : Tab} (hT : TabOk P T) {n0 : Nat} {w0 : Base} {w : World} {β : List Nat} {H H' : List Blk} (hH : HR n0 w0 β H w) {t : TypeId} {m s v : LV} {mv sv vv : Value} {p : Prop} {r : LV}
    (hm : LVR β m mv) (hs : LVR β s sv) (hv : LVR β v vv) (he : evEntSt T H t m s v = some (p, r, H')) (hp : p) :
    ∃ w', (Instr.entryStore t mv sv vv).run P w = .ok () w' ∧ HR n0 w0 β H' w' ∧ r = .a (.c (.val undef)) := by
  unfold evEntSt at he
  split at he
  · rename_i kt et ks ve id ki n lit hmk hai
    have es := asI_sound hs hai
    subst es
    split at he
    · rename_i ks' ve' L hg
      split at he
      · rename_i hkk
        obtain ⟨rfl, rfl⟩ := hkk
        split at he
        · rename_i x hn
          simp only [Option.some.injEq, Prod.mk.injEq] at he
          obtain ⟨rfl, rfl, rfl⟩ := he
          have hvv := plainV_sound hv hn
          subst hvv
          obtain ⟨b, hb, rfl⟩ := hm
          obtain ⟨b', hb', hbn, hl, hh⟩ := hH.getM hg
          rw [hb] at hb'; simp only [Option.some.injEq] at hb'; subst hb'
          obtain ⟨q, hq⟩ : ∃ q, L[n.toNat]? = some q := ⟨_, List.getElem?_eq_getElem hp.2⟩
          have hset := hH.setM (L' := mpSet L n.toNat x) hg hb (by
            rw [mpSet_eq hq]
            intro y hy
            rcases List.mem_or_eq_of_mem_set hy with hy | rfl
            · exact hl y hy
            · exact hl q (List.mem_of_getElem? hq))
          refine ⟨_, ?_, hset, rfl⟩
          have hfi : (mpEs ks' ve' 0 L).findIdx? (fun e => ((e.born : Nat) : Int) == n) = some n.toNat := by
            have := mpEs_born (ks := ks') (ve := ve') (i := 0) hp.2
            rw [Nat.zero_add, Int.toNat_of_nonneg hp.1] at this
            exact this
          have hget : (mpEs ks' ve' 0 L)[n.toNat]? = some ⟨keyV ks' q.1, ve'.val q.2, n.toNat⟩ := by
            rw [mpEs_get, hq]; simp
          have e1 : (mpEs ks' ve' 0 L).modify n.toNat (fun e => { e with val := ve'.val x }) = mpEs ks' ve' 0 (mpSet L n.toNat x) := by
            rw [mpSet_eq hq, mpEs_set, ChangeMaps.modify_eq_set _ _ _ _ hget]
            simp
          have e2 : L.length = (mpSet L n.toNat x).length := by rw [mpSet_eq hq]; simp
          simp [Instr.entryStore, MapKept.run_getObj_map hh, asInt, asIntOf, Result.andThen, hfi, MapKept.run_setObj_map _ hh, e1, ← e2]
        · simp at he
      · simp at he
    · simp at he
  · simp at he

/-- The number of entries. -/
def evLenM (T : Tab) (st : St) (c : Call) : Option (Prop × LV) :=
  match c.callee, c.args.toList, c.argTypes.toList with
  | .builtin .len, [x], [t] => match mapK T t, st.ev x with
    | some _, .a (.c (.mpr id)) => match getB st.heap id with
      | .mp _ _ _ L => some (True, .a (.c (.int .i64 L.length)))
      | _ => none
    | _, _ => none
  | _, _, _ => none

theorem evLenM_sound {P : Program} {T : Tab} (hT : TabOk P T) {n0 : Nat} {w0 : Base} {w : World} {β : List Nat} {st : St} {a : Act} (hH : HR n0 w0 β st.heap w) (hM : TmR β st.tmps a.tmps.toList) {op : Oper} {c : Call} (ho : op.op = .call c) {p : Prop} {r : LV}
    (he : evLenM T st c = some (p, r)) : ∃ v, (execOp a.eval op).run P w = .ok (.value v) w ∧ LVR β r v := by
  unfold evLenM at he
  split at he
  · rename_i x t hc ha ht
    have ha' : c.args = #[x] := Array.toList_inj.1 ha
    have ht' : c.argTypes = #[t] := Array.toList_inj.1 ht
    have hx := ev_sound hM x
    split at he
    · rename_i mk id hmk hxe
      obtain ⟨k, e, ks, ve⟩ := mk
      obtain ⟨hu, _, _⟩ := mapK_sound hT hmk
      rw [hxe] at hx
      obtain ⟨b, hb, hx⟩ := hx
      split at he
      · rename_i o ks' ve' L hg
        simp only [Option.some.injEq, Prod.mk.injEq] at he
        obtain ⟨_, rfl⟩ := he
        obtain ⟨b', hb', _, _, hh⟩ := hH.getM hg
        rw [hb] at hb'; simp only [Option.some.injEq] at hb'; subst hb'
        refine ⟨.int .i64 L.length, ?_, rfl⟩
        have : (Builtin.len_ #[t] op.type #[a.eval x]).run P w = .ok (.int .i64 L.length) w := by
          simp [Builtin.len_, run_underlying hu, hx, MapKept.run_getObj_map hh, goInt, mpEs_len]
        simp [execOp, ho, resolve, hc, ha', ht', invoke, builtin, this]
      · simp at he
    · simp at he
  · simp at he

/-! ### The lesser and the greater number, a shift -/

def evMinMax (st : St) (c : Call) : Option (Prop × LV) :=
  match c.callee, c.args.toList with
  | .builtin .min, [x, y] => match asI (st.ev x), asI (st.ev y) with
    | some (k, a, l), some (k', b, l') => if k = k' then some (True, mkI k (min a b) (l && l')) else none
    | _, _ => none
  | .builtin .max, [x, y] => match asI (st.ev x), asI (st.ev y) with
    | some (k, a, l), some (k', b, l') => if k = k' then some (True, mkI k (max a b) (l && l')) else none
    | _, _ => none
  | _, _ => none

theorem evMinMax_sound {P : Program} {β : List Nat} {st : St} {a : Act} (hM : TmR β st.tmps a.tmps.toList) {op : Oper} {c : Call} (ho : op.op = .call c) {p : Prop} {r : LV} (w : World)
    (he : evMinMax st c = some (p, r)) : ∃ v, (execOp a.eval op).run P w = .ok (.value v) w ∧ LVR β r v := by
  unfold evMinMax at he
  split at he
  · rename_i x y hc ha
    have ha' : c.args = #[x, y] := Array.toList_inj.1 ha
    split at he
    · rename_i k m l k' n l' hx hy
      have e1 := asI_sound (ev_sound hM x) hx
      have e2 := asI_sound (ev_sound hM y) hy
      split at he
      · rename_i hk
        subst hk
        simp only [Option.some.injEq, Prod.mk.injEq] at he
        obtain ⟨_, rfl⟩ := he
        refine ⟨.int k (min m n), ?_, mkI_sound _ _ _ _⟩
        have h : (if n < m then n else m) = min m n := by split <;> omega
        simp [execOp, ho, resolve, hc, ha', invoke, builtin, e1, e2, run_min_int2, h]
      · simp at he
    · simp at he
  · rename_i x y hc ha
    have ha' : c.args = #[x, y] := Array.toList_inj.1 ha
    split at he
    · rename_i k m l k' n l' hx hy
      have e1 := asI_sound (ev_sound hM x) hx
      have e2 := asI_sound (ev_sound hM y) hy
      split at he
      · rename_i hk
        subst hk
        simp only [Option.some.injEq, Prod.mk.injEq] at he
        obtain ⟨_, rfl⟩ := he
        refine ⟨.int k (max m n), ?_, mkI_sound _ _ _ _⟩
        have h : (if m < n then n else m) = max m n := by split <;> omega
        simp [execOp, ho, resolve, hc, ha', invoke, builtin, e1, e2, run_max_int2, h]
      · simp at he
    · simp at he
  · simp at he

/-- A shift to the right by a known count. -/
theorem u64_and255 (a : Int) : IntKind.u64.wrap ((BitVec.ofInt 64 a &&& BitVec.ofInt 64 255).toNat) = a % 256 := by
  rw [BitVec.toNat_and, BitVec.toNat_ofInt, BitVec.toNat_ofInt]
  have e : ((255 : Int) % ((2 ^ 64 : Nat) : Int)).toNat = 2 ^ 8 - 1 := by decide
  rw [e, Nat.and_two_pow_sub_one_eq_mod]
  simp [IntKind.wrap, IntKind.signed, IntKind.bits]
  omega

def evShr (op : BinOp) (x y : LV) : Option (Prop × LV) :=
  match op, asI x, asI y with
  | .shr, some (k, a, l), some (_, b, true) => if 0 ≤ b ∧ b.toNat ≤ k.bits then some (True, mkI k (a / 2 ^ b.toNat) l) else none
  | .and, some (k, a, _), some (k', b, true) => if k = .u64 ∧ k' = .u64 ∧ b = 255 then some (True, .a (.c (.int .u64 (a % 256)))) else none
  | _, _, _ => none

theorem evShr_sound {P : Program} {β : List Nat} {op : BinOp} {t : TypeId} {x y : LV} {xv yv : Value} {xo yo : Operand} {p : Prop} {r : LV} (w : World)
    (hx : LVR β x xv) (hy : LVR β y yv) (he : evShr op x y = some (p, r)) :
    ∃ v, (do eqGuard op t xo yo xv yv; binOp op t xv yv : Sem Value).run P w = .ok v w ∧ LVR β r v := by
  unfold evShr at he
  split at he
  · rename_i k a l k' b hax hay
    have e1 := asI_sound hx hax
    have e2 := asI_sound hy hay
    subst e1; subst e2
    split at he
    · rename_i hb
      simp only [Option.some.injEq, Prod.mk.injEq] at he
      obtain ⟨_, rfl⟩ := he
      have hg : (eqGuard .shr t xo yo (.int k a) (.int k' b)).run P w = .ok () w := by
        unfold eqGuard
        split <;> simp
      have hp : (0 : Int) ≤ 2 ^ b.toNat := Int.pow_nonneg (by omega)
      have hm : min b.toNat k.bits = b.toNat := by omega
      refine ⟨.int k (a / 2 ^ b.toNat), ?_, mkI_sound _ _ _ _⟩
      simp only [Sem.run_bind, hg, Result.andThen_ok]
      simp [binOp, Op.shift, Int.not_lt.mpr hb.1, hm, Int.fdiv_eq_ediv_of_nonneg _ hp]
    · simp at he
  · rename_i k a l k' b hax hay
    have e1 := asI_sound hx hax
    have e2 := asI_sound hy hay
    subst e1; subst e2
    split at he
    · rename_i hb
      obtain ⟨rfl, rfl, rfl⟩ := hb
      simp only [Option.some.injEq, Prod.mk.injEq] at he
      obtain ⟨_, rfl⟩ := he
      have hg : (eqGuard .and t xo yo (.int .u64 a) (.int .u64 255)).run P w = .ok () w := by
        unfold eqGuard
        split <;> simp
      refine ⟨.int .u64 (a % 256), ?_, rfl⟩
      simp only [Sem.run_bind, hg, Result.andThen_ok]
      have := u64_and255 a
      simp only [binOp, Op.intBits, ne_eq, not_true_eq_false, if_false]
      exact congrArg (fun z : Int => Sem.run P (pure (Value.int IntKind.u64 z)) w) this
    · simp at he
  · simp at he


/-! ### Bits -/
def bAnd (k : IntKind) (a b : Int) : Int := k.wrap ((BitVec.ofInt k.bits a &&& BitVec.ofInt k.bits b).toNat : Nat)
def bOr (k : IntKind) (a b : Int) : Int := k.wrap ((BitVec.ofInt k.bits a ||| BitVec.ofInt k.bits b).toNat : Nat)
def bXor (k : IntKind) (a b : Int) : Int := k.wrap ((BitVec.ofInt k.bits a ^^^ BitVec.ofInt k.bits b).toNat : Nat)
def bNot (k : IntKind) (a b : Int) : Int := k.wrap ((BitVec.ofInt k.bits a &&& ~~~(BitVec.ofInt k.bits b)).toNat : Nat)
def bShl (k : IntKind) (a b : Int) : Int := k.wrap (a * 2 ^ b.toNat)
def bShr (a b : Int) : Int := a / 2 ^ b.toNat

def evBits (op : BinOp) (x y : LV) : Option (Prop × LV) :=
  match op, asI x, asI y with
  | .shr, some (k, a, l), some (_, b, l') => some (0 ≤ b ∧ b.toNat ≤ k.bits, mkI k (bShr a b) (l && l'))
  | .shl, some (k, a, l), some (_, b, l') => some (0 ≤ b ∧ b.toNat ≤ k.bits, mkI k (bShl k a b) (l && l'))
  | .and, some (k, a, l), some (k', b, l') => if k = k' then some (True, mkI k (bAnd k a b) (l && l')) else none
  | .or, some (k, a, l), some (k', b, l') => if k = k' then some (True, mkI k (bOr k a b) (l && l')) else none
  | .xor, some (k, a, l), some (k', b, l') => if k = k' then some (True, mkI k (bXor k a b) (l && l')) else none
  | .andNot, some (k, a, l), some (k', b, l') => if k = k' then some (True, mkI k (bNot k a b) (l && l')) else none
  | _, _, _ => none

theorem evBits_sound {P : Program} {β : List Nat} {op : BinOp} {t : TypeId} {x y : LV} {xv yv : Value} {xo yo : Operand} {p : Prop} {r : LV} (w : World)
    (hx : LVR β x xv) (hy : LVR β y yv) (he : evBits op x y = some (p, r)) (hp : p) :
    ∃ v, (do eqGuard op t xo yo xv yv; binOp op t xv yv : Sem Value).run P w = .ok v w ∧ LVR β r v := by
  have hg : ∀ (op : BinOp) (k k' : IntKind) (a b : Int), (eqGuard op t xo yo (.int k a) (.int k' b)).run P w = .ok () w := by
    intro op k k' a b
    unfold eqGuard
    split <;> simp
  unfold evBits at he
  split at he
  · rename_i k a l k' b l' hax hay
    have e1 := asI_sound hx hax
    have e2 := asI_sound hy hay
    subst e1; subst e2
    simp only [Option.some.injEq, Prod.mk.injEq] at he
    obtain ⟨rfl, rfl⟩ := he
    have hq : (0 : Int) ≤ 2 ^ b.toNat := Int.pow_nonneg (by omega)
    have hm : min b.toNat k.bits = b.toNat := by omega
    refine ⟨_, ?_, mkI_sound _ _ _ _⟩
    simp only [Sem.run_bind, hg, Result.andThen_ok]
    simp [binOp, Op.shift, Int.not_lt.mpr hp.1, hm, Int.fdiv_eq_ediv_of_nonneg _ hq, bShr]
  · rename_i k a l k' b l' hax hay
    have e1 := asI_sound hx hax
    have e2 := asI_sound hy hay
    subst e1; subst e2
    simp only [Option.some.injEq, Prod.mk.injEq] at he
    obtain ⟨rfl, rfl⟩ := he
    have hm : min b.toNat k.bits = b.toNat := by omega
    refine ⟨_, ?_, mkI_sound _ _ _ _⟩
    simp only [Sem.run_bind, hg, Result.andThen_ok]
    simp [binOp, Op.shift, Int.not_lt.mpr hp.1, hm, bShl]
  all_goals first
    | (rename_i k a l k' b l' hax hay
       have e1 := asI_sound hx hax
       have e2 := asI_sound hy hay
       subst e1; subst e2
       split at he
       · rename_i hk
         subst hk
         simp only [Option.some.injEq, Prod.mk.injEq] at he
         obtain ⟨_, rfl⟩ := he
         refine ⟨_, ?_, mkI_sound _ _ _ _⟩
         simp only [Sem.run_bind, hg, Result.andThen_ok]
         simp only [binOp, Op.intBits, ne_eq, not_true_eq_false, if_false, bAnd, bOr, bXor, bNot]
         rfl
       · simp at he)
    | simp at he

/-! ### Interface values that are made -/
def kndC : List Cel → Option (List EK)
  | [] => some []
  | .run ks n _ :: r => (kndC r).map ((List.range n).map (fun j => ks.getD (j % ks.length) .i64) ++ ·)
  | c :: r => match oneI [c] with
    | some (k, _) => (kndC r).map (k :: ·)
    | none => none

def concT (T : Tab) (t : TypeId) : Bool := match look T t with
  | some ti => match ti.d with
    | .ifc => false
    | .other => false
    | .sca => false
    | _ => true
  | none => false

theorem concT_sound {P : Program} {T : Tab} (hT : TabOk P T) {t : TypeId} (h : concT T t = true) (x : Value) (w : World) : (Instr.makeInterface t x).run P w = .ok (.iface t x) w := by
  unfold concT at h
  split at h
  · rename_i ti hti
    obtain ⟨_, h2⟩ := hT.look hti
    cases hd : ti.d <;> rw [hd] at h h2 <;> simp only [Bool.false_eq_true] at h h2 <;>
      first
        | (simp [Instr.makeInterface, underlying, h2]; done)
        | (obtain ⟨e, h2⟩ := h2; simp [Instr.makeInterface, underlying, h2]; done)
        | (obtain ⟨e, h2, _⟩ := h2; simp [Instr.makeInterface, underlying, h2]; done)
        | (obtain ⟨_, _, _, h2⟩ := h2; simp [Instr.makeInterface, underlying, h2]; done)
  · cases h

def evMkI (T : Tab) (t : TypeId) (x : LV) : Option (Prop × LV) :=
  if concT T t = true then match x with
    | .a (.c (.lit k n)) => some (True, .a (.c (.val (.iface t (.int k n)))))
    | .a (.c (.int k n)) => some (True, .a (.c (.ifi t (EK.of k) n)))
    | .a (.agg cs) => match kndC cs with
      | some ks => match asK ks cs with
        | some xs => some (True, .a (.c (.ifr t ks xs)))
        | none => none
      | none => none
    | .a (.c (.ptr id 0)) => some (True, .a (.c (.ifp t id)))
    | _ => none
  else none

theorem evMkI_sound {P : Program} {T : Tab} (hT : TabOk P T) {β : List Nat} {t : TypeId} {x : LV} {xv : Value} {p : Prop} {r : LV} (w : World)
    (hx : LVR β x xv) (he : evMkI T t x = some (p, r)) : ∃ v, (Instr.makeInterface t xv).run P w = .ok v w ∧ LVR β r v := by
  unfold evMkI at he
  split at he
  · rename_i hc
    refine ⟨_, concT_sound hT hc xv w, ?_⟩
    split at he
    · simp only [Option.some.injEq, Prod.mk.injEq] at he
      obtain ⟨_, rfl⟩ := he
      have hx : xv = _ := hx
      subst hx
      rfl
    · simp only [Option.some.injEq, Prod.mk.injEq] at he
      obtain ⟨_, rfl⟩ := he
      have hx : xv = _ := hx
      subst hx
      show _ = _
      rw [EK.of_val]
    · rename_i cs
      split at he
      · rename_i ks hk
        split at he
        · rename_i xs hxs
          simp only [Option.some.injEq, Prod.mk.injEq] at he
          obtain ⟨_, rfl⟩ := he
          obtain ⟨arr, rfl, hr⟩ := hx
          obtain ⟨g0, g⟩ := asK_sound hr hxs
          refine ⟨g0, ?_⟩
          rw [keyV]
          congr 2
          apply Array.toList_inj.1
          rw [g]; rfl
        · simp at he
      · simp at he
    · simp only [Option.some.injEq, Prod.mk.injEq] at he
      obtain ⟨_, rfl⟩ := he
      obtain ⟨b, hb, rfl⟩ := hx
      exact ⟨b, hb, rfl⟩
    · simp at he
  · simp at he

/-- A record of numbers, each of a kind, as one run. -/
def aggK (ks : List EK) (l : List Int) : Av :=
  match ks with
  | [] => .agg []
  | k :: r => if r.all (fun j => decide (j = k)) then .agg [.run [k] (r.length + 1) l] else .agg [.run (k :: r) (r.length + 1) l]

theorem aggK_R {β : List Nat} {ks : List EK} {l : List Int} (h : l.length = ks.length) : AvR β (aggK ks l) (keyV ks l) := by
  cases ks with
  | nil =>
    refine ⟨_, rfl, ?_⟩
    simp [CelsR]
  | cons k r =>
    have hl : l.length = r.length + 1 := by simpa using h
    dsimp only [aggK]
    by_cases hr : (r.all fun j => decide (j = k)) = true
    · rw [if_pos hr]
      have e : k :: r = List.replicate (r.length + 1) k := by
        rw [List.eq_replicate_iff]
        refine ⟨by simp, fun b hb => ?_⟩
        rcases List.mem_cons.1 hb with rfl | hb
        · rfl
        · simpa using List.all_eq_true.1 hr b hb
      refine ⟨_, rfl, runV [k] l, [], ?_, ⟨hl, rfl⟩, rfl⟩
      have := kv_rep (k := k) hl
      rw [List.append_nil, ← this, kv, ← e]
    · rw [if_neg hr]
      refine ⟨_, rfl, runV (k :: r) l, [], ?_, ⟨hl, rfl⟩, rfl⟩
      have em : (List.range (r.length + 1)).map (fun j => (k :: r).getD (j % (k :: r).length) .i64) = k :: r := by
        apply List.ext_getElem?
        intro i
        by_cases hi : i < r.length + 1
        · rw [List.getElem?_map, List.getElem?_range hi]
          simp only [Option.map_some]
          rw [Nat.mod_eq_of_lt (by simpa using hi), List.getD_eq_getElem?_getD, List.getElem?_eq_getElem (by simpa using hi)]; rfl
        · rw [List.getElem?_eq_none (by simpa using hi), List.getElem?_eq_none (by simpa using hi)]
      rw [List.append_nil, runV_kv hl, em]; rfl

/-- The zero of a type, as one value. -/
def zeroAv (ti : TI) : Option Av :=
  match ti.d with
  | .int k => some (.c (.lit k 0))
  | .bool => some (.c .ff)
  | .struct _ => some (.agg ti.zero)
  | .arr _ _ => some (.agg ti.zero)
  | _ => none

theorem zeroAv_sound {P : Program} {T : Tab} (hT : TabOk P T) {β : List Nat} {t : TypeId} {ti : TI} (h : look T t = some ti) {a : Av} (ha : zeroAv ti = some a) (w : World) : ∃ z, (zeroValue t).run P w = .ok z w ∧ AvR β a z := by
  obtain ⟨⟨inf, h1, h2, z, hz, hc⟩, _⟩ := hT.look h
  have hzk := TabBy.zero hT.by_ h h1
  refine ⟨z, by simp [zeroValue, typeInfo, h1, hz], ?_⟩
  unfold zeroAv at ha
  split at ha
  · rename_i k hd
    simp only [Option.some.injEq] at ha; subst ha
    rw [hd, hz] at hzk
    cases z <;> simp [zOk] at hzk
    obtain ⟨rfl, rfl⟩ := hzk
    rfl
  · rename_i hd
    simp only [Option.some.injEq] at ha; subst ha
    rw [hd, hz] at hzk
    cases z <;> simp [zOk] at hzk
    subst hzk
    rfl
  · rename_i fs hd
    simp only [Option.some.injEq] at ha; subst ha
    rw [hd, hz] at hzk
    cases z <;> simp [zOk] at hzk
    exact ⟨_, rfl, hc β⟩
  · rename_i n e hd
    simp only [Option.some.injEq] at ha; subst ha
    rw [hd, hz] at hzk
    cases z <;> simp [zOk] at hzk
    exact ⟨_, rfl, hc β⟩
  · cases ha

/-- What a type assertion yields. -/
def taR (ti : TI) (hit ok : Bool) (x : Av) : Option (Prop × LV) :=
  match hit, ok with
  | true, true => some (True, .tup [x, .c .tt])
  | true, false => some (True, .a x)
  | false, true => (zeroAv ti).map fun z => (True, .tup [z, .c .ff])
  | false, false => none

/-- A type assertion, to a type that is no interface, of a value of which the type is known. -/
def evTA (T : Tab) (x : LV) (t : TypeId) (ok : Bool) : Option (Prop × LV) :=
  match look T t with
  | some ti => if concT T t = true then match x with
    | .a (.c (.ifi u k n)) => taR ti (decide (u = t)) ok (.c (k.cel n))
    | .a (.c (.ifr u ks l)) => taR ti (decide (u = t)) ok (aggK ks l)
    | .a (.c (.val (.iface u (.int k n)))) => taR ti (decide (u = t)) ok (.c (.lit k n))
    | _ => none
    else none
  | none => none

theorem evTA_sound {P : Program} {T : Tab} (hT : TabOk P T) {β : List Nat} {x : LV} {xv : Value} {xt t : TypeId} {ok : Bool} {p : Prop} {r : LV} (w : World)
    (hx : LVR β x xv) (he : evTA T x t ok = some (p, r)) : ∃ v, (Instr.typeAssert xv xt t ok).run P w = .ok v w ∧ LVR β r v := by
  unfold evTA at he
  split at he
  · rename_i ti hti
    split at he
    · rename_i hc
      have hu : ∃ u, P.underlying t = some u ∧ ∀ ms, u ≠ .interface ms := by
        obtain ⟨_, h2⟩ := hT.look hti
        unfold concT at hc
        rw [hti] at hc
        simp only at hc
        cases hd : ti.d <;> rw [hd] at hc h2 <;> simp only [Bool.false_eq_true] at hc h2 <;>
          first
            | exact ⟨_, h2, fun ms e => by cases e⟩
            | (obtain ⟨e, h2⟩ := h2; exact ⟨_, h2, fun ms e => by cases e⟩)
            | (obtain ⟨e, h2, _⟩ := h2; exact ⟨_, h2, fun ms e => by cases e⟩)
            | (obtain ⟨_, _, _, h2⟩ := h2; exact ⟨_, h2, fun ms e => by cases e⟩)
      obtain ⟨u, hu, hni⟩ := hu
      have key : ∀ {s : TypeId} {a : Av} {v : Value}, xv = .iface s v → AvR β a v → taR ti (decide (s = t)) ok a = some (p, r) → ∃ z, (Instr.typeAssert xv xt t ok).run P w = .ok z w ∧ LVR β r z := by
        intro s a v e hv hr
        subst e
        by_cases hs : s = t
        · subst hs
          have hrun : (Instr.typeAssert (.iface s v) xt s ok).run P w = .ok (if ok then .tuple #[v, .bool true] else v) w := by
            cases u <;> first | exact absurd rfl (hni _) | (simp [Instr.typeAssert, underlying, hu])
          rw [decide_eq_true rfl] at hr
          cases ok with
          | true =>
            simp only [taR, Option.some.injEq, Prod.mk.injEq] at hr
            obtain ⟨_, rfl⟩ := hr
            exact ⟨_, hrun, _, rfl, v, [.bool true], rfl, hv, .bool true, [], rfl, rfl, rfl⟩
          | false =>
            simp only [taR, Option.some.injEq, Prod.mk.injEq] at hr
            obtain ⟨_, rfl⟩ := hr
            exact ⟨_, hrun, hv⟩
        · rw [decide_eq_false hs] at hr
          cases ok with
          | true =>
            simp only [taR] at hr
            obtain ⟨z, hz, hr⟩ := Option.map_eq_some_iff.1 hr
            simp only [Prod.mk.injEq] at hr
            obtain ⟨_, rfl⟩ := hr
            obtain ⟨zv, h1, h2⟩ := zeroAv_sound (β := β) hT hti hz w
            have hrun : (Instr.typeAssert (.iface s v) xt t true).run P w = .ok (.tuple #[zv, .bool false]) w := by
              cases u <;> first | exact absurd rfl (hni _) | (simp [Instr.typeAssert, underlying, hu, hs, h1])
            exact ⟨_, hrun, _, rfl, zv, [.bool false], rfl, h2, .bool false, [], rfl, rfl, rfl⟩
          | false => simp [taR] at hr
      split at he
      · rename_i u' k n
        exact key (a := .c (k.cel n)) hx (EK.cel_R β k n) he
      · exact key hx.2 (aggK_R hx.1) he
      · rename_i u' k n
        exact key (a := .c (.lit k n)) (v := .int k n) hx rfl he
      · simp at he
    · simp at he
  · simp at he

/-- An interface value that has been made is compared with nil. -/
def evIfN (T : Tab) (op : BinOp) (t : TypeId) (x y : LV) : Option (Prop × LV) :=
  match look T t with
  | some ti => match ti.d, x, y with
    | .ifc, .a (.c (.ifi _ _ _)), .a (.c (.val .nilIface)) => match op with
      | .eql => some (True, .a (.c .ff))
      | .neq => some (True, .a (.c .tt))
      | _ => none
    | .ifc, .a (.c (.ifr _ _ _)), .a (.c (.val .nilIface)) => match op with
      | .eql => some (True, .a (.c .ff))
      | .neq => some (True, .a (.c .tt))
      | _ => none
    | _, _, _ => none
  | none => none

theorem evIfN_sound {P : Program} {T : Tab} (hT : TabOk P T) {β : List Nat} {op : BinOp} {t : TypeId} {x y : LV} {xv yv : Value} {xo yo : Operand} {p : Prop} {r : LV} (w : World)
    (hx : LVR β x xv) (hy : LVR β y yv) (he : evIfN T op t x y = some (p, r)) :
    ∃ v, (do eqGuard op t xo yo xv yv; binOp op t xv yv : Sem Value).run P w = .ok v w ∧ LVR β r v := by
  unfold evIfN at he
  split at he
  · rename_i ti hti
    obtain ⟨_, h2⟩ := hT.look hti
    split at he
    · rename_i ht k n hd
      rw [hd] at h2
      obtain ⟨ms, h2⟩ := h2
      have hx : xv = _ := hx
      have hy : yv = _ := hy
      subst hx; subst hy
      have hb : ifcEq (isK xo || isK yo) (.iface ht (k.val n)) .nilIface = some false := rfl
      have e := ifcEq_bin h2 hb w
      have g := fun o => ifcEq_guard (P := P) o t xo yo hb w
      split at he <;> simp only [Option.some.injEq, Prod.mk.injEq, reduceCtorEq] at he
      · obtain ⟨_, rfl⟩ := he
        exact ⟨_, by simp only [Sem.run_bind, g, Result.andThen_ok]; exact e.1, rfl⟩
      · obtain ⟨_, rfl⟩ := he
        exact ⟨_, by simp only [Sem.run_bind, g, Result.andThen_ok]; exact e.2, rfl⟩
    · rename_i ht ks l hd
      rw [hd] at h2
      obtain ⟨ms, h2⟩ := h2
      have hx : xv = _ := hx.2
      have hy : yv = _ := hy
      subst hx; subst hy
      have hb : ifcEq (isK xo || isK yo) (.iface ht (keyV ks l)) .nilIface = some false := rfl
      have e := ifcEq_bin h2 hb w
      have g := fun o => ifcEq_guard (P := P) o t xo yo hb w
      split at he <;> simp only [Option.some.injEq, Prod.mk.injEq, reduceCtorEq] at he
      · obtain ⟨_, rfl⟩ := he
        exact ⟨_, by simp only [Sem.run_bind, g, Result.andThen_ok]; exact e.1, rfl⟩
      · obtain ⟨_, rfl⟩ := he
        exact ⟨_, by simp only [Sem.run_bind, g, Result.andThen_ok]; exact e.2, rfl⟩
    · simp at he
  · simp at he

/-! ### Copies of records -/

/-- The built-in copy, between two rows of records, some cells each. -/
def evCopyS (T : Tab) (st : St) (c : Call) : Option (Prop × LV × List Blk) :=
  match c.callee, c.args.toList, c.argTypes.toList with
  | .builtin .copy, [x, y], [t, _] => match look T t, st.ev x, st.ev y with
    | some ti, .a (.c (.slc id base i s len _)), .a (.c (.slc id' base' i' s' len' _)) => match ti.d with
      | .slice e => match look T e, getB st.heap id, getB st.heap id' with
        | some te', .cells true te cs, .cells _ _ cs' => match runAt cs base, runAt cs' base' with
          | some (ks, n, l), some (ks', n', l') =>
            if s = te'.size ∧ s' = s ∧ ks.length = s ∧ ks = ks' ∧ 0 < s then
              (setRun cs base (l.take (i.toNat * s) ++ (l'.drop (i'.toNat * s)).take (min len'.toNat len.toNat * s) ++ l.drop ((i.toNat + min len'.toNat len.toNat) * s))).map fun r =>
                (0 ≤ i ∧ 0 ≤ i' ∧ (i.toNat + len.toNat) * s ≤ n ∧ (i'.toNat + len'.toNat) * s ≤ n', .a (.c (.int .i64 (min len'.toNat len.toNat : Nat))), st.heap.set id (.cells true te r))
            else none
          | _, _ => none
        | _, _, _ => none
      | _ => none
    | _, _, _ => none
  | _, _, _ => none
/-- The built-in copy. -/
def evCopy2 (T : Tab) (st : St) (c : Call) : Option (Prop × LV × List Blk) :=
  match evCopy T st c with
  | some r => some r
  | none => evCopyS T st c

theorem run_copy_rowS (P : Program) (w : World) (dT sT ty elem : TypeId) (s : Nat) (g o dLen dCap : Nat) (a : Addr) (sLen sCap : Nat) (cur : Array Value) (t : TypeId) (cs : List Value)
    (hu : P.underlying dT = some (.slice elem)) (hs : (P.info? elem).map (·.size) = some s)
    (hg : w.heap[g]? = some (.cells cur t (0, 0))) (hn : cs.length = Nat.min sLen dLen * s)
    (hsrc : ∀ j v, cs[j]? = some v → w.cell? (a.add j) = some v) (hfit : o + cs.length ≤ cur.size) (h1 : ∀ v ∈ cs, v.oneCell' = true) :
    (Builtin.copy_ #[dT, sT] ty #[.slice (some ⟨g, o, none⟩) dLen dCap, .slice (some a) sLen sCap]).run P w =
      .ok (goInt (Nat.min sLen dLen : Nat)) (w.setRow g (cur.toList.take o ++ cs ++ cur.toList.drop (o + cs.length)).toArray) := by
  have hl := run_loadCells_list (P := P) w a cs hsrc
  have hst := run_storeCells_at P g o t cs 0 cur w hg (by simpa using hfit) h1
  cases hq : P.info? elem with
  | none => simp [hq] at hs
  | some i =>
    have hi : i.size = s := by simpa [hq] using hs
    simp [Builtin.copy_, run_underlying hu, Builtin.lenOf, Builtin.firstCells, sizeOf, typeInfo, hq, hi, ← hn, hl, hst]

theorem copy_spliceS (L : List Value) (base n : Nat) (ks : List EK) (l x : List Int) (i : Nat) (hl : l.length = n) (hb : base + n ≤ L.length) (hget : ∀ j, j < n → L[base + j]? = some ((ks.getD (j % ks.length) .i64).val (l.getD j 0))) (hi : i + x.length ≤ n) (hm : i % ks.length = 0) :
    L.take (base + i) ++ runV ks x ++ L.drop (base + i + x.length) = L.take base ++ runV ks (l.take i ++ x ++ l.drop (i + x.length)) ++ L.drop (base + n) := by
  have rl : ∀ y : List Int, (runV ks y).length = y.length := fun y => by simp [runV]
  have hyl : (l.take i ++ x ++ l.drop (i + x.length)).length = n := by simp; omega
  have kk : ∀ j, (i + j) % ks.length = j % ks.length := fun j => by
    rw [Nat.add_mod, hm, Nat.zero_add, Nat.mod_mod]
  apply List.ext_getElem?
  intro q
  by_cases c1 : q < base
  · rw [List.append_assoc, List.append_assoc, List.getElem?_append_left (by rw [List.length_take]; omega), List.getElem?_append_left (by rw [List.length_take]; omega), List.getElem?_take_of_lt (by omega), List.getElem?_take_of_lt c1]
  · by_cases c2 : q < base + n
    · -- within the row
      rw [show (List.take base L ++ runV ks (List.take i l ++ x ++ List.drop (i + x.length) l) ++ List.drop (base + n) L)[q]? = (runV ks (List.take i l ++ x ++ List.drop (i + x.length) l))[q - base]? by
        rw [List.append_assoc, List.getElem?_append_right (by rw [List.length_take]; omega), List.length_take, show q - min base L.length = q - base by omega, List.getElem?_append_left (by rw [rl, hyl]; omega)]]
      rw [runV_get _ _ _ (by rw [hyl]; omega)]
      by_cases c3 : q < base + i
      · rw [List.append_assoc, List.getElem?_append_left (by rw [List.length_take]; omega), List.getElem?_take_of_lt c3]
        have h := hget (q - base) (by omega)
        rw [show base + (q - base) = q by omega] at h
        rw [h, List.append_assoc]
        congr 2
        rw [List.getD_eq_getElem?_getD, List.getD_eq_getElem?_getD, List.getElem?_append_left (by rw [List.length_take]; omega), List.getElem?_take_of_lt (by omega)]
      · by_cases c4 : q < base + i + x.length
        · rw [List.append_assoc, List.getElem?_append_right (by rw [List.length_take]; omega), List.length_take, show q - min (base + i) L.length = q - base - i by omega, List.getElem?_append_left (by rw [rl]; omega), runV_get _ _ _ (by omega)]
          have e : (q - base) % ks.length = (q - base - i) % ks.length := by
            have := kk (q - base - i)
            rwa [show i + (q - base - i) = q - base by omega] at this
          rw [e]
          congr 2
          rw [List.getD_eq_getElem?_getD, List.getD_eq_getElem?_getD, List.append_assoc, List.getElem?_append_right (by rw [List.length_take]; omega), List.length_take, show q - base - min i l.length = q - base - i by omega, List.getElem?_append_left (by omega)]
        · rw [List.append_assoc, List.getElem?_append_right (by rw [List.length_take]; omega), List.length_take, List.getElem?_append_right (by rw [rl]; omega), rl, List.getElem?_drop, show base + i + x.length + (q - min (base + i) L.length - x.length) = base + (q - base) by omega]
          rw [hget (q - base) (by omega)]
          congr 2
          rw [List.getD_eq_getElem?_getD, List.getD_eq_getElem?_getD, List.getElem?_append_right (by simp; omega), List.getElem?_drop]
          congr 2
          simp; omega
    · rw [List.getElem?_append_right (by simp [rl]; omega), List.getElem?_append_right (by simp [rl]; omega), List.getElem?_drop, List.getElem?_drop]
      congr 1
      simp [rl]; omega

theorem evCopyS_sound {P : Program} {T : Tab} (hT : TabOk P T) {n0 : Nat} {w0 : Base} {w : World} {β : List Nat} {st : St} {a : Act} (hH : HR n0 w0 β st.heap w) (hM : TmR β st.tmps a.tmps.toList) {op : Oper} {c : Call} (ho : op.op = .call c) {p : Prop} {r : LV} {H' : List Blk}
    (he : evCopyS T st c = some (p, r, H')) (hp : p) : ∃ v w', (execOp a.eval op).run P w = .ok (.value v) w' ∧ HR n0 w0 β H' w' ∧ LVR β r v := by
  unfold evCopyS at he
  split at he
  · rename_i x y t t' hc ha ht
    have ha' : c.args = #[x, y] := Array.toList_inj.1 ha
    have ht' : c.argTypes = #[t, t'] := Array.toList_inj.1 ht
    have hx := ev_sound hM x
    have hy := ev_sound hM y
    split at he
    · rename_i ti id base i s len cap id' base' i' s' len' cap' hti hxe hye
      rw [hxe] at hx; rw [hye] at hy
      obtain ⟨q1, q2, q3, hx⟩ := hx
      obtain ⟨u1, u2, u3, hy⟩ := hy
      obtain ⟨_, hu⟩ := hT.look hti
      split at he
      · rename_i e hd
        rw [hd] at hu
        split at he
        · rename_i et te cs own te' cs' het hg hg'
          split at he
          · rename_i ks n l ks' n' l' hr hr'
            split at he
            · rename_i hs
              obtain ⟨hse', rfl, hks, rfl, hs0⟩ := hs
              obtain ⟨r', hput, he⟩ := Option.map_eq_some_iff.1 he
              simp only [Prod.mk.injEq] at he
              obtain ⟨rfl, rfl, rfl⟩ := he
              obtain ⟨p1, p2, p3, p4⟩ := hp
              obtain ⟨⟨ie, hie, hse, _⟩, _⟩ := hT.look het
              obtain ⟨b1, arr, hb1, hh0, hcr⟩ := hH.get hg
              obtain ⟨b2, arr', hb2, hh0', hcr'⟩ := hH.get hg'
              obtain ⟨hl, hget⟩ := runAt_sound hcr hr
              obtain ⟨hl', hget'⟩ := runAt_sound hcr' hr'
              obtain ⟨m, hm⟩ : ∃ m, m = min len'.toNat len.toNat := ⟨_, rfl⟩
              rw [← hm] at hput ⊢
              have hm1 : m ≤ len.toNat := by omega
              have hm2 : m ≤ len'.toNat := by omega
              have ms1 : (i.toNat + m) * s' ≤ n := Nat.le_trans (Nat.mul_le_mul_right _ (by omega)) p3
              have ms2 : (i'.toNat + m) * s' ≤ n' := Nat.le_trans (Nat.mul_le_mul_right _ (by omega)) p4
              rw [Nat.add_mul] at ms1 ms2
              have szd : base + n ≤ arr.toList.length := runAt_len hcr hr
              have szs : base' + n' ≤ arr'.toList.length := runAt_len hcr' hr'
              have xl : ((l'.drop (i'.toNat * s')).take (m * s')).length = m * s' := by simp; omega
              have hxl : (l.take (i.toNat * s') ++ (l'.drop (i'.toNat * s')).take (m * s') ++ l.drop ((i.toNat + m) * s')).length = n := by
                rw [List.length_append, List.length_append, xl, List.length_take, List.length_drop, Nat.add_mul]; omega
              have g2 := setRun_sound hcr hr hxl hput
              have harr := copy_spliceS arr.toList base n ks l ((l'.drop (i'.toNat * s')).take (m * s')) (i.toNat * s') hl szd hget (by rw [xl]; omega) (by rw [hks]; exact Nat.mul_mod_left _ _)
              rw [xl, ← Nat.add_mul] at harr
              rw [← harr] at g2
              by_cases m0 : m = 0
              · have e0 : (arr.toList.take (base + i.toNat * s') ++ runV ks ((l'.drop (i'.toNat * s')).take (m * s')) ++ arr.toList.drop (base + i.toNat * s' + m * s')) = arr.toList := by
                  rw [m0]; simp [runV]
                rw [e0] at g2
                have hset : HR n0 w0 β (st.heap.set id (.cells true te r')) w := by
                  refine hH.same hg hb1 g2 hh0 ?_
                  have h1 := hcr.len
                  have h2 := g2.len
                  omega
                have hv : ∃ db dl dc sb sl sc, a.eval x = .slice db dl dc ∧ a.eval y = .slice sb sl sc ∧ Nat.min sl dl = 0 := by
                  have hmm : Nat.min len'.toNat len.toNat = 0 := by
                    have : Nat.min len'.toNat len.toNat = min len'.toNat len.toNat := rfl
                    omega
                  rcases hx with ⟨b, hb, hx⟩ | ⟨hc0, ao, hx⟩ <;> rcases hy with ⟨b', hb', hy⟩ | ⟨hc0', bo, hy⟩ <;>
                    first
                      | exact ⟨_, _, _, _, _, _, hx, hy, hmm⟩
                      | exact ⟨_, _, _, _, _, _, hx, hy, by simp [Nat.min]⟩
                obtain ⟨db, dl, dc, sb, sl, sc, e1, e2, e3⟩ := hv
                refine ⟨goInt 0, w, ?_, hset, by rw [m0]; rfl⟩
                have := run_copy_zero (w := w) (t' := t') (ty := op.type) hT hu het db sb dl dc sl sc e3
                simp [execOp, ho, resolve, hc, ha', ht', invoke, builtin, e1, e2, this]
              · rcases hx with ⟨b, hb, hx⟩ | ⟨hc0, hx⟩
                · rcases hy with ⟨b', hb', hy⟩ | ⟨hc0', hy⟩
                  · rw [hb] at hb1; simp only [Option.some.injEq] at hb1; subst hb1
                    rw [hb'] at hb2; simp only [Option.some.injEq] at hb2; subst hb2
                    have hms : 0 < m * s' := Nat.mul_pos (by omega) hs0
                    have hz : 0 < arr.size := by simp at szd; omega
                    have hz' : 0 < arr'.size := by simp at szs; omega
                    have hh := (hh0 hz).2
                    have hh' := (hh0' hz').2
                    have hsrc : ∀ j v, (runV ks ((l'.drop (i'.toNat * s')).take (m * s')))[j]? = some v → w.cell? ((⟨b', base' + i'.toNat * s', none⟩ : Addr).add j) = some v := by
                      intro j v hv
                      have hj : j < m * s' := by have := (List.getElem?_eq_some_iff.1 hv).1; simp [runV] at this; omega
                      rw [runV_get _ _ _ (by rw [xl]; exact hj)] at hv
                      rw [addr_add, cell_at hh', ← Array.getElem?_toList, ← hv]
                      have := hget' (i'.toNat * s' + j) (by omega)
                      rw [show base' + i'.toNat * s' + j = base' + (i'.toNat * s' + j) by omega, this, hks, Nat.add_mod, Nat.mul_mod_left, Nat.zero_add, Nat.mod_mod]
                      congr 2
                      rw [List.getD_eq_getElem?_getD, List.getD_eq_getElem?_getD, List.getElem?_take_of_lt hj, List.getElem?_drop]
                    have lv : (runV ks ((l'.drop (i'.toNat * s')).take (m * s'))).length = m * s' := by rw [← xl]; simp [runV]
                    have one : ∀ v ∈ runV ks ((l'.drop (i'.toNat * s')).take (m * s')), v.oneCell' = true := by
                      intro v hv; simp only [runV, List.mem_map] at hv; obtain ⟨_, _, rfl⟩ := hv; exact EK.one _ _
                    have hmin : Nat.min len'.toNat len.toNat = m := by rw [hm]
                    have := run_copy_rowS P w t t' op.type e s' b (base + i.toNat * s') len.toNat cap.toNat ⟨b', base' + i'.toNat * s', none⟩ len'.toNat cap'.toNat arr te (runV ks ((l'.drop (i'.toNat * s')).take (m * s'))) hu (by rw [hie]; simp; omega) hh (by rw [lv, hmin]) hsrc (by rw [lv]; simp at szd; omega) one
                    rw [lv, hmin] at this
                    refine ⟨goInt m, _, ?_, hH.set hg hb hcr hz hh0 (arr' := (arr.toList.take (base + i.toNat * s') ++ runV ks ((l'.drop (i'.toNat * s')).take (m * s')) ++ arr.toList.drop (base + i.toNat * s' + m * s')).toArray) (by simpa [Nat.add_mul, Nat.add_assoc] using g2), rfl⟩
                    simp [execOp, ho, resolve, hc, ha', ht', invoke, builtin, hx, hy, this]
                  · omega
                · omega
            · simp at he
          · simp at he
        · simp at he
      · simp at he
    · simp at he
  · simp at he

theorem evCopy2_sound {P : Program} {T : Tab} (hT : TabOk P T) {n0 : Nat} {w0 : Base} {w : World} {β : List Nat} {st : St} {a : Act} (hH : HR n0 w0 β st.heap w) (hM : TmR β st.tmps a.tmps.toList) {op : Oper} {c : Call} (ho : op.op = .call c) {p : Prop} {r : LV} {H' : List Blk}
    (he : evCopy2 T st c = some (p, r, H')) (hp : p) : ∃ v w', (execOp a.eval op).run P w = .ok (.value v) w' ∧ HR n0 w0 β H' w' ∧ LVR β r v := by
  unfold evCopy2 at he
  split at he
  · rename_i r' hr
    rw [he] at hr
    exact evCopy_sound hT hH hM ho hr hp
  · exact evCopyS_sound hT hH hM ho he hp



/-! ### A slice of a nest is loaded -/

/-- Behind the blocks a view is laid on the cells to which the slice leads. -/
def evNst (T : Tab) (H : List Blk) (t : TypeId) (x : LV) (pos : String) (K : LV → List Blk → Prop) : Prop :=
  match look T t with
  | some ti => match ti.d, x with
    | .slice _, .a (.c (.pti id base i st fo)) => match getB H id with
      | .nst _ (_, wh) o ks s L => (base = o ∧ st = 1 ∧ fo = 0 ∧ 0 ≤ i ∧ i.toNat < L.length) ∧ withLenP H fun m => match wh with
        | none => ∀ (n N ao : Nat) (l : List Int) (cap : Int), L[i.toNat]? = some (n, l) → l.length = N → n * s ≤ N → (n : Int) ≤ cap → K (.a (.c (.slc m ao 0 s n cap))) (H ++ [.wnd ao ks N l])
        | some u => ∀ (n N : Nat) (l : List Int) (cap : Int), L[i.toNat]? = some (n, l) → l.length = N → n * s ≤ N → (n : Int) ≤ cap → K (.a (.c (.slc m 0 0 s n cap))) (H ++ [.cells false u [.run ks N l]])
      | _ => Stuck pos
    | _, _ => Stuck pos
  | none => Stuck pos

theorem HR.pushRead {n0 : Nat} {w0 : Base} {w : World} {β : List Nat} {H : List Blk} (h : HR n0 w0 β H w) {B0 : Blk} {c0 : Nat} (ho : B0.own = false) (hi : ∀ x, ¬ B0.inn w c0 x) (hb : BlkR n0 w0 (β ++ [c0]) w H.length c0 B0)
    (hd : ¬ B0.nil → ∀ (j c : Nat) (C : Blk), H[j]? = some C → C.own = true → ¬ C.nil → β[j]? = some c → c ≠ c0) : HR n0 w0 (β ++ [c0]) (H ++ [B0]) w := by
  have cs : ∀ {i c : Nat} {B : Blk}, (H ++ [B0])[i]? = some B → (β ++ [c0])[i]? = some c → (i < H.length ∧ H[i]? = some B ∧ β[i]? = some c) ∨ (i = H.length ∧ B = B0 ∧ c = c0) := by
    intro i c B hB hc
    rcases append_one hB with hB | ⟨rfl, rfl⟩
    · have hi : i < H.length := (List.getElem?_eq_some_iff.1 hB).1
      rw [List.getElem?_append_left (by rw [h.len]; exact hi)] at hc
      exact .inl ⟨hi, hB, hc⟩
    · rw [← h.len] at hc ⊢
      simp at hc
      exact .inr ⟨rfl, rfl, hc.symm⟩
  refine ⟨h.base, by simp [h.len], ?_, h.niApp (fun _ _ => rfl) hi (fun e => by rw [ho] at e; cases e), h.ms, h.st, h.ext, ?_⟩
  · intro i j b B C hB hob hn hb1 hb2 hne hC
    rcases cs hB hb1 with ⟨_, i2, i3⟩ | ⟨_, rfl, _⟩
    · rcases cs hC hb2 with ⟨_, j2, j3⟩ | ⟨_, rfl, rfl⟩
      · exact h.nd i j b B C i2 hob hn i3 j3 hne j2
      · by_cases hcn : C.nil
        · exact hcn
        · exact absurd rfl (hd hcn i b B i2 hob hn i3)
    · rw [ho] at hob; cases hob
  · intro i B c hB hc
    rcases cs hB hc with ⟨_, i2, i3⟩ | ⟨rfl, rfl, rfl⟩
    · exact (h.blk i B c i2 i3).mono
    · exact hb

theorem evNst_sound {P : Program} {T : Tab} (hT : TabOk P T) {n0 : Nat} {w0 : Base} {w : World} {β : List Nat} {H : List Blk} (hH : HR n0 w0 β H w) {t : TypeId} {x : LV} {xv : Value} {pos : String} {K : LV → List Blk → Prop}
    (hx : LVR β x xv) (h : evNst T H t x pos K) : ∃ v γ lv H', (Instr.loadAt t xv).run P w = .ok v w ∧ K lv H' ∧ HR n0 w0 (β ++ γ) H' w ∧ LVR (β ++ γ) lv v := by
  unfold evNst at h
  split at h
  · rename_i ti hti
    split at h
    · rename_i e id base i st fo hd
      split at h
      · rename_i ow t1 wh o ks s L hg
        obtain ⟨⟨rfl, rfl, rfl, hi, hlt⟩, h⟩ := h
        have h := withLenP_sound h
        obtain ⟨b, hb, rfl⟩ := hx
        obtain ⟨b', hb', hblk⟩ := hH.getN hg
        rw [hb] at hb'; simp only [Option.some.injEq] at hb'; subst hb'
        obtain ⟨⟨n, l⟩, hL⟩ : ∃ e, L[i.toNat]? = some e := ⟨_, List.getElem?_eq_getElem hlt⟩
        obtain ⟨a, cap, h1, h2, h3, h4⟩ := hblk.2 _ _ hL
        simp only at h1 h3 h4
        have ha : ti.d.agg? = some false := by rw [hd]; rfl
        have hrun : (Instr.loadAt t (.pointer (some ⟨b, base + i.toNat * 1 + 0, none⟩))).run P w = .ok (.slice a n cap) w := by
          simp only [Instr.loadAt, Instr.sureAddr, Sem.run_bind, Sem.run_pure, Result.andThen_ok]
          rw [run_load_scalarW hT hti ha (by rw [Nat.mul_one, Nat.add_zero]; exact h1)]
        have hβ : ∀ y : Nat, (β ++ [y])[H.length]? = some y := fun y => by rw [← hH.len]; simp
        have hd' : ∀ y ao, a = some ⟨y, ao, none⟩ → 0 < l.length → ∀ (j c : Nat) (C : Blk), H[j]? = some C → C.own = true → ¬ C.nil → β[j]? = some c → c ≠ y := fun y ao e hl j c C hC ho hn hc =>
          hH.ni id b _ y (getB_nst hg) hb ⟨i.toNat, (n, l), ao, cap, hL, hl, by rw [← e]; exact h1⟩ j c C hC ho hn hc
        cases wh with
        | none =>
          simp only at h
          rcases h4 with ⟨rfl, rfl⟩ | ⟨y, ao, rfl, _, h6, _⟩
          · have n0' : n = 0 := by omega
            subst n0'
            refine ⟨_, [0], _, _, hrun, h 0 0 0 [] 0 hL rfl (by omega) (by omega), hH.pushRead rfl (fun x hx => hx.elim) ⟨rfl, fun j hj => by omega⟩ (fun hn => absurd rfl hn), ⟨by omega, by omega, by omega, .inr ⟨rfl, a, rfl⟩⟩⟩
          · refine ⟨_, [y], _, _, hrun, h n l.length ao l cap hL rfl h3 (by omega), hH.pushRead rfl (fun x hx => hx.elim) ⟨rfl, h6⟩ (fun hn => ?_), ⟨by omega, by omega, by omega, .inl ⟨y, hβ y, by simp⟩⟩⟩
            have hn : ¬ l.length = 0 := hn
            exact hd' y ao rfl (by omega)
        | some u =>
          simp only at h
          rcases h4 with ⟨rfl, rfl⟩ | ⟨y, ao, rfl, _, h6, h7⟩
          · have n0' : n = 0 := by omega
            subst n0'
            refine ⟨_, [0], _, _, hrun, h 0 0 [] 0 hL rfl (by omega) (by omega), hH.pushRead rfl (fun x hx => hx.elim) ⟨#[], ⟨[], [], rfl, ⟨rfl, rfl⟩, rfl⟩, fun hz => by simp at hz⟩ (fun hn => absurd rfl hn), ⟨by omega, by omega, by omega, .inr ⟨rfl, a, rfl⟩⟩⟩
          · obtain ⟨rfl, h8⟩ := h7 u rfl
            rcases Nat.eq_zero_or_pos l.length with hl | hl
            · have hz : l = [] := List.length_eq_zero_iff.1 hl
              subst hz
              exact ⟨_, [y], _, _, hrun, h n 0 [] cap hL rfl h3 (by omega), hH.pushRead rfl (fun x hx => hx.elim) ⟨#[], ⟨[], [], rfl, ⟨rfl, rfl⟩, rfl⟩, fun hz => by simp at hz⟩ (fun hn => absurd rfl hn), ⟨by omega, by omega, by omega, .inl ⟨y, hβ y, by simp⟩⟩⟩
            · obtain ⟨arr, g1, g2⟩ := h8 hl
              refine ⟨_, [y], _, _, hrun, h n l.length l cap hL rfl h3 (by omega), hH.pushRead rfl (fun x hx => hx.elim) ⟨arr, ⟨arr.toList, [], by simp, ⟨rfl, ?_⟩, rfl⟩, fun _ => ⟨fun e => by simp at e, g2⟩⟩ (fun _ => hd' y 0 rfl hl), ⟨by omega, by omega, by omega, .inl ⟨y, hβ y, by simp⟩⟩⟩
              apply List.ext_getElem?
              intro k
              by_cases hk : k < l.length
              · have := h6 k hk
                rw [Nat.zero_add, cell_at g2] at this
                rw [Array.getElem?_toList, this, runV_get _ _ _ hk]
              · rw [List.getElem?_eq_none (by simp; omega), List.getElem?_eq_none (by simp [runV]; omega)]
      · exact h.elim
    · exact h.elim
  · exact h.elim

/-! ### A slice of nil slices is made -/

theorem HR.pushB {n0 : Nat} {w0 : Base} {w : World} {β : List Nat} {H : List Blk} (h : HR n0 w0 β H w) {o : Obj} {B0 : Blk} (hi : ∀ x, ¬ B0.inn (w.alloc o) w.heap.size x) (hb : BlkR n0 w0 (β ++ [w.heap.size]) (w.alloc o) H.length w.heap.size B0) :
    HR n0 w0 (β ++ [w.heap.size]) (H ++ [B0]) (w.alloc o) := by
  have cs : ∀ {i c : Nat} {B : Blk}, (H ++ [B0])[i]? = some B → (β ++ [w.heap.size])[i]? = some c → (i < H.length ∧ H[i]? = some B ∧ β[i]? = some c) ∨ (i = H.length ∧ B = B0 ∧ c = w.heap.size) := by
    intro i c B hB hc
    rcases append_one hB with hB | ⟨rfl, rfl⟩
    · have hi : i < H.length := (List.getElem?_eq_some_iff.1 hB).1
      rw [List.getElem?_append_left (by rw [h.len]; exact hi)] at hc
      exact .inl ⟨hi, hB, hc⟩
    · rw [← h.len] at hc ⊢
      simp at hc
      exact .inr ⟨rfl, rfl, hc.symm⟩
  have ha : HR n0 w0 β H (w.alloc o) := h.after ((Below.refl _ w).alloc (Nat.le_refl _) o)
  refine ⟨ha.base, by simp [h.len], ?_, h.niApp (fun k hk => Below.heap_alloc w o k hk) hi (fun _ _ => Nat.le_refl _), ha.ms, ha.st, ha.ext, ?_⟩
  · intro i j b B C hB hob hn hb1 hb2 hne hC
    rcases cs hB hb1 with ⟨i1, i2, i3⟩ | ⟨i1, rfl, rfl⟩ <;> rcases cs hC hb2 with ⟨j1, j2, j3⟩ | ⟨j1, rfl, j3⟩
    · exact h.nd i j b B C i2 hob hn i3 j3 hne j2
    · have := h.lt i2 i3 hn; omega
    · by_cases hcn : C.nil
      · exact hcn
      · have := h.lt j2 j3 hcn; omega
    · omega
  · intro i B c hB hc
    rcases cs hB hc with ⟨_, i2, i3⟩ | ⟨rfl, rfl, rfl⟩
    · exact (ha.blk i B c i2 i3).mono
    · exact hb

def nilZ : List Cel → Bool
  | [.val (.slice none 0 0)] => true
  | _ => false

def evMakeN (T : Tab) (H : List Blk) (t : TypeId) (x y : LV) : Option (Prop × LV × List Blk) :=
  match look T t, asI x, asI y with
  | some ti, some (_, l, _), some (_, c, _) => match ti.d with
    | .slice e => match look T e with
      | some et => match et.d with
        | .slice e2 => match look T e2 with
          | some et2 => match flatE et2 with
            | some ks => if nilZ et.zero = true ∧ et.size = 1 then withLen H numerals fun n =>
                some (0 ≤ l ∧ l ≤ c ∧ c ≤ 9223372036854775807 ∧ (et.bytes : Int) * c ≤ 281474976710656, .a (.c (.slc n 0 0 1 l c)), H ++ [.nst true (e, some e2) 0 ks et2.size (List.replicate c.toNat (0, []))]) else none
            | none => none
          | none => none
        | _ => none
      | none => none
    | _ => none
  | _, _, _ => none

theorem evMakeN_sound {P : Program} {T : Tab} (hT : TabOk P T) {n0 : Nat} {w0 : Base} {w : World} {β : List Nat} {H H' : List Blk} (hH : HR n0 w0 β H w) {t : TypeId} {x y : LV} {xv yv : Value} {p : Prop} {r : LV}
    (hx : LVR β x xv) (hy : LVR β y yv) (he : evMakeN T H t x y = some (p, r, H')) (hp : p) : ∃ v w' γ, (Instr.makeSlice t xv yv).run P w = .ok v w' ∧ HR n0 w0 (β ++ γ) H' w' ∧ LVR (β ++ γ) r v := by
  unfold evMakeN at he
  split at he
  · rename_i ti kl l ll kc c lc hti hl hc
    have e1 := asI_sound hx hl
    have e2 := asI_sound hy hc
    subst e1; subst e2
    obtain ⟨_, hu⟩ := hT.look hti
    split at he
    · rename_i e hd
      rw [hd] at hu
      split at he
      · rename_i et het
        obtain ⟨⟨inf, h1, h2, z, hz, hzc⟩, _⟩ := hT.look het
        have hby := TabBy.look hT.by_ het h1
        split at he
        · rename_i e2 hd2
          split at he
          · rename_i et2 het2
            split at he
            · rename_i ks hk
              split at he
              · rename_i hnz
                obtain ⟨hnz, het1⟩ := hnz
                have he := withLen_sound he
                simp only [Option.some.injEq, Prod.mk.injEq] at he
                obtain ⟨rfl, rfl, rfl⟩ := he
                obtain ⟨p1, p2, p3, p4⟩ := hp
                have hr := run_make (P := P) w t e inf z hu h1 hz kl kc l c p1 p2 (by rw [hby]; exact p4) p3
                have hzz : z.cells.toList = [.slice none 0 0] := by
                  have := hzc []
                  unfold nilZ at hnz
                  split at hnz
                  · rename_i hze
                    rw [hze] at this
                    obtain ⟨pre, rest, e1, ⟨v, rfl, hv⟩, hrest⟩ := this
                    have hv : v = .slice none 0 0 := hv
                    have hrest : rest = [] := hrest
                    rw [e1, hv, hrest]; rfl
                  · cases hnz
                have hzs : z.cells.size = 1 := by rw [← Array.length_toList, hzz]; rfl
                have hsz : inf.size = 1 := by rw [h2, het1]
                have hget : ∀ j, j < c.toNat → (madeCells z.cells (c.toNat * inf.size))[j]? = some (.slice none 0 0) := by
                  intro j hj
                  have hz0 : z.cells = #[.slice none 0 0] := Array.toList_inj.1 hzz
                  unfold madeCells
                  rw [Array.getElem?_map, Array.getElem?_range, if_pos (by rw [hsz]; omega), hz0]
                  simp [Nat.mod_one]
                refine ⟨_, _, [w.heap.size], hr, hH.pushB ?_ ⟨fun h0 _ => ⟨hH.base, rfl, madeCells z.cells (c.toNat * inf.size), ?_, Array.getElem?_push_size⟩, fun j ej hej => ?_⟩, ⟨by omega, by omega, by omega, .inl ⟨w.heap.size, by rw [← hH.len]; simp, by simp⟩⟩⟩
                · rintro x ⟨j, ej, ao, cap, hej, hn, _⟩
                  rw [List.getElem?_replicate] at hej
                  split at hej
                  · simp only [Option.some.injEq] at hej; subst hej; simp at hn
                  · simp at hej
                · simp [madeCells, hsz]
                · rw [List.getElem?_replicate] at hej
                  split at hej
                  · rename_i hj
                    simp only [Option.some.injEq] at hej; subst hej
                    refine ⟨none, 0, ?_, Nat.le_refl _, by simp, .inl ⟨rfl, rfl⟩⟩
                    rw [Nat.zero_add]
                    rw [cell_at (arr := madeCells z.cells (c.toNat * inf.size)) (t := e) (fr := (0, 0)) Array.getElem?_push_size]
                    exact hget j hj
                  · simp at hej
              · simp at he
            · simp at he
          · simp at he
        · simp at he
      · simp at he
    · simp at he
  · simp at he

/-! ### A slice is put into a nest -/

/-- What a name names may be read only from now on. -/
theorem HR.disown {n0 : Nat} {w0 : Base} {w : World} {β : List Nat} {H : List Blk} (h : HR n0 w0 β H w) {id : Nat} {t : TypeId} {cs : List Cel} (hg : H[id]? = some (.cells true t cs)) : HR n0 w0 β (H.set id (.cells false t cs)) w := by
  have hlt : id < H.length := (List.getElem?_eq_some_iff.1 hg).1
  have old : ∀ {i : Nat} {B : Blk}, (H.set id (.cells false t cs))[i]? = some B → (i = id ∧ B = .cells false t cs) ∨ (i ≠ id ∧ H[i]? = some B) := by
    intro i B hB
    rw [List.getElem?_set] at hB
    by_cases hi : id = i
    · subst hi
      simp only [hlt, if_true, Option.some.injEq] at hB
      exact .inl ⟨rfl, hB.symm⟩
    · rw [if_neg hi] at hB; exact .inr ⟨fun e => hi e.symm, hB⟩
  refine ⟨h.base, by simp [h.len], ?_, h.niStep (fun i b B x hB hb hx => ?_) (fun j c C hC ho hn hc => ?_), h.ms, h.st, h.ext, ?_⟩
  · intro i j b B C hB ho hn hb hb' hne hC
    rcases old hB with ⟨_, rfl⟩ | ⟨i1, i2⟩
    · simp [Blk.own] at ho
    · rcases old hC with ⟨rfl, rfl⟩ | ⟨j1, j2⟩
      · exact (show (Blk.cells true t cs).nil from h.nd i _ b B _ i2 ho hn hb hb' hne hg)
      · exact h.nd i j b B C i2 ho hn hb hb' hne j2
  · rcases old hB with ⟨_, rfl⟩ | ⟨i1, i2⟩
    · exact hx.elim
    · exact ⟨i, B, i2, hb, hx⟩
  · rcases old hC with ⟨_, rfl⟩ | ⟨i1, i2⟩
    · simp [Blk.own] at ho
    · exact .inr ⟨j, C, i2, ho, hn, hc⟩
  · intro i B b hB hb
    rcases old hB with ⟨rfl, rfl⟩ | ⟨i1, i2⟩
    · obtain ⟨arr, h1, h2⟩ := h.blk i _ b hg hb
      exact ⟨arr, h1, fun hz => ⟨fun e => by simp at e, (h2 hz).2⟩⟩
    · exact h.blk i B b i2 hb

/-- One slice of an own nest is another one from now on. -/
theorem HR.setN {n0 : Nat} {w0 : Base} {w : World} {β : List Nat} {H : List Blk} (h : HR n0 w0 β H w) {id b : Nat} {t : TypeId × Option TypeId} {o : Nat} {ks : List EK} {s : Nat} {L : List (Nat × List Int)} (hg : getB H id = .nst true t o ks s L) (hb : β[id]? = some b)
    {arr : Array Value} (hh : w.heap[b]? = some (.cells arr t.1 (0, 0))) {k n cap : Nat} {l : List Int} {a : Option Addr} (hk : k < L.length) (hn : n ≤ cap) (hl : n * s ≤ l.length)
    (hc : (cap = 0 ∧ l = []) ∨ ∃ x ao, a = some ⟨x, ao, none⟩ ∧ (0 < l.length → n0 ≤ x ∧ x ≠ b ∧ ∀ (j c : Nat) (C : Blk), H[j]? = some C → C.own = true → ¬ C.nil → β[j]? = some c → c ≠ x) ∧ (∀ k, k < l.length → w.cell? ⟨x, ao + k, none⟩ = some ((ks.getD (k % ks.length) .i64).val (l.getD k 0))) ∧
      ∀ u, t.2 = some u → ao = 0 ∧ (0 < l.length → ∃ arr : Array Value, arr.size = l.length ∧ w.heap[x]? = some (.cells arr u (0, 0)))) :
    HR n0 w0 β (H.set id (.nst true t o ks s (L.set k (n, l)))) (w.setRow b (arr.toList.set k (.slice a n cap)).toArray) := by
  have hg' := getB_nst hg
  obtain ⟨hblk1, hblk2⟩ := h.blk id _ b hg' hb
  obtain ⟨hbn, rfl, arr', hsz, hh'⟩ := hblk1 (by omega) rfl
  rw [hh] at hh'
  simp only [Option.some.injEq, Obj.cells.injEq] at hh'
  obtain ⟨rfl, _⟩ := hh'
  have hnn : ¬ (Blk.nst true t 0 ks s L).nil := fun e => by have e : L.length = 0 := e; omega
  have hlt : id < H.length := (List.getElem?_eq_some_iff.1 hg').1
  have hgr : Grow n0 w0.m w (w.setRow b (arr.toList.set k (.slice a n cap)).toArray) := ⟨below_setRow (Below.refl n0 w) hbn _, fun j o _ ho hno _ _ => by
    by_cases hj : j = b
    · subst hj; rw [hh] at ho; simp only [Option.some.injEq] at ho; exact absurd ho.symm (hno _ _ _)
    · rw [setRow_other w b j _ hj]; exact ho, fun j r ho => ⟨r, by
    by_cases hj : j = b
    · subst hj; rw [hh] at ho; simp only [Option.some.injEq, reduceCtorEq] at ho
    · rw [setRow_other w b j _ hj]; exact ho⟩⟩
  have hnew := setRow_heap w b arr (arr.toList.set k (.slice a n cap)).toArray t.1 (0, 0) hh
  have hcell : ∀ j, (w.setRow b (arr.toList.set k (.slice a n cap)).toArray).cell? ⟨b, j, none⟩ = if k = j then (if j < arr.size then some (.slice a n cap) else none) else w.cell? ⟨b, j, none⟩ := by
    intro j
    rw [cell_at hnew, cell_at hh]
    simp only [List.getElem?_toArray, List.getElem?_set, Array.length_toList, Array.getElem?_toList]
    by_cases hkj : k = j
    · subst hkj; rfl
    · rw [if_neg hkj, if_neg hkj]
  -- what the new nest leads to
  have hinn : ∀ x, (Blk.nst true t 0 ks s (L.set k (n, l))).inn (w.setRow b (arr.toList.set k (.slice a n cap)).toArray) b x → (0 < l.length ∧ ∃ ao, a = some ⟨x, ao, none⟩ ∧ ¬ (cap = 0 ∧ l = [])) ∨ (Blk.nst true t 0 ks s L).inn w b x := by
    rintro x ⟨j, e, ao, cp, hj, hpos, hcl⟩
    rw [Nat.zero_add, hcell] at hcl
    by_cases hkj : k = j
    · subst hkj
      rw [if_pos rfl] at hcl
      split at hcl
      · simp only [Option.some.injEq, Value.slice.injEq] at hcl
        obtain ⟨rfl, _, _⟩ := hcl
        rw [List.getElem?_set, if_pos rfl, if_pos hk] at hj
        simp only [Option.some.injEq] at hj
        subst hj
        exact .inl ⟨hpos, ao, rfl, fun e => by rw [e.2] at hpos; simp at hpos⟩
      · simp at hcl
    · rw [if_neg hkj] at hcl
      rw [List.getElem?_set, if_neg hkj] at hj
      exact .inr ⟨j, e, ao, cp, hj, hpos, by rw [Nat.zero_add]; exact hcl⟩
  have old : ∀ {i : Nat} {B : Blk}, (H.set id (.nst true t 0 ks s (L.set k (n, l))))[i]? = some B → (i = id ∧ B = .nst true t 0 ks s (L.set k (n, l))) ∨ (i ≠ id ∧ H[i]? = some B) := by
    intro i B hB
    rw [List.getElem?_set] at hB
    by_cases hi : id = i
    · subst hi
      simp only [hlt, if_true, Option.some.injEq] at hB
      exact .inl ⟨rfl, hB.symm⟩
    · rw [if_neg hi] at hB; exact .inr ⟨fun e => hi e.symm, hB⟩
  refine ⟨by simpa using h.base, by simp [h.len], ?_, ?_, by simpa using h.ms, h.st, h.st _ _ hgr h.ext, ?_⟩
  · intro i j c B C hB ho hn hb1 hb2 hne hC
    rcases old hB with ⟨rfl, rfl⟩ | ⟨i1, i2⟩
    · rcases old hC with ⟨rfl, rfl⟩ | ⟨j1, j2⟩
      · exact absurd rfl hne
      · exact h.nd i j c _ C hg' rfl hnn hb1 hb2 hne j2
    · rcases old hC with ⟨rfl, rfl⟩ | ⟨j1, j2⟩
      · exact absurd (h.nd i j c B _ i2 ho hn hb1 hb2 hne hg') hnn
      · exact h.nd i j c B C i2 ho hn hb1 hb2 hne j2
  · intro i c B x hB hc1 hx j d C hC ho hnC hd
    have hC' : ∃ C', H[j]? = some C' ∧ C'.own = true ∧ ¬ C'.nil := by
      rcases old hC with ⟨rfl, rfl⟩ | ⟨j1, j2⟩
      · exact ⟨_, hg', rfl, hnn⟩
      · exact ⟨C, j2, ho, hnC⟩
    obtain ⟨C', k1, k2, k3⟩ := hC'
    rcases old hB with ⟨rfl, rfl⟩ | ⟨i1, i2⟩
    · rw [hb] at hc1; simp only [Option.some.injEq] at hc1; subst hc1
      rcases hinn x hx with ⟨hpos, ao, rfl, hnc⟩ | hx
      · rcases hc with hc | ⟨x', ao', e1, e2, _⟩
        · exact absurd hc hnc
        · simp only [Option.some.injEq, Addr.mk.injEq] at e1
          obtain ⟨rfl, _, _⟩ := e1
          exact (e2 hpos).2.2 j d C' k1 k2 k3 hd
      · exact h.ni i b _ x hg' hb hx j d C' k1 k2 k3 hd
    · have hcb : c ≠ b := by
        rintro rfl
        exact Blk.inn_nil hx (h.nd id i c _ B hg' rfl hnn hb hc1 i1 i2)
      exact h.ni i c B x i2 hc1 (Blk.inn_keep (setRow_other w b c _ hcb) hx) j d C' k1 k2 k3 hd
  · intro i B c hB hc1
    rcases old hB with ⟨rfl, rfl⟩ | ⟨i1, i2⟩
    · rw [hb] at hc1; simp only [Option.some.injEq] at hc1; subst hc1
      refine ⟨fun _ _ => ⟨hbn, rfl, _, by simp [hsz], hnew⟩, fun j e he => ?_⟩
      rw [List.getElem?_set] at he
      by_cases hkj : k = j
      · subst hkj
        rw [if_pos rfl, if_pos hk] at he
        simp only [Option.some.injEq] at he
        subst he
        have hka : k < arr.size := by omega
        refine ⟨a, cap, by rw [Nat.zero_add, hcell, if_pos rfl, if_pos hka], hn, hl, ?_⟩
        rcases hc with hc | ⟨x, ao, rfl, e2, e3, e4⟩
        · exact .inl hc
        · refine .inr ⟨x, ao, rfl, fun _ hp => (e2 hp).1, fun k' hk' => ?_, fun u hu => ⟨(e4 u hu).1, fun hp => ?_⟩⟩
          · rw [World.cell?_of_block (a := ⟨x, ao + k', none⟩) (setRow_other w b x _ (e2 (Nat.lt_of_le_of_lt (Nat.zero_le _) hk')).2.1)]; exact e3 k' hk'
          · obtain ⟨arr2, g1, g2⟩ := (e4 u hu).2 hp
            exact ⟨arr2, g1, (setRow_other w b x _ (e2 hp).2.1).trans g2⟩
      · rw [if_neg hkj] at he
        obtain ⟨a', cap', g1, g2, g3, g4⟩ := hblk2 j e he
        refine ⟨a', cap', by rw [Nat.zero_add, hcell, if_neg hkj]; rw [Nat.zero_add] at g1; exact g1, g2, g3, ?_⟩
        rcases g4 with g4 | ⟨x, ao, rfl, e2, e3, e4⟩
        · exact .inl g4
        · have hxb : 0 < e.2.length → x ≠ b := fun hp => h.innNe hg' hb rfl hnn hg' hb ⟨j, e, ao, cap', he, hp, g1⟩
          refine .inr ⟨x, ao, rfl, e2, fun k' hk' => ?_, fun u hu => ⟨(e4 u hu).1, fun hp => ?_⟩⟩
          · rw [World.cell?_of_block (a := ⟨x, ao + k', none⟩) (setRow_other w b x _ (hxb (Nat.lt_of_le_of_lt (Nat.zero_le _) hk')))]; exact e3 k' hk'
          · obtain ⟨arr2, g1, g2⟩ := (e4 u hu).2 hp
            exact ⟨arr2, g1, (setRow_other w b x _ (hxb hp)).trans g2⟩
    · by_cases hcb : c = b
      · subst hcb
        exact (h.blk i B c i2 hc1).any (h.nd id i c _ B hg' rfl hnn hb hc1 i1 i2)
      · exact (h.blk i B c i2 hc1).keep (setRow_other w b c _ hcb) fun x hx => setRow_other w b x _ (h.innNe hg' hb rfl hnn i2 hc1 hx)

def evStN (T : Tab) (H : List Blk) (t : TypeId) (x v : LV) : Option (Prop × LV × List Blk) :=
  match look T t with
  | some ti => match ti.d, x with
    | .slice _, .a (.c (.pti id base i st fo)) => match getB H id with
      | .nst true (t1, wh) o ks s L => match v with
        | .a (.c (.slc id2 b2 j s2 len cap)) => match getB H id2 with
          | .cells true t2 [.run ks2 N l] => if ks2 = ks ∧ s2 = s ∧ b2 = 0 ∧ (wh = none ∨ wh = some t2) ∧ id2 ≠ id then
              some (base = o ∧ st = 1 ∧ fo = 0 ∧ 0 ≤ i ∧ i.toNat < L.length ∧ j = 0 ∧ N = cap.toNat * s ∧ ti.size = 1, .a (.c (.val undef)), (H.set id2 (.cells false t2 [.run ks2 N l])).set id (.nst true (t1, wh) o ks s (L.set i.toNat (len.toNat, l)))) else none
          | _ => none
        | .a (.c (.val (.slice none 0 0))) => some (base = o ∧ st = 1 ∧ fo = 0 ∧ 0 ≤ i ∧ i.toNat < L.length ∧ ti.size = 1, .a (.c (.val undef)), H.set id (.nst true (t1, wh) o ks s (L.set i.toNat (0, []))))
        | _ => none
      | _ => none
    | _, _ => none
  | none => none

theorem evStN_sound {P : Program} {T : Tab} (hT : TabOk P T) {n0 : Nat} {w0 : Base} {w : World} {β : List Nat} {H H' : List Blk} (hH : HR n0 w0 β H w) {t : TypeId} {x v : LV} {xv vv : Value} {p : Prop} {r : LV}
    (hx : LVR β x xv) (hv : LVR β v vv) (he : evStN T H t x v = some (p, r, H')) (hp : p) :
    ∃ w', (Instr.storeAt t xv vv).run P w = .ok () w' ∧ HR n0 w0 β H' w' ∧ r = .a (.c (.val undef)) := by
  unfold evStN at he
  split at he
  · rename_i ti hti
    split at he
    · rename_i e id base i st fo hd
      obtain ⟨b, hb, rfl⟩ := hx
      split at he
      · rename_i t1 wh o ks s L hg
        have hg' := getB_nst hg
        obtain ⟨b', hb', hblk⟩ := hH.getN hg
        rw [hb] at hb'; simp only [Option.some.injEq] at hb'; subst hb'
        have st1 : ∀ {arr : Array Value} {vv : Value}, w.heap[b]? = some (.cells arr t1 (0, 0)) → ti.size = 1 → (∃ a n c, vv = .slice a n c) → i.toNat < arr.size → (Instr.storeAt t (.pointer (some ⟨b, 0 + i.toNat * 1 + 0, none⟩)) vv).run P w = .ok () (w.setRow b (arr.toList.set i.toNat vv).toArray) := by
          rintro arr vv hh hs ⟨a, n, c, rfl⟩ hi
          have hcl : (Value.slice a n c).cells = #[.slice a n c] := rfl
          simp only [Instr.storeAt, Instr.sureAddr, Sem.run_bind, Sem.run_pure, Result.andThen_ok]
          have := run_storeVar hT hti hh (off := 0 + i.toNat * 1 + 0) (v := .slice a n c) (by rw [hcl, hs]; rfl) (by rw [hcl]; simp; omega) (by rw [hcl]; simp [Value.oneCell'])
          rw [this, hcl]
          congr 3
          simp only [List.size_toArray, List.length_cons, List.length_nil, Nat.zero_add, Nat.mul_one, Nat.add_zero]
          rw [splice_one _ _ _ (by simpa using hi)]
        split at he
        · rename_i id2 b2 j s2 len cap
          split at he
          · rename_i t2 ks2 N l hg2
            split at he
            · rename_i hcd
              obtain ⟨rfl, rfl, rfl, hwh, hne⟩ := hcd
              simp only [Option.some.injEq, Prod.mk.injEq] at he
              obtain ⟨rfl, rfl, rfl⟩ := he
              obtain ⟨rfl, rfl, rfl, hi, hlt, rfl, hN, hsz⟩ := hp
              obtain ⟨hbn, rfl, arr, ha, hh⟩ := hblk.1 (by omega) rfl
              have hg2' := getB_some hg2
              obtain ⟨c, arr2, hc2, hh2, hcs⟩ := hH.get hg2
              obtain ⟨pre, rest, e1, ⟨hl, rfl⟩, e2⟩ := hcs
              have e2 : rest = [] := e2
              subst e2
              rw [List.append_nil] at e1
              have hasz : arr2.size = l.length := by rw [← Array.length_toList, e1]; simp [runV]
              obtain ⟨q1, q2, q3, hv⟩ := hv
              have hdis := hH.disown hg2'
              have hgd : getB (H.set id2 (.cells false t2 [.run ks2 N l])) id = .nst true (t1, wh) 0 ks2 s2 L := by
                have h1 : (H.set id2 (.cells false t2 [.run ks2 N l]))[id]? = some (.nst true (t1, wh) 0 ks2 s2 L) := by rw [List.getElem?_set, if_neg hne]; exact hg'
                have h2 := getB_get' h1
                exact h2
              have hlen : len.toNat * s2 ≤ l.length := by
                rw [hl, hN]; exact Nat.mul_le_mul_right _ (by omega)
              rcases hv with ⟨c', hc', rfl⟩ | ⟨rfl, ao, rfl⟩
              · rw [hc2] at hc'; simp only [Option.some.injEq] at hc'; subst hc'
                refine ⟨_, st1 hh hsz ⟨_, _, _, rfl⟩ (by omega), hdis.setN hgd hb hh hlt (by omega) hlen (.inr ⟨c, _, rfl, fun hpos => ?_, fun k hk => ?_, fun u hu => ⟨by simp, fun hpos => ?_⟩⟩), rfl⟩
                · have hz := hh2 (by omega)
                  have hnn : ¬ (Blk.cells true t2 [.run ks2 N l]).nil := fun e => by
                    have e : N + 0 = 0 := e
                    omega
                  refine ⟨hz.1 rfl, ?_, fun j' d C hC ho hn hd' => ?_⟩
                  · rintro rfl
                    have := hH.nd id2 id c _ _ hg2' rfl hnn hc2 hb (fun e => hne e.symm) hg'
                    have : L.length = 0 := this
                    omega
                  · rintro rfl
                    rw [List.getElem?_set] at hC
                    by_cases hj : id2 = j'
                    · subst hj
                      rw [if_pos rfl] at hC
                      split at hC
                      · simp only [Option.some.injEq] at hC; subst hC; simp [Blk.own] at ho
                      · simp at hC
                    · rw [if_neg hj] at hC
                      exact hn (hH.nd id2 j' d _ C hg2' rfl hnn hc2 hd' (fun e => hj e.symm) hC)
                · have hz := (hh2 (by omega)).2
                  rw [cell_at hz, ← Array.getElem?_toList, e1]
                  simp only [Int.toNat_zero, Nat.zero_mul, Nat.zero_add]
                  rw [runV_get _ _ _ hk]
                · have hz := (hh2 (by omega)).2
                  rcases hwh with hwh | hwh
                  · simp only at hu; rw [hwh] at hu; cases hu
                  · simp only at hu; rw [hwh] at hu; simp only [Option.some.injEq] at hu; subst hu
                    exact ⟨arr2, hasz, hz⟩
              · have hz : l = [] := by
                  have : l.length = 0 := by rw [hl, hN]; simp
                  exact List.length_eq_zero_iff.1 this
                have hln : len.toNat = 0 := by omega
                refine ⟨_, st1 hh hsz ⟨_, _, _, rfl⟩ (by omega), ?_, rfl⟩
                have := hdis.setN hgd hb hh hlt (n := 0) (cap := 0) (a := ao) (l := l) (Nat.le_refl _) (by simp) (.inl ⟨rfl, hz⟩)
                rw [hln]; exact this
            · simp at he
          · simp at he
        · rename_i hvv
          simp only [Option.some.injEq, Prod.mk.injEq] at he
          obtain ⟨rfl, rfl, rfl⟩ := he
          obtain ⟨rfl, rfl, rfl, hi, hlt, hsz⟩ := hp
          obtain ⟨hbn, rfl, arr, ha, hh⟩ := hblk.1 (by omega) rfl
          have hv : vv = .slice none 0 0 := hv
          subst hv
          exact ⟨_, st1 hh hsz ⟨_, _, _, rfl⟩ (by omega), hH.setN hg hb hh hlt (Nat.le_refl _) (by simp) (.inl ⟨rfl, rfl⟩), rfl⟩
        · simp at he
      · simp at he
    · simp at he
  · simp at he

/-! ### Strings: of bytes, and one behind the other -/

/-- A string of bytes. -/
def bstr (xs : List Int) : ByteArray := xs.foldl (fun r n => r.push (UInt8.ofNat n.toNat)) ByteArray.empty

def evToS (T : Tab) (H : List Blk) (s d : TypeId) (x : LV) : Option (Prop × LV) :=
  match look T s, look T d with
  | some si, some di => match si.d, di.d with
    | .slice e, .str => match look T e with
      | some et => match et.d with
        | .int .u8 => match srcOf [.u8] 1 H x with
          | some (p, _, xs) => some (p, .a (.c (.str (bstr xs))))
          | none => none
        | _ => none
      | none => none
    | _, _ => none
  | _, _ => none

theorem evToS_sound {P : Program} {T : Tab} (hT : TabOk P T) {n0 : Nat} {w0 : Base} {w : World} {β : List Nat} {H : List Blk} (hH : HR n0 w0 β H w) {s d : TypeId} {x : LV} {xv : Value} {p : Prop} {r : LV}
    (hx : LVR β x xv) (he : evToS T H s d x = some (p, r)) (hp : p) : ∃ v, (convert s d xv).run P w = .ok v w ∧ LVR β r v := by
  unfold evToS at he
  split at he
  · rename_i si di hsi hdi
    obtain ⟨_, hu⟩ := hT.look hsi
    obtain ⟨_, hv⟩ := hT.look hdi
    split at he
    · rename_i e h1 h2
      rw [h1] at hu; rw [h2] at hv
      split at he
      · rename_i et het
        obtain ⟨_, hw⟩ := hT.look het
        split at he
        · rename_i h3
          rw [h3] at hw
          split at he
          · rename_i p' n' xs hs
            simp only [Option.some.injEq, Prod.mk.injEq] at he
            obtain ⟨rfl, rfl⟩ := he
            obtain ⟨ao, sl, sc, rfl, _, _, hl, hc⟩ := srcOf_sound (ks := [.u8]) (st := 1) hH rfl hx hs hp
            rw [Nat.mul_one] at hl
            refine ⟨.string (bstr xs), ?_, rfl⟩
            rw [run_convert_bytes_string w s d e ao sl sc hu hw hv]
            by_cases h0 : 0 < sl
            · obtain ⟨a, rfl, hget⟩ := hc h0
              have hr : (loadCells a sl).run P w = .ok (xs.map (Value.int .u8)).toArray w := by
                have := run_loadCells_list (P := P) w a (runV [.u8] xs) hget
                rw [runV_one] at this
                have e1 : xs.map EK.u8.val = xs.map (Value.int .u8) := List.map_congr_left fun _ _ => rfl
                rw [e1] at this
                simpa [hl] using this
              rw [run_bytesToString w a sl sc xs hr]
              rfl
            · obtain rfl : sl = 0 := by omega
              have hx0 : xs = [] := List.eq_nil_of_length_eq_zero hl
              subst hx0
              cases ao with
              | none => simp [Conv.bytesToString, bstr, Sem.run_pure]
              | some a =>
                have hr : (loadCells a 0).run P w = .ok (([] : List Int).map (Value.int .u8)).toArray w := by
                  have := run_loadCells_list (P := P) w a [] (fun j v hj => by simp at hj)
                  simpa using this
                rw [run_bytesToString w a 0 sc [] hr]
                rfl
          · simp at he
        · simp at he
      · simp at he
    · simp at he
  · simp at he

def evCat (op : BinOp) (x y : LV) : Option (Prop × LV) :=
  match op, x, y with
  | .add, .a (.c (.str a)), .a (.c (.str b)) => some (a.size + b.size ≤ 9223372036854775807, .a (.c (.str (a ++ b))))
  | _, _, _ => none

theorem evCat_sound {P : Program} {β : List Nat} {op : BinOp} {t : TypeId} {x y : LV} {xv yv : Value} {xo yo : Operand} {p : Prop} {r : LV} (w : World)
    (hx : LVR β x xv) (hy : LVR β y yv) (he : evCat op x y = some (p, r)) (hp : p) :
    ∃ v, (do eqGuard op t xo yo xv yv; binOp op t xv yv : Sem Value).run P w = .ok v w ∧ LVR β r v := by
  unfold evCat at he
  split at he
  · rename_i a b
    simp only [Option.some.injEq, Prod.mk.injEq] at he
    obtain ⟨rfl, rfl⟩ := he
    have hx : xv = .string a := hx
    have hy : yv = .string b := hy
    subst hx hy
    refine ⟨.string (a ++ b), ?_, rfl⟩
    have hg : (eqGuard .add t xo yo (.string a) (.string b)).run P w = .ok () w := by
      unfold eqGuard
      split <;> simp
    rw [Sem.run_bind, hg, Result.andThen_ok, binOp_string_add]
    exact run_string_add_sum w a b hp
  · simp at he



def evPure (o : Bool) (T : Tab) (st : St) : Op → Option (Prop × LV)
  | .move x => some (True, st.ev x)
  | .assign x => some (True, st.ev x)
  | .pick c x y => evPick (st.ev c) (st.ev x) (st.ev y)
  | .load t x => evLoad T st.heap t (st.ev x)
  | .nilCheck x => evNil (st.ev x)
  | .binOp op t x y _ => match evBin o op (st.ev x) (st.ev y) with
    | some r => some r
    | none => match evShr op (st.ev x) (st.ev y) with
      | some r => some r
      | none => match evBits op (st.ev x) (st.ev y) with
      | some r => some r
      | none => match evIfN T op t (st.ev x) (st.ev y) with
      | some r => some r
      | none => match evEqOp T op (isK x || isK y) t (st.ev x) (st.ev y) with
        | some r => some r
        | none => match evCat op (st.ev x) (st.ev y) with
          | some r => some r
          | none => evNilS T op t (st.ev x) (st.ev y)
  | .unOp op _ x => evUn o op (st.ev x)
  | .convert s d x => match evConv o T s d (st.ev x) with
    | some r => some r
    | none => evToS T st.heap s d (st.ev x)
  | .fieldAddr s x f => evFieldA T s (st.ev x) f
  | .field s x f => evField T s (st.ev x) f
  | .indexAddr t x i => evIdxA T t (st.ev x) (st.ev i)
  | .index t x i => evIdx T t (st.ev x) (st.ev i)
  | .extract x i => evExt (st.ev x) i
  | .build t parts => evBuild T st t parts
  | .slice t x lo hi mx => evSlice T st t x lo hi mx
  | .makeFunc f first captured => evFunc st f first captured
  | .call c => match evLen T st c with
    | some r => some r
    | none => match evLenM T st c with
      | some r => some r
      | none => evMinMax st c
  | .lookup t x i ok => evMapLook T st.heap t (st.ev x) (st.ev i) ok
  | .makeInterface t x => evMkI T t (st.ev x)
  | .typeAssert x _ t ok => evTA T (st.ev x) t ok
  | _ => none

def evMem (T : Tab) (st : St) : Op → Option (Prop × LV × List Blk)
  | .alloc t => evAlloc T st.heap t
  | .box t x => evBox st.heap t (st.ev x)
  | .store t x v => match evStore T st.heap t (st.ev x) (st.ev v) with
    | some r => some r
    | none => evStN T st.heap t (st.ev x) (st.ev v)
  | .buildSlice t len parts => evBuildS T st t len parts
  | .makeSlice t x y => match evMakeS T st.heap t (st.ev x) (st.ev y) with
    | some r => some r
    | none => evMakeN T st.heap t (st.ev x) (st.ev y)
  | .call c => evCopy2 T st c
  | .makeMap t x => evMkMap T st.heap t x
  | .mapUpdate t m k v => evMapUp T st.heap t (st.ev m) (st.ev k) (st.ev v)
  | .mapEntry t m k => evMapEnt T st.heap t (st.ev m) (st.ev k)
  | .entryStore t m s v => evEntSt T st.heap t (st.ev m) (st.ev s) (st.ev v)
  | _ => none

/-- The contracts of functions that are called plainly: of those that leave what lay there, and of others. -/
structure Ctr where
  fn : FuncId → List LV → List Blk → Option (Prop × LV)
  cp : FuncId → List LV → List Blk → (LV → List Blk → Prop) → Prop
  /-- Functions of one truth value: they return nothing if it holds, and panic with a value if not. -/
  nd : List (FuncId × Value) := []

def lookN : List (FuncId × Value) → FuncId → Option Value
  | [], _ => none
  | (f, u) :: r, g => if f = g then some u else lookN r g

/-- Where a call leads. -/
def target (T : Tab) (st : St) : Op → Option (FuncId × List LV)
  | .call c => match c.callee with
    | .invoke r n => match st.ev r with
      | .a (.c (.ifi t k z)) => (lookMt T.mth t n).map fun f => (f, .a (.c (k.cel z)) :: c.args.toList.map st.ev)
      | .a (.c (.ifr t ks l)) => (lookMt T.mth t n).map fun f => (f, .a (aggK ks l) :: c.args.toList.map st.ev)
      | _ => none
    | .value (.func f) => some (f, c.args.toList.map st.ev)
    | .value x => match st.ev x with
      | .a (.c (.fn (.func f) caps)) => some (f, c.args.toList.map st.ev ++ caps.map fun i => .a (.c (.ptr i 0)))
      | .a (.c (.fnb f id b i s l k)) => some (f, .a (.c (.slc id b i s l k)) :: c.args.toList.map st.ev)
      | .a (.c (.fna f k1 k2 x y ks n l)) => some (f, .a (.agg [.int k1 x, .int k2 y, .run ks n l]) :: c.args.toList.map st.ev)
      | _ => none
    | _ => none
  | _ => none

def evCall (T : Tab) (C : Ctr) (st : St) (op : Op) : Option (Prop × LV) :=
  match target T st op with
  | some (f, args) => C.fn f args st.heap
  | none => none

/-- What a call of yield is, by the block that stands for the loop. -/
abbrev YE := Nat → List LV → List Blk → (LV → List Blk → Prop) → Prop

def Y0 : YE := fun _ _ _ _ => Stuck "yield"

/-- How calls are met: what holds of the result and of the blocks behind it. -/
abbrev CI := YE → FuncId → List LV → List Blk → (LV → List Blk → Prop) → Prop

def FnOk (P : Program) (f : FuncId) : Prop := ∃ fn, P.funcs[f]? = some fn ∧ (fn.name == "runtime.NumGoroutine") = false ∧ fn.body.isNone = false

/-- The fence that shuts nothing out, in a round or not. -/
def Wd (r : Option Nat) : Fence := { Fence.wide with round := r }

/-- A call of yield. -/
def YldAt (P : Program) (l : Nat) (args : Array Value) (W : World) (R : Ending → World → Prop) : Prop :=
  ∃ fn tmps assign body, (Instr.yield l args).run P W = .ok (.round l fn tmps assign body) W ∧ ∀ r n, RoundIn (Wd r) n P l fn tmps assign body W R

/-- A base that says more; the loops below N are as they are. -/
structure Ext (N : Nat) (w0 w1 : Base) : Prop where
  x : ∀ u, w1.X u → w0.X u
  r : ∀ i, i < N → w1.R i = w0.R i

theorem Ext.refl (N : Nat) (w0 : Base) : Ext N w0 w0 := ⟨fun _ h => h, fun _ _ => rfl⟩
theorem Ext.trans {N : Nat} {a b c : Base} (h : Ext N a b) (k : Ext N b c) : Ext N a c := ⟨fun u h' => h.x u (k.x u h'), fun i hi => (k.r i hi).trans (h.r i hi)⟩
theorem Ext.le {N M : Nat} {a b : Base} (h : Ext N a b) (hm : M ≤ N) : Ext M a b := ⟨h.x, fun i hi => h.r i (by omega)⟩

theorem GOk.ext {T : Tab} {N : Nat} {w0 w1 : Base} (h : GOk T w0) (he : Ext N w0 w1) : GOk T w1 := fun g v hg u hu => h g v hg u (he.x u hu)

/-- The rounds of the loops that run; B: where the blocks lie that there were when the last one of them was entered. -/
def YOk (P : Program) (n0 : Nat) (w0 : Base) (B : List Nat) (Y : YE) : Prop := ∀ w1, Ext B.length w0 w1 → ∀ id args H K, Y id args H K →
  ∀ β W (vals : Array Value) (l : Nat), B <+: β → HR n0 w1 β H W → TmR β args vals.toList → β[id]? = some l →
    YldAt P l vals W fun e W' => ∃ v γ lv H', e = .returned v ∧ K lv H' ∧ HR n0 w1 (β ++ γ) H' W' ∧ LVR (β ++ γ) lv v

theorem YOk.none (P : Program) (n0 : Nat) (w0 : Base) (B : List Nat) : YOk P n0 w0 B Y0 := fun _ _ _ _ _ _ h => h.elim
theorem YOk.ext {P : Program} {n0 : Nat} {w0 w1 : Base} {B : List Nat} {Y : YE} (h : YOk P n0 w0 B Y) (he : Ext B.length w0 w1) : YOk P n0 w1 B Y := fun w2 h2 => h w2 (he.trans h2)

theorem pre_append {B β γ : List Nat} (h : B <+: β) : B <+: β ++ γ := h.trans (List.prefix_append _ _)

def NdOk (P : Program) : List (FuncId × Value) → Prop
  | [] => True
  | (f, u) :: r => (FnOk P f ∧ ∀ (b : Bool) (w : World), Calls P f #[.bool b] w fun e w' => Below w.heap.size w w' ∧ (b = true → e = .returned (.tuple #[])) ∧ (b = false → e = .panicked [{ v := u, recovered := false }])) ∧ NdOk P r

theorem NdOk.look {P : Program} : ∀ {L : List (FuncId × Value)} {f : FuncId} {u : Value}, NdOk P L → lookN L f = some u → FnOk P f ∧ ∀ (b : Bool) (w : World), Calls P f #[.bool b] w fun e w' => Below w.heap.size w w' ∧ (b = true → e = .returned (.tuple #[])) ∧ (b = false → e = .panicked [{ v := u, recovered := false }])
  | [], _, _, _, h => by simp [lookN] at h
  | (g, v) :: r, f, u, ⟨h1, h2⟩, h => by
    unfold lookN at h
    split at h
    · rename_i e
      subst e
      simp only [Option.some.injEq] at h
      subst h
      exact h1
    · exact NdOk.look h2 h

/-- The contracts that the executor uses. -/
def CtrOk (P : Program) (T : Tab) (C : Ctr) : Prop := (∀ f args H p r, C.fn f args H = some (p, r) → p → FnOk P f ∧
  ∀ n0 w0 β w (vals : Array Value), GOk T w0 → HR n0 w0 β H w → TmR β args vals.toList →
    Calls P f vals w fun e w' => ∃ v, e = .returned v ∧ LVR β r v ∧ Below w.heap.size w w') ∧
  (∀ f args H K, C.cp f args H K → FnOk P f ∧ ∀ n0 w0 β w (vals : Array Value), GOk T w0 → HR n0 w0 β H w → TmR β args vals.toList →
    Calls P f vals w fun e w' => ∃ v γ lv H', e = .returned v ∧ K lv H' ∧ HR n0 w0 (β ++ γ) H' w' ∧ LVR (β ++ γ) lv v) ∧ NdOk P C.nd

def CIOk (P : Program) (T : Tab) (I : CI) : Prop := ∀ Y f args H K, I Y f args H K → FnOk P f ∧
  ∀ n0 w0 B β w (vals : Array Value), GOk T w0 → YOk P n0 w0 B Y → B <+: β → HR n0 w0 β H w → TmR β args vals.toList →
    Calls P f vals w fun e w' => ∃ v γ lv H', e = .returned v ∧ K lv H' ∧ HR n0 w0 (β ++ γ) H' w' ∧ LVR (β ++ γ) lv v

def ciOf (C : Ctr) : CI := fun _ f args H K =>
  match C.fn f args H with
  | some (p, r) => p ∧ K r H
  | none => C.cp f args H K

theorem ciOf_ok {P : Program} {T : Tab} {C : Ctr} (h : CtrOk P T C) : CIOk P T (ciOf C) := by
  intro Y f args H K hc
  unfold ciOf at hc
  split at hc
  · rename_i p r he
    obtain ⟨hf, hcall⟩ := h.1 f args H p r he hc.1
    refine ⟨hf, fun n0 w0 B β w vals hG _ _ hH hA => (hcall n0 w0 β w vals hG hH hA).mono ?_⟩
    rintro e w' ⟨v, rfl, h1, h2⟩
    exact ⟨v, [], r, H, rfl, hc.2, by simpa using hH.after h2, by simpa using h1⟩
  · obtain ⟨hf, hcall⟩ := h.2.1 f args H K hc
    exact ⟨hf, fun n0 w0 B β w vals hG _ _ hH hA => hcall n0 w0 β w vals hG hH hA⟩

theorem evPure_sound {P : Program} {T : Tab} (hT : TabOk P T) {n0 : Nat} {w0 : Base} (hG : GOk T w0) {w : World} {β : List Nat} {st : St} {a : Act} (hH : HR n0 w0 β st.heap w) (hM : TmR β st.tmps a.tmps.toList)
    {o : Bool} {op : Oper} {p : Prop} {r : LV} (he : evPure o T st op.op = some (p, r)) (hp : p) : ∃ v, (execOp a.eval op).run P w = .ok (.value v) w ∧ LVR β r v := by
  have E := fun x => ev_sound hM x
  unfold evPure at he
  split at he
  · rename_i x ho
    simp only [Option.some.injEq, Prod.mk.injEq] at he
    obtain ⟨_, rfl⟩ := he
    exact ⟨a.eval x, by simp [execOp, ho], E x⟩
  · rename_i x ho
    simp only [Option.some.injEq, Prod.mk.injEq] at he
    obtain ⟨_, rfl⟩ := he
    exact ⟨a.eval x, by simp [execOp, ho], E x⟩
  · rename_i c x y ho
    unfold evPick at he
    have hc := E c
    split at he
    · rename_i hce
      simp only [Option.some.injEq, Prod.mk.injEq] at he
      obtain ⟨_, rfl⟩ := he
      rw [hce] at hc
      have hc : a.eval c = .bool true := hc
      exact ⟨a.eval x, by simp [execOp, ho, hc, asBool], E x⟩
    · rename_i hce
      simp only [Option.some.injEq, Prod.mk.injEq] at he
      obtain ⟨_, rfl⟩ := he
      rw [hce] at hc
      have hc : a.eval c = .bool false := hc
      exact ⟨a.eval y, by simp [execOp, ho, hc, asBool], E y⟩
    · rename_i b hce
      rw [hce] at hc
      have hc : a.eval c = .bool b := hc
      split at he
      · rename_i q q' hq hq'
        simp only [Option.some.injEq, Prod.mk.injEq] at he
        obtain ⟨_, rfl⟩ := he
        have e1 := asB_sound (E x) hq
        have e2 := asB_sound (E y) hq'
        refine ⟨_, by simp [execOp, ho, hc, asBool]; rfl, ?_⟩
        cases b <;> simp [e1, e2, LVR, AvR, CelR]
      · simp at he
    · simp at he
  · rename_i t x ho
    obtain ⟨v, h1, h2⟩ := evLoad_sound hT hG hH (E x) he hp
    exact ⟨v, by simp [execOp, ho, h1], h2⟩
  · rename_i x ho
    unfold evNil at he
    have hx := E x
    split at he <;> simp only [Option.some.injEq, Prod.mk.injEq, reduceCtorEq] at he
    · rename_i hxe
      obtain ⟨_, rfl⟩ := he
      rw [hxe] at hx
      have hx' := hx
      obtain ⟨b, _, hb⟩ := hx
      exact ⟨a.eval x, by simp [execOp, ho, hb], hx'⟩
    · rename_i hxe
      obtain ⟨_, rfl⟩ := he
      rw [hxe] at hx
      have hx' := hx
      obtain ⟨b, _, hb⟩ := hx
      exact ⟨a.eval x, by simp [execOp, ho, hb], hx'⟩
    · rename_i hxe
      obtain ⟨_, rfl⟩ := he
      rw [hxe] at hx
      have hx' := hx
      obtain ⟨b, _, hb⟩ := hx
      exact ⟨a.eval x, by simp [execOp, ho, hb], hx'⟩
    · rename_i hxe
      obtain ⟨_, rfl⟩ := he
      rw [hxe] at hx
      have hb : a.eval x = _ := hx
      exact ⟨a.eval x, by simp [execOp, ho, hb], hx⟩
    · rename_i hxe
      obtain ⟨_, rfl⟩ := he
      rw [hxe] at hx
      have hb : a.eval x = _ := hx.2
      exact ⟨a.eval x, by simp [execOp, ho, hb], hx⟩
  · rename_i op' t x y yt ho
    split at he
    · rename_i r' hr'
      simp only [Option.some.injEq] at he; subst he
      obtain ⟨v, h1, h2⟩ := evBin_sound (P := P) (t := t) (xo := x) (yo := y) w (E x) (E y) hr' hp
      exact ⟨v, by simp only [execOp, ho, Sem.run_bind, h1, Result.andThen_ok, Sem.run_pure], h2⟩
    · split at he
      · rename_i r' hr'
        simp only [Option.some.injEq] at he; subst he
        obtain ⟨v, h1, h2⟩ := evShr_sound (P := P) (t := t) (xo := x) (yo := y) w (E x) (E y) hr'
        exact ⟨v, by simp only [execOp, ho, Sem.run_bind, h1, Result.andThen_ok, Sem.run_pure], h2⟩
      split at he
      · rename_i r' hr'
        simp only [Option.some.injEq] at he; subst he
        obtain ⟨v, h1, h2⟩ := evBits_sound (P := P) (t := t) (xo := x) (yo := y) w (E x) (E y) hr' hp
        exact ⟨v, by simp only [execOp, ho, Sem.run_bind, h1, Result.andThen_ok, Sem.run_pure], h2⟩
      split at he
      · rename_i r' hr'
        simp only [Option.some.injEq] at he; subst he
        obtain ⟨v, h1, h2⟩ := evIfN_sound hT (t := t) (xo := x) (yo := y) w (E x) (E y) hr'
        exact ⟨v, by simp only [execOp, ho, Sem.run_bind, h1, Result.andThen_ok, Sem.run_pure], h2⟩
      · split at he
        · rename_i r' hr'
          simp only [Option.some.injEq] at he; subst he
          obtain ⟨v, h1, h2⟩ := evEqOp_sound hT (t := t) (xo := x) (yo := y) w (E x) (E y) hr'
          exact ⟨v, by simp only [execOp, ho, Sem.run_bind, h1, Result.andThen_ok, Sem.run_pure], h2⟩
        split at he
        · rename_i r' hr'
          simp only [Option.some.injEq] at he; subst he
          obtain ⟨v, h1, h2⟩ := evCat_sound (P := P) (t := t) (xo := x) (yo := y) w (E x) (E y) hr' hp
          exact ⟨v, by simp only [execOp, ho, Sem.run_bind, h1, Result.andThen_ok, Sem.run_pure], h2⟩
        · obtain ⟨v, h1, h2⟩ := evNilS_sound hT (t := t) (xo := x) (yo := y) w (E x) (E y) he hp
          exact ⟨v, by simp only [execOp, ho, Sem.run_bind, h1, Result.andThen_ok, Sem.run_pure], h2⟩
  · rename_i op' t x ho
    obtain ⟨v, h1, h2⟩ := evUn_sound (P := P) w (E x) he hp
    exact ⟨v, by simp [execOp, ho, h1], h2⟩
  · rename_i s d x ho
    split at he
    · rename_i r' hr'
      simp only [Option.some.injEq] at he; subst he
      obtain ⟨v, h1, h2⟩ := evConv_sound hT w (E x) hr' hp
      exact ⟨v, by simp [execOp, ho, h1], h2⟩
    · obtain ⟨v, h1, h2⟩ := evToS_sound hT hH (E x) he hp
      exact ⟨v, by simp [execOp, ho, h1], h2⟩
  · rename_i s x f ho
    obtain ⟨v, h1, h2⟩ := evFieldA_sound hT w (E x) he
    exact ⟨v, by simp [execOp, ho, h1], h2⟩
  · rename_i s x f ho
    obtain ⟨v, h1, h2⟩ := evField_sound hT w (E x) he
    exact ⟨v, by simp [execOp, ho, h1], h2⟩
  · rename_i t x i ho
    obtain ⟨v, h1, h2⟩ := evIdxA_sound hT w (E x) (E i) he hp
    exact ⟨v, by simp [execOp, ho, h1], h2⟩
  · rename_i t x i ho
    obtain ⟨v, h1, h2⟩ := evIdx_sound hT w (E x) (E i) he hp
    exact ⟨v, by simp [execOp, ho, h1], h2⟩
  · rename_i x i ho
    unfold evExt at he
    have hx := E x
    split at he
    · rename_i l hxe
      rw [hxe] at hx
      obtain ⟨arr, hx, hr⟩ := hx
      obtain ⟨y, hy, he⟩ := Option.map_eq_some_iff.1 he
      simp only [Prod.mk.injEq] at he
      obtain ⟨_, rfl⟩ := he
      obtain ⟨v, hv, hrv⟩ := AvsR_get hr hy
      rw [Array.getElem?_toList] at hv
      exact ⟨v, by simp [execOp, ho, hx, Instr.extract, hv], hrv⟩
    · simp at he
  · rename_i t parts ho
    obtain ⟨v, h1, h2⟩ := evBuild_sound hT hM w he
    exact ⟨v, by simp only [execOp, ho, Sem.run_bind, h1, Result.andThen_ok, Sem.run_pure], h2⟩
  · rename_i t x lo hi mx ho
    obtain ⟨v, h1, h2⟩ := evSlice_sound hT hM w he hp
    exact ⟨v, by simp only [execOp, ho, Sem.run_bind, h1, Result.andThen_ok, Sem.run_pure], h2⟩
  · rename_i f first captured ho
    obtain ⟨v, h1, h2⟩ := evFunc_sound (P := P) hM w he
    exact ⟨v, by simp only [execOp, ho, Sem.run_bind, h1, Result.andThen_ok, Sem.run_pure], h2⟩
  · rename_i c ho
    split at he
    · rename_i r' hr'
      simp only [Option.some.injEq] at he; subst he
      exact evLen_sound hT hM ho w hr'
    · split at he
      · rename_i r' hr'
        simp only [Option.some.injEq] at he; subst he
        exact evLenM_sound hT hH hM ho hr'
      · exact evMinMax_sound hM ho w he
  · rename_i t x i ok ho
    obtain ⟨v, h1, h2⟩ := evMapLook_sound hT hH (E x) (E i) he
    exact ⟨v, by simp only [execOp, ho, Sem.run_bind, h1, Result.andThen_ok, Sem.run_pure], h2⟩
  · rename_i t x ho
    obtain ⟨v, h1, h2⟩ := evMkI_sound hT w (E x) he
    exact ⟨v, by simp only [execOp, ho, Sem.run_bind, h1, Result.andThen_ok, Sem.run_pure], h2⟩
  · rename_i x xt t ok ho
    obtain ⟨v, h1, h2⟩ := evTA_sound hT (xt := xt) w (E x) he
    exact ⟨v, by simp only [execOp, ho, Sem.run_bind, h1, Result.andThen_ok, Sem.run_pure], h2⟩
  · simp at he

theorem TmR_map {β : List Nat} {st : St} {a : Act} (hM : TmR β st.tmps a.tmps.toList) : ∀ (xs : List Operand), TmR β (xs.map st.ev) (xs.map a.eval)
  | [] => rfl
  | x :: xs => ⟨_, _, rfl, ev_sound hM x, TmR_map hM xs⟩

theorem TmR.append {β : List Nat} : ∀ {as bs : List LV} {vs us : List Value}, TmR β as vs → TmR β bs us → TmR β (as ++ bs) (vs ++ us)
  | [], _, _, _, h, k => by simp only [TmR] at h; subst h; simpa using k
  | _ :: _, _, _, _, ⟨v, rest, h, h1, h2⟩, k => ⟨v, rest ++ _, by rw [h]; rfl, h1, h2.append k⟩

theorem TmR_caps {β : List Nat} : ∀ {caps bs : List Nat}, caps.mapM (fun i => β[i]?) = some bs → TmR β (caps.map fun i => .a (.c (.ptr i 0))) (bs.map fun b => Value.pointer (some ⟨b, 0, none⟩))
  | [], bs, h => by simp only [List.mapM_nil, Option.pure_def, Option.some.injEq] at h; subst h; rfl
  | c :: cs, bs, h => by
    simp only [List.mapM_cons, Option.bind_eq_bind, Option.bind_eq_some_iff, Option.pure_def, Option.some.injEq] at h
    obtain ⟨x, hx, y, hy, rfl⟩ := h
    exact ⟨_, _, rfl, ⟨x, hx, rfl⟩, TmR_caps hy⟩

/-- A call: where it leads. -/
theorem target_sound {P : Program} {T : Tab} (hT : TabOk P T) {β : List Nat} {st : St} {a : Act} (hM : TmR β st.tmps a.tmps.toList) {op : Oper} {f : FuncId} {args : List LV} (he : target T st op.op = some (f, args)) (hf : FnOk P f) :
    ∃ vals : Array Value, (∀ w, (execOp a.eval op).run P w = .ok (.enter f vals) w) ∧ TmR β args vals.toList := by
  have enter : ∀ f vals w, FnOk P f → (callFunc f vals).run P w = .ok (.enter f vals) w := by
    intro f vals w ⟨fn, h1, h2, h3⟩
    simp only [callFunc, Sem.run_bind, run_program, Result.andThen_ok, h1, h2, h3, Bool.false_eq_true, if_false, Sem.run_pure]
  unfold target at he
  split at he
  · rename_i c ho
    split at he
    · rename_i rx n hcal
      have hx := ev_sound hM rx
      have via : ∀ (t : TypeId) (v : Value) (w : World), a.eval rx = .iface t v → lookMt T.mth t n = some f → (execOp a.eval op).run P w = .ok (.enter f (#[v] ++ c.args.map a.eval)) w := by
        intro t v w hv hl
        have hm := hT.mt.look hl v w
        have e0 : (#[Value.iface t v] ++ c.args.map a.eval)[0]? = some (.iface t v) := by rw [← Array.getElem?_toList, Array.toList_append]; rfl
        have e1 : (#[Value.iface t v] ++ c.args.map a.eval).extract 1 (#[Value.iface t v] ++ c.args.map a.eval).size = c.args.map a.eval := by
          apply Array.toList_inj.1
          simp [List.extract_eq_take_drop]
          exact List.take_of_length_le (by simp)
        simp only [execOp, ho, resolve, hcal, Sem.run_bind, Sem.run_pure, Result.andThen_ok, invoke, hv, e0, e1, callMethod, run_program, hm]
        exact enter _ _ w hf
      split at he
      · rename_i t k z hxe
        obtain ⟨g, hg, e⟩ := Option.map_eq_some_iff.1 he
        simp only [Prod.mk.injEq] at e
        obtain ⟨rfl, rfl⟩ := e
        rw [hxe] at hx
        have hx : a.eval rx = _ := hx
        refine ⟨#[k.val z] ++ c.args.map a.eval, fun w => via _ _ w hx hg, ?_⟩
        exact ⟨_, c.args.toList.map a.eval, by simp, EK.cel_R _ _ _, TmR_map hM c.args.toList⟩
      · rename_i t ks l hxe
        obtain ⟨g, hg, e⟩ := Option.map_eq_some_iff.1 he
        simp only [Prod.mk.injEq] at e
        obtain ⟨rfl, rfl⟩ := e
        rw [hxe] at hx
        obtain ⟨hl, hx⟩ := hx
        refine ⟨#[keyV ks l] ++ c.args.map a.eval, fun w => via _ _ w hx hg, ?_⟩
        exact ⟨_, c.args.toList.map a.eval, by simp, aggK_R hl, TmR_map hM c.args.toList⟩
      · simp at he
    · rename_i f' hcal
      simp only [Option.some.injEq, Prod.mk.injEq] at he
      obtain ⟨rfl, rfl⟩ := he
      refine ⟨c.args.map a.eval, fun w => ?_, by simpa using TmR_map hM c.args.toList⟩
      simp [execOp, ho, resolve, hcal, Act.eval, Deferred.ofValue, invoke]
      exact enter _ _ w hf
    · rename_i x _ hcal
      have hx := ev_sound hM x
      split at he
      · rename_i f' caps hxe
        simp only [Option.some.injEq, Prod.mk.injEq] at he
        obtain ⟨rfl, rfl⟩ := he
        rw [hxe] at hx
        obtain ⟨bs, hbs, hx⟩ := hx
        refine ⟨(c.args.map a.eval) ++ (bs.map fun b => Value.pointer (some ⟨b, 0, none⟩)).toArray, fun w => ?_, ?_⟩
        · simp [execOp, ho, resolve, hcal, hx, Deferred.ofValue, invoke]
          exact enter _ _ w hf
        · simpa using (TmR_map hM c.args.toList).append (TmR_caps hbs)
      · rename_i f' id b i s l k hxe
        simp only [Option.some.injEq, Prod.mk.injEq] at he
        obtain ⟨rfl, rfl⟩ := he
        rw [hxe] at hx
        obtain ⟨y, hy, hx⟩ := hx
        refine ⟨#[y] ++ c.args.map a.eval, fun w => ?_, ?_⟩
        · simp [execOp, ho, resolve, hcal, hx, Deferred.ofValue, invoke]
          exact enter _ _ w hf
        · exact ⟨y, c.args.toList.map a.eval, by simp, hy, TmR_map hM c.args.toList⟩
      · rename_i f' k1 k2 z y ks n l hxe
        simp only [Option.some.injEq, Prod.mk.injEq] at he
        obtain ⟨rfl, rfl⟩ := he
        rw [hxe] at hx
        obtain ⟨hl, hx⟩ := hx
        refine ⟨#[.agg (.int k1 z :: .int k2 y :: runV ks l).toArray] ++ c.args.map a.eval, fun w => ?_, ?_⟩
        · simp [execOp, ho, resolve, hcal, hx, Deferred.ofValue, invoke]
          exact enter _ _ w hf
        · exact ⟨_, c.args.toList.map a.eval, by simp, agg3_sound.2 ⟨hl, rfl⟩, TmR_map hM c.args.toList⟩
      · simp at he
    · simp at he
  · simp at he

theorem evCall_sound {P : Program} {T : Tab} (hT : TabOk P T) {C : Ctr} (hC : CtrOk P T C) {β : List Nat} {st : St} {a : Act} (hM : TmR β st.tmps a.tmps.toList) {op : Oper} {p : Prop} {r : LV}
    (he : evCall T C st op.op = some (p, r)) (hp : p) : ∃ f vals, (∀ w, (execOp a.eval op).run P w = .ok (.enter f vals) w) ∧
      ∀ n0 w0 w, GOk T w0 → HR n0 w0 β st.heap w → Calls P f vals w fun e w' => ∃ v, e = .returned v ∧ LVR β r v ∧ Below w.heap.size w w' := by
  unfold evCall at he
  split at he
  · rename_i f args ht
    obtain ⟨hf, hcall⟩ := hC.1 _ _ _ _ _ he hp
    obtain ⟨vals, h1, h2⟩ := target_sound hT hM ht hf
    exact ⟨f, vals, h1, fun n0 w0 w hG hH => hcall n0 w0 β w _ hG hH h2⟩
  · simp at he

def fixC : Cel → Bool
  | .any => false
  | .slc _ _ _ _ _ _ => false
  | .fnb _ _ _ _ _ _ _ => false
  | .fna _ _ _ _ _ _ _ _ => false
  | .sp _ _ => false
  | _ => true

def fixA : Av → Bool
  | .c x => fixC x
  | .agg l => l.all fixC

def fixL : LV → Bool
  | .a x => fixA x
  | .tup l => l.all fixA

theorem CelR.uniq {β : List Nat} {c : Cel} {v u : Value} (hf : fixC c = true) (h : CelR β c v) (k : CelR β c u) : v = u := by
  cases c <;> simp only [CelR, fixC, Bool.false_eq_true] at * <;>
    first
      | (rw [h, k]; done)
      | (rw [h.2, k.2]; done)
      | (obtain ⟨b, h1, rfl⟩ := h; obtain ⟨b', k1, rfl⟩ := k; rw [h1] at k1; simp only [Option.some.injEq] at k1; rw [k1])

theorem Cel1.uniq {β : List Nat} {c : Cel} {vs us : List Value} (hf : fixC c = true) (h : Cel1 β c vs) (k : Cel1 β c us) : vs = us := by
  cases c <;> simp only [Cel1] at h k <;>
    first
      | (obtain ⟨v, rfl, h⟩ := h; obtain ⟨u, rfl, k⟩ := k; rw [CelR.uniq hf h k]; done)
      | (rw [h.2, k.2])

theorem CelsR.uniq {β : List Nat} : ∀ {cs : List Cel} {vs us : List Value}, cs.all fixC = true → CelsR β cs vs → CelsR β cs us → vs = us
  | [], vs, us, _, h, k => by simp only [CelsR] at h k; rw [h, k]
  | c :: cs, vs, us, hf, ⟨p, r, h, h1, h2⟩, ⟨q, s, k, k1, k2⟩ => by
    simp only [List.all_cons, Bool.and_eq_true] at hf
    rw [h, k, h1.uniq hf.1 k1, CelsR.uniq hf.2 h2 k2]

theorem AvR.uniq {β : List Nat} {x : Av} {v u : Value} (hf : fixA x = true) (h : AvR β x v) (k : AvR β x u) : v = u := by
  cases x with
  | c x => exact CelR.uniq hf h k
  | agg l =>
    obtain ⟨a1, rfl, h⟩ := h; obtain ⟨a2, rfl, k⟩ := k
    rw [Array.toList_inj.1 (CelsR.uniq hf h k)]

theorem AvsR.uniq {β : List Nat} : ∀ {cs : List Av} {vs us : List Value}, cs.all fixA = true → AvsR β cs vs → AvsR β cs us → vs = us
  | [], vs, us, _, h, k => by simp only [AvsR] at h k; rw [h, k]
  | c :: cs, vs, us, hf, ⟨p, r, h, h1, h2⟩, ⟨q, s, k, k1, k2⟩ => by
    simp only [List.all_cons, Bool.and_eq_true] at hf
    rw [h, k, h1.uniq hf.1 k1, AvsR.uniq hf.2 h2 k2]

theorem LVR.uniq {β : List Nat} {x : LV} {v u : Value} (hf : fixL x = true) (h : LVR β x v) (k : LVR β x u) : v = u := by
  cases x with
  | a x => exact AvR.uniq hf h k
  | tup l =>
    obtain ⟨a1, rfl, h⟩ := h; obtain ⟨a2, rfl, k⟩ := k
    rw [Array.toList_inj.1 (AvsR.uniq hf h k)]

/-! ### The frame -/

def setL : List LV → Nat → LV → List LV
  | [], _, _ => []
  | _ :: xs, 0, v => v :: xs
  | x :: xs, n + 1, v => x :: setL xs n v

def putL (ts : List LV) (d : Option Nat) (v : LV) : List LV :=
  match d with
  | some d => setL ts d v
  | none => ts

theorem setL_sound {β : List Nat} {x : LV} {v : Value} (h : LVR β x v) : ∀ {ts : List LV} {vs : List Value} (d : Nat), TmR β ts vs → TmR β (setL ts d x) (vs.set d v)
  | [], vs, d, hM => by simp only [TmR] at hM; subst hM; rfl
  | t :: ts, vs, 0, ⟨u, rest, e, h1, h2⟩ => by subst e; exact ⟨v, rest, rfl, h, h2⟩
  | t :: ts, vs, d + 1, ⟨u, rest, e, h1, h2⟩ => by subst e; exact ⟨u, _, rfl, h1, setL_sound h d h2⟩

theorem putL_sound {β : List Nat} {x : LV} {v : Value} (h : LVR β x v) {ts : List LV} {a : Act} (d : Option Nat) (hM : TmR β ts a.tmps.toList) : TmR β (putL ts d x) (a.put d v).tmps.toList := by
  cases d with
  | none => exact hM
  | some d => simpa [putL, Act.put] using setL_sound h d hM

/-- What a guard's operation has yielded. -/
inductive Yd where
  | known (b : Bool)
  | open_ (d : Nat) (b : Bool)
  | none_
  | bad

def yOf (ts : List LV) (all : Array Oper) (j : Nat) : Yd :=
  match all[j]? with
  | some oj => match oj.dst with
    | some d => match getL ts d with
      | .a (.c .tt) => .known true
      | .a (.c .ff) => .known false
      | .a (.c (.bool b)) => .open_ d b
      | .a (.c (.val (.tuple _))) => .none_
      | _ => .bad
    | none => .bad
  | none => .bad

theorem getL_bool {β : List Nat} {b : Bool} : ∀ {ts : List LV} {vs : List Value} {d : Nat}, TmR β ts vs → LVR β (getL ts d) (.bool b) → (∀ x, getL ts d = x → x ≠ .a (.c (.val undef)) ∧ x ≠ .a (.c .any)) →
    (∀ v, LVR β (getL ts d) v → v = .bool b) → vs[d]? = some (.bool b)
  | [], vs, d, _, _, hne, _ => absurd rfl ((hne _ rfl).1)
  | t :: ts, vs, 0, ⟨u, rest, e, h1, h2⟩, _, _, hu => by subst e; simp [hu u h1]
  | t :: ts, vs, d + 1, ⟨u, rest, e, h1, h2⟩, hb, hne, hu => by subst e; simpa using getL_bool h2 hb hne hu

theorem yielded_of {β : List Nat} {ts : List LV} {a : Act} (hM : TmR β ts a.tmps.toList) {all : Array Oper} {j : Nat} {oj : Oper} {d : Nat} {b : Bool} (hj : all[j]? = some oj) (hd : oj.dst = some d)
    (hb : LVR β (getL ts d) (.bool b)) (hne : ∀ x, getL ts d = x → x ≠ .a (.c (.val undef)) ∧ x ≠ .a (.c .any)) (hu : ∀ v, LVR β (getL ts d) v → v = .bool b) : yielded all a.tmps j = some b := by
  have := getL_bool hM hb hne hu
  rw [Array.getElem?_toList] at this
  simp [yielded, hj, hd, this]

theorem yOf_known {β : List Nat} {ts : List LV} {a : Act} (hM : TmR β ts a.tmps.toList) {all : Array Oper} {j : Nat} {b : Bool} (h : yOf ts all j = .known b) : yielded all a.tmps j = some b := by
  unfold yOf at h
  split at h
  · rename_i oj hj
    split at h
    · rename_i d hd
      split at h <;> simp only [Yd.known.injEq, reduceCtorEq] at h <;> subst h <;> rename_i hg <;>
        exact yielded_of hM hj hd (by rw [hg]; rfl) (fun x hx => by rw [hg] at hx; subst hx; simp) (fun v hv => by rw [hg] at hv; exact hv)
    · simp at h
  · simp at h

theorem yOf_open {β : List Nat} {ts : List LV} {a : Act} (hM : TmR β ts a.tmps.toList) {all : Array Oper} {j d : Nat} {b : Bool} (h : yOf ts all j = .open_ d b) :
    yielded all a.tmps j = some b ∧ getL ts d = .a (.c (.bool b)) := by
  unfold yOf at h
  split at h
  · rename_i oj hj
    split at h
    · rename_i d hd
      split at h <;> simp only [Yd.open_.injEq, reduceCtorEq] at h
      obtain ⟨rfl, rfl⟩ := h
      rename_i hg
      exact ⟨yielded_of hM hj hd (by rw [hg]; rfl) (fun x hx => by rw [hg] at hx; subst hx; simp) (fun v hv => by rw [hg] at hv; exact hv), hg⟩
    · simp at h
  · simp at h

theorem getL_tup {β : List Nat} {arr : Array Value} : ∀ {ts : List LV} {vs : List Value} {d : Nat}, TmR β ts vs → getL ts d = .a (.c (.val (.tuple arr))) → ∀ b, vs[d]? ≠ some (.bool b)
  | [], vs, d, hM, _, b => by simp only [TmR] at hM; subst hM; simp
  | t :: ts, vs, 0, ⟨u, rest, e, h1, h2⟩, hg, b => by
    simp only [getL] at hg; subst hg; subst e
    have h1 : u = .tuple arr := h1
    subst h1; simp
  | t :: ts, vs, d + 1, ⟨u, rest, e, h1, h2⟩, hg, b => by subst e; simpa using getL_tup h2 hg b

theorem yOf_none {β : List Nat} {ts : List LV} {a : Act} (hM : TmR β ts a.tmps.toList) {all : Array Oper} {j : Nat} (h : yOf ts all j = .none_) : yielded all a.tmps j = none := by
  unfold yOf at h
  split at h
  · rename_i oj hj
    split at h
    · rename_i d hd
      split at h <;> simp only [reduceCtorEq] at h
      rename_i hg
      have := getL_tup hM hg
      rw [Array.getElem?_toList] at this
      unfold yielded
      simp only [hj, hd, Option.bind_some]
    · simp at h
  · simp at h

def litB (b : Bool) : LV := if b then .a (.c .tt) else .a (.c .ff)

/-- A slot of which the value has become known. -/
theorem know_sound {β : List Nat} {b : Bool} : ∀ {ts : List LV} {vs : List Value} {d : Nat}, TmR β ts vs → getL ts d = .a (.c (.bool b)) → TmR β (setL ts d (litB b)) vs
  | [], vs, d, hM, _ => hM
  | t :: ts, vs, 0, ⟨u, rest, e, h1, h2⟩, hg => by
    simp only [getL] at hg; subst hg
    exact ⟨u, rest, e, by have h1 : u = .bool b := h1; subst h1; cases b <;> rfl, h2⟩
  | t :: ts, vs, d + 1, ⟨u, rest, e, h1, h2⟩, hg => ⟨u, rest, e, h1, know_sound h2 hg⟩

def force {α : Type} : List α → (List α → Prop) → Prop
  | [], k => k []
  | x :: xs, k => force xs fun ys => k (x :: ys)

theorem force_eq {α : Type} : ∀ (l : List α) (k : List α → Prop), force l k = k l
  | [], _ => rfl
  | x :: xs, k => by simp [force, force_eq xs]

def forceC (x : Cel) (k : Cel → Prop) : Prop :=
  match x with
  | .any => k .any
  | .lit a b => k (.lit a b)
  | .int a b => k (.int a b)
  | .tt => k .tt
  | .ff => k .ff
  | .bool b => k (.bool b)
  | .str s => k (.str s)
  | .ptr a b => k (.ptr a b)
  | .pti a b c d e => k (.pti a b c d e)
  | .slc a b c d e f => k (.slc a b c d e f)
  | .val v => k (.val v)
  | .fn a b => force b fun b => k (.fn a b)
  | .fnb a b c d e f g => k (.fnb a b c d e f g)
  | .fna a b c d e f g h => k (.fna a b c d e f g h)
  | .yld a => k (.yld a)
  | .mpr a => k (.mpr a)
  | .sp a b => k (.sp a b)
  | .ifi a b c => k (.ifi a b c)
  | .ifr a b c => k (.ifr a b c)
  | .ifp a b => k (.ifp a b)
  | .run a b c => k (.run a b c)

theorem forceC_eq (x : Cel) (k : Cel → Prop) : forceC x k = k x := by cases x <;> first | rfl | simp only [forceC, force_eq]

def forceCs : List Cel → (List Cel → Prop) → Prop
  | [], k => k []
  | x :: xs, k => forceC x fun y => forceCs xs fun ys => k (y :: ys)

theorem forceCs_eq : ∀ (l : List Cel) (k : List Cel → Prop), forceCs l k = k l
  | [], _ => rfl
  | x :: xs, k => by simp [forceCs, forceC_eq, forceCs_eq xs]

def forceV (x : LV) (k : LV → Prop) : Prop :=
  match x with
  | .a (.c x) => forceC x fun x => k (.a (.c x))
  | .a (.agg l) => forceCs l fun l => k (.a (.agg l))
  | .tup l => force l fun l => k (.tup l)

theorem forceV_eq (x : LV) (k : LV → Prop) : forceV x k = k x := by
  cases x with
  | a x => cases x <;> simp [forceV, forceC_eq, forceCs_eq]
  | tup l => simp [forceV, force_eq]

def forceH : List Blk → (List Blk → Prop) → Prop
  | [], k => k []
  | .dead :: xs, k => forceH xs fun ys => k (.dead :: ys)
  | .lp s pe :: xs, k => forceH xs fun ys => k (.lp s pe :: ys)
  | .wnd o ks n l :: xs, k => forceH xs fun ys => k (.wnd o ks n l :: ys)
  | .mp o ks ve L :: xs, k => forceH xs fun ys => k (.mp o ks ve L :: ys)
  | .nst w t o ks s L :: xs, k => forceH xs fun ys => k (.nst w t o ks s L :: ys)
  | .cells o t cs :: xs, k => forceCs cs fun cs => forceH xs fun ys => k (.cells o t cs :: ys)

theorem forceH_eq : ∀ (l : List Blk) (k : List Blk → Prop), forceH l k = k l
  | [], _ => rfl
  | .dead :: xs, k => by simp [forceH, forceH_eq xs]
  | .lp s pe :: xs, k => by simp [forceH, forceH_eq xs]
  | .wnd o ks n l :: xs, k => by simp [forceH, forceH_eq xs]
  | .mp o ks ve L :: xs, k => by simp [forceH, forceH_eq xs]
  | .nst w t o ks s L :: xs, k => by simp [forceH, forceH_eq xs]
  | .cells o t cs :: xs, k => by simp [forceH, forceH_eq xs, forceCs_eq]

def forceT : List LV → (List LV → Prop) → Prop
  | [], k => k []
  | x :: xs, k => forceV x fun y => forceT xs fun ys => k (y :: ys)

theorem forceT_eq : ∀ (l : List LV) (k : List LV → Prop), forceT l k = k l
  | [], _ => rfl
  | x :: xs, k => by simp [forceT, forceV_eq, forceT_eq xs]

def yldOf (st : St) (c : Call) : Option Nat :=
  match c.callee with
  | .value x => match st.ev x with
    | .a (.c (.yld id)) => some id
    | _ => none
  | _ => none

/-- Loads that lay a view. -/
def evOpn (T : Tab) (st : St) (op : Op) (pos : String) (K : LV → List Blk → Prop) : Prop :=
  match op with
  | .load t x => evNst T st.heap t (st.ev x) pos K
  | _ => Stuck pos

/-- One operation. -/
def evOne (o : Bool) (T : Tab) (I : CI) (Y : YE) (op : Oper) (st : St) (K : St → Prop) : Prop :=
  match op.op with
  | .alloc _ | .box _ _ | .store _ _ _ | .buildSlice _ _ _ | .makeSlice _ _ _ | .makeMap _ _ | .mapUpdate _ _ _ _ | .mapEntry _ _ _ | .entryStore _ _ _ _ =>
    match evMem T st op.op with
    | some (p, r, H') => p ∧ forceV r fun r => force (putL st.tmps op.dst r) fun ts => forceH H' fun H' => K ⟨ts, H'⟩
    | none => Stuck op.pos
  | .call c =>
    match c.callee with
    | .builtin .len => match evPure o T st (.call c) with
      | some (p, r) => p ∧ forceV r fun r => force (putL st.tmps op.dst r) fun ts => K ⟨ts, st.heap⟩
      | none => Stuck op.pos
    | .builtin .min => match evPure o T st (.call c) with
      | some (p, r) => p ∧ forceV r fun r => force (putL st.tmps op.dst r) fun ts => K ⟨ts, st.heap⟩
      | none => Stuck op.pos
    | .builtin .max => match evPure o T st (.call c) with
      | some (p, r) => p ∧ forceV r fun r => force (putL st.tmps op.dst r) fun ts => K ⟨ts, st.heap⟩
      | none => Stuck op.pos
    | .builtin .append => evApp T st c fun r H' => forceV r fun r => force (putL st.tmps op.dst r) fun ts => forceH H' fun H' => K ⟨ts, H'⟩
    | .builtin _ => match evMem T st (.call c) with
      | some (p, r, H') => p ∧ forceV r fun r => force (putL st.tmps op.dst r) fun ts => forceH H' fun H' => K ⟨ts, H'⟩
      | none => Stuck op.pos
    | _ => match yldOf st c with
    | some id => Y id (c.args.toList.map st.ev) st.heap fun r H' => forceV r fun r => force (putL st.tmps op.dst r) fun ts => forceH H' fun H' => K ⟨ts, H'⟩
    | none => match target T st (.call c) with
    | some (f, args) => I Y f args st.heap fun r H' => forceV r fun r => force (putL st.tmps op.dst r) fun ts => forceH H' fun H' => K ⟨ts, H'⟩
    | none => Stuck op.pos
  | _ =>
    match evPure o T st op.op with
    | some (p, r) => p ∧ forceV r fun r => force (putL st.tmps op.dst r) fun ts => K ⟨ts, st.heap⟩
    | none => evOpn T st op.op op.pos fun r H' => forceV r fun r => force (putL st.tmps op.dst r) fun ts => forceH H' fun H' => K ⟨ts, H'⟩

def evOps (o : Bool) (T : Tab) (I : CI) (Y : YE) (all : Array Oper) : List Oper → St → (St → Prop) → Prop
  | [], st, K => K st
  | op :: rest, st, K =>
    match op.guard with
    | none => evOne o T I Y op st fun st' => evOps o T I Y all rest st' K
    | some (j, want) =>
      match yOf st.tmps all j with
      | .known b =>
        if b = want then evOne o T I Y op st fun st' => evOps o T I Y all rest st' K
        else force (putL st.tmps op.dst (.a (.c (.val undef)))) fun ts => evOps o T I Y all rest ⟨ts, st.heap⟩ K
      | .open_ d b =>
        (b = want → force (setL st.tmps d (litB want)) fun ts => evOne o T I Y op ⟨ts, st.heap⟩ fun st' => evOps o T I Y all rest st' K) ∧
        (b = !want → force (putL (setL st.tmps d (litB !want)) op.dst (.a (.c (.val undef)))) fun ts => evOps o T I Y all rest ⟨ts, st.heap⟩ K)
      | .none_ => force (putL st.tmps op.dst (.a (.c (.val undef)))) fun ts => evOps o T I Y all rest ⟨ts, st.heap⟩ K
      | .bad => Stuck op.pos

/-- Operations of which the value is one in all worlds in which what lies there lies. -/
def slack (T : Tab) : Op → Bool
  | .move _ => true
  | .assign _ => true
  | .extract _ _ => true
  | .slice _ _ _ _ _ => true
  | .load t _ => match look T t with
    | some ti => match ti.d.agg? with
      | some _ => true
      | _ => false
    | none => false
  | _ => false

/-- One operation of a region that draws its order. -/
def evOneQ (o : Bool) (T : Tab) (C : Ctr) (op : Oper) (st : St) (K : St → Prop) : Prop :=
  match op.op with
  | .call c =>
    match c.callee with
    | .builtin _ => match evPure o T st op.op with
      | some (p, r) => if fixL r = true then p ∧ forceV r fun r => force (putL st.tmps op.dst r) fun ts => K ⟨ts, st.heap⟩ else Stuck op.pos
      | none => Stuck op.pos
    | _ => match evCall T C st op.op with
    | some (p, r) => if fixL r = true then p ∧ forceV r fun r => force (putL st.tmps op.dst r) fun ts => K ⟨ts, st.heap⟩ else Stuck op.pos
    | _ => Stuck op.pos
  | _ =>
    match evPure o T st op.op with
    | some (p, r) => if (fixL r || slack T op.op) = true then p ∧ forceV r fun r => force (putL st.tmps op.dst r) fun ts => K ⟨ts, st.heap⟩ else Stuck op.pos
    | none => Stuck op.pos

def evOpsV (o : Bool) (T : Tab) (C : Ctr) (all : Array Oper) : List Oper → St → (St → Prop) → Prop
  | [], st, K => K st
  | op :: rest, st, K =>
    match op.guard with
    | none => match op.op with
      | .alloc _ => force (putL st.tmps op.dst (.a (.c (.val undef)))) fun ts => evOpsV o T C all rest ⟨ts, st.heap⟩ K
      | _ => evOneQ o T C op st fun st' => evOpsV o T C all rest st' K
    | some (j, want) =>
      match yOf st.tmps all j with
      | .known b =>
        if b = want then evOneQ o T C op st fun st' => evOpsV o T C all rest st' K
        else force (putL st.tmps op.dst (.a (.c (.val undef)))) fun ts => evOpsV o T C all rest ⟨ts, st.heap⟩ K
      | .open_ d b =>
        (b = want → force (setL st.tmps d (litB want)) fun ts => evOneQ o T C op ⟨ts, st.heap⟩ fun st' => evOpsV o T C all rest st' K) ∧
        (b = !want → force (putL (setL st.tmps d (litB !want)) op.dst (.a (.c (.val undef)))) fun ts => evOpsV o T C all rest ⟨ts, st.heap⟩ K)
      | .none_ => force (putL st.tmps op.dst (.a (.c (.val undef)))) fun ts => evOpsV o T C all rest ⟨ts, st.heap⟩ K
      | .bad => Stuck op.pos

theorem calls_wd {P : Program} {f : FuncId} {args : Array Value} {w : World} {R : Ending → World → Prop} {n : Nat} (r : Option Nat) (h : Calls P f args w R) : CallsIn (Wd r) n P f args w R := by
  have := callsIn_wide (n := n).2 h
  exact this

theorem semAt_plain {r : Option Nat} {ρ : Operand → Value} {op : Oper} (h : ∀ c, op.op ≠ .defer c) : op.semAt r ρ = execOp ρ op := Oper.semAt_eq r ρ op h

theorem evYld_sound {P : Program} {n0 : Nat} {w0 : Base} {B : List Nat} {Y : YE} (hY : YOk P n0 w0 B Y) {β : List Nat} (hN : B <+: β) {st : St} {a : Act} {w : World} (hH : HR n0 w0 β st.heap w) (hM : TmR β st.tmps a.tmps.toList) {op : Oper} {c : Call} (ho : op.op = .call c)
    {id : Nat} (hy : yldOf st c = some id) {K : LV → List Blk → Prop} (h : Y id (c.args.toList.map st.ev) st.heap K) :
    ∃ l args, (execOp a.eval op).run P w = (Instr.yield l args).run P w ∧ YldAt P l args w fun e w' => ∃ v γ lv H', e = .returned v ∧ K lv H' ∧ HR n0 w0 (β ++ γ) H' w' ∧ LVR (β ++ γ) lv v := by
  unfold yldOf at hy
  split at hy
  · rename_i x hcal
    split at hy
    · rename_i id' hx
      simp only [Option.some.injEq] at hy; subst hy
      have hv := ev_sound hM x
      rw [hx] at hv
      obtain ⟨b, hb, hv⟩ := hv
      have hr := hY w0 (Ext.refl _ _) _ _ _ _ h
      refine ⟨b, c.args.map a.eval, ?_, hr β w (c.args.map a.eval) b hN hH (by simpa using TmR_map hM c.args.toList) hb⟩
      simp [execOp, ho, resolve, hcal, hv, Deferred.ofValue, invoke]
    · simp at hy
  · simp at hy

section
variable {P : Program} {T : Tab} (hT : TabOk P T) {I : CI} (hI : CIOk P T I) {Y : YE} {o : Bool} {n0 : Nat} {w0 : Base} (hG : GOk T w0) {B : List Nat} (hY : YOk P n0 w0 B Y) {D : List Deferred} {rd : Option Nat} {n : Nat}
include hT hI hG hY

theorem evOne_sound {op : Oper} {st : St} {K : St → Prop} {β : List Nat} {a : Act} {w : World} {K' : Act → World → Prop} {Q : Exit → Act → World → Prop}
    (h : evOne o T I Y op st K) (hN : B <+: β) (hH : HR n0 w0 β st.heap w) (hM : TmR β st.tmps a.tmps.toList) (hD : a.defers = D)
    (hK : ∀ st' γ a' w', K st' → HR n0 w0 (β ++ γ) st'.heap w' → TmR (β ++ γ) st'.tmps a'.tmps.toList → a'.defers = D → K' a' w') :
    op.wpIn (Wd rd) n P a w K' Q := by
  have hput : ∀ (v : Value), (a.put op.dst v).defers = D := by intro v; unfold Act.put; split <;> simpa using hD
  refine ⟨fun _ _ => trivial, ?_⟩
  unfold evOne at h
  split at h
  case h_6 =>
    rename_i t x ho
    split at h
    · rename_i p r H' he
      obtain ⟨hp, h⟩ := h
      rw [forceV_eq, force_eq, forceH_eq] at h
      rw [ho] at he
      obtain ⟨v, w', γ, rfl, h1, h2, h3⟩ := evMkMap_sound (P := P) hH he
      rw [semAt_plain (by intro c hc; rw [ho] at hc; cases hc)]
      have e : (execOp a.eval op).run P w = .ok (.value v) w' := by simp only [execOp, ho, Option.map_none, Sem.run_bind, h1, Result.andThen_ok, Sem.run_pure]
      rw [e]
      exact hK _ γ _ _ h h2 (putL_sound h3 _ hM.mono) (hput v)
    · exact h.elim
  case h_7 =>
    rename_i t m k x ho
    split at h
    · rename_i p r H' he
      obtain ⟨hp, h⟩ := h
      rw [forceV_eq, force_eq, forceH_eq] at h
      rw [ho] at he
      obtain ⟨w', h1, h2, rfl⟩ := evMapUp_sound hT hH (ev_sound hM m) (ev_sound hM k) (ev_sound hM x) he
      rw [semAt_plain (by intro c hc; rw [ho] at hc; cases hc)]
      have e : (execOp a.eval op).run P w = .ok .skip w' := by simp [execOp, ho, h1]
      rw [e]
      have := hK ⟨putL st.tmps op.dst (.a (.c (.val undef))), H'⟩ [] (a.put op.dst undef) w' h (by simpa using h2) (by simpa using putL_sound (β := β) (x := .a (.c (.val undef))) (v := undef) rfl op.dst hM) (hput undef)
      exact this
    · exact h.elim
  case h_8 =>
    rename_i t m k ho
    split at h
    · rename_i p r H' he
      obtain ⟨hp, h⟩ := h
      rw [forceV_eq, force_eq, forceH_eq] at h
      rw [ho] at he
      obtain ⟨v, w', h1, h2, h3⟩ := evMapEnt_sound hT hH (ev_sound hM m) (ev_sound hM k) he
      rw [semAt_plain (by intro c hc; rw [ho] at hc; cases hc)]
      have e : (execOp a.eval op).run P w = .ok (.value v) w' := by simp only [execOp, ho, Sem.run_bind, h1, Result.andThen_ok, Sem.run_pure]
      rw [e]
      have := hK ⟨putL st.tmps op.dst r, H'⟩ [] (a.put op.dst v) w' h (by simpa using h2) (by simpa using putL_sound h3 op.dst hM) (hput v)
      exact this
    · exact h.elim
  case h_9 =>
    rename_i t m k x ho
    split at h
    · rename_i p r H' he
      obtain ⟨hp, h⟩ := h
      rw [forceV_eq, force_eq, forceH_eq] at h
      rw [ho] at he
      obtain ⟨w', h1, h2, rfl⟩ := evEntSt_sound hT hH (ev_sound hM m) (ev_sound hM k) (ev_sound hM x) he hp
      rw [semAt_plain (by intro c hc; rw [ho] at hc; cases hc)]
      have e : (execOp a.eval op).run P w = .ok .skip w' := by simp [execOp, ho, h1]
      rw [e]
      have := hK ⟨putL st.tmps op.dst (.a (.c (.val undef))), H'⟩ [] (a.put op.dst undef) w' h (by simpa using h2) (by simpa using putL_sound (β := β) (x := .a (.c (.val undef))) (v := undef) rfl op.dst hM) (hput undef)
      exact this
    · exact h.elim
  case h_10 =>
    rename_i c ho
    rw [semAt_plain (by intro c hc; rw [ho] at hc; cases hc)]
    split at h
    · split at h
      · rename_i p r he
        obtain ⟨hp, h⟩ := h
        rw [forceV_eq, force_eq] at h
        obtain ⟨v, h1, h2⟩ := evPure_sound hT hG hH hM (a := a) (op := op) (by rw [ho]; exact he) hp
        rw [h1]
        have := hK ⟨putL st.tmps op.dst r, st.heap⟩ [] (a.put op.dst v) w h (by simpa using hH) (by simpa using putL_sound h2 op.dst hM) (hput v)
        exact this
      · exact h.elim
    · split at h
      · rename_i p r he
        obtain ⟨hp, h⟩ := h
        rw [forceV_eq, force_eq] at h
        obtain ⟨v, h1, h2⟩ := evPure_sound hT hG hH hM (a := a) (op := op) (by rw [ho]; exact he) hp
        rw [h1]
        have := hK ⟨putL st.tmps op.dst r, st.heap⟩ [] (a.put op.dst v) w h (by simpa using hH) (by simpa using putL_sound h2 op.dst hM) (hput v)
        exact this
      · exact h.elim
    · split at h
      · rename_i p r he
        obtain ⟨hp, h⟩ := h
        rw [forceV_eq, force_eq] at h
        obtain ⟨v, h1, h2⟩ := evPure_sound hT hG hH hM (a := a) (op := op) (by rw [ho]; exact he) hp
        rw [h1]
        have := hK ⟨putL st.tmps op.dst r, st.heap⟩ [] (a.put op.dst v) w h (by simpa using hH) (by simpa using putL_sound h2 op.dst hM) (hput v)
        exact this
      · exact h.elim
    · rename_i hcal
      obtain ⟨v, w', γ, lv, H', h1, h2, h3, h4⟩ := evApp_sound hT hH hM (a := a) (op := op) ho hcal h
      rw [forceV_eq, force_eq, forceH_eq] at h2
      rw [h1]
      exact hK _ γ _ _ h2 h3 (putL_sound h4 _ hM.mono) (hput v)
    · split at h
      · rename_i p r H' he
        obtain ⟨hp, h⟩ := h
        rw [forceV_eq, force_eq, forceH_eq] at h
        obtain ⟨v, w', h1, h2, h3⟩ := evCopy2_sound hT hH hM (a := a) (op := op) ho he hp
        rw [h1]
        have := hK ⟨putL st.tmps op.dst r, H'⟩ [] (a.put op.dst v) w' h (by simpa using h2) (by simpa using putL_sound h3 op.dst hM) (hput v)
        exact this
      · exact h.elim
    · split at h
      · rename_i id hy
        obtain ⟨l, args, e1, f', tmps, as, bd, hrun, hround⟩ := evYld_sound hY hN hH hM (a := a) (op := op) ho hy h
        rw [e1, hrun]
        refine ⟨fun hd => by simp [Wd, Fence.wide] at hd, (hround rd _).mono ?_⟩
        rintro e w' ⟨v, γ, lv, H', rfl, g0, g1, g2⟩
        rw [forceV_eq, force_eq, forceH_eq] at g0
        exact hK _ γ _ _ g0 g1 (putL_sound g2 _ hM.mono) (hput v)
      split at h
      · rename_i f args ht
        obtain ⟨hf, hcall⟩ := hI _ _ _ _ _ h
        obtain ⟨vals, h1, h2⟩ := target_sound hT hM (a := a) (op := op) (by rw [ho]; exact ht) hf
        rw [h1 w]
        refine ⟨fun hd => by simp [Wd, Fence.wide] at hd, (calls_wd rd (hcall n0 w0 B β w _ hG hY hN hH h2)).mono ?_⟩
        rintro e w' ⟨v, γ, lv, H', rfl, g0, g1, g2⟩
        rw [forceV_eq, force_eq, forceH_eq] at g0
        exact hK _ γ _ _ g0 g1 (putL_sound g2 _ hM.mono) (hput v)
      · exact h.elim
  case h_11 =>
    split at h
    · rename_i p r he
      obtain ⟨hp, h⟩ := h
      rw [forceV_eq, force_eq] at h
      obtain ⟨v, h1, h2⟩ := evPure_sound hT hG hH hM (a := a) (op := op) he hp
      rw [semAt_plain (by intro c hc; rw [hc] at he; simp [evPure] at he), h1]
      have := hK ⟨putL st.tmps op.dst r, st.heap⟩ [] (a.put op.dst v) w h (by simpa using hH) (by simpa using putL_sound h2 op.dst hM) (hput v)
      exact this
    · unfold evOpn at h
      split at h
      · rename_i t x ho
        obtain ⟨v, γ, lv, H', h1, h2, h3, h4⟩ := evNst_sound hT hH (ev_sound hM x) h
        rw [forceV_eq, force_eq, forceH_eq] at h2
        rw [semAt_plain (by intro c hc; rw [ho] at hc; cases hc)]
        have e : (execOp a.eval op).run P w = .ok (.value v) w := by simp only [execOp, ho, Sem.run_bind, h1, Result.andThen_ok, Sem.run_pure]
        rw [e]
        exact hK _ γ _ _ h2 h3 (putL_sound h4 _ hM.mono) (hput v)
      · exact h.elim
  case h_5 =>
    rename_i t x y ho
    split at h
    · rename_i p r H' he
      obtain ⟨hp, h⟩ := h
      rw [forceV_eq, force_eq, forceH_eq] at h
      rw [ho] at he
      have he : (match evMakeS T st.heap t (st.ev x) (st.ev y) with | some r => some r | none => evMakeN T st.heap t (st.ev x) (st.ev y)) = some (p, r, H') := he
      obtain ⟨v, w', γ, h1, h2, h3⟩ : ∃ v w' γ, (Instr.makeSlice t (a.eval x) (a.eval y)).run P w = .ok v w' ∧ HR n0 w0 (β ++ γ) H' w' ∧ LVR (β ++ γ) r v := by
        split at he
        · rename_i r' he'
          simp only [Option.some.injEq] at he; subst he
          exact evMakeS_sound hT hH (ev_sound hM x) (ev_sound hM y) he' hp
        · exact evMakeN_sound hT hH (ev_sound hM x) (ev_sound hM y) he hp
      rw [semAt_plain (by intro c hc; rw [ho] at hc; cases hc)]
      have e : (execOp a.eval op).run P w = .ok (.value v) w' := by simp only [execOp, ho, Sem.run_bind, h1, Result.andThen_ok, Sem.run_pure]
      rw [e]
      exact hK _ γ _ _ h h2 (putL_sound h3 _ hM.mono) (hput v)
    · exact h.elim
  case h_4 =>
    rename_i t len parts ho
    split at h
    · rename_i p r H' he
      obtain ⟨hp, h⟩ := h
      rw [forceV_eq, force_eq, forceH_eq] at h
      rw [ho] at he
      obtain ⟨v, w', γ, h1, h2, h3⟩ := evBuildS_sound hT hH hM he
      rw [semAt_plain (by intro c hc; rw [ho] at hc; cases hc)]
      have e : (execOp a.eval op).run P w = .ok (.value v) w' := by simp only [execOp, ho, Sem.run_bind, h1, Result.andThen_ok, Sem.run_pure]
      rw [e]
      exact hK _ γ _ _ h h2 (putL_sound h3 _ hM.mono) (hput v)
    · exact h.elim
  case h_1 =>
    rename_i t ho
    split at h
    · rename_i p r H' he
      obtain ⟨hp, h⟩ := h
      rw [forceV_eq, force_eq, forceH_eq] at h
      rw [ho] at he
      obtain ⟨v, w', γ, h1, h2, h3⟩ := evAlloc_sound hT hH he
      rw [semAt_plain (by intro c hc; rw [ho] at hc; cases hc)]
      have e : (execOp a.eval op).run P w = .ok (.value v) w' := by simp [execOp, ho, h1]
      rw [e]
      exact hK _ γ _ _ h h2 (putL_sound h3 _ hM.mono) (hput v)
    · exact h.elim
  case h_2 =>
    rename_i t x ho
    split at h
    · rename_i p r H' he
      obtain ⟨hp, h⟩ := h
      rw [forceV_eq, force_eq, forceH_eq] at h
      rw [ho] at he
      obtain ⟨v, w', γ, h1, h2, h3⟩ := evBox_sound (P := P) hH (ev_sound hM x) he
      rw [semAt_plain (by intro c hc; rw [ho] at hc; cases hc)]
      have e : (execOp a.eval op).run P w = .ok (.value v) w' := by simp [execOp, ho, h1]
      rw [e]
      exact hK _ γ _ _ h h2 (putL_sound h3 _ hM.mono) (hput v)
    · exact h.elim
  case h_3 =>
    rename_i t x y ho
    split at h
    · rename_i p r H' he
      obtain ⟨hp, h⟩ := h
      rw [forceV_eq, force_eq, forceH_eq] at h
      rw [ho] at he
      have he : (match evStore T st.heap t (st.ev x) (st.ev y) with | some r => some r | none => evStN T st.heap t (st.ev x) (st.ev y)) = some (p, r, H') := he
      obtain ⟨w', h1, h2, rfl⟩ : ∃ w', (Instr.storeAt t (a.eval x) (a.eval y)).run P w = .ok () w' ∧ HR n0 w0 β H' w' ∧ r = .a (.c (.val undef)) := by
        split at he
        · rename_i r' he'
          simp only [Option.some.injEq] at he; subst he
          exact evStore_sound hT hH (ev_sound hM x) (ev_sound hM y) he' hp
        · exact evStN_sound hT hH (ev_sound hM x) (ev_sound hM y) he hp
      rw [semAt_plain (by intro c hc; rw [ho] at hc; cases hc)]
      have e : (execOp a.eval op).run P w = .ok .skip w' := by simp [execOp, ho, h1]
      rw [e]
      have := hK ⟨putL st.tmps op.dst (.a (.c (.val undef))), H'⟩ [] (a.put op.dst undef) w' h (by simpa using h2) (by simpa using putL_sound (β := β) (x := .a (.c (.val undef))) (v := undef) rfl op.dst hM) (hput undef)
      exact this
    · exact h.elim

theorem evOps_soundT {all : Array Oper} {K : St → Prop} {Q : Exit → Act → World → Prop} {tl : List Oper} : ∀ (l : List Oper) (st : St) (β : List Nat) (a : Act) (w : World),
    evOps o T I Y all l st K → B <+: β → HR n0 w0 β st.heap w → TmR β st.tmps a.tmps.toList → a.defers = D →
    (∀ st' γ a' w', K st' → HR n0 w0 (β ++ γ) st'.heap w' → TmR (β ++ γ) st'.tmps a'.tmps.toList → a'.defers = D → wpListIn (Wd rd) n P all Q tl a' w') →
    wpListIn (Wd rd) n P all Q (l ++ tl) a w
  | [], st, β, a, w, h, hN, hH, hM, hD, hK => by
    have := hK st [] a w h (by simpa using hH) (by simpa using hM) hD
    exact this
  | op :: rest, st, β, a, w, h, hN, hH, hM, hD, hK => by
    have hput : ∀ (v : Value), (a.put op.dst v).defers = D := by intro v; unfold Act.put; split <;> simpa using hD
    have one : ∀ (st : St), HR n0 w0 β st.heap w → TmR β st.tmps a.tmps.toList → evOne o T I Y op st (fun st' => evOps o T I Y all rest st' K) → op.wpIn (Wd rd) n P a w (wpListIn (Wd rd) n P all Q (rest ++ tl)) Q := by
      intro st hH hM h
      refine evOne_sound hT hI hG hY h hN hH hM hD ?_
      intro st' γ a' w' hk g1 g2 g3
      exact evOps_soundT rest st' (β ++ γ) a' w' hk (pre_append hN) g1 g2 g3 (fun st'' γ' a'' w'' k1 k2 k3 k4 => hK st'' (γ ++ γ') a'' w'' k1 (by simpa using k2) (by simpa using k3) k4)
    have skip : ∀ (ts : List LV), TmR β ts a.tmps.toList → evOps o T I Y all rest ⟨putL ts op.dst (.a (.c (.val undef))), st.heap⟩ K → wpListIn (Wd rd) n P all Q (rest ++ tl) (a.put op.dst undef) w := by
      intro ts hts h
      exact evOps_soundT rest _ β _ w h hN hH (putL_sound (x := .a (.c (.val undef))) (v := undef) rfl _ hts) (hput undef) hK
    unfold evOps at h
    rw [List.cons_append]
    unfold wpListIn
    split at h
    · rename_i hg
      rw [if_pos (by simp [Region.wanted, hg])]
      exact one st hH hM h
    · rename_i j want hg
      split at h
      · rename_i b hy
        have hy' := yOf_known hM hy
        by_cases hb : b = want
        · rw [if_pos hb] at h
          rw [if_pos (by simp [Region.wanted, hg, hy', hb])]
          exact one st hH hM h
        · rw [if_neg hb, force_eq] at h
          rw [if_neg (by simp [Region.wanted, hg, hy', hb])]
          exact ⟨fun _ _ => trivial, skip _ hM h⟩
      · rename_i d b hy
        obtain ⟨hy', hgd⟩ := yOf_open hM hy
        by_cases hb : b = want
        · have h := h.1 hb
          rw [force_eq] at h
          rw [if_pos (by simp [Region.wanted, hg, hy', hb])]
          subst hb
          exact one ⟨setL st.tmps d (litB b), st.heap⟩ hH (know_sound hM hgd) h
        · have hb' : b = !want := by cases b <;> cases want <;> simp_all
          have h := h.2 hb'
          rw [force_eq] at h
          rw [if_neg (by simp [Region.wanted, hg, hy', hb])]
          refine ⟨fun _ _ => trivial, skip _ ?_ h⟩
          rw [← hb']; exact know_sound hM hgd
      · rename_i hy
        have hy' := yOf_none hM hy
        rw [force_eq] at h
        rw [if_neg (by simp [Region.wanted, hg, hy'])]
        exact ⟨fun _ _ => trivial, skip _ hM h⟩
      · exact h.elim

theorem evOps_sound {all : Array Oper} {K : St → Prop} {Q : Exit → Act → World → Prop} (l : List Oper) (st : St) (β : List Nat) (a : Act) (w : World)
    (h : evOps o T I Y all l st K) (hN : B <+: β) (hH : HR n0 w0 β st.heap w) (hM : TmR β st.tmps a.tmps.toList) (hD : a.defers = D)
    (hK : ∀ st' γ a' w', K st' → HR n0 w0 (β ++ γ) st'.heap w' → TmR (β ++ γ) st'.tmps a'.tmps.toList → a'.defers = D → Q .normal a' w') :
    wpListIn (Wd rd) n P all Q l a w := by
  have := evOps_soundT (rd := rd) (n := n) hT hI hG hY (Q := Q) (tl := []) l st β a w h hN hH hM hD hK
  simpa using this

end


end Go.Sx
