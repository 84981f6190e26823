/- A small symbolic executor over the walk calculus, and that it is sound: symbolic cells, operations, statements, loops, functions, contracts. No conditions. -/
import Derived.Test.YtloibkfkdednoaaSy
import Derived.TacticsIn
import Derived.Sort.QuietThIn
import Derived.RangeFuncRecord
import Derived.OpenShut
import Derived.WideShapes
import Derived.Below
import Derived.KernelRfl
namespace Go.Sx
open Go.RowKit

def evPure (o : Bool) (T : Tab) (st : St) : Op → Option (Prop × LV)
  | .move x => some (True, st.ev x)
  | .assign x => some (True, st.ev x)
  | .pick c x y => evPick (st.ev c) (st.ev x) (st.ev y)
  | .load t x => evLoad T st.heap t (st.ev x)
  | .nilCheck x => evNil (st.ev x)
  | .binOp op t x y _ => match evBin o op (st.ev x) (st.ev y) with
    | some r => some r
    | none => evEqOp T op t (st.ev x) (st.ev y)
  | .unOp op _ x => evUn o op (st.ev x)
  | .convert s d x => evConv o T s d (st.ev x)
  | .fieldAddr s x f => evFieldA T s (st.ev x) f
  | .field s x f => evField T s (st.ev x) f
  | .indexAddr t x i => evIdxA T t (st.ev x) (st.ev i)
  | .index t x i => evIdx T t (st.ev x) (st.ev i)
  | .extract x i => evExt (st.ev x) i
  | .build t parts => evBuild T st t parts
  | .slice t x lo hi mx => evSlice T st t x lo hi mx
  | .makeFunc f first captured => evFunc st f first captured
  | .call c => evLen T st c
  | _ => none

def evMem (T : Tab) (st : St) : Op → Option (Prop × LV × List Blk)
  | .alloc t => evAlloc T st.heap t
  | .box t x => evBox st.heap t (st.ev x)
  | .store t x v => evStore T st.heap t (st.ev x) (st.ev v)
  | .buildSlice t len parts => evBuildS T st t len parts
  | .call c => evCopy T st c
  | _ => none

/-- The contracts of functions that are called plainly, and those of iterators: of (0 to N - 1) those with gd, what el gives for them. -/
structure Ctr where
  fn : FuncId → List LV → List Blk → Option (Prop × LV × Option (List Blk))
  sq : FuncId → List LV → List Blk → Option (Prop × Nat × (Nat → Bool) × (Nat → Int))

/-- Where a call leads. -/
def target (st : St) : Op → Option (FuncId × List LV)
  | .call c => match c.callee with
    | .value (.func f) => some (f, c.args.toList.map st.ev)
    | .value x => match st.ev x with
      | .a (.c (.fn (.func f) caps)) => some (f, c.args.toList.map st.ev ++ caps.map fun i => .a (.c (.ptr i 0)))
      | _ => none
    | _ => none
  | _ => none

def evCall (C : Ctr) (st : St) (op : Op) : Option (Prop × LV × Option (List Blk)) :=
  match target st op with
  | some (f, args) => C.fn f args st.heap
  | none => none

/-- How calls are met: what holds of the result and of the blocks behind it. -/
abbrev CI := FuncId → List LV → List Blk → (LV → List Blk → Prop) → Prop

def FnOk (P : Program) (f : FuncId) : Prop := ∃ fn, P.funcs[f]? = some fn ∧ (fn.name == "runtime.NumGoroutine") = false ∧ fn.body.isNone = false

/-- The fence that shuts nothing out, in a round or not. -/
def Wd (r : Option Nat) : Fence := { Fence.wide with round := r }

/-- A call of yield. -/
def YldAt (P : Program) (l : Nat) (args : Array Value) (W : World) (R : Ending → World → Prop) : Prop :=
  ∃ fn tmps assign body, (Instr.yield l args).run P W = .ok (.round l fn tmps assign body) W ∧ ∀ r n, RoundIn (Wd r) n P l fn tmps assign body W R

/-- What a round leaves: what is no cells and has been laid by the iterator. -/
def RK (n0 : Nat) (W W' : World) : Prop := W.heap.size ≤ W'.heap.size ∧ ∀ (k : Nat) (o : Obj), n0 ≤ k → W.heap[k]? = some o → (∀ a t s, o ≠ .cells a t s) → W'.heap[k]? = some o

/-- The rounds of the loop whose body is not in sight. -/
structure RoundsOk (P : Program) (n0 : Nat) (w0 : Base) : Prop where
  lt : ∀ N gd el i W, w0.J N gd el i W → w0.l < n0
  round : ∀ N gd el i, i < N → gd i = true → ∀ W1, w0.J N gd el (some i) W1 → YldAt P w0.l #[.int .i64 (el i)] W1 fun e W' =>
    RK n0 W1 W' ∧ ((e = .returned (.bool true) ∧ w0.J N gd el (some (i + 1)) W') ∨ (e = .returned (.bool false) ∧ w0.J N gd el none W'))
  skip : ∀ N gd el i, i < N → gd i = false → ∀ W1, w0.J N gd el (some i) W1 → w0.J N gd el (some (i + 1)) W1
  keep : ∀ N gd el i W1 W', w0.J N gd el i W1 → RK n0 W1 W' → w0.X W1 → w0.X W'

theorem RoundsOk.pl (P : Program) (n0 : Nat) (w : World) : RoundsOk P n0 (Base.pl w) :=
  ⟨fun _ _ _ _ _ h => h.elim, fun _ _ _ _ _ _ _ h => h.elim, fun _ _ _ _ _ _ _ h => h.elim, fun _ _ _ _ _ _ h => h.elim⟩

/-- The contracts of iterators. -/
def SeqsOk (P : Program) (S : FuncId → List LV → List Blk → Option (Prop × Nat × (Nat → Bool) × (Nat → Int))) : Prop :=
  ∀ f args H p N gd el, S f args H = some (p, N, gd, el) → p → FnOk P f ∧
  ∀ n0 w0 β W (vals : Array Value), HR n0 w0 β H W → TmR β args vals.toList → ∀ (l : Nat) (J : Option Nat → World → Prop), l < W.heap.size → l ∉ β →
    (∀ i a b, Below W.heap.size a b → J i a → J i b) →
    (∀ i, i < N → gd i = true → ∀ W1, W.heap.size ≤ W1.heap.size → J (some i) W1 → YldAt P l #[.int .i64 (el i)] W1 fun e W' =>
      RK W.heap.size W1 W' ∧ ((e = .returned (.bool true) ∧ J (some (i + 1)) W') ∨ (e = .returned (.bool false) ∧ J none W'))) →
    (∀ i, i < N → gd i = false → ∀ W1, J (some i) W1 → J (some (i + 1)) W1) → J (some 0) W →
    Calls P f (#[.func (.yield l) #[] #[]] ++ vals) W fun e W' => (∃ v, e = .returned v) ∧ W.heap.size ≤ W'.heap.size ∧ (J (some N) W' ∨ J none W')

/-- The contracts that the executor uses. -/
def CtrOk (P : Program) (C : Ctr) : Prop := SeqsOk P C.sq ∧ ∀ f args H p r H', C.fn f args H = some (p, r, H') → p → FnOk P f ∧
  ∀ n0 w0 β w (vals : Array Value), HR n0 w0 β H w → TmR β args vals.toList →
    Calls P f vals w fun e w' => ∃ v γ, e = .returned v ∧ HR n0 w0 (β ++ γ) (H'.getD H) w' ∧ LVR (β ++ γ) r v ∧ (H' = none → Below w.heap.size w w')

def CIOk (P : Program) (I : CI) : Prop := ∀ f args H K, I f args H K → FnOk P f ∧
  ∀ n0 w0 β w (vals : Array Value), RoundsOk P n0 w0 → HR n0 w0 β H w → TmR β args vals.toList →
    Calls P f vals w fun e w' => ∃ v γ lv H', e = .returned v ∧ K lv H' ∧ HR n0 w0 (β ++ γ) H' w' ∧ LVR (β ++ γ) lv v

def ciOf (C : Ctr) : CI := fun f args H K =>
  match C.fn f args H with
  | some (p, r, some H') => p ∧ K r H'
  | some (p, r, none) => p ∧ K r H
  | none => Not True

theorem ciOf_ok {P : Program} {C : Ctr} (h : CtrOk P C) : CIOk P (ciOf C) := by
  intro f args H K hc
  unfold ciOf at hc
  split at hc
  · rename_i p r H' he
    obtain ⟨hf, hcall⟩ := h.2 f args H p r (some H') he hc.1
    refine ⟨hf, fun n0 w0 β w vals _ hH hA => (hcall n0 w0 β w vals hH hA).mono ?_⟩
    rintro e w' ⟨v, γ, rfl, h1, h2, _⟩
    exact ⟨v, γ, r, H', rfl, hc.2, h1, h2⟩
  · rename_i p r he
    obtain ⟨hf, hcall⟩ := h.2 f args H p r none he hc.1
    refine ⟨hf, fun n0 w0 β w vals _ hH hA => (hcall n0 w0 β w vals hH hA).mono ?_⟩
    rintro e w' ⟨v, γ, rfl, h1, h2, _⟩
    exact ⟨v, γ, r, H, rfl, hc.2, h1, h2⟩
  · exact (hc trivial).elim

theorem evPure_sound {P : Program} {T : Tab} (hT : TabOk P T) {n0 : Nat} {w0 : Base} {w : World} {β : List Nat} {st : St} {a : Act} (hH : HR n0 w0 β st.heap w) (hM : TmR β st.tmps a.tmps.toList)
    {o : Bool} {op : Oper} {p : Prop} {r : LV} (he : evPure o T st op.op = some (p, r)) (hp : p) : ∃ v, (execOp a.eval op).run P w = .ok (.value v) w ∧ LVR β r v := by
  have E := fun x => ev_sound hM x
  unfold evPure at he
  split at he
  · rename_i x ho
    simp only [Option.some.injEq, Prod.mk.injEq] at he
    obtain ⟨_, rfl⟩ := he
    exact ⟨a.eval x, by simp [execOp, ho], E x⟩
  · rename_i x ho
    simp only [Option.some.injEq, Prod.mk.injEq] at he
    obtain ⟨_, rfl⟩ := he
    exact ⟨a.eval x, by simp [execOp, ho], E x⟩
  · rename_i c x y ho
    unfold evPick at he
    have hc := E c
    split at he
    · rename_i hce
      simp only [Option.some.injEq, Prod.mk.injEq] at he
      obtain ⟨_, rfl⟩ := he
      rw [hce] at hc
      have hc : a.eval c = .bool true := hc
      exact ⟨a.eval x, by simp [execOp, ho, hc, asBool], E x⟩
    · rename_i hce
      simp only [Option.some.injEq, Prod.mk.injEq] at he
      obtain ⟨_, rfl⟩ := he
      rw [hce] at hc
      have hc : a.eval c = .bool false := hc
      exact ⟨a.eval y, by simp [execOp, ho, hc, asBool], E y⟩
    · rename_i b hce
      rw [hce] at hc
      have hc : a.eval c = .bool b := hc
      split at he
      · rename_i q q' hq hq'
        simp only [Option.some.injEq, Prod.mk.injEq] at he
        obtain ⟨_, rfl⟩ := he
        have e1 := asB_sound (E x) hq
        have e2 := asB_sound (E y) hq'
        refine ⟨_, by simp [execOp, ho, hc, asBool]; rfl, ?_⟩
        cases b <;> simp [e1, e2, LVR, AvR, CelR]
      · simp at he
    · simp at he
  · rename_i t x ho
    obtain ⟨v, h1, h2⟩ := evLoad_sound hT hH (E x) he hp
    exact ⟨v, by simp [execOp, ho, h1], h2⟩
  · rename_i x ho
    unfold evNil at he
    have hx := E x
    split at he <;> simp only [Option.some.injEq, Prod.mk.injEq, reduceCtorEq] at he
    · rename_i hxe
      obtain ⟨_, rfl⟩ := he
      rw [hxe] at hx
      have hx' := hx
      obtain ⟨b, _, hb⟩ := hx
      exact ⟨a.eval x, by simp [execOp, ho, hb], hx'⟩
    · rename_i hxe
      obtain ⟨_, rfl⟩ := he
      rw [hxe] at hx
      have hx' := hx
      obtain ⟨b, _, hb⟩ := hx
      exact ⟨a.eval x, by simp [execOp, ho, hb], hx'⟩
    · rename_i hxe
      obtain ⟨_, rfl⟩ := he
      rw [hxe] at hx
      have hx' := hx
      obtain ⟨b, _, hb⟩ := hx
      exact ⟨a.eval x, by simp [execOp, ho, hb], hx'⟩
  · rename_i op' t x y yt ho
    split at he
    · rename_i r' hr'
      simp only [Option.some.injEq] at he; subst he
      obtain ⟨v, h1, h2⟩ := evBin_sound (P := P) (t := t) (xo := x) (yo := y) w (E x) (E y) hr' hp
      exact ⟨v, by simp only [execOp, ho, Sem.run_bind, h1, Result.andThen_ok, Sem.run_pure], h2⟩
    · obtain ⟨v, h1, h2⟩ := evEqOp_sound hT (t := t) (xo := x) (yo := y) w (E x) (E y) he
      exact ⟨v, by simp only [execOp, ho, Sem.run_bind, h1, Result.andThen_ok, Sem.run_pure], h2⟩
  · rename_i op' t x ho
    obtain ⟨v, h1, h2⟩ := evUn_sound (P := P) w (E x) he hp
    exact ⟨v, by simp [execOp, ho, h1], h2⟩
  · rename_i s d x ho
    obtain ⟨v, h1, h2⟩ := evConv_sound hT w (E x) he hp
    exact ⟨v, by simp [execOp, ho, h1], h2⟩
  · rename_i s x f ho
    obtain ⟨v, h1, h2⟩ := evFieldA_sound hT w (E x) he
    exact ⟨v, by simp [execOp, ho, h1], h2⟩
  · rename_i s x f ho
    obtain ⟨v, h1, h2⟩ := evField_sound hT w (E x) he
    exact ⟨v, by simp [execOp, ho, h1], h2⟩
  · rename_i t x i ho
    obtain ⟨v, h1, h2⟩ := evIdxA_sound hT w (E x) (E i) he hp
    exact ⟨v, by simp [execOp, ho, h1], h2⟩
  · rename_i t x i ho
    obtain ⟨v, h1, h2⟩ := evIdx_sound hT w (E x) (E i) he hp
    exact ⟨v, by simp [execOp, ho, h1], h2⟩
  · rename_i x i ho
    unfold evExt at he
    have hx := E x
    split at he
    · rename_i l hxe
      rw [hxe] at hx
      obtain ⟨arr, hx, hr⟩ := hx
      obtain ⟨y, hy, he⟩ := Option.map_eq_some_iff.1 he
      simp only [Prod.mk.injEq] at he
      obtain ⟨_, rfl⟩ := he
      obtain ⟨v, hv, hrv⟩ := AvsR_get hr hy
      rw [Array.getElem?_toList] at hv
      exact ⟨v, by simp [execOp, ho, hx, Instr.extract, hv], hrv⟩
    · simp at he
  · rename_i t parts ho
    obtain ⟨v, h1, h2⟩ := evBuild_sound hT hM w he
    exact ⟨v, by simp only [execOp, ho, Sem.run_bind, h1, Result.andThen_ok, Sem.run_pure], h2⟩
  · rename_i t x lo hi mx ho
    obtain ⟨v, h1, h2⟩ := evSlice_sound hT hM w he hp
    exact ⟨v, by simp only [execOp, ho, Sem.run_bind, h1, Result.andThen_ok, Sem.run_pure], h2⟩
  · rename_i f first captured ho
    obtain ⟨v, h1, h2⟩ := evFunc_sound (P := P) hM w he
    exact ⟨v, by simp only [execOp, ho, Sem.run_bind, h1, Result.andThen_ok, Sem.run_pure], h2⟩
  · rename_i c ho
    exact evLen_sound hT hM ho w he
  · simp at he

theorem TmR_map {β : List Nat} {st : St} {a : Act} (hM : TmR β st.tmps a.tmps.toList) : ∀ (xs : List Operand), TmR β (xs.map st.ev) (xs.map a.eval)
  | [] => rfl
  | x :: xs => ⟨_, _, rfl, ev_sound hM x, TmR_map hM xs⟩

theorem TmR.append {β : List Nat} : ∀ {as bs : List LV} {vs us : List Value}, TmR β as vs → TmR β bs us → TmR β (as ++ bs) (vs ++ us)
  | [], _, _, _, h, k => by simp only [TmR] at h; subst h; simpa using k
  | _ :: _, _, _, _, ⟨v, rest, h, h1, h2⟩, k => ⟨v, rest ++ _, by rw [h]; rfl, h1, h2.append k⟩

theorem TmR_caps {β : List Nat} : ∀ {caps bs : List Nat}, caps.mapM (fun i => β[i]?) = some bs → TmR β (caps.map fun i => .a (.c (.ptr i 0))) (bs.map fun b => Value.pointer (some ⟨b, 0, none⟩))
  | [], bs, h => by simp only [List.mapM_nil, Option.pure_def, Option.some.injEq] at h; subst h; rfl
  | c :: cs, bs, h => by
    simp only [List.mapM_cons, Option.bind_eq_bind, Option.bind_eq_some_iff, Option.pure_def, Option.some.injEq] at h
    obtain ⟨x, hx, y, hy, rfl⟩ := h
    exact ⟨_, _, rfl, ⟨x, hx, rfl⟩, TmR_caps hy⟩

/-- A call: where it leads. -/
theorem target_sound {P : Program} {β : List Nat} {st : St} {a : Act} (hM : TmR β st.tmps a.tmps.toList) {op : Oper} {f : FuncId} {args : List LV} (he : target st op.op = some (f, args)) (hf : FnOk P f) :
    ∃ vals : Array Value, (∀ w, (execOp a.eval op).run P w = .ok (.enter f vals) w) ∧ TmR β args vals.toList := by
  have enter : ∀ f vals w, FnOk P f → (callFunc f vals).run P w = .ok (.enter f vals) w := by
    intro f vals w ⟨fn, h1, h2, h3⟩
    simp only [callFunc, Sem.run_bind, run_program, Result.andThen_ok, h1, h2, h3, Bool.false_eq_true, if_false, Sem.run_pure]
  unfold target at he
  split at he
  · rename_i c ho
    split at he
    · rename_i f' hcal
      simp only [Option.some.injEq, Prod.mk.injEq] at he
      obtain ⟨rfl, rfl⟩ := he
      refine ⟨c.args.map a.eval, fun w => ?_, by simpa using TmR_map hM c.args.toList⟩
      simp [execOp, ho, resolve, hcal, Act.eval, Deferred.ofValue, invoke]
      exact enter _ _ w hf
    · rename_i x _ hcal
      have hx := ev_sound hM x
      split at he
      · rename_i f' caps hxe
        simp only [Option.some.injEq, Prod.mk.injEq] at he
        obtain ⟨rfl, rfl⟩ := he
        rw [hxe] at hx
        obtain ⟨bs, hbs, hx⟩ := hx
        refine ⟨(c.args.map a.eval) ++ (bs.map fun b => Value.pointer (some ⟨b, 0, none⟩)).toArray, fun w => ?_, ?_⟩
        · simp [execOp, ho, resolve, hcal, hx, Deferred.ofValue, invoke]
          exact enter _ _ w hf
        · simpa using (TmR_map hM c.args.toList).append (TmR_caps hbs)
      · simp at he
    · simp at he
  · simp at he

theorem evCall_sound {P : Program} {C : Ctr} (hC : CtrOk P C) {β : List Nat} {st : St} {a : Act} (hM : TmR β st.tmps a.tmps.toList) {op : Oper} {p : Prop} {r : LV} {H' : Option (List Blk)}
    (he : evCall C st op.op = some (p, r, H')) (hp : p) : ∃ f vals, (∀ w, (execOp a.eval op).run P w = .ok (.enter f vals) w) ∧
      ∀ n0 w0 w, HR n0 w0 β st.heap w → Calls P f vals w fun e w' => ∃ v γ, e = .returned v ∧ HR n0 w0 (β ++ γ) (H'.getD st.heap) w' ∧ LVR (β ++ γ) r v ∧ (H' = none → Below w.heap.size w w') := by
  unfold evCall at he
  split at he
  · rename_i f args ht
    obtain ⟨hf, hcall⟩ := hC.2 _ _ _ _ _ _ he hp
    obtain ⟨vals, h1, h2⟩ := target_sound hM ht hf
    exact ⟨f, vals, h1, fun n0 w0 w hH => hcall n0 w0 β w _ hH h2⟩
  · simp at he

def fixC : Cel → Bool
  | .any => false
  | .slc _ _ _ _ _ _ => false
  | _ => true

def fixA : Av → Bool
  | .c x => fixC x
  | .agg l => l.all fixC

def fixL : LV → Bool
  | .a x => fixA x
  | .tup l => l.all fixA

theorem CelR.uniq {β : List Nat} {c : Cel} {v u : Value} (hf : fixC c = true) (h : CelR β c v) (k : CelR β c u) : v = u := by
  cases c <;> simp only [CelR, fixC, Bool.false_eq_true] at * <;>
    first
      | (rw [h, k]; done)
      | (obtain ⟨b, h1, rfl⟩ := h; obtain ⟨b', k1, rfl⟩ := k; rw [h1] at k1; simp only [Option.some.injEq] at k1; rw [k1])

theorem Cel1.uniq {β : List Nat} {c : Cel} {vs us : List Value} (hf : fixC c = true) (h : Cel1 β c vs) (k : Cel1 β c us) : vs = us := by
  cases c <;> simp only [Cel1] at h k <;>
    first
      | (obtain ⟨v, rfl, h⟩ := h; obtain ⟨u, rfl, k⟩ := k; rw [CelR.uniq hf h k]; done)
      | (rw [h.2, k.2])

theorem CelsR.uniq {β : List Nat} : ∀ {cs : List Cel} {vs us : List Value}, cs.all fixC = true → CelsR β cs vs → CelsR β cs us → vs = us
  | [], vs, us, _, h, k => by simp only [CelsR] at h k; rw [h, k]
  | c :: cs, vs, us, hf, ⟨p, r, h, h1, h2⟩, ⟨q, s, k, k1, k2⟩ => by
    simp only [List.all_cons, Bool.and_eq_true] at hf
    rw [h, k, h1.uniq hf.1 k1, CelsR.uniq hf.2 h2 k2]

theorem AvR.uniq {β : List Nat} {x : Av} {v u : Value} (hf : fixA x = true) (h : AvR β x v) (k : AvR β x u) : v = u := by
  cases x with
  | c x => exact CelR.uniq hf h k
  | agg l =>
    obtain ⟨a1, rfl, h⟩ := h; obtain ⟨a2, rfl, k⟩ := k
    rw [Array.toList_inj.1 (CelsR.uniq hf h k)]

theorem AvsR.uniq {β : List Nat} : ∀ {cs : List Av} {vs us : List Value}, cs.all fixA = true → AvsR β cs vs → AvsR β cs us → vs = us
  | [], vs, us, _, h, k => by simp only [AvsR] at h k; rw [h, k]
  | c :: cs, vs, us, hf, ⟨p, r, h, h1, h2⟩, ⟨q, s, k, k1, k2⟩ => by
    simp only [List.all_cons, Bool.and_eq_true] at hf
    rw [h, k, h1.uniq hf.1 k1, AvsR.uniq hf.2 h2 k2]

theorem LVR.uniq {β : List Nat} {x : LV} {v u : Value} (hf : fixL x = true) (h : LVR β x v) (k : LVR β x u) : v = u := by
  cases x with
  | a x => exact AvR.uniq hf h k
  | tup l =>
    obtain ⟨a1, rfl, h⟩ := h; obtain ⟨a2, rfl, k⟩ := k
    rw [Array.toList_inj.1 (AvsR.uniq hf h k)]

/-! ### The frame -/

def setL : List LV → Nat → LV → List LV
  | [], _, _ => []
  | _ :: xs, 0, v => v :: xs
  | x :: xs, n + 1, v => x :: setL xs n v

def putL (ts : List LV) (d : Option Nat) (v : LV) : List LV :=
  match d with
  | some d => setL ts d v
  | none => ts

theorem setL_sound {β : List Nat} {x : LV} {v : Value} (h : LVR β x v) : ∀ {ts : List LV} {vs : List Value} (d : Nat), TmR β ts vs → TmR β (setL ts d x) (vs.set d v)
  | [], vs, d, hM => by simp only [TmR] at hM; subst hM; rfl
  | t :: ts, vs, 0, ⟨u, rest, e, h1, h2⟩ => by subst e; exact ⟨v, rest, rfl, h, h2⟩
  | t :: ts, vs, d + 1, ⟨u, rest, e, h1, h2⟩ => by subst e; exact ⟨u, _, rfl, h1, setL_sound h d h2⟩

theorem putL_sound {β : List Nat} {x : LV} {v : Value} (h : LVR β x v) {ts : List LV} {a : Act} (d : Option Nat) (hM : TmR β ts a.tmps.toList) : TmR β (putL ts d x) (a.put d v).tmps.toList := by
  cases d with
  | none => exact hM
  | some d => simpa [putL, Act.put] using setL_sound h d hM

/-- What a guard's operation has yielded. -/
inductive Yd where
  | known (b : Bool)
  | open_ (d : Nat) (b : Bool)
  | none_
  | bad

def yOf (ts : List LV) (all : Array Oper) (j : Nat) : Yd :=
  match all[j]? with
  | some oj => match oj.dst with
    | some d => match getL ts d with
      | .a (.c .tt) => .known true
      | .a (.c .ff) => .known false
      | .a (.c (.bool b)) => .open_ d b
      | .a (.c (.val (.tuple _))) => .none_
      | _ => .bad
    | none => .bad
  | none => .bad

theorem getL_bool {β : List Nat} {b : Bool} : ∀ {ts : List LV} {vs : List Value} {d : Nat}, TmR β ts vs → LVR β (getL ts d) (.bool b) → (∀ x, getL ts d = x → x ≠ .a (.c (.val undef)) ∧ x ≠ .a (.c .any)) →
    (∀ v, LVR β (getL ts d) v → v = .bool b) → vs[d]? = some (.bool b)
  | [], vs, d, _, _, hne, _ => absurd rfl ((hne _ rfl).1)
  | t :: ts, vs, 0, ⟨u, rest, e, h1, h2⟩, _, _, hu => by subst e; simp [hu u h1]
  | t :: ts, vs, d + 1, ⟨u, rest, e, h1, h2⟩, hb, hne, hu => by subst e; simpa using getL_bool h2 hb hne hu

theorem yielded_of {β : List Nat} {ts : List LV} {a : Act} (hM : TmR β ts a.tmps.toList) {all : Array Oper} {j : Nat} {oj : Oper} {d : Nat} {b : Bool} (hj : all[j]? = some oj) (hd : oj.dst = some d)
    (hb : LVR β (getL ts d) (.bool b)) (hne : ∀ x, getL ts d = x → x ≠ .a (.c (.val undef)) ∧ x ≠ .a (.c .any)) (hu : ∀ v, LVR β (getL ts d) v → v = .bool b) : yielded all a.tmps j = some b := by
  have := getL_bool hM hb hne hu
  rw [Array.getElem?_toList] at this
  simp [yielded, hj, hd, this]

theorem yOf_known {β : List Nat} {ts : List LV} {a : Act} (hM : TmR β ts a.tmps.toList) {all : Array Oper} {j : Nat} {b : Bool} (h : yOf ts all j = .known b) : yielded all a.tmps j = some b := by
  unfold yOf at h
  split at h
  · rename_i oj hj
    split at h
    · rename_i d hd
      split at h <;> simp only [Yd.known.injEq, reduceCtorEq] at h <;> subst h <;> rename_i hg <;>
        exact yielded_of hM hj hd (by rw [hg]; rfl) (fun x hx => by rw [hg] at hx; subst hx; simp) (fun v hv => by rw [hg] at hv; exact hv)
    · simp at h
  · simp at h

theorem yOf_open {β : List Nat} {ts : List LV} {a : Act} (hM : TmR β ts a.tmps.toList) {all : Array Oper} {j d : Nat} {b : Bool} (h : yOf ts all j = .open_ d b) :
    yielded all a.tmps j = some b ∧ getL ts d = .a (.c (.bool b)) := by
  unfold yOf at h
  split at h
  · rename_i oj hj
    split at h
    · rename_i d hd
      split at h <;> simp only [Yd.open_.injEq, reduceCtorEq] at h
      obtain ⟨rfl, rfl⟩ := h
      rename_i hg
      exact ⟨yielded_of hM hj hd (by rw [hg]; rfl) (fun x hx => by rw [hg] at hx; subst hx; simp) (fun v hv => by rw [hg] at hv; exact hv), hg⟩
    · simp at h
  · simp at h

theorem getL_tup {β : List Nat} {arr : Array Value} : ∀ {ts : List LV} {vs : List Value} {d : Nat}, TmR β ts vs → getL ts d = .a (.c (.val (.tuple arr))) → ∀ b, vs[d]? ≠ some (.bool b)
  | [], vs, d, hM, _, b => by simp only [TmR] at hM; subst hM; simp
  | t :: ts, vs, 0, ⟨u, rest, e, h1, h2⟩, hg, b => by
    simp only [getL] at hg; subst hg; subst e
    have h1 : u = .tuple arr := h1
    subst h1; simp
  | t :: ts, vs, d + 1, ⟨u, rest, e, h1, h2⟩, hg, b => by subst e; simpa using getL_tup h2 hg b

theorem yOf_none {β : List Nat} {ts : List LV} {a : Act} (hM : TmR β ts a.tmps.toList) {all : Array Oper} {j : Nat} (h : yOf ts all j = .none_) : yielded all a.tmps j = none := by
  unfold yOf at h
  split at h
  · rename_i oj hj
    split at h
    · rename_i d hd
      split at h <;> simp only [reduceCtorEq] at h
      rename_i hg
      have := getL_tup hM hg
      rw [Array.getElem?_toList] at this
      unfold yielded
      simp only [hj, hd, Option.bind_some]
    · simp at h
  · simp at h

def litB (b : Bool) : LV := if b then .a (.c .tt) else .a (.c .ff)

/-- A slot of which the value has become known. -/
theorem know_sound {β : List Nat} {b : Bool} : ∀ {ts : List LV} {vs : List Value} {d : Nat}, TmR β ts vs → getL ts d = .a (.c (.bool b)) → TmR β (setL ts d (litB b)) vs
  | [], vs, d, hM, _ => hM
  | t :: ts, vs, 0, ⟨u, rest, e, h1, h2⟩, hg => by
    simp only [getL] at hg; subst hg
    exact ⟨u, rest, e, by have h1 : u = .bool b := h1; subst h1; cases b <;> rfl, h2⟩
  | t :: ts, vs, d + 1, ⟨u, rest, e, h1, h2⟩, hg => ⟨u, rest, e, h1, know_sound h2 hg⟩

/-- A way that the executor does not know. -/
def Stuck (_ : String) : Prop := False

def force {α : Type} : List α → (List α → Prop) → Prop
  | [], k => k []
  | x :: xs, k => force xs fun ys => k (x :: ys)

theorem force_eq {α : Type} : ∀ (l : List α) (k : List α → Prop), force l k = k l
  | [], _ => rfl
  | x :: xs, k => by simp [force, force_eq xs]

def forceC (x : Cel) (k : Cel → Prop) : Prop :=
  match x with
  | .any => k .any
  | .lit a b => k (.lit a b)
  | .int a b => k (.int a b)
  | .tt => k .tt
  | .ff => k .ff
  | .bool b => k (.bool b)
  | .str s => k (.str s)
  | .ptr a b => k (.ptr a b)
  | .pti a b c d e => k (.pti a b c d e)
  | .slc a b c d e f => k (.slc a b c d e f)
  | .val v => k (.val v)
  | .fn a b => k (.fn a b)
  | .yld a => k (.yld a)
  | .run a b c => k (.run a b c)

theorem forceC_eq (x : Cel) (k : Cel → Prop) : forceC x k = k x := by cases x <;> rfl

def forceCs : List Cel → (List Cel → Prop) → Prop
  | [], k => k []
  | x :: xs, k => forceC x fun y => forceCs xs fun ys => k (y :: ys)

theorem forceCs_eq : ∀ (l : List Cel) (k : List Cel → Prop), forceCs l k = k l
  | [], _ => rfl
  | x :: xs, k => by simp [forceCs, forceC_eq, forceCs_eq xs]

def forceV (x : LV) (k : LV → Prop) : Prop :=
  match x with
  | .a (.c x) => forceC x fun x => k (.a (.c x))
  | .a (.agg l) => forceCs l fun l => k (.a (.agg l))
  | .tup l => force l fun l => k (.tup l)

theorem forceV_eq (x : LV) (k : LV → Prop) : forceV x k = k x := by
  cases x with
  | a x => cases x <;> simp [forceV, forceC_eq, forceCs_eq]
  | tup l => simp [forceV, force_eq]

def forceH : List Blk → (List Blk → Prop) → Prop
  | [], k => k []
  | .dead :: xs, k => forceH xs fun ys => k (.dead :: ys)
  | .gst N gd el i :: xs, k => forceH xs fun ys => k (.gst N gd el i :: ys)
  | .cells o t cs :: xs, k => forceCs cs fun cs => forceH xs fun ys => k (.cells o t cs :: ys)

theorem forceH_eq : ∀ (l : List Blk) (k : List Blk → Prop), forceH l k = k l
  | [], _ => rfl
  | .dead :: xs, k => by simp [forceH, forceH_eq xs]
  | .gst N gd el i :: xs, k => by simp [forceH, forceH_eq xs]
  | .cells o t cs :: xs, k => by simp [forceH, forceH_eq xs, forceCs_eq]

def forceT : List LV → (List LV → Prop) → Prop
  | [], k => k []
  | x :: xs, k => forceV x fun y => forceT xs fun ys => k (y :: ys)

theorem forceT_eq : ∀ (l : List LV) (k : List LV → Prop), forceT l k = k l
  | [], _ => rfl
  | x :: xs, k => by simp [forceT, forceV_eq, forceT_eq xs]

def yldOf (st : St) (c : Call) : Option Nat :=
  match c.callee with
  | .value x => match st.ev x with
    | .a (.c (.yld id)) => some id
    | _ => none
  | _ => none

def deads : List Blk → List Blk
  | [] => []
  | _ :: r => .dead :: deads r

/-- The blocks behind a round: of all cells nothing is known. -/
def behind : List Blk → Nat → Option Nat → List Blk
  | [], _, _ => []
  | x :: r, 0, i => (match x with | .gst N gd el _ => .gst N gd el i | _ => .dead) :: deads r
  | _ :: r, n + 1, i => .dead :: behind r n i

def evYld (id : Nat) (args : List LV) (H : List Blk) (K : LV → List Blk → Prop) : Prop :=
  match getB H id, args with
  | .gst N gd el (some i), [.a (.c (.int .i64 v))] => ∃ j, i ≤ j ∧ j < N ∧ (∀ k, i ≤ k → k < j → gd k = false) ∧ gd j = true ∧ v = el j ∧
      K (.a (.c .tt)) (behind H id (some (j + 1))) ∧ K (.a (.c .ff)) (behind H id none)
  | _, _ => Stuck "yield"

/-- One operation. -/
def evOne (o : Bool) (T : Tab) (I : CI) (op : Oper) (st : St) (K : St → Prop) : Prop :=
  match op.op with
  | .alloc _ | .box _ _ | .store _ _ _ | .buildSlice _ _ _ =>
    match evMem T st op.op with
    | some (p, r, H') => p ∧ forceV r fun r => force (putL st.tmps op.dst r) fun ts => forceH H' fun H' => K ⟨ts, H'⟩
    | none => Stuck op.pos
  | .call c =>
    match c.callee with
    | .builtin .len => match evPure o T st (.call c) with
      | some (p, r) => p ∧ forceV r fun r => force (putL st.tmps op.dst r) fun ts => K ⟨ts, st.heap⟩
      | none => Stuck op.pos
    | .builtin _ => match evMem T st (.call c) with
      | some (p, r, H') => p ∧ forceV r fun r => force (putL st.tmps op.dst r) fun ts => forceH H' fun H' => K ⟨ts, H'⟩
      | none => Stuck op.pos
    | _ => match yldOf st c with
    | some id => evYld id (c.args.toList.map st.ev) st.heap fun r H' => forceV r fun r => force (putL st.tmps op.dst r) fun ts => forceH H' fun H' => K ⟨ts, H'⟩
    | none => match target st (.call c) with
    | some (f, args) => I f args st.heap fun r H' => forceV r fun r => force (putL st.tmps op.dst r) fun ts => forceH H' fun H' => K ⟨ts, H'⟩
    | none => Stuck op.pos
  | _ =>
    match evPure o T st op.op with
    | some (p, r) => p ∧ forceV r fun r => force (putL st.tmps op.dst r) fun ts => K ⟨ts, st.heap⟩
    | none => Stuck op.pos

def evOps (o : Bool) (T : Tab) (I : CI) (all : Array Oper) : List Oper → St → (St → Prop) → Prop
  | [], st, K => K st
  | op :: rest, st, K =>
    match op.guard with
    | none => evOne o T I op st fun st' => evOps o T I all rest st' K
    | some (j, want) =>
      match yOf st.tmps all j with
      | .known b =>
        if b = want then evOne o T I op st fun st' => evOps o T I all rest st' K
        else force (putL st.tmps op.dst (.a (.c (.val undef)))) fun ts => evOps o T I all rest ⟨ts, st.heap⟩ K
      | .open_ d b =>
        (b = want → force (setL st.tmps d (litB want)) fun ts => evOne o T I op ⟨ts, st.heap⟩ fun st' => evOps o T I all rest st' K) ∧
        (b = !want → force (putL (setL st.tmps d (litB !want)) op.dst (.a (.c (.val undef)))) fun ts => evOps o T I all rest ⟨ts, st.heap⟩ K)
      | .none_ => force (putL st.tmps op.dst (.a (.c (.val undef)))) fun ts => evOps o T I all rest ⟨ts, st.heap⟩ K
      | .bad => Stuck op.pos

/-- One operation of a region that draws its order. -/
def evOneQ (o : Bool) (T : Tab) (C : Ctr) (op : Oper) (st : St) (K : St → Prop) : Prop :=
  match op.op with
  | .call c =>
    match c.callee with
    | .builtin _ => match evPure o T st op.op with
      | some (p, r) => if fixL r = true then p ∧ forceV r fun r => force (putL st.tmps op.dst r) fun ts => K ⟨ts, st.heap⟩ else Stuck op.pos
      | none => Stuck op.pos
    | _ => match evCall C st op.op with
    | some (p, r, none) => if fixL r = true then p ∧ forceV r fun r => force (putL st.tmps op.dst r) fun ts => K ⟨ts, st.heap⟩ else Stuck op.pos
    | _ => Stuck op.pos
  | _ =>
    match evPure o T st op.op with
    | some (p, r) => if fixL r = true then p ∧ forceV r fun r => force (putL st.tmps op.dst r) fun ts => K ⟨ts, st.heap⟩ else Stuck op.pos
    | none => Stuck op.pos

def evOpsV (o : Bool) (T : Tab) (C : Ctr) (all : Array Oper) : List Oper → St → (St → Prop) → Prop
  | [], st, K => K st
  | op :: rest, st, K =>
    match op.guard with
    | none => match op.op with
      | .alloc _ => force (putL st.tmps op.dst (.a (.c (.val undef)))) fun ts => evOpsV o T C all rest ⟨ts, st.heap⟩ K
      | _ => evOneQ o T C op st fun st' => evOpsV o T C all rest st' K
    | some (j, want) =>
      match yOf st.tmps all j with
      | .known b =>
        if b = want then evOneQ o T C op st fun st' => evOpsV o T C all rest st' K
        else force (putL st.tmps op.dst (.a (.c (.val undef)))) fun ts => evOpsV o T C all rest ⟨ts, st.heap⟩ K
      | .open_ d b =>
        (b = want → force (setL st.tmps d (litB want)) fun ts => evOneQ o T C op ⟨ts, st.heap⟩ fun st' => evOpsV o T C all rest st' K) ∧
        (b = !want → force (putL (setL st.tmps d (litB !want)) op.dst (.a (.c (.val undef)))) fun ts => evOpsV o T C all rest ⟨ts, st.heap⟩ K)
      | .none_ => force (putL st.tmps op.dst (.a (.c (.val undef)))) fun ts => evOpsV o T C all rest ⟨ts, st.heap⟩ K
      | .bad => Stuck op.pos

theorem calls_wd {P : Program} {f : FuncId} {args : Array Value} {w : World} {R : Ending → World → Prop} {n : Nat} (r : Option Nat) (h : Calls P f args w R) : CallsIn (Wd r) n P f args w R := by
  have := callsIn_wide (n := n).2 h
  exact this

theorem getB_gst : ∀ {H : List Blk} {i : Nat} {N : Nat} {gd : Nat → Bool} {el : Nat → Int} {k : Option Nat}, getB H i = .gst N gd el k → H[i]? = some (.gst N gd el k)
  | [], _, _, _, _, _, h => by simp [getB] at h
  | x :: xs, 0, _, _, _, _, h => by simpa [getB] using h
  | x :: xs, n + 1, _, _, _, _, h => by simpa using getB_gst (H := xs) h

theorem deads_get : ∀ {H : List Blk} {k : Nat} {B : Blk}, (deads H)[k]? = some B → B = .dead
  | [], _, _, h => by simp [deads] at h
  | _ :: _, 0, _, h => by simp [deads] at h; exact h.symm
  | _ :: r, k + 1, _, h => by simp only [deads, List.getElem?_cons_succ] at h; exact deads_get (H := r) h

theorem deads_len : ∀ (H : List Blk), (deads H).length = H.length
  | [] => rfl
  | _ :: r => by simp [deads, deads_len r]

theorem behind_len : ∀ (H : List Blk) (id : Nat) (i : Option Nat), (behind H id i).length = H.length
  | [], _, _ => rfl
  | _ :: r, 0, i => by simp [behind, deads_len]
  | _ :: r, n + 1, i => by simp [behind, behind_len r]

theorem behind_get : ∀ {H : List Blk} {id : Nat} {i : Option Nat} {N : Nat} {gd : Nat → Bool} {el : Nat → Int} {i0 : Option Nat} {k : Nat} {B : Blk}, getB H id = .gst N gd el i0 → (behind H id i)[k]? = some B →
    B = .dead ∨ (k = id ∧ B = .gst N gd el i)
  | [], _, _, _, _, _, _, _, _, _, h => by simp [behind] at h
  | x :: r, 0, i, N, gd, el, i0, 0, B, hg, h => by
    simp only [getB] at hg; subst hg
    simp only [behind, List.getElem?_cons_zero, Option.some.injEq] at h
    exact .inr ⟨rfl, h.symm⟩
  | x :: r, 0, i, N, gd, el, i0, k + 1, B, hg, h => by
    simp only [behind, List.getElem?_cons_succ] at h
    exact .inl (deads_get h)
  | x :: r, n + 1, i, N, gd, el, i0, 0, B, hg, h => by
    simp only [behind, List.getElem?_cons_zero, Option.some.injEq] at h
    exact .inl h.symm
  | x :: r, n + 1, i, N, gd, el, i0, k + 1, B, hg, h => by
    simp only [behind, List.getElem?_cons_succ] at h
    rcases behind_get (H := r) (by simpa [getB] using hg) h with h | ⟨h1, h2⟩
    · exact .inl h
    · exact .inr ⟨by rw [h1], h2⟩

theorem skips {J : Option Nat → World → Prop} {gd : Nat → Bool} {N : Nat} {w : World} (hs : ∀ i, i < N → gd i = false → J (some i) w → J (some (i + 1)) w) {i : Nat} (h : J (some i) w) :
    ∀ d, i + d ≤ N → (∀ k, i ≤ k → k < i + d → gd k = false) → J (some (i + d)) w
  | 0, _, _ => h
  | d + 1, h1, h2 => hs (i + d) (by omega) (h2 _ (by omega) (by omega)) (skips hs h d (by omega) (fun k a b => h2 k a (by omega)))

theorem evYld_sound {P : Program} {n0 : Nat} {w0 : Base} (hB : RoundsOk P n0 w0) {β : List Nat} {st : St} {a : Act} {w : World} (hH : HR n0 w0 β st.heap w) (hM : TmR β st.tmps a.tmps.toList) {op : Oper} {c : Call} (ho : op.op = .call c)
    {id : Nat} (hy : yldOf st c = some id) {K : LV → List Blk → Prop} (h : evYld id (c.args.toList.map st.ev) st.heap K) :
    ∃ l args, (execOp a.eval op).run P w = (Instr.yield l args).run P w ∧ YldAt P l args w fun e w' => ∃ v lv H', e = .returned v ∧ K lv H' ∧ HR n0 w0 β H' w' ∧ LVR β lv v := by
  unfold yldOf at hy
  split at hy
  · rename_i x hcal
    split at hy
    · rename_i id' hx
      simp only [Option.some.injEq] at hy; subst hy
      have hv := ev_sound hM x
      rw [hx] at hv
      obtain ⟨b, hb, hv⟩ := hv
      have hargs := TmR_map hM c.args.toList
      unfold evYld at h
      split at h
      · rename_i N gd el i v hg ha
        obtain ⟨j, hij, hjN, hsk, hgj, rfl, hk1, hk2⟩ := h
        rw [ha] at hargs
        obtain ⟨u, rest, e1, hu, hrest⟩ := hargs
        simp only [TmR] at hrest; subst hrest
        have hu : u = .int .i64 (el j) := hu
        subst hu
        have hblk := hH.blk _ _ _ (getB_gst hg) hb
        obtain ⟨hbl, hJ⟩ := hblk
        have hJj : w0.J N gd el (some j) w := by
          have := skips (J := w0.J N gd el) (gd := gd) (N := N) (w := w) (fun i h1 h2 h3 => hB.skip N gd el i h1 h2 w h3) hJ (j - i) (by omega) (fun k a b => hsk k a (by omega))
          rwa [show i + (j - i) = j by omega] at this
        have hr := hB.round N gd el j hjN hgj w hJj
        have hargs' : c.args.map a.eval = #[.int .i64 (el j)] := Array.toList_inj.1 (by rw [Array.toList_map]; exact e1)
        refine ⟨w0.l, #[.int .i64 (el j)], ?_, ?_⟩
        · rw [← hbl]
          simp [execOp, ho, resolve, hcal, hv, Deferred.ofValue, invoke, hargs']
        · obtain ⟨fn, tmps, as, bd, h1, h2⟩ := hr
          refine ⟨fn, tmps, as, bd, h1, fun r n => (h2 r n).mono ?_⟩
          have fin : ∀ (i' : Option Nat) (w' : World), RK n0 w w' → w0.J N gd el i' w' → HR n0 w0 β (behind st.heap id' i') w' := by
            intro i' w' hrk hj'
            refine ⟨Nat.le_trans hH.base hrk.1, by rw [behind_len]; exact hH.len, hH.nd, fun b hb => Nat.lt_of_lt_of_le (hH.lt b hb) hrk.1, Nat.le_trans hH.ms hrk.1, hH.st, hH.sj, hB.keep _ _ _ _ _ _ hJj hrk hH.ext, ?_⟩
            intro k B b' hB' hb'
            rcases behind_get hg hB' with rfl | ⟨rfl, rfl⟩
            · trivial
            · rw [hb] at hb'; simp only [Option.some.injEq] at hb'; subst hb'
              exact ⟨hbl, hj'⟩
          rintro e w' ⟨hrk, ⟨rfl, hj'⟩ | ⟨rfl, hj'⟩⟩
          · exact ⟨_, _, _, rfl, hk1, fin _ _ hrk hj', rfl⟩
          · exact ⟨_, _, _, rfl, hk2, fin _ _ hrk hj', rfl⟩
      · exact h.elim
    · simp at hy
  · simp at hy

theorem semAt_plain {r : Option Nat} {ρ : Operand → Value} {op : Oper} (h : ∀ c, op.op ≠ .defer c) : op.semAt r ρ = execOp ρ op := Oper.semAt_eq r ρ op h

section
variable {P : Program} {T : Tab} (hT : TabOk P T) {I : CI} (hI : CIOk P I) {o : Bool} {n0 : Nat} {w0 : Base} (hB : RoundsOk P n0 w0) {D : List Deferred} {rd : Option Nat} {n : Nat}
include hT hI hB

theorem evOne_sound {op : Oper} {st : St} {K : St → Prop} {β : List Nat} {a : Act} {w : World} {K' : Act → World → Prop} {Q : Exit → Act → World → Prop}
    (h : evOne o T I op st K) (hH : HR n0 w0 β st.heap w) (hM : TmR β st.tmps a.tmps.toList) (hD : a.defers = D)
    (hK : ∀ st' γ a' w', K st' → HR n0 w0 (β ++ γ) st'.heap w' → TmR (β ++ γ) st'.tmps a'.tmps.toList → a'.defers = D → K' a' w') :
    op.wpIn (Wd rd) n P a w K' Q := by
  have hput : ∀ (v : Value), (a.put op.dst v).defers = D := by intro v; unfold Act.put; split <;> simpa using hD
  refine ⟨fun _ _ => trivial, ?_⟩
  unfold evOne at h
  split at h
  case h_5 =>
    rename_i c ho
    rw [semAt_plain (by intro c hc; rw [ho] at hc; cases hc)]
    split at h
    · split at h
      · rename_i p r he
        obtain ⟨hp, h⟩ := h
        rw [forceV_eq, force_eq] at h
        obtain ⟨v, h1, h2⟩ := evPure_sound hT hH hM (a := a) (op := op) (by rw [ho]; exact he) hp
        rw [h1]
        have := hK ⟨putL st.tmps op.dst r, st.heap⟩ [] (a.put op.dst v) w h (by simpa using hH) (by simpa using putL_sound h2 op.dst hM) (hput v)
        exact this
      · exact h.elim
    · split at h
      · rename_i p r H' he
        obtain ⟨hp, h⟩ := h
        rw [forceV_eq, force_eq, forceH_eq] at h
        obtain ⟨v, w', h1, h2, h3⟩ := evCopy_sound hT hH hM (a := a) (op := op) ho he hp
        rw [h1]
        have := hK ⟨putL st.tmps op.dst r, H'⟩ [] (a.put op.dst v) w' h (by simpa using h2) (by simpa using putL_sound h3 op.dst hM) (hput v)
        exact this
      · exact h.elim
    · split at h
      · rename_i id hy
        obtain ⟨l, args, e1, f', tmps, as, bd, hrun, hround⟩ := evYld_sound hB hH hM (a := a) (op := op) ho hy h
        rw [e1, hrun]
        refine ⟨fun hd => by simp [Wd, Fence.wide] at hd, (hround rd _).mono ?_⟩
        rintro e w' ⟨v, lv, H', rfl, g0, g1, g2⟩
        rw [forceV_eq, force_eq, forceH_eq] at g0
        exact hK _ [] _ _ g0 (by simpa using g1) (by simpa using putL_sound g2 _ hM) (hput v)
      split at h
      · rename_i f args ht
        obtain ⟨hf, hcall⟩ := hI _ _ _ _ h
        obtain ⟨vals, h1, h2⟩ := target_sound hM (a := a) (op := op) (by rw [ho]; exact ht) hf
        rw [h1 w]
        refine ⟨fun hd => by simp [Wd, Fence.wide] at hd, (calls_wd rd (hcall n0 w0 β w _ hB hH h2)).mono ?_⟩
        rintro e w' ⟨v, γ, lv, H', rfl, g0, g1, g2⟩
        rw [forceV_eq, force_eq, forceH_eq] at g0
        exact hK _ γ _ _ g0 g1 (putL_sound g2 _ hM.mono) (hput v)
      · exact h.elim
  case h_6 =>
    split at h
    · rename_i p r he
      obtain ⟨hp, h⟩ := h
      rw [forceV_eq, force_eq] at h
      obtain ⟨v, h1, h2⟩ := evPure_sound hT hH hM (a := a) (op := op) he hp
      rw [semAt_plain (by intro c hc; rw [hc] at he; simp [evPure] at he), h1]
      have := hK ⟨putL st.tmps op.dst r, st.heap⟩ [] (a.put op.dst v) w h (by simpa using hH) (by simpa using putL_sound h2 op.dst hM) (hput v)
      exact this
    · exact h.elim
  case h_4 =>
    rename_i t len parts ho
    split at h
    · rename_i p r H' he
      obtain ⟨hp, h⟩ := h
      rw [forceV_eq, force_eq, forceH_eq] at h
      rw [ho] at he
      obtain ⟨v, w', γ, h1, h2, h3⟩ := evBuildS_sound hT hH hM he
      rw [semAt_plain (by intro c hc; rw [ho] at hc; cases hc)]
      have e : (execOp a.eval op).run P w = .ok (.value v) w' := by simp only [execOp, ho, Sem.run_bind, h1, Result.andThen_ok, Sem.run_pure]
      rw [e]
      exact hK _ γ _ _ h h2 (putL_sound h3 _ hM.mono) (hput v)
    · exact h.elim
  case h_1 =>
    rename_i t ho
    split at h
    · rename_i p r H' he
      obtain ⟨hp, h⟩ := h
      rw [forceV_eq, force_eq, forceH_eq] at h
      rw [ho] at he
      obtain ⟨v, w', γ, h1, h2, h3⟩ := evAlloc_sound hT hH he
      rw [semAt_plain (by intro c hc; rw [ho] at hc; cases hc)]
      have e : (execOp a.eval op).run P w = .ok (.value v) w' := by simp [execOp, ho, h1]
      rw [e]
      exact hK _ γ _ _ h h2 (putL_sound h3 _ hM.mono) (hput v)
    · exact h.elim
  case h_2 =>
    rename_i t x ho
    split at h
    · rename_i p r H' he
      obtain ⟨hp, h⟩ := h
      rw [forceV_eq, force_eq, forceH_eq] at h
      rw [ho] at he
      obtain ⟨v, w', γ, h1, h2, h3⟩ := evBox_sound (P := P) hH (ev_sound hM x) he
      rw [semAt_plain (by intro c hc; rw [ho] at hc; cases hc)]
      have e : (execOp a.eval op).run P w = .ok (.value v) w' := by simp [execOp, ho, h1]
      rw [e]
      exact hK _ γ _ _ h h2 (putL_sound h3 _ hM.mono) (hput v)
    · exact h.elim
  case h_3 =>
    rename_i t x y ho
    split at h
    · rename_i p r H' he
      obtain ⟨hp, h⟩ := h
      rw [forceV_eq, force_eq, forceH_eq] at h
      rw [ho] at he
      obtain ⟨w', h1, h2, rfl⟩ := evStore_sound hT hH (ev_sound hM x) (ev_sound hM y) he hp
      rw [semAt_plain (by intro c hc; rw [ho] at hc; cases hc)]
      have e : (execOp a.eval op).run P w = .ok .skip w' := by simp [execOp, ho, h1]
      rw [e]
      have := hK ⟨putL st.tmps op.dst (.a (.c (.val undef))), H'⟩ [] (a.put op.dst undef) w' h (by simpa using h2) (by simpa using putL_sound (β := β) (x := .a (.c (.val undef))) (v := undef) rfl op.dst hM) (hput undef)
      exact this
    · exact h.elim

theorem evOps_sound {all : Array Oper} {K : St → Prop} {Q : Exit → Act → World → Prop} : ∀ (l : List Oper) (st : St) (β : List Nat) (a : Act) (w : World),
    evOps o T I all l st K → HR n0 w0 β st.heap w → TmR β st.tmps a.tmps.toList → a.defers = D →
    (∀ st' γ a' w', K st' → HR n0 w0 (β ++ γ) st'.heap w' → TmR (β ++ γ) st'.tmps a'.tmps.toList → a'.defers = D → Q .normal a' w') →
    wpListIn (Wd rd) n P all Q l a w
  | [], st, β, a, w, h, hH, hM, hD, hK => by
    have := hK st [] a w h (by simpa using hH) (by simpa using hM) hD
    exact this
  | op :: rest, st, β, a, w, h, hH, hM, hD, hK => by
    have hput : ∀ (v : Value), (a.put op.dst v).defers = D := by intro v; unfold Act.put; split <;> simpa using hD
    have one : ∀ (st : St), HR n0 w0 β st.heap w → TmR β st.tmps a.tmps.toList → evOne o T I op st (fun st' => evOps o T I all rest st' K) → op.wpIn (Wd rd) n P a w (wpListIn (Wd rd) n P all Q rest) Q := by
      intro st hH hM h
      refine evOne_sound hT hI hB h hH hM hD ?_
      intro st' γ a' w' hk g1 g2 g3
      exact evOps_sound rest st' (β ++ γ) a' w' hk g1 g2 g3 (fun st'' γ' a'' w'' k1 k2 k3 k4 => hK st'' (γ ++ γ') a'' w'' k1 (by simpa using k2) (by simpa using k3) k4)
    have skip : ∀ (ts : List LV), TmR β ts a.tmps.toList → evOps o T I all rest ⟨putL ts op.dst (.a (.c (.val undef))), st.heap⟩ K → wpListIn (Wd rd) n P all Q rest (a.put op.dst undef) w := by
      intro ts hts h
      exact evOps_sound rest _ β _ w h hH (putL_sound (x := .a (.c (.val undef))) (v := undef) rfl _ hts) (hput undef) hK
    unfold evOps at h
    unfold wpListIn
    split at h
    · rename_i hg
      rw [if_pos (by simp [Region.wanted, hg])]
      exact one st hH hM h
    · rename_i j want hg
      split at h
      · rename_i b hy
        have hy' := yOf_known hM hy
        by_cases hb : b = want
        · rw [if_pos hb] at h
          rw [if_pos (by simp [Region.wanted, hg, hy', hb])]
          exact one st hH hM h
        · rw [if_neg hb, force_eq] at h
          rw [if_neg (by simp [Region.wanted, hg, hy', hb])]
          exact ⟨fun _ _ => trivial, skip _ hM h⟩
      · rename_i d b hy
        obtain ⟨hy', hgd⟩ := yOf_open hM hy
        by_cases hb : b = want
        · have h := h.1 hb
          rw [force_eq] at h
          rw [if_pos (by simp [Region.wanted, hg, hy', hb])]
          subst hb
          exact one ⟨setL st.tmps d (litB b), st.heap⟩ hH (know_sound hM hgd) h
        · have hb' : b = !want := by cases b <;> cases want <;> simp_all
          have h := h.2 hb'
          rw [force_eq] at h
          rw [if_neg (by simp [Region.wanted, hg, hy', hb])]
          refine ⟨fun _ _ => trivial, skip _ ?_ h⟩
          rw [← hb']; exact know_sound hM hgd
      · rename_i hy
        have hy' := yOf_none hM hy
        rw [force_eq] at h
        rw [if_neg (by simp [Region.wanted, hg, hy'])]
        exact ⟨fun _ _ => trivial, skip _ hM h⟩
      · exact h.elim

end



/-! ### A quiet region, in a round too: the kit's law without its condition on the round -/

section
variable {F : Fence} {n : Nat} {P : Program} {ops : Array Oper} {md : Region.Mode} {C : World → Prop}

theorem wpIn_of_quiet' {o : Oper} {a : Act} {K : Act → Prop} {K' : Act → World → Prop} {Q' : Exit → Act → World → Prop} {w : World} (hro : ∀ c, o.op ≠ .defer c) (hw : C w) (h : ∀ a w', C w' → K a → K' a w')
    (ha : o.askedIn F P a C) (hh : o.quietIn F n P a C K) : o.wpIn F n P a w K' Q' := by
  obtain ⟨v, h1, h2⟩ := hh
  have h3 := h1 w hw
  unfold Oper.quietAtIn at h3
  unfold Oper.wpIn
  refine ⟨ha w hw, ?_⟩
  rw [Oper.semAt_eq _ _ _ hro]
  generalize (execOp a.eval o).run P w = r at *
  cases r with
  | ok x w' =>
    cases x <;> simp only [Oper.quietUponIn] at h3 <;> simp only [Oper.uponIn]
    case value u =>
      obtain ⟨e1, e2⟩ := h3
      rw [e1, e2]
      exact h _ _ hw h2
    case skip =>
      obtain ⟨e1, e2⟩ := h3
      rw [e1, ← e2]
      exact h _ _ hw h2
    case enter f args =>
      obtain ⟨e1, hd, hc⟩ := h3
      rw [e1]
      exact ⟨hd, hc.mono fun e w'' ⟨he, hw''⟩ => by subst he; exact h _ _ hw'' h2⟩
  | halt x w' => simp only [Oper.quietUponIn] at h3

theorem wpOpIn_of_qOpIn' (hro : ∀ (i : Nat) (o : Oper), ops[i]? = some o → ∀ c, o.op ≠ .defer c) {i : Nat} {a : Act} {K : Act → Prop} {K' : Act → World → Prop} {Q' : Exit → Act → World → Prop} {w : World} (hC : C w) (h : ∀ a w', C w' → K a → K' a w')
    (hh : qOpIn F n P ops C i K a) : wpOpIn F n P ops Q' i K' a w := by
  unfold qOpIn at hh
  unfold wpOpIn
  split
  · rename_i ho; simp only [ho] at hh; exact h _ _ hC hh
  · rename_i o ho
    simp only [ho] at hh
    obtain ⟨ha, hh⟩ := hh
    split
    · rename_i hw; simp only [hw, if_true] at hh; exact wpIn_of_quiet' (hro i o ho) hC h ha hh
    · rename_i hw; simp only [hw] at hh; exact ⟨ha w hC, h _ _ hC hh⟩

theorem wpAnyIn_of_quiet' (hro : ∀ (i : Nat) (o : Oper), ops[i]? = some o → ∀ c, o.op ≠ .defer c) {Q : Act → Prop} {Q' : Exit → Act → World → Prop} (hQ : ∀ a w, C w → Q a → Q' .normal a w) : ∀ (fuel : Nat) (listed : Array Bool) (a : Act) (w : World), C w →
    wpAnyQIn F n P md ops C Q fuel listed a → wpAnyIn F n P md ops Q' fuel listed a w
  | 0, _, _, _, hw, h => ⟨h.1, hQ _ _ hw h.2⟩
  | fuel + 1, _, _, _, hw, h => ⟨fun h0 => hQ _ _ hw (h.1 h0), fun i hi => wpOpIn_of_qOpIn' hro hw (fun a' w' hw' => wpAnyIn_of_quiet' hro hQ fuel _ a' w' hw') (h.2 i hi)⟩

theorem wpIn_region_quiet' {id : Nat} {Q : Exit → Act → World → Prop} {a : Act} {w : World} (hro : ∀ (i : Nat) (o : Oper), ops[i]? = some o → ∀ c, o.op ≠ .defer c) (hm : P.follows .mixedOrders = true) (hB : Region.lexB .any ops = true) (hC : C { w with drawn := w.drawn + 1 })
    (h : wpQuietIn F n P ops C (fun a' => ∀ w', C w' → Q .normal a' w') ops.toList a) : (Code.region id ops true).wpIn F n P Q a w := by
  simp only [Region.lexB, Bool.and_eq_true] at hB
  refine wpIn_region_any hm (wpAnyIn_of_quiet' (Q := fun a' => ∀ w', C w' → Q .normal a' w') hro (fun _ w' hw' h => h w' hw') _ _ _ _ hC ?_)
  have := wpAnyQIn_lex (F := F) (n := n) (C := C) (md := .any) hB.1 ops.toList 0 (Array.replicate ops.size false) a (by simp) (by simpa using hB.2) h
  simpa using this

end

def noDefer (ops : Array Oper) : Bool := ops.toList.all fun o => match o.op with | .defer _ => false | _ => true

theorem noDefer_sound {ops : Array Oper} (h : noDefer ops = true) (i : Nat) (o : Oper) (ho : ops[i]? = some o) (c : Call) : o.op ≠ .defer c := by
  intro e
  have := List.all_eq_true.1 h o (by rw [← Array.getElem?_toList] at ho; exact List.mem_of_getElem? ho)
  simp [e] at this

theorem HR.draw {n0 : Nat} {w0 : Base} {w : World} {β : List Nat} {H : List Blk} (h : HR n0 w0 β H w) : HR n0 w0 β H { w with drawn := w.drawn + 1 } :=
  ⟨h.base, h.len, h.nd, h.lt, h.ms, h.st, h.sj, h.st _ _ (Grow.drew _ _ w) h.ext, fun i B b hB hb => by
    have := h.blk i B b hB hb
    cases B with
    | dead => trivial
    | gst N gd el j => exact ⟨this.1, h.sj _ _ _ _ _ _ (Grow.drew n0 0 w).below this.2⟩
    | cells own t cs => exact this⟩

theorem semAt_plain' {r : Option Nat} {ρ : Operand → Value} {op : Oper} (h : ∀ c, op.op ≠ .defer c) : op.semAt r ρ = execOp ρ op := Oper.semAt_eq r ρ op h

/-! ### Regions that draw their order: quiet operations, one block laid among them, then operations that wait for all -/

def isAl (o : Oper) : Bool := match o.guard, o.op with
  | none, .alloc _ => true
  | _, _ => false

/-- An operation that looks at no world. -/
def isWF (o : Oper) : Bool := match o.guard, o.op with
  | none, .extract _ _ => true
  | _, _ => false

/-- What abides whatever turns nothing that lay there. -/
def Stb (D : World → Prop) : Prop := ∀ w w', D w → Below w.heap.size w w' → D w'

section
variable {rd : Option Nat} {n : Nat} {P : Program} {ops : Array Oper} {C : World → Prop} {nA : Nat}

/-- One value in every world of the class, and nothing turned; a block's address is left open. -/
def YU (rd : Option Nat) (n : Nat) (P : Program) (ops : Array Oper) (C : World → Prop) (o : Oper) (v : Value) (a : Act) : Prop :=
  if isAl o = true then v = undef else
  ((Region.wanted o (yielded ops a.tmps) = true ∧ ∀ D, Stb D → ∀ w, C w → D w → o.quietAtIn (Wd rd) n P a (fun u => C u ∧ D u) w v) ∨ (Region.wanted o (yielded ops a.tmps) = false ∧ v = undef))

theorem YU.same {o : Oper} {v : Value} {a a' : Act} (h : YU rd n P ops C o v a) (he : execOp a'.eval o = execOp a.eval o) (hw : Region.wanted o (yielded ops a'.tmps) = Region.wanted o (yielded ops a.tmps)) : YU rd n P ops C o v a' := by
  unfold YU Oper.quietAtIn at *
  rw [he, hw]
  exact h

def wpV (rd : Option Nat) (n : Nat) (P : Program) (ops : Array Oper) (C : World → Prop) (nA : Nat) (K : Act → Prop) : Nat → Array Bool → Act → Prop
  | 0, listed, a => (∀ i, i < nA → listed.getD i false = true) ∧ K a
  | f + 1, listed, a => (∃ i, i ∈ Region.ready .any ops listed ∧ i < nA) ∧ ∀ i ∈ Region.ready .any ops listed, i < nA → ∃ o v, ops[i]? = some o ∧ YU rd n P ops C o v a ∧ wpV rd n P ops C nA K f (listed.setIfInBounds i true) (a.put o.dst v)

def wpL (rd : Option Nat) (n : Nat) (P : Program) (ops : Array Oper) (C : World → Prop) (K : Act → Prop) : List Oper → Act → Prop
  | [], a => K a
  | o :: r, a => ∃ v, YU rd n P ops C o v a ∧ wpL rd n P ops C K r (a.put o.dst v)

/-- What is listed has what it waits for listed. -/
def DC (ops : Array Oper) (listed : Array Bool) : Prop := ∀ (j : Nat) (o : Oper), ops[j]? = some o → listed.getD j false = true → ∀ e ∈ o.after, Region.binds .any e = true → listed.getD e.on false = true

theorem DC.set {listed : Array Bool} (h : DC ops listed) {i : Nat} (hi : i ∈ Region.ready .any ops listed) : DC ops (listed.setIfInBounds i true) := by
  intro j o ho hl e he hb
  obtain ⟨_, oi, hoi, hall⟩ := mem_ready.1 hi
  by_cases hji : j = i
  · subst hji
    rw [ho] at hoi; simp only [Option.some.injEq] at hoi; subst hoi
    exact getD_set_true (hall e he hb)
  · rw [getD_set_ne false (Ne.symm hji)] at hl
    exact getD_set_true (h j o ho hl e he hb)

def TailOk (ops : Array Oper) (nA : Nat) : Prop := ∀ (j : Nat) (oj : Oper), nA ≤ j → ops[j]? = some oj → ∀ (listed : Array Bool), DC ops listed → (∀ e ∈ oj.after, Region.binds .any e = true → listed.getD e.on false = true) → ∀ k, k < j → listed.getD k false = true ∨ (k < nA ∧ ∃ ok, ops[k]? = some ok ∧ isWF ok = true)

theorem un_of {listed : Array Bool} {i : Nat} (h : listed.getD i true = false) : listed.getD i false = false := by
  rcases Nat.lt_or_ge i listed.size with h' | h'
  · simp [h'] at h ⊢; exact h
  · simp [Array.getElem?_eq_none h'] at h

theorem wpV_first (hs : Region.noSelect ops = true) {K : Act → Prop} {i : Nat} {oi : Oper} {v : Value} (hi : ops[i]? = some oi) (hin : i < nA) : ∀ (f : Nat) (listed : Array Bool) (a : Act), DC ops listed →
    (∀ j oj, ops[j]? = some oj → j ≠ i → listed.getD j true = false → (∀ e ∈ oj.after, Region.binds .any e = true → e.on ≠ i) → oi.apart ops oj = true) →
    i ∈ Region.ready .any ops listed → YU rd n P ops C oi v a → wpV rd n P ops C nA K f (listed.setIfInBounds i true) (a.put oi.dst v) → wpV rd n P ops C nA K (f + 1) listed a := by
  intro f
  induction f with
  | zero =>
    intro listed a hdc _ hr hy H
    refine ⟨⟨i, hr, hin⟩, fun j hj hjl => ?_⟩
    by_cases hji : j = i
    · subst hji; exact ⟨oi, v, hi, hy, H⟩
    · exfalso
      have h1 := H.1 j hjl
      rw [getD_set_ne false (Ne.symm hji), un_of (mem_ready.1 hj).1] at h1
      cases h1
  | succ f ih =>
    intro listed a hdc hfree hr hy H
    refine ⟨⟨i, hr, hin⟩, fun j hj hjl => ?_⟩
    by_cases hji : j = i
    · subst hji; exact ⟨oi, v, hi, hy, H⟩
    · obtain ⟨oj, u, hoj, hyj, hj2⟩ := H.2 j (ready_mono hj hji) hjl
      obtain ⟨hjun, oj', hoj', hall⟩ := mem_ready.1 hj
      rw [hoj] at hoj'; simp only [Option.some.injEq] at hoj'; subst hoj'
      have hnot : ∀ e ∈ oj.after, Region.binds .any e = true → e.on ≠ i := fun e he hb heq => by
        have h1 := hall e he hb
        rw [heq, un_of (mem_ready.1 hr).1] at h1
        cases h1
      obtain ⟨h1, h2, h3⟩ := Oper.apart_spec (hfree j oj hoj hji hjun hnot)
      have si := fun cs b => Region.noSelect_spec hs i oi cs b hi
      have sj := fun cs b => Region.noSelect_spec hs j oj cs b hoj
      refine ⟨oj, u, hoj, hyj.same (execOp_put oj sj a oi.dst v h1).symm (wanted_put oj a oi.dst v h1).symm, ?_⟩
      refine ih (listed.setIfInBounds j true) (a.put oj.dst u) (hdc.set hj) ?_ (ready_mono hr (Ne.symm hji)) (hy.same (execOp_put oi si a oj.dst u h3) (wanted_put oi a oj.dst u h3)) ?_
      · intro k ok hk hki hun hno
        refine hfree k ok hk hki ?_ hno
        by_cases hjk : j = k
        · subst hjk; exact hjun
        · rw [getD_set_ne true hjk] at hun; exact hun
      · rw [Array.setIfInBounds_comm _ _ hji, ← Act.put_comm a v u h2]
        exact hj2

def lexA (ops : Array Oper) (nA : Nat) : Nat → Nat → Array Bool → Bool
  | 0, _, listed => (List.range nA).all fun i => listed.getD i false
  | f + 1, k, listed => (Region.ready .any ops listed).contains k && Region.free .any ops listed k && lexA ops nA f (k + 1) (listed.setIfInBounds k true)

theorem wpV_lex (hs : Region.noSelect ops = true) {K : Act → Prop} : ∀ (l : List Oper) (k : Nat) (listed : Array Bool) (a : Act), DC ops listed → (∀ j, j < l.length → l[j]? = ops[k + j]?) → k + l.length = nA →
    lexA ops nA l.length k listed = true → wpL rd n P ops C K l a → wpV rd n P ops C nA K l.length listed a
  | [], _, _, _, _, _, _, hB, h => by
    simp only [List.length_nil, lexA, List.all_eq_true, List.mem_range] at hB
    exact ⟨hB, h⟩
  | o :: l, k, listed, a, hdc, hl, hk, hB, ⟨v, hy, h⟩ => by
    have h0 : ops[k]? = some o := by simpa using (hl 0 (by simp)).symm
    simp only [List.length_cons, lexA, Bool.and_eq_true] at hB
    obtain ⟨⟨hr, hf⟩, hB'⟩ := hB
    have hr' : k ∈ Region.ready .any ops listed := by simpa using hr
    refine wpV_first hs h0 (by simp at hk; omega) l.length listed a hdc (Region.free_spec h0 hf) hr' hy ?_
    exact wpV_lex hs l (k + 1) _ _ (hdc.set hr') (fun j hj => by have := hl (j + 1) (by simpa using hj); simpa [Nat.add_assoc, Nat.add_comm 1 j] using this) (by simp at hk; omega) hB' h

/-- The tail, in its one order. -/
theorem wpAny_of_list {Q : Exit → Act → World → Prop} (ht : TailOk ops nA) (hrange : ∀ j oj, ops[j]? = some oj → ∀ e ∈ oj.after, Region.binds .any e = true → e.on < j) : ∀ (l : List Oper) (k : Nat) (listed : Array Bool) (a : Act) (w : World),
    nA ≤ k → (∀ j, l[j]? = ops[k + j]?) → (∀ i, i < k → listed.getD i false = true) → (∀ i, k ≤ i → i < ops.size → listed.getD i true = false) → listed.size = ops.size →
    wpListIn (Wd rd) n P ops Q l a w → wpAnyIn (Wd rd) n P .any ops Q l.length listed a w
  | [], k, listed, a, w, hn, hl, h1, h2, hsz, h => by
    refine ⟨?_, h⟩
    rw [List.eq_nil_iff_forall_not_mem]
    intro i hi
    obtain ⟨hun, o, ho, _⟩ := mem_ready.1 hi
    have hk : ops.size ≤ k := by
      have := hl 0
      simp at this
      exact this
    have := h1 i (by have := (Array.getElem?_eq_some_iff.1 ho).1; omega)
    rw [un_of hun] at this; cases this
  | o :: l, k, listed, a, w, hn, hl, h1, h2, hsz, h => by
    have h0 : ops[k]? = some o := by simpa using (hl 0).symm
    have hks : k < ops.size := (Array.getElem?_eq_some_iff.1 h0).1
    have hk : k ∈ Region.ready .any ops listed := mem_ready.2 ⟨h2 k (Nat.le_refl _) hks, o, h0, fun e he hb => h1 _ (hrange k o h0 e he hb)⟩
    refine ⟨fun he => by rw [he] at hk; simp at hk, fun i hi => ?_⟩
    obtain ⟨hun, oi, hoi, hall⟩ := mem_ready.1 hi
    have hik : i = k := by
      rcases Nat.lt_trichotomy i k with h' | h' | h'
      · have := h1 i h'; rw [un_of hun] at this; cases this
      · exact h'
      · have hdc : DC ops listed := by
          intro j oj hj hlj e he hb
          have hjs := (Array.getElem?_eq_some_iff.1 hj).1
          have hjk : j < k := by
            rcases Nat.lt_or_ge j k with h | h
            · exact h
            · rw [un_of (h2 j h hjs)] at hlj; cases hlj
          exact h1 _ (by have := hrange j oj hj e he hb; omega)
        rcases ht i oi (by omega) hoi listed hdc hall k h' with h3 | h3
        · rw [un_of (h2 k (Nat.le_refl _) hks)] at h3; cases h3
        · omega
    subst hik
    have key : ∀ a w, wpListIn (Wd rd) n P ops Q l a w → wpAnyIn (Wd rd) n P .any ops Q l.length (listed.setIfInBounds i true) a w := by
      intro a w h
      refine wpAny_of_list ht hrange l (i + 1) _ a w (by omega) (fun j => by have := hl (j + 1); simpa [Nat.add_assoc, Nat.add_comm 1 j] using this) ?_ ?_ (by simpa using hsz) h
      · intro j hj
        by_cases hji : i = j
        · subst hji; simp [hsz, hks]
        · rw [getD_set_ne false hji]; exact h1 j (by omega)
      · intro j hj hjs
        rw [getD_set_ne true (by omega)]; exact h2 j (by omega) hjs
    unfold wpOpIn
    unfold wpListIn at h
    simp only [h0]
    split
    · rename_i hw; rw [if_pos hw] at h; exact Oper.wpIn_mono key h
    · rename_i hw; rw [if_neg hw] at h; exact ⟨h.1, key _ _ h.2⟩

theorem wf_run {F : Fence} {o : Oper} (h : isWF o = true) {a : Act} {C : World → Prop} {w : World} {v : Value} (hq : o.quietAtIn F n P a C w v) : ∀ u, (execOp a.eval o).run P u = .ok (.value v) u := by
  unfold isWF at h
  split at h
  · rename_i x i _ ho
    intro u
    unfold Oper.quietAtIn at hq
    simp only [execOp, ho, Instr.extract] at hq ⊢
    cases hx : a.eval x <;> simp only [hx] at hq ⊢ <;> try (simp [Oper.quietUponIn, stuck, Sem.run] at hq; done)
    split at hq
    · rename_i y hy
      simp [Oper.quietUponIn] at hq
      subst hq
      simp []
    · simp [Oper.quietUponIn, stuck, Sem.run] at hq
  · cases h

theorem wpOp_put_wf {Q : Exit → Act → World → Prop} {j : Nat} {oi oj : Oper} {v : Value} (hj : ops[j]? = some oj) (hap : oi.apart ops oj = true) (hsi : ∀ cs b, oi.op ≠ .select cs b) (hsj : ∀ cs b, oj.op ≠ .select cs b) (hdj : ∀ c, oj.op ≠ .defer c)
    (hQ : ∀ c a w, ¬ Q (.panic c) a w) {K : Act → World → Prop} {a : Act} {w : World} (hy : ∀ u, (execOp a.eval oi).run P u = .ok (.value v) u) (h : wpOpIn (Wd rd) n P ops Q j K (a.put oi.dst v) w) :
    wpOpIn (Wd rd) n P ops Q j (fun a' w' => (∀ u, (execOp a'.eval oi).run P u = .ok (.value v) u) ∧ K (a'.put oi.dst v) w') a w := by
  obtain ⟨h1, h2, h3⟩ := Oper.apart_spec hap
  have keep : ∀ u, ∀ x, (execOp (a.put oj.dst u).eval oi).run P x = .ok (.value v) x := fun u x => by rw [execOp_put oi hsi a oj.dst u h3]; exact hy x
  unfold wpOpIn at *
  simp only [hj] at *
  rw [wanted_put oj a oi.dst v h1] at h
  split
  · rename_i hw
    rw [if_pos hw] at h
    unfold Oper.wpIn at *
    refine ⟨fun _ _ => trivial, ?_⟩
    have h := h.2
    rw [semAt_plain' hdj, execOp_put oj hsj a oi.dst v h1] at h
    rw [semAt_plain' hdj]
    generalize (execOp a.eval oj).run P w = r at *
    cases r with
    | ok x w' =>
      cases x <;> simp only [Oper.uponIn] at h ⊢
      case value u => exact ⟨keep u, by rw [← Act.put_comm a v u h2]; exact h⟩
      case skip => exact ⟨keep _, by rw [← Act.put_comm a v undef h2]; exact h⟩
      case defer d =>
        refine ⟨fun x => ?_, ?_⟩
        · have : execOp ({ a with defers := d :: a.defers }.put oj.dst undef).eval oi = execOp (a.put oj.dst undef).eval oi := by
            rw [execOp_put oi hsi a oj.dst undef h3]; exact execOp_put oi hsi { a with defers := d :: a.defers } oj.dst undef h3
          rw [this]; exact keep _ x
        · rw [← Act.put_comm _ v undef h2, ← Act.put_defers]
          exact h
      case enter f args =>
        refine ⟨h.1, CallsIn.mono h.2 fun e w'' he => ?_⟩
        cases e with
        | returned u => exact ⟨keep u, by rw [← Act.put_comm a v u h2]; exact he⟩
        | panicked c => exact (hQ _ _ _ he).elim
        | outgrown => exact he
      case row row args => exact ⟨h.1, RowsIn.mono h.2 fun u w'' he => ⟨keep u, by rw [← Act.put_comm a v u h2]; exact he⟩⟩
      case round l f tmps assign body =>
        refine ⟨h.1, RoundIn.mono h.2 fun e w'' he => ?_⟩
        cases e with
        | returned u => exact ⟨keep u, by rw [← Act.put_comm a v u h2]; exact he⟩
        | panicked c => exact (hQ _ _ _ he).elim
        | outgrown => exact he
    | halt x w' =>
      cases x <;> simp only [Oper.uponIn] at h ⊢
      case panic u => exact (hQ _ _ _ h).elim
  · rename_i hw
    rw [if_neg hw] at h
    exact ⟨fun _ _ => trivial, keep _, by rw [← Act.put_comm a v undef h2]; exact h.2⟩

/-- An operation that looks at no world may be taken first. -/
theorem wpAny_first_wf {Q : Exit → Act → World → Prop} {i : Nat} {oi : Oper} {v : Value} (hi : ops[i]? = some oi) (hwf : isWF oi = true) (hs : Region.noSelect ops = true) (hnd : ∀ (i : Nat) (o : Oper), ops[i]? = some o → ∀ c, o.op ≠ .defer c) (hQ : ∀ c a w, ¬ Q (.panic c) a w)
    (hfree : ∀ j oj, ops[j]? = some oj → j ≠ i → (∀ e ∈ oj.after, Region.binds .any e = true → e.on ≠ i) → (∀ e ∈ oi.after, Region.binds .any e = true → e.on ≠ j) → oi.apart ops oj = true) :
    ∀ (fuel : Nat) (listed : Array Bool) (a : Act) (w : World), i ∈ Region.ready .any ops listed → (∀ u, (execOp a.eval oi).run P u = .ok (.value v) u) →
      wpAnyIn (Wd rd) n P .any ops Q fuel (listed.setIfInBounds i true) (a.put oi.dst v) w → wpAnyIn (Wd rd) n P .any ops Q (fuel + 1) listed a w := by
  have hg : oi.guard = none := by
    unfold isWF at hwf
    split at hwf
    · assumption
    · cases hwf
  have self : ∀ {K : Act → World → Prop} {a : Act} {w : World}, (∀ u, (execOp a.eval oi).run P u = .ok (.value v) u) → K (a.put oi.dst v) w → wpOpIn (Wd rd) n P ops Q i K a w := by
    intro K a w hy h
    unfold wpOpIn
    simp only [hi]
    rw [if_pos (by simp [Region.wanted, hg])]
    refine ⟨fun _ _ => trivial, ?_⟩
    rw [semAt_plain' (hnd i oi hi), hy w]
    exact h
  intro fuel
  induction fuel with
  | zero =>
    intro listed a w hr hy H
    refine ⟨fun h => (by rw [h] at hr; cases hr), fun j hj => ?_⟩
    by_cases hji : j = i
    · subst hji; exact self hy H
    · have := ready_mono hj hji
      rw [H.1] at this
      cases this
  | succ fuel ih =>
    intro listed a w hr hy H
    refine ⟨fun h => (by rw [h] at hr; cases hr), fun j hj => ?_⟩
    by_cases hji : j = i
    · subst hji; exact self hy H
    · have h1 := H.2 j (ready_mono hj hji)
      obtain ⟨hjun, oj, hoj, hall⟩ := mem_ready.1 hj
      obtain ⟨hiun, oi', hoi', halli⟩ := mem_ready.1 hr
      rw [hi] at hoi'; simp only [Option.some.injEq] at hoi'; subst hoi'
      have hap := hfree j oj hoj hji (fun e he hb heq => by
        have := hall e he hb
        rw [heq, un_of hiun] at this; cases this) (fun e he hb heq => by
        have := halli e he hb
        rw [heq, un_of hjun] at this; cases this)
      have h2 := wpOp_put_wf hoj hap (fun cs b => Region.noSelect_spec hs i oi cs b hi) (fun cs b => Region.noSelect_spec hs j oj cs b hoj) (hnd j oj hoj) hQ hy h1
      refine wpOpIn_mono (fun a' w' h3 => ih (listed.setIfInBounds j true) a' w' (ready_mono hr (Ne.symm hji)) h3.1 ?_) h2
      rw [Array.setIfInBounds_comm _ _ hji]
      exact h3.2

/-- What is known of the block that the region lays. -/
def Laid (n0 : Nat) (β : List Nat) (obj : Obj) : Option Nat → World → Prop
  | none, _ => True
  | some b, w => n0 ≤ b ∧ b ∉ β ∧ w.heap[b]? = some obj

def actB (a : Act) (d : Option Nat) : Option Nat → Act
  | none => a
  | some b => a.put d (.pointer (some ⟨b, 0, none⟩))

theorem put_put (a : Act) (d : Option Nat) (u v : Value) : (a.put d u).put d v = a.put d v := by
  cases d with
  | none => rfl
  | some d => simp [Act.put]

theorem wpAny_of_V {Q : Exit → Act → World → Prop} (hQ : ∀ c a w, ¬ Q (.panic c) a w) (ht : TailOk ops nA) (hwf : ∀ i oi j oj, ops[i]? = some oi → isWF oi = true → ops[j]? = some oj → j ≠ i → (∀ e ∈ oj.after, Region.binds .any e = true → e.on ≠ i) → (∀ e ∈ oi.after, Region.binds .any e = true → e.on ≠ j) → oi.apart ops oj = true) {n0 : Nat} {β : List Nat} {obj : Obj} {p : Nat} {op : Oper} {K : Act → Prop} {nB : Nat} (hs : Region.noSelect ops = true) (hnd : ∀ (i : Nat) (o : Oper), ops[i]? = some o → ∀ c, o.op ≠ .defer c)
    (hp : ∀ i o, i < nA → ops[i]? = some o → isAl o = true → i = p ∧ o = op) (hap : ∀ j oj, j < nA → j ≠ p → ops[j]? = some oj → p < nA → op.apart ops oj = true) (hop : p < nA → ops[p]? = some op ∧ isAl op = true)
    (hrun : ∀ (a : Act) (w : World), p < nA → (execOp a.eval op).run P w = .ok (.value (.pointer (some ⟨w.heap.size, 0, none⟩))) (w.alloc obj)) (hCn : ∀ w, C w → n0 ≤ w.heap.size ∧ w.heap.size ∉ β) (hCa : ∀ w, C w → C (w.alloc obj))
    (hK : ∀ a b w listed, K a → (p < nA → b.isSome = true) → (∀ i, i < nA → listed.getD i false = true) → (∀ i, nA ≤ i → i < ops.size → listed.getD i true = false) → listed.size = ops.size → C w → Laid n0 β obj b w → wpAnyIn (Wd rd) n P .any ops Q nB listed (actB a op.dst b) w) :
    ∀ (f : Nat) (listed : Array Bool) (a : Act) (b : Option Nat) (w : World), wpV rd n P ops C nA K f listed a → (p < nA → (b.isSome = true ↔ listed.getD p false = true)) → (nA ≤ p → b = none) → (∀ i, nA ≤ i → i < ops.size → listed.getD i true = false) → listed.size = ops.size → DC ops listed → C w → Laid n0 β obj b w →
      wpAnyIn (Wd rd) n P .any ops Q (f + nB) listed (actB a op.dst b) w
  | 0, listed, a, b, w, ⟨h1, h2⟩, hb1, hb2, hl, hsz, hdc, hC, hL => by
    rw [Nat.zero_add]
    exact hK a b w listed h2 (fun hpn => (hb1 hpn).2 (h1 p hpn)) h1 hl hsz hC hL
  | f + 1, listed, a, b, w, ⟨⟨i0, hi0, hi0n⟩, hall⟩, hb1, hb2, hl, hsz, hdc, hC, hL => by
    rw [show f + 1 + nB = (f + nB) + 1 by omega]
    have hstb : Stb (Laid n0 β obj b) := by
      intro u u' h1 h2
      cases b with
      | none => trivial
      | some b => exact ⟨h1.1, h1.2.1, (h2.block b (Array.getElem?_eq_some_iff.1 h1.2.2).1).trans h1.2.2⟩
    by_cases hrd : ∀ i ∈ Region.ready .any ops listed, i < nA
    case neg =>
      -- the tail may come up: what has not come up yet looks at no world, and is taken first
      simp only [Classical.not_forall] at hrd
      obtain ⟨j, hj, hjn⟩ := hrd
      obtain ⟨_, oj, hoj, hallj⟩ := mem_ready.1 hj
      obtain ⟨o, v, ho, hy, hnext⟩ := hall i0 hi0 hi0n
      have hiun := (mem_ready.1 hi0).1
      have hw0 : isWF o = true := by
        rcases ht j oj (by omega) hoj listed hdc hallj i0 (by omega) with h | ⟨_, ok, hk, hkw⟩
        · rw [un_of hiun] at h; cases h
        · rw [ho] at hk; simp only [Option.some.injEq] at hk; subst hk; exact hkw
      have hal : isAl o = false := by
        unfold isWF at hw0
        split at hw0
        · rename_i x y hg hx; simp [isAl, hg, hx]
        · cases hw0
      have hip : i0 ≠ p ∨ nA ≤ p := by
        rcases Nat.lt_or_ge p nA with h | h
        · left; rintro rfl
          obtain ⟨e1, e2⟩ := hop h
          rw [ho] at e1; simp only [Option.some.injEq] at e1; subst e1; rw [hal] at e2; cases e2
        · exact .inr h
      have hsel := fun cs b => Region.noSelect_spec hs i0 o cs b ho
      have eqs : execOp (actB a op.dst b).eval o = execOp a.eval o ∧ ∀ u, (actB a op.dst b).put o.dst u = actB (a.put o.dst u) op.dst b := by
        cases b with
        | none => exact ⟨rfl, fun _ => rfl⟩
        | some b =>
          have hpn : p < nA := by
            rcases Nat.lt_or_ge p nA with h | h
            · exact h
            · have := hb2 h; cases this
          obtain ⟨h1, h2, h3⟩ := Oper.apart_spec (hap i0 o hi0n (by rcases hip with h | h; exact h; omega) ho hpn)
          exact ⟨execOp_put o hsel a op.dst _ h1, fun u => Act.put_comm a _ u h2⟩
      unfold YU at hy
      rw [if_neg (by rw [hal]; simp)] at hy
      have hg : o.guard = none := by
        unfold isWF at hw0
        split at hw0
        · assumption
        · cases hw0
      rcases hy with ⟨hw, hq⟩ | ⟨hw, _⟩
      · have hrun0 := wf_run hw0 (hq (Laid n0 β obj b) hstb w hC hL)
        refine wpAny_first_wf ho hw0 hs hnd hQ (fun j' oj' h1 h2 h3 h4 => hwf i0 o j' oj' ho hw0 h1 h2 h3 h4) (f + nB) listed (actB a op.dst b) w hi0 (fun u => by rw [eqs.1]; exact hrun0 u) ?_
        rw [eqs.2 v]
        exact wpAny_of_V hQ ht hwf hs hnd hp hap hop hrun hCn hCa hK f (listed.setIfInBounds i0 true) (a.put o.dst v) b w hnext (fun hpn => by
          rw [getD_set_ne false (by rcases hip with h | h; exact h; omega)]; exact hb1 hpn) hb2 (fun j hj hjs => by
          rw [getD_set_ne true (by omega)]; exact hl j hj hjs) (by simpa using hsz) (hdc.set hi0) hC hL
      · exfalso; simp [Region.wanted, hg] at hw
    refine ⟨fun he => by rw [he] at hi0; simp at hi0, fun i hi => ?_⟩
    have hin := hrd i hi
    obtain ⟨o, v, ho, hy, hnext⟩ := hall i hi hin
    have hiun := (mem_ready.1 hi).1
    have hisz : i < ops.size := (Array.getElem?_eq_some_iff.1 ho).1
    have hl' : ∀ j, nA ≤ j → j < ops.size → (listed.setIfInBounds i true).getD j true = false := fun j hj hjs => by
      rw [getD_set_ne true (by omega)]; exact hl j hj hjs
    unfold wpOpIn
    simp only [ho]
    by_cases hal : isAl o = true
    · obtain ⟨rfl, rfl⟩ := hp i o hin ho hal
      have hbn : b = none := by
        cases b with
        | none => rfl
        | some b => have := (hb1 hin).1 rfl; rw [un_of hiun] at this; cases this
      subst hbn
      unfold YU at hy
      rw [if_pos hal] at hy
      subst hy
      have hg : o.guard = none := by
        unfold isAl at hal
        split at hal
        · assumption
        · cases hal
      rw [if_pos (by simp [Region.wanted, hg])]
      refine ⟨fun _ _ => trivial, ?_⟩
      rw [semAt_plain' (hnd i o ho)]
      simp only [actB]
      rw [hrun a w hin]
      obtain ⟨c1, c2⟩ := hCn w hC
      have := wpAny_of_V hQ ht hwf hs hnd hp hap hop hrun hCn hCa hK f (listed.setIfInBounds i true) (a.put o.dst undef) (some w.heap.size) (w.alloc obj) hnext (fun _ => ⟨fun _ => by simp [hsz, hisz], fun _ => rfl⟩) (fun h => by omega) hl' (by simpa using hsz) (hdc.set hi) (hCa w hC) ⟨c1, c2, by show (w.heap.push obj)[w.heap.size]? = _; simp⟩
      simp only [actB, put_put] at this
      exact this
    · unfold YU at hy
      rw [if_neg hal] at hy
      have hip : i ≠ p ∨ nA ≤ p := by
        rcases Nat.lt_or_ge p nA with h | h
        · left; rintro rfl
          obtain ⟨e1, e2⟩ := hop h
          rw [ho] at e1; simp only [Option.some.injEq] at e1; subst e1; exact hal e2
        · exact .inr h
      have nx : ∀ w', C w' → Laid n0 β obj b w' → wpAnyIn (Wd rd) n P .any ops Q (f + nB) (listed.setIfInBounds i true) (actB (a.put o.dst v) op.dst b) w' := fun w' hC' hL' =>
        wpAny_of_V hQ ht hwf hs hnd hp hap hop hrun hCn hCa hK f (listed.setIfInBounds i true) (a.put o.dst v) b w' hnext (fun hpn => by
          rw [getD_set_ne false (by rcases hip with h | h; exact h; omega)]; exact hb1 hpn) hb2 hl' (by simpa using hsz) (hdc.set hi) hC' hL'
      have hsel := fun cs b => Region.noSelect_spec hs i o cs b ho
      have eqs : execOp (actB a op.dst b).eval o = execOp a.eval o ∧ Region.wanted o (yielded ops (actB a op.dst b).tmps) = Region.wanted o (yielded ops a.tmps) ∧ ∀ u, (actB a op.dst b).put o.dst u = actB (a.put o.dst u) op.dst b := by
        cases b with
        | none => exact ⟨rfl, rfl, fun _ => rfl⟩
        | some b =>
          have hpn : p < nA := by
            rcases Nat.lt_or_ge p nA with h | h
            · exact h
            · have := hb2 h; cases this
          obtain ⟨h1, h2, h3⟩ := Oper.apart_spec (hap i o hin (by rcases hip with h | h; exact h; omega) ho hpn)
          exact ⟨execOp_put o hsel a op.dst _ h1, wanted_put o a op.dst _ h1, fun u => Act.put_comm a _ u h2⟩
      obtain ⟨e1, e2, e3⟩ := eqs
      rw [e2]
      rcases hy with ⟨hw, hq⟩ | ⟨hw, rfl⟩
      · rw [if_pos hw]
        have hq' := hq (Laid n0 β obj b) hstb w hC hL
        refine wpIn_of_quiet' (C := fun u => C u ∧ Laid n0 β obj b u) (K := fun a' => a' = actB (a.put o.dst v) op.dst b) (hnd i o ho) ⟨hC, hL⟩ (fun a' w' hw' he => by rw [he]; exact nx w' hw'.1 hw'.2) (fun _ _ _ _ => trivial) ⟨v, fun u hu => ?_, e3 v⟩
        have := hq (Laid n0 β obj b) hstb u hu.1 hu.2
        unfold Oper.quietAtIn at this ⊢
        rw [e1]; exact this
      · rw [if_neg (by rw [hw]; simp)]
        exact ⟨fun _ _ => trivial, by rw [e3]; exact nx w hC hL⟩

end

/-! ### The shape of such a region, checked -/

def waitsMost (ops : Array Oper) (o : Oper) (j nA : Nat) : Bool := (List.range j).all fun k => (o.after.toList.any fun e => Region.binds .any e && (e.on == k || match ops[e.on]? with
  | some o' => o'.after.toList.any fun e' => Region.binds .any e' && e'.on == k
  | none => false)) || (decide (k < nA) && match ops[k]? with
  | some ok => isWF ok
  | none => false)

/-- Those that look at no world are apart from whatever need not wait. -/
def wfOk (ops : Array Oper) : Bool := (List.range ops.size).all fun i => match ops[i]? with
  | some oi => !isWF oi || (List.range ops.size).all fun j => j == i || match ops[j]? with
    | some oj => (oj.after.toList.any fun e => Region.binds .any e && e.on == i) || (oi.after.toList.any fun e => Region.binds .any e && e.on == j) || oi.apart ops oj
    | none => true
  | none => true

/-- Where the tail begins. -/
def tailAt (ops : Array Oper) : Nat → Nat
  | 0 => 0
  | j + 1 => match ops[j]? with
    | some o => if waitsMost ops o j j then tailAt ops j else j + 1
    | none => 0

def allocAt (ops : Array Oper) (nA : Nat) : Option (Nat × Oper) := ((List.range nA).findSome? fun i => match ops[i]? with
  | some o => if isAl o then some (i, o) else none
  | none => none)

def rangeOk (ops : Array Oper) : Bool := (List.range ops.size).all fun j => match ops[j]? with
  | some o => o.after.toList.all fun e => !Region.binds .any e || decide (e.on < j)
  | none => true

def mixB (ops : Array Oper) (nA : Nat) (p : Nat) (op : Oper) : Bool :=
  Region.noSelect ops && lexA ops nA nA 0 (Array.replicate ops.size false) && rangeOk ops && wfOk ops &&
  ((List.range ops.size).all fun j => decide (j < nA) || match ops[j]? with | some o => waitsMost ops o j nA | none => false) && decide (nA ≤ ops.size) &&
  (List.range nA).all fun j => match ops[j]? with
    | some oj => (!isAl oj || j == p) && (j == p || decide (nA ≤ p) || op.apart ops oj)
    | none => false

section
variable {P : Program} {T : Tab} (hT : TabOk P T) {C : Ctr} (hC : CtrOk P C) {o : Bool} {n0 : Nat} {w0 : Base} {D : List Deferred} {rd : Option Nat} {n : Nat}
include hT hC

theorem evOneQ_sound {op : Oper} {st : St} {K : St → Prop} {β : List Nat} {a : Act} {w : World} {K' : Act → Prop}
    (h : evOneQ o T C op st K) (hH : HR n0 w0 β st.heap w) (hM : TmR β st.tmps a.tmps.toList) (hD : a.defers = D)
    (hK : ∀ st' a', K st' → st'.heap = st.heap → TmR β st'.tmps a'.tmps.toList → a'.defers = D → K' a') :
    ∃ v, (∀ D, Stb D → ∀ u, HR n0 w0 β st.heap u → D u → op.quietAtIn (Wd rd) n P a (fun u => HR n0 w0 β st.heap u ∧ D u) u v) ∧ K' (a.put op.dst v) := by
  have hput : ∀ (v : Value), (a.put op.dst v).defers = D := by intro v; unfold Act.put; split <;> simpa using hD
  have pure : ∀ {p r}, evPure o T st op.op = some (p, r) → p → fixL r = true → (forceV r fun r => force (putL st.tmps op.dst r) fun ts => K ⟨ts, st.heap⟩) →
      ∃ v, (∀ D, Stb D → ∀ u, HR n0 w0 β st.heap u → D u → op.quietAtIn (Wd rd) n P a (fun u => HR n0 w0 β st.heap u ∧ D u) u v) ∧ K' (a.put op.dst v) := by
    intro p r he hp hf h
    rw [forceV_eq, force_eq] at h
    obtain ⟨v, h1, h2⟩ := evPure_sound hT hH hM (a := a) (op := op) he hp
    refine ⟨v, fun D hDs u hu hDu => ?_, hK _ _ h rfl (putL_sound h2 _ hM) (hput v)⟩
    obtain ⟨v', k1, k2⟩ := evPure_sound hT hu hM (a := a) (op := op) he hp
    unfold Oper.quietAtIn
    rw [k1]
    exact ⟨rfl, LVR.uniq hf k2 h2⟩
  unfold evOneQ at h
  split at h
  · rename_i c ho
    split at h
    · split at h
      · rename_i p r he
        split at h
        · rename_i hf; exact pure he h.1 hf h.2
        · exact h.elim
      · exact h.elim
    split at h
    · rename_i p r he
      split at h
      · rename_i hf
        obtain ⟨hp, h⟩ := h
        rw [forceV_eq, force_eq] at h
        obtain ⟨f, vals, h1, h2⟩ := evCall_sound hC hM (a := a) (op := op) he hp
        obtain ⟨e, w1, fr, ⟨v, γ, _, g1, g2, _⟩, _⟩ := h2 n0 w0 w hH []
        have hγ : γ = [] := by
          have := g1.len; have := hH.len; simp at *; cases γ with | nil => rfl | cons x xs => simp at *; omega
        subst hγ
        simp only [List.append_nil] at g2
        refine ⟨v, fun D hDs u hu hDu => ?_, hK _ _ h rfl (putL_sound g2 _ hM) (hput v)⟩
        unfold Oper.quietAtIn
        rw [h1 u]
        refine ⟨rfl, fun hd => by simp [Wd, Fence.wide] at hd, (calls_wd rd (h2 n0 w0 u hu)).mono ?_⟩
        rintro e w'' ⟨v', γ', rfl, k1, k2, k3⟩
        have hγ : γ' = [] := by
          have := k1.len; have := hH.len; simp at *; cases γ' with | nil => rfl | cons x xs => simp at *; omega
        subst hγ
        simp only [List.append_nil, Option.getD_none] at k1 k2
        exact ⟨by rw [LVR.uniq hf k2 g2], k1, hDs _ _ hDu (k3 rfl)⟩
      · exact h.elim
    · exact h.elim
  · split at h
    · rename_i p r he
      split at h
      · rename_i hf; exact pure he h.1 hf h.2
      · exact h.elim
    · exact h.elim

theorem evOpsV_sound {all : Array Oper} {K : St → Prop} {H : List Blk} {β : List Nat} {w : World} (hH : HR n0 w0 β H w) : ∀ (l : List Oper) (st : St) (a : Act),
    evOpsV o T C all l st K → st.heap = H → TmR β st.tmps a.tmps.toList → a.defers = D →
    wpL rd n P all (HR n0 w0 β H) (fun a' => ∃ st', K st' ∧ st'.heap = H ∧ TmR β st'.tmps a'.tmps.toList ∧ a'.defers = D) l a
  | [], st, a, h, hh, hM, hD => ⟨st, h, hh, hM, hD⟩
  | op :: rest, st, a, h, hh, hM, hD => by
    have hput : ∀ (v : Value), (a.put op.dst v).defers = D := by intro v; unfold Act.put; split <;> simpa using hD
    have one : ∀ (st : St), st.heap = H → TmR β st.tmps a.tmps.toList → Region.wanted op (yielded all a.tmps) = true → isAl op = false → evOneQ o T C op st (fun st' => evOpsV o T C all rest st' K) →
        ∃ v, YU rd n P all (HR n0 w0 β H) op v a ∧ wpL rd n P all (HR n0 w0 β H) (fun a' => ∃ st', K st' ∧ st'.heap = H ∧ TmR β st'.tmps a'.tmps.toList ∧ a'.defers = D) rest (a.put op.dst v) := by
      intro st hh hM hw hal h
      subst hh
      obtain ⟨v, h1, h2⟩ := evOneQ_sound (rd := rd) (n := n) (D := D) hT hC h hH hM hD (K' := fun a' => wpL rd n P all (HR n0 w0 β st.heap) (fun a' => ∃ st', K st' ∧ st'.heap = st.heap ∧ TmR β st'.tmps a'.tmps.toList ∧ a'.defers = D) rest a')
        (fun st' a' hk g0 g1 g2 => evOpsV_sound hH rest st' a' hk g0 g1 g2)
      refine ⟨v, ?_, h2⟩
      unfold YU
      rw [if_neg (by rw [hal]; simp)]
      exact .inl ⟨hw, h1⟩
    have skip : ∀ (ts : List LV), TmR β ts a.tmps.toList → (isAl op = true ∨ Region.wanted op (yielded all a.tmps) = false) → evOpsV o T C all rest ⟨putL ts op.dst (.a (.c (.val undef))), st.heap⟩ K →
        ∃ v, YU rd n P all (HR n0 w0 β H) op v a ∧ wpL rd n P all (HR n0 w0 β H) (fun a' => ∃ st', K st' ∧ st'.heap = H ∧ TmR β st'.tmps a'.tmps.toList ∧ a'.defers = D) rest (a.put op.dst v) := by
      intro ts hts hw h
      refine ⟨undef, ?_, evOpsV_sound hH rest _ _ h hh (putL_sound (x := .a (.c (.val undef))) (v := undef) rfl _ hts) (hput undef)⟩
      unfold YU
      split
      · rfl
      · rename_i hal
        rcases hw with hw | hw
        · exact absurd hw hal
        · exact .inr ⟨hw, rfl⟩
    unfold evOpsV at h
    unfold wpL
    split at h
    · rename_i hg
      have hw : Region.wanted op (yielded all a.tmps) = true := by simp [Region.wanted, hg]
      split at h
      · rename_i t ho
        rw [force_eq] at h
        exact skip _ hM (.inl (by simp [isAl, hg, ho])) h
      · rename_i hne
        refine one st hh hM hw ?_ h
        unfold isAl
        split
        · rename_i t _ ho; exact absurd ho (hne t)
        · rfl
    · rename_i j want hg
      have hal : isAl op = false := by simp [isAl, hg]
      split at h
      · rename_i b hy
        have hy' := yOf_known hM hy
        by_cases hb : b = want
        · rw [if_pos hb] at h
          exact one st hh hM (by simp [Region.wanted, hg, hy', hb]) hal h
        · rw [if_neg hb, force_eq] at h
          exact skip _ hM (.inr (by simp [Region.wanted, hg, hy', hb])) h
      · rename_i d b hy
        obtain ⟨hy', hgd⟩ := yOf_open hM hy
        by_cases hb : b = want
        · have h := h.1 hb
          rw [force_eq] at h
          subst hb
          exact one ⟨setL st.tmps d (litB b), st.heap⟩ hh (know_sound hM hgd) (by simp [Region.wanted, hg, hy']) hal h
        · have hb' : b = !want := by cases b <;> cases want <;> simp_all
          have h := h.2 hb'
          rw [force_eq] at h
          refine skip _ ?_ (.inr (by simp [Region.wanted, hg, hy', hb])) h
          rw [← hb']; exact know_sound hM hgd
      · rename_i hy
        have hy' := yOf_none hM hy
        rw [force_eq] at h
        exact skip _ hM (.inr (by simp [Region.wanted, hg, hy'])) h
      · exact h.elim

end

/-! ### Weaker states -/

def leC : Cel → Cel → Prop
  | .run _ _ _, .any => False
  | _, .any => True
  | .lit k n, .int k' m => k = k' ∧ n = m
  | .int k n, .int k' m => k = k' ∧ n = m
  | .lit k n, .lit k' m => k = k' ∧ n = m
  | .int k n, .lit k' m => k = k' ∧ n = m
  | .tt, .bool b => b = true
  | .ff, .bool b => b = false
  | .bool b, .tt => b = true
  | .bool b, .ff => b = false
  | .bool b, .bool b' => b = b'
  | .tt, .tt => True
  | .ff, .ff => True
  | .str s, .str s' => s = s'
  | .run ks n l, .run ks' n' l' => ks = ks' ∧ n = n' ∧ l = l'
  | a, b => a = b

def leCs : List Cel → List Cel → Prop
  | [], [] => True
  | a :: as, b :: bs => leC a b ∧ leCs as bs
  | _, _ => False

def leA : Av → Av → Prop
  | _, .c .any => True
  | .c a, .c b => leC a b
  | .agg l, .agg m => leCs l m
  | _, _ => False

def leAs : List Av → List Av → Prop
  | [], [] => True
  | a :: as, b :: bs => leA a b ∧ leAs as bs
  | _, _ => False

def leL : LV → LV → Prop
  | _, .a (.c .any) => True
  | .a x, .a y => leA x y
  | .tup l, .tup m => leAs l m
  | a, b => a = b

def leT : List LV → List LV → Prop
  | [], [] => True
  | a :: as, b :: bs => leL a b ∧ leT as bs
  | _, _ => False

def leB : Blk → Blk → Prop
  | _, .dead => True
  | .cells o t cs, .cells o' t' cs' => o = o' ∧ t = t' ∧ leCs cs cs'
  | .gst N gd el i, .gst N' gd' el' i' => N = N' ∧ gd = gd' ∧ el = el' ∧ i = i'
  | _, _ => False

def leH : List Blk → List Blk → Prop
  | _, [] => True
  | a :: as, b :: bs => leB a b ∧ leH as bs
  | [], _ :: _ => False

theorem leC_sound {β : List Nat} {a b : Cel} {v : Value} (h : leC a b) (hr : CelR β a v) : CelR β b v := by
  unfold leC at h
  split at h
  · exact h.elim
  · trivial
  · obtain ⟨rfl, rfl⟩ := h; exact hr
  · obtain ⟨rfl, rfl⟩ := h; exact hr
  · obtain ⟨rfl, rfl⟩ := h; exact hr
  · obtain ⟨rfl, rfl⟩ := h; exact hr
  · subst h; exact hr
  · subst h; exact hr
  · subst h; exact hr
  · subst h; exact hr
  · subst h; exact hr
  · exact hr
  · exact hr
  · subst h; exact hr
  · obtain ⟨rfl, rfl, rfl⟩ := h; exact hr
  · subst h; exact hr

theorem leC1_sound {β : List Nat} {a b : Cel} {vs : List Value} (h : leC a b) (hr : Cel1 β a vs) : Cel1 β b vs := by
  cases a <;> cases b <;> simp only [leC, reduceCtorEq] at h <;> (try (exact hr)) <;>
    first
      | (obtain ⟨rfl, rfl, rfl⟩ := h; exact hr)
      | (obtain ⟨v, rfl, hr⟩ := hr; exact ⟨v, rfl, leC_sound (by simp only [leC]; exact h) hr⟩)
      | (obtain ⟨v, rfl, hr⟩ := hr; exact ⟨v, rfl, trivial⟩)
      | (cases h; exact hr)

theorem leCs_sound {β : List Nat} : ∀ {as bs : List Cel} {vs : List Value}, leCs as bs → CelsR β as vs → CelsR β bs vs
  | [], [], _, _, h => h
  | [], _ :: _, _, h, _ => h.elim
  | _ :: _, [], _, h, _ => h.elim
  | _a :: _as, _b :: _bs, _vs, ⟨h1, h2⟩, ⟨p, r, e, k1, k2⟩ => ⟨p, r, e, leC1_sound h1 k1, leCs_sound h2 k2⟩

theorem leA_sound {β : List Nat} {a b : Av} {v : Value} (h : leA a b) (hr : AvR β a v) : AvR β b v := by
  unfold leA at h
  split at h
  · trivial
  · exact leC_sound h hr
  · obtain ⟨arr, e, hr⟩ := hr; exact ⟨arr, e, leCs_sound h hr⟩
  · exact h.elim

theorem leAs_sound {β : List Nat} : ∀ {as bs : List Av} {vs : List Value}, leAs as bs → AvsR β as vs → AvsR β bs vs
  | [], [], _, _, h => h
  | [], _ :: _, _, h, _ => h.elim
  | _ :: _, [], _, h, _ => h.elim
  | _a :: _as, _b :: _bs, _vs, ⟨h1, h2⟩, ⟨v, r, e, k1, k2⟩ => ⟨v, r, e, leA_sound h1 k1, leAs_sound h2 k2⟩

theorem leL_sound {β : List Nat} {a b : LV} {v : Value} (h : leL a b) (hr : LVR β a v) : LVR β b v := by
  unfold leL at h
  split at h
  · trivial
  · exact leA_sound h hr
  · obtain ⟨arr, e, hr⟩ := hr; exact ⟨arr, e, leAs_sound h hr⟩
  · subst h; exact hr

theorem leT_sound {β : List Nat} : ∀ {as bs : List LV} {vs : List Value}, leT as bs → TmR β as vs → TmR β bs vs
  | [], [], _, _, h => h
  | [], _ :: _, _, h, _ => h.elim
  | _ :: _, [], _, h, _ => h.elim
  | _a :: _as, _b :: _bs, _vs, ⟨h1, h2⟩, ⟨v, r, e, k1, k2⟩ => ⟨v, r, e, leL_sound h1 k1, leT_sound h2 k2⟩

/-! ### Only the first m blocks are named -/

def inC (m : Nat) : Cel → Bool
  | .ptr id _ => decide (id < m)
  | .pti id _ _ _ _ => decide (id < m)
  | .slc id _ _ _ _ _ => decide (id < m)
  | .fn _ caps => caps.all fun id => decide (id < m)
  | .yld id => decide (id < m)
  | _ => true
def inA (m : Nat) : Av → Bool
  | .c x => inC m x
  | .agg l => l.all (inC m)
def inL (m : Nat) : LV → Bool
  | .a x => inA m x
  | .tup l => l.all (inA m)
def inB (m : Nat) : Blk → Bool
  | .dead => true
  | .cells _ _ cs => cs.all (inC m)
  | .gst _ _ _ _ => true
def inSt (st : St) : Bool := st.tmps.all (inL st.heap.length) && st.heap.all (inB st.heap.length)

theorem getElem?_take_of {β : List Nat} {m id b : Nat} (h : β[id]? = some b) (hm : id < m) : (β.take m)[id]? = some b := by
  rw [List.getElem?_take_of_lt hm]; exact h

theorem mapM_take {β : List Nat} {m : Nat} : ∀ {caps bs : List Nat}, (caps.all fun id => decide (id < m)) = true → caps.mapM (fun i => β[i]?) = some bs → caps.mapM (fun i => (β.take m)[i]?) = some bs
  | [], bs, _, h => by simpa using h
  | c :: cs, bs, hm, h => by
    simp only [List.all_cons, Bool.and_eq_true, decide_eq_true_eq] at hm
    simp only [List.mapM_cons, Option.bind_eq_bind, Option.bind_eq_some_iff, Option.pure_def] at h ⊢
    obtain ⟨x, hx, y, hy, e⟩ := h
    exact ⟨x, getElem?_take_of hx hm.1, y, mapM_take hm.2 hy, e⟩

theorem CelR.take {β : List Nat} {m : Nat} {c : Cel} {v : Value} (h : CelR β c v) (hm : inC m c = true) : CelR (β.take m) c v := by
  cases c <;> simp only [CelR, inC, decide_eq_true_eq] at * <;>
    first
      | exact h
      | (obtain ⟨b, h1, h2⟩ := h; exact ⟨b, getElem?_take_of h1 hm, h2⟩)
      | (obtain ⟨h1, h2, h3, b, h4, h5⟩ := h; exact ⟨h1, h2, h3, b, getElem?_take_of h4 hm, h5⟩)
      | (obtain ⟨bs, h1, h2⟩ := h; exact ⟨bs, mapM_take hm h1, h2⟩)

theorem Cel1.take {β : List Nat} {m : Nat} {c : Cel} {vs : List Value} (h : Cel1 β c vs) (hm : inC m c = true) : Cel1 (β.take m) c vs := by
  cases c <;> simp only [Cel1] at * <;>
    first
      | exact h
      | (obtain ⟨v, h1, h2⟩ := h; exact ⟨v, h1, h2.take hm⟩)

theorem CelsR.take {β : List Nat} {m : Nat} : ∀ {cs : List Cel} {vs : List Value}, CelsR β cs vs → cs.all (inC m) = true → CelsR (β.take m) cs vs
  | [], _, h, _ => h
  | c :: cs, _, ⟨p, r, e, h1, h2⟩, hm => by
    simp only [List.all_cons, Bool.and_eq_true] at hm
    exact ⟨p, r, e, h1.take hm.1, h2.take hm.2⟩

theorem AvR.take {β : List Nat} {m : Nat} {a : Av} {v : Value} (h : AvR β a v) (hm : inA m a = true) : AvR (β.take m) a v := by
  cases a with
  | c x => exact CelR.take h hm
  | agg l => obtain ⟨arr, e, h⟩ := h; exact ⟨arr, e, h.take hm⟩

theorem AvsR.take {β : List Nat} {m : Nat} : ∀ {cs : List Av} {vs : List Value}, AvsR β cs vs → cs.all (inA m) = true → AvsR (β.take m) cs vs
  | [], _, h, _ => h
  | c :: cs, _, ⟨p, r, e, h1, h2⟩, hm => by
    simp only [List.all_cons, Bool.and_eq_true] at hm
    exact ⟨p, r, e, h1.take hm.1, h2.take hm.2⟩

theorem LVR.take {β : List Nat} {m : Nat} {a : LV} {v : Value} (h : LVR β a v) (hm : inL m a = true) : LVR (β.take m) a v := by
  cases a with
  | a x => exact AvR.take h hm
  | tup l => obtain ⟨arr, e, h⟩ := h; exact ⟨arr, e, h.take hm⟩

theorem TmR.take {β : List Nat} {m : Nat} : ∀ {cs : List LV} {vs : List Value}, TmR β cs vs → cs.all (inL m) = true → TmR (β.take m) cs vs
  | [], _, h, _ => h
  | c :: cs, _, ⟨p, r, e, h1, h2⟩, hm => by
    simp only [List.all_cons, Bool.and_eq_true] at hm
    exact ⟨p, r, e, h1.take hm.1, h2.take hm.2⟩

theorem leH_get : ∀ {as bs : List Blk} {i : Nat} {B : Blk}, leH as bs → bs[i]? = some B → ∃ A, as[i]? = some A ∧ leB A B
  | _, [], _, _, _, h => by simp at h
  | [], _ :: _, _, _, h, _ => h.elim
  | a :: as, b :: bs, 0, B, ⟨h1, _⟩, h => by simp at h; subst h; exact ⟨a, rfl, h1⟩
  | a :: as, b :: bs, i + 1, B, ⟨_, h2⟩, h => by simp at h; simpa using leH_get h2 h

theorem leH_len : ∀ {as bs : List Blk}, leH as bs → bs.length ≤ as.length
  | _, [], _ => by simp
  | [], _ :: _, h => h.elim
  | a :: as, b :: bs, ⟨_, h2⟩ => by simp; exact leH_len h2

/-- A state may be forgotten in part. -/
theorem weaken {n0 : Nat} {w0 : Base} {w : World} {β : List Nat} {st st' : St} {a : Act} (hT : leT st.tmps st'.tmps) (hHp : leH st.heap st'.heap) (hin : inSt st' = true)
    (hH : HR n0 w0 β st.heap w) (hM : TmR β st.tmps a.tmps.toList) : HR n0 w0 (β.take st'.heap.length) st'.heap w ∧ TmR (β.take st'.heap.length) st'.tmps a.tmps.toList := by
  unfold inSt at hin
  rw [Bool.and_eq_true] at hin
  have hlen := leH_len hHp
  refine ⟨⟨hH.base, by rw [List.length_take, hH.len]; omega, hH.nd.sublist (List.take_sublist _ _), fun b hb => hH.lt b (List.mem_of_mem_take hb), hH.ms, hH.st, hH.sj, hH.ext, ?_⟩, (leT_sound hT hM).take hin.1⟩
  intro i B b hB hb
  obtain ⟨A, hA, hAB⟩ := leH_get hHp hB
  have hi : i < st'.heap.length := (List.getElem?_eq_some_iff.1 hB).1
  rw [List.getElem?_take_of_lt hi] at hb
  have hblk := hH.blk i A b hA hb
  cases B with
  | dead => trivial
  | gst N gd el j =>
    cases A with
    | dead => exact hAB.elim
    | cells _ _ _ => exact hAB.elim
    | gst N' gd' el' j' =>
      obtain ⟨rfl, rfl, rfl, rfl⟩ := hAB
      exact hblk
  | cells own t cs =>
    cases A with
    | dead => exact hAB.elim
    | gst _ _ _ _ => exact hAB.elim
    | cells own' t' cs' =>
      obtain ⟨rfl, rfl, hc⟩ := hAB
      obtain ⟨h1, arr, h2, h3⟩ := hblk
      have hinB := List.all_eq_true.1 hin.2 _ (List.mem_of_getElem? hB)
      exact ⟨h1, arr, h2, (leCs_sound hc h3).take hinB⟩



inductive Ex where
  | normal
  | exit (id : Nat)
  | ret

def Ex.out : Ex → Exit
  | .normal => .normal
  | .exit id => .exit id
  | .ret => .ret

/-- What is told of a loop: a family of states at its head. -/
structure LAnn where
  ι : Type
  inv : St → ι → Prop
  slots : St → ι → List (Nat × LV)
  blks : St → ι → List (Nat × List Cel)
  μ : St → ι → Nat
  gi : St → ι → Option (Option Nat) := fun _ _ => none

/-- What is told of a loop over an iterator: a family of blocks behind i steps. -/
structure SAnn where
  ι : Type
  inv : St → Nat → ι → Prop
  blks : St → Nat → ι → List (Nat × List Cel)

inductive LM where
  | unroll (n : Nat)
  | inv (a : LAnn)
  | seq (a : SAnn)

def firstR : Code → Nat
  | .region id _ _ => id
  | .seq a _ => firstR a
  | .block _ b => firstR b
  | .loop b => firstR b
  | .scope b => firstR b
  | _ => 0

def dstsO : List Oper → List Nat
  | [] => []
  | o :: r => match o.dst with
    | some d => d :: dstsO r
    | none => dstsO r

def dstsC : Code → List Nat
  | .region _ ops _ => dstsO ops.toList
  | .seq a b => dstsC a ++ dstsC b
  | .cond _ a b => dstsC a ++ dstsC b
  | .block _ b => dstsC b
  | .loop b => dstsC b
  | .scope b => dstsC b
  | .rangeFunc _ _ a b => dstsC a ++ dstsC b
  | _ => []

def havoc : List LV → List Nat → List LV
  | ts, [] => ts
  | ts, d :: ds => havoc (setL ts d (.a (.c .any))) ds

def setSl : List LV → List (Nat × LV) → List LV
  | ts, [] => ts
  | ts, (d, v) :: r => setSl (setL ts d v) r

def setCs : List Blk → Nat → List Cel → List Blk
  | [], _, _ => []
  | .cells o t _ :: r, 0, cs => .cells o t cs :: r
  | x :: r, 0, _ => x :: r
  | x :: r, n + 1, cs => x :: setCs r n cs

def setBs : List Blk → List (Nat × List Cel) → List Blk
  | H, [] => H
  | H, (i, cs) :: r => setBs (setCs H i cs) r

theorem setCs_len : ∀ (H : List Blk) (i : Nat) (cs : List Cel), (setCs H i cs).length = H.length
  | [], _, _ => rfl
  | .cells _ _ _ :: r, 0, _ => rfl
  | .dead :: r, 0, _ => rfl
  | .gst _ _ _ _ :: r, 0, _ => rfl
  | x :: r, n + 1, cs => by simp [setCs, setCs_len r n cs]

theorem setBs_len : ∀ (l : List (Nat × List Cel)) (H : List Blk), (setBs H l).length = H.length
  | [], _ => rfl
  | (i, cs) :: r, H => by rw [setBs, setBs_len r, setCs_len]

/-- The count of rounds set; of the cells nothing is known then. -/
def setG : Option (Option Nat) → List Blk → List Blk
  | none, H => H
  | some _, [] => []
  | some i, .gst N gd el _ :: r => .gst N gd el i :: setG (some i) r
  | some i, _ :: r => .dead :: setG (some i) r

theorem setG_len : ∀ (g : Option (Option Nat)) (H : List Blk), (setG g H).length = H.length
  | none, _ => by simp [setG]
  | some _, [] => rfl
  | some i, .gst _ _ _ _ :: r => by simp [setG, setG_len (some i) r]
  | some i, .dead :: r => by simp [setG, setG_len (some i) r]
  | some i, .cells _ _ _ :: r => by simp [setG, setG_len (some i) r]

/-- What a slot holds: for annotations. -/
def slotI (st : St) (t : Nat) : Int := match getL st.tmps t with
  | .a (.c (.int _ y)) => y
  | .a (.c (.lit _ y)) => y
  | _ => 0

def LAnn.J (a : LAnn) (ds : List Nat) (st : St) (x : a.ι) : St := ⟨setSl (havoc st.tmps ds) (a.slots st x), setG (a.gi st x) (setBs st.heap (a.blks st x))⟩

def SAnn.J (a : SAnn) (st : St) (i : Nat) (x : a.ι) : List Blk := setBs st.heap (a.blks st i x)

def inH (H : List Blk) : Bool := H.all (inB H.length)

def unrollN (f : St → (Ex → St → Prop) → Prop) : Nat → St → (Ex → St → Prop) → Prop
  | 0, _, _ => Stuck "unroll"
  | n + 1, st, K => f st fun e st' => match e with
    | .normal => unrollN f n st' K
    | e => K e st'

/-- The executor. -/
def ex (o : Bool) (T : Tab) (I : CI) (C : Ctr) (Λ : Nat → LM) : Code → St → (Ex → St → Prop) → Prop
  | .skip, st, K => K .normal st
  | .label _, st, K => K .normal st
  | .region _ ops draw, st, K =>
    match draw with
    | false => evOps o T I ops ops.toList st fun st' => K .normal st'
    | true => match allocAt ops (tailAt ops ops.size) with
      | none => if (mixB ops (tailAt ops ops.size) ops.size default && noDefer ops) = true then
          evOpsV o T C ops (ops.toList.take (tailAt ops ops.size)) st fun st' => evOps o T I ops (ops.toList.drop (tailAt ops ops.size)) st' fun st' => K .normal st'
        else Stuck "draw"
      | some (p, op) => match op.op with
        | .alloc t => if ((mixB ops (tailAt ops ops.size) p op && noDefer ops) && (look T t).isSome) = true then
          evOpsV o T C ops (ops.toList.take (tailAt ops ops.size)) st fun st' => match evAlloc T st'.heap t with
              | some (_, r, H') => force (putL st'.tmps op.dst r) fun ts => forceH H' fun H' => evOps o T I ops (ops.toList.drop (tailAt ops ops.size)) ⟨ts, H'⟩ fun st' => K .normal st'
              | none => Stuck "alloc"
          else Stuck "draw"
        | _ => Stuck "draw"
  | .seq a b, st, K => ex o T I C Λ a st fun e st' => match e with
    | .normal => ex o T I C Λ b st' K
    | e => K e st'
  | .cond c x y, st, K =>
    match st.ev c with
    | .a (.c .tt) => ex o T I C Λ x st K
    | .a (.c .ff) => ex o T I C Λ y st K
    | .a (.c (.bool b)) => (b = true → ex o T I C Λ x st K) ∧ (b = false → ex o T I C Λ y st K)
    | _ => Stuck "cond"
  | .block id body, st, K => ex o T I C Λ body st fun e st' => match e with
    | .exit i => if i = id then K .normal st' else K (.exit i) st'
    | e => K e st'
  | .loop body, st, K =>
    match Λ (firstR body) with
    | .unroll n => unrollN (ex o T I C Λ body) n st K
    | .inv a =>
      (∃ x, a.inv st x ∧ leT st.tmps (a.J (dstsC body) st x).tmps ∧ leH st.heap (a.J (dstsC body) st x).heap) ∧
      ∀ x, a.inv st x → forceT (a.J (dstsC body) st x).tmps fun ts => forceH (a.J (dstsC body) st x).heap fun H =>
        if inSt ⟨ts, H⟩ = true then ex o T I C Λ body ⟨ts, H⟩ fun e st' => match e with
          | .normal => ∃ y, a.inv st y ∧ a.μ st y < a.μ st x ∧ leT st'.tmps (a.J (dstsC body) st y).tmps ∧ leH st'.heap (a.J (dstsC body) st y).heap
          | e => K e st'
        else Stuck "ids"
    | .seq _ => Stuck "loop"
  | .rangeFunc g ps assign body, st, K =>
    match st.ev g, ps.toList, Λ (firstR body) with
    | .a (.c (.fn (.func f) caps)), [t], .seq a =>
      match C.sq f (caps.map fun i => .a (.c (.ptr i 0))) st.heap with
      | some (p, N, gd, el) => p ∧
        (∃ x, a.inv st 0 x ∧ forceH (a.J st 0 x) fun H => if inH H = true then leH st.heap H else Stuck "ids") ∧
        (∀ i x, i < N → gd i = true → a.inv st i x → forceT (setL st.tmps t (.a (.c (.int .i64 (el i))))) fun ts => forceH (a.J st i x) fun H =>
          ex o T I C Λ assign ⟨ts, H⟩ fun e st1 => match e with
            | .normal => ex o T I C Λ body st1 fun e st2 => match e with
              | .normal => ∃ y, a.inv st (i + 1) y ∧ forceH (a.J st (i + 1) y) fun H => if inH H = true then leH st2.heap H else Stuck "ids"
              | e => forceH (st2.heap.take st.heap.length) fun H => if inH H = true then K e ⟨st.tmps, H⟩ else Stuck "ids"
            | _ => Stuck "assign") ∧
        (∀ i x, i < N → gd i = false → a.inv st i x → ∃ y, a.inv st (i + 1) y ∧ forceH (a.J st (i + 1) y) fun H => if inH H = true then leH (a.J st i x) H else Stuck "ids") ∧
        (∀ x, a.inv st N x → forceH (a.J st N x) fun H => K .normal ⟨st.tmps, H⟩)
      | none => Stuck "iterator"
    | _, _, _ => Stuck "range"
  | .exit id, st, K => K (.exit id) st
  | .ret, st, K => K .ret st
  | _, _, _ => Stuck "code"

theorem least {S : Nat → Prop} (h : ∃ n, S n) : ∃ n, S n ∧ ∀ m, S m → n ≤ m := by
  obtain ⟨n, hn⟩ := h
  induction n using Nat.strongRecOn with
  | _ n ih =>
    by_cases hm : ∃ m, m < n ∧ S m
    · obtain ⟨m, hlt, hS⟩ := hm
      exact ih m hlt hS
    · exact ⟨n, hn, fun m hS => Nat.le_of_not_lt fun hlt => hm ⟨m, hlt, hS⟩⟩

/-- A loop, by a family of states. -/
theorem wpIn_family {F : Fence} {n : Nat} {P : Program} {Q : Exit → Act → World → Prop} {a : Act} {w : World} {c : Code} {ι : Type} (I : ι → Act → World → Prop) (μ : ι → Nat) (h₀ : ∃ x, I x a w)
    (round : ∀ x a w, I x a w → c.wpIn F n P (Exit.then (fun a' w' => ∃ y, I y a' w' ∧ μ y < μ x) Q) a w) : (Code.loop c).wpIn F n P Q a w := by
  classical
  let m : Act → World → Nat := fun a w => if h : ∃ k, ∃ x, I x a w ∧ μ x = k then Classical.choose (least h) else 0
  have hm : ∀ a w, (∃ x, I x a w) → ∃ x, I x a w ∧ μ x = m a w ∧ ∀ y, I y a w → m a w ≤ μ y := by
    intro a w ⟨x, hx⟩
    have h : ∃ k, ∃ x, I x a w ∧ μ x = k := ⟨_, x, hx, rfl⟩
    have hc := Classical.choose_spec (least h)
    have e : m a w = Classical.choose (least h) := dif_pos h
    obtain ⟨⟨y, hy, hyk⟩, hmin⟩ := hc
    exact ⟨y, hy, by rw [e, hyk], fun z hz => by rw [e]; exact hmin _ ⟨z, hz, rfl⟩⟩
  refine wpIn_loop (fun a w => ∃ x, I x a w) m h₀ fun a w h => ?_
  obtain ⟨x, hx, hxm, _⟩ := hm a w h
  refine wpIn_mono (round x a w hx) ?_
  intro e a' w' hq
  cases e with
  | normal =>
    obtain ⟨y, hy, hlt⟩ := hq
    obtain ⟨_, _, _, hmin⟩ := hm a' w' ⟨y, hy⟩
    exact ⟨⟨y, hy⟩, by have := hmin y hy; omega⟩
  | _ => exact hq

/-- A loop that is walked round by round. -/
theorem wpIn_unroll {F : Fence} {n : Nat} {P : Program} {Q : Exit → Act → World → Prop} {c : Code} : ∀ (k : Nat) (a : Act) (w : World) (S : Nat → Act → World → Prop), S k a w →
    (∀ j a w, S (j + 1) a w → c.wpIn F n P (Exit.then (S j) Q) a w) → (∀ a w, ¬ S 0 a w) → (Code.loop c).wpIn F n P Q a w := by
  intro k a w S hk hs h0
  refine wpIn_family (fun j => S j) id ⟨k, hk⟩ ?_
  intro j a w h
  cases j with
  | zero => exact (h0 a w h).elim
  | succ j =>
    refine wpIn_mono (hs j a w h) ?_
    intro e a' w' hq
    cases e with
    | normal => exact ⟨j, hq, Nat.lt_succ_self j⟩
    | _ => exact hq

/-! ### Marks among the deferred calls -/

def DOk (n0 m hi : Nat) : List Deferred → World → Prop
  | [], _ => True
  | d :: ds, w => (∃ r, d = { target := .collected r, args := #[] } ∧ n0 ≤ r ∧ m ≤ r ∧ r < hi ∧ w.heap[r]? = some (.deferred (some [])) ∧ ∀ d' ∈ ds, d' ≠ d) ∧ DOk n0 m hi ds w

theorem DOk.keep {n0 m m' hi hi' : Nat} {w w' : World} (hm : m' ≤ m) (hh : hi ≤ hi') (hk : ∀ r, n0 ≤ r → r < hi → w.heap[r]? = some (.deferred (some [])) → w'.heap[r]? = some (.deferred (some []))) : ∀ {ds : List Deferred}, DOk n0 m hi ds w → DOk n0 m' hi' ds w'
  | [], _ => trivial
  | d :: ds, ⟨⟨r, h1, h2, h3, h4, h5, h6⟩, h⟩ => ⟨⟨r, h1, h2, by omega, by omega, hk r h2 h4 h5, h6⟩, DOk.keep hm hh hk h⟩

/-- What is no cells, from n0 on, lies as it lay. -/
def KO (n0 : Nat) (w W : World) : Prop := ∀ (k : Nat) (o : Obj), n0 ≤ k → w.heap[k]? = some o → (∀ a t s, o ≠ .cells a t s) → W.heap[k]? = some o

theorem KO.refl (n0 : Nat) (w : World) : KO n0 w w := fun _ _ _ h _ => h
theorem KO.below {n0 n : Nat} {w a b : World} (h : KO n0 w a) (hw : w.heap.size ≤ n) (hb : Below n a b) : KO n0 w b := fun k o h1 h2 h3 =>
  (hb.block k (Nat.lt_of_lt_of_le (Array.getElem?_eq_some_iff.1 h2).1 hw)).trans (h k o h1 h2 h3)
theorem KO.grow {n0 m : Nat} {w a b : World} (h : KO n0 w a) (hw : w.heap.size ≤ m) (hg : Grow n0 m a b) : KO n0 w b := fun k o h1 h2 h3 =>
  hg.ko k o (Nat.lt_of_lt_of_le (Array.getElem?_eq_some_iff.1 h2).1 hw) (h k o h1 h2 h3) h3
theorem KO.rk {n0 : Nat} {w a b : World} (h : KO n0 w a) (hr : RK n0 a b) : KO n0 w b := fun k o h1 h2 h3 => hr.2 k o h1 (h k o h1 h2 h3) h3

theorem DOk.ko {n0 m m' hi hi' : Nat} {w W : World} {ds : List Deferred} (h : DOk n0 m hi ds w) (hm : m' ≤ m) (hh : hi ≤ hi') (hk : KO n0 w W) : DOk n0 m' hi' ds W :=
  h.keep hm hh fun r h1 _ h3 => hk r _ h1 h3 (fun _ _ _ e => by cases e)

/-- A base in which a fact on worlds is kept beside. -/
def Base.and (w0 : Base) (Y : World → Prop) (s : Nat) : Base := ⟨fun u => w0.X u ∧ Y u, s, w0.l, w0.J⟩

theorem HR.and {n0 : Nat} {w0 : Base} {β : List Nat} {H : List Blk} {w : World} (h : HR n0 w0 β H w) {Y : World → Prop} {s : Nat} (hs : w0.m ≤ s) (hw : s ≤ w.heap.size) (hY : Y w) (hst : ∀ a b, Grow n0 s a b → Y a → Y b) : HR n0 (w0.and Y s) β H w :=
  ⟨h.base, h.len, h.nd, h.lt, hw, fun a b hg hx => ⟨h.st a b ⟨hg.below, fun k o hk => hg.ko k o (Nat.lt_of_lt_of_le hk hs)⟩ hx.1, hst a b hg hx.2⟩, h.sj, ⟨h.ext, hY⟩, fun i B b hB hb => by
    have := h.blk i B b hB hb
    cases B <;> exact this⟩

theorem HR.left {n0 : Nat} {w0 : Base} {β : List Nat} {H : List Blk} {w : World} {Y : World → Prop} {s : Nat} (hs : w0.m ≤ s) (hst : ∀ a b, Grow n0 w0.m a b → w0.X a → w0.X b) (h : HR n0 (w0.and Y s) β H w) : HR n0 w0 β H w :=
  ⟨h.base, h.len, h.nd, h.lt, Nat.le_trans hs h.ms, hst, h.sj, h.ext.1, fun i B b hB hb => by
    have := h.blk i B b hB hb
    cases B <;> exact this⟩

theorem RoundsOk.and {P : Program} {n0 : Nat} {w0 : Base} (h : RoundsOk P n0 w0) {Y : World → Prop} {s : Nat} (hk : ∀ a b, RK n0 a b → Y a → Y b) : RoundsOk P n0 (w0.and Y s) :=
  ⟨h.lt, h.round, h.skip, fun N gd el i W1 W' hj hr hx => ⟨h.keep N gd el i W1 W' hj hr hx.1, hk _ _ hr hx.2⟩⟩

/-- Steps that turn nothing below n. -/
theorem HR.later {n0 n : Nat} {w0 : Base} {β : List Nat} {H : List Blk} {w w' : World} (h : HR n0 w0 β H w) (hn : n0 ≤ n) (hm : w0.m ≤ n) (hβ : ∀ b ∈ β, b < n) (hb : Below n w w') : HR n0 w0 β H w' :=
  ⟨Nat.le_trans h.base hb.size, h.len, h.nd, fun b hb' => Nat.lt_of_lt_of_le (h.lt b hb') hb.size, Nat.le_trans h.ms hb.size, h.st, h.sj, h.st _ _ (Grow.of_below hn hm hb) h.ext, fun i B b hB hbβ => by
    have := h.blk i B b hB hbβ
    cases B with
    | dead => trivial
    | gst N gd el j => exact ⟨this.1, h.sj _ _ _ _ _ _ (hb.mono hn) this.2⟩
    | cells own t cs =>
      obtain ⟨h1, arr, h2, h3⟩ := this
      exact ⟨h1, arr, by rw [hb.block b (hβ b (List.mem_of_getElem? hbβ))]; exact h2, h3⟩⟩

/-- A block that is no cells turns. -/
theorem HR.putO {n0 : Nat} {w0 : Base} {β : List Nat} {H : List Blk} {w : World} (h : HR n0 w0 β H w) {r : Nat} {o o' : Obj} (hr : w.heap[r]? = some o) (ho : ∀ a t s, o ≠ .cells a t s) (hn : n0 ≤ r) (hx : w0.X (w.putObj r o')) : HR n0 w0 β H (w.putObj r o') := by
  have hb : Below n0 w (w.putObj r o') := ⟨rfl, rfl, rfl, by simp, fun k hk => World.putObj_heap_other (by omega)⟩
  refine ⟨by simpa using h.base, h.len, h.nd, fun b hb' => by simpa using h.lt b hb', by simpa using h.ms, h.st, h.sj, hx, fun i B b hB hbβ => ?_⟩
  have := h.blk i B b hB hbβ
  cases B with
  | dead => trivial
  | gst N gd el j => exact ⟨this.1, h.sj _ _ _ _ _ _ hb this.2⟩
  | cells own t cs =>
    obtain ⟨h1, arr, h2, h3⟩ := this
    refine ⟨h1, arr, ?_, h3⟩
    rw [World.putObj_heap_other]; exact h2
    intro e; subst e; rw [h2] at hr; simp only [Option.some.injEq] at hr; exact ho _ _ _ hr.symm

theorem below_putO {n : Nat} {w : World} {r : Nat} (o : Obj) (hn : n ≤ r) : Below n w (w.putObj r o) := ⟨rfl, rfl, rfl, by simp, fun k hk => World.putObj_heap_other (by omega)⟩
theorem grow_putO {n0 m : Nat} {w : World} {r : Nat} (o : Obj) (hn : n0 ≤ r) (hm : m ≤ r) : Grow n0 m w (w.putObj r o) := ⟨below_putO o hn, fun k o' hk ho _ => (World.putObj_heap_other (by omega)).trans ho⟩

theorem weakenH {n0 : Nat} {w0 : Base} {w : World} {β : List Nat} {H H' : List Blk} (hle : leH H H') (hin : inH H' = true) (hH : HR n0 w0 β H w) : HR n0 w0 (β.take H'.length) H' w :=
  (weaken (st := ⟨[], H⟩) (st' := ⟨[], H'⟩) (a := { tmps := #[], defers := [] }) trivial hle (by simpa [inSt, inH] using hin) hH rfl).1

theorem leC_refl (c : Cel) : leC c c := by cases c <;> simp [leC]
theorem leCs_refl : ∀ l, leCs l l
  | [] => trivial
  | c :: r => ⟨leC_refl c, leCs_refl r⟩
theorem leB_refl (b : Blk) : leB b b := by cases b <;> simp [leB, leCs_refl]
theorem leH_take : ∀ (H : List Blk) (n : Nat), leH H (H.take n)
  | [], n => by simp [leH]
  | b :: r, 0 => by simp [leH]
  | b :: r, n + 1 => ⟨leB_refl b, leH_take r n⟩

/-- A block that lies there already, taken up. -/
theorem HR.adopt {n0 : Nat} {w0 : Base} {β : List Nat} {H : List Blk} {w : World} (h : HR n0 w0 β H w) {b : Nat} {arr : Array Value} {t : TypeId} {cs : List Cel} (h1 : n0 ≤ b) (h2 : b ∉ β) (h3 : w.heap[b]? = some (.cells arr t (0, 0))) (hc : CelsR β cs arr.toList) :
    HR n0 w0 (β ++ [b]) (H ++ [.cells true t cs]) w := by
  refine ⟨h.base, by simp [h.len], ?_, ?_, h.ms, h.st, h.sj, h.ext, ?_⟩
  · rw [List.nodup_append]
    exact ⟨h.nd, by simp, fun a ha c hc' e => by simp at hc'; subst hc'; subst e; exact h2 ha⟩
  · intro c hc'
    rcases List.mem_append.1 hc' with hc' | hc'
    · exact h.lt c hc'
    · simp at hc'; subst hc'; exact (Array.getElem?_eq_some_iff.1 h3).1
  · intro i B c hB hβ
    by_cases hi : i < H.length
    · rw [List.getElem?_append_left hi] at hB
      rw [List.getElem?_append_left (by rw [h.len]; exact hi)] at hβ
      have := h.blk i B c hB hβ
      cases B with
      | dead => trivial
      | gst N gd el j => exact this
      | cells own te ce =>
        obtain ⟨g1, ar, g2, g3⟩ := this
        exact ⟨g1, ar, g2, g3.mono⟩
    · have hl : i = H.length := by
        have := (List.getElem?_eq_some_iff.1 hB).1
        simp at this; omega
      subst hl
      have e1 : (H ++ [Blk.cells true t cs])[H.length]? = some (.cells true t cs) := by simp
      have e2 : (β ++ [b])[H.length]? = some b := by rw [← h.len]; simp
      rw [e1] at hB; rw [e2] at hβ
      simp only [Option.some.injEq] at hB hβ
      subst hB; subst hβ
      exact ⟨fun _ => h1, arr, h3, hc.mono⟩

theorem HR.alloc {n0 : Nat} {w0 : Base} {β : List Nat} {H : List Blk} {w : World} (h : HR n0 w0 β H w) (o : Obj) : HR n0 w0 β H (w.alloc o) :=
  h.later h.base h.ms h.lt ((Below.refl _ w).alloc (Nat.le_refl _) o)

theorem alloc_run {P : Program} {T : Tab} (hT : TabOk P T) {t : TypeId} {ti : TI} (hti : look T t = some ti) {op : Oper} (ho : op.op = .alloc t) : ∃ arr : Array Value,
    (∀ (a : Act) (w : World), (execOp a.eval op).run P w = .ok (.value (.pointer (some ⟨w.heap.size, 0, none⟩))) (w.alloc (.cells arr t (0, 0)))) ∧ ∀ β, CelsR β ti.3 arr.toList := by
  obtain ⟨d, sz, z⟩ := ti
  obtain ⟨⟨inf, h1, h2, z', hz, hc⟩, _⟩ := hT.look hti
  refine ⟨z'.cells, fun a w => ?_, hc⟩
  simp [execOp, ho, Instr.alloc, zeroValue, typeInfo, h1, hz, newVar, newRow]

theorem mixB_sound {ops : Array Oper} {nA p : Nat} {op : Oper} (h : mixB ops nA p op = true) : Region.noSelect ops = true ∧ lexA ops nA nA 0 (Array.replicate ops.size false) = true ∧
    (∀ j oj, ops[j]? = some oj → ∀ e ∈ oj.after, Region.binds .any e = true → e.on < j) ∧ TailOk ops nA ∧ nA ≤ ops.size ∧
    (∀ i o, i < nA → ops[i]? = some o → isAl o = true → i = p) ∧ (∀ j oj, j < nA → j ≠ p → ops[j]? = some oj → p < nA → op.apart ops oj = true) ∧
    (∀ i oi j oj, ops[i]? = some oi → isWF oi = true → ops[j]? = some oj → j ≠ i → (∀ e ∈ oj.after, Region.binds .any e = true → e.on ≠ i) → (∀ e ∈ oi.after, Region.binds .any e = true → e.on ≠ j) → oi.apart ops oj = true) := by
  simp only [mixB, Bool.and_eq_true, List.all_eq_true, List.mem_range, decide_eq_true_eq, Bool.or_eq_true] at h
  obtain ⟨⟨⟨⟨⟨⟨h1, h2⟩, h3⟩, h7⟩, h4⟩, h5⟩, h6⟩ := h
  refine ⟨h1, h2, ?_, ?_, h5, ?_, ?_, ?_⟩
  · intro j oj hj e he hb
    simp only [rangeOk, List.all_eq_true, List.mem_range] at h3
    have := h3 j (Array.getElem?_eq_some_iff.1 hj).1
    rw [hj] at this
    simp only [List.all_eq_true, Bool.or_eq_true, Bool.not_eq_true', decide_eq_true_eq] at this
    rcases this e (by simpa using he) with h' | h'
    · rw [hb] at h'; cases h'
    · exact h'
  · intro j oj hn hj listed hdc hall k hk
    rcases h4 j (Array.getElem?_eq_some_iff.1 hj).1 with h' | h'
    · omega
    · rw [hj] at h'
      simp only [waitsMost, List.all_eq_true, List.mem_range, List.any_eq_true, Bool.and_eq_true, Bool.or_eq_true, beq_iff_eq, decide_eq_true_eq] at h'
      rcases h' k hk with ⟨e, he, hb, hon⟩ | ⟨hkn, hkw⟩
      · have h1 := hall e (by simpa using he) hb
        rcases hon with rfl | hon
        · exact .inl h1
        · split at hon
          · rename_i o' ho'
            simp only [List.any_eq_true, Bool.and_eq_true, beq_iff_eq] at hon
            obtain ⟨e', he', hb', rfl⟩ := hon
            exact .inl (hdc _ _ ho' h1 e' (by simpa using he') hb')
          · cases hon
      · split at hkw
        · rename_i ok hok
          exact .inr ⟨hkn, ok, hok, hkw⟩
        · cases hkw
  · intro i o hi ho hal
    have := h6 i hi
    rw [ho] at this
    simp only [Bool.and_eq_true, Bool.or_eq_true, Bool.not_eq_true', beq_iff_eq] at this
    rcases this.1 with h' | h'
    · rw [hal] at h'; cases h'
    · exact h'
  · intro j oj hj hjp ho hpn
    have := h6 j hj
    rw [ho] at this
    simp only [Bool.and_eq_true, Bool.or_eq_true, Bool.not_eq_true', beq_iff_eq, decide_eq_true_eq] at this
    rcases this.2 with (h' | h') | h'
    · exact absurd h' hjp
    · omega
    · exact h'
  · intro i oi j oj hi hw hj hji n1 n2
    simp only [wfOk, List.all_eq_true, List.mem_range] at h7
    have := h7 i (Array.getElem?_eq_some_iff.1 hi).1
    rw [hi] at this
    simp only [hw, Bool.not_true, Bool.false_or, List.all_eq_true, List.mem_range] at this
    have := this j (Array.getElem?_eq_some_iff.1 hj).1
    rw [hj] at this
    simp only [Bool.or_eq_true, beq_iff_eq, List.any_eq_true, Bool.and_eq_true] at this
    rcases this with h' | (⟨e, he, hb, hon⟩ | ⟨e, he, hb, hon⟩) | h'
    · exact absurd h' hji
    · exact absurd hon (n1 e (by simpa using he) hb)
    · exact absurd hon (n2 e (by simpa using he) hb)
    · exact h'

theorem allocAt_sound {ops : Array Oper} {nA p : Nat} {op : Oper} (h : allocAt ops nA = some (p, op)) : p < nA ∧ ops[p]? = some op ∧ isAl op = true := by
  unfold allocAt at h
  obtain ⟨i, hi, he⟩ := List.exists_of_findSome?_eq_some h
  simp only [List.mem_range] at hi
  split at he
  · rename_i o ho
    split at he
    · rename_i hal
      simp only [Option.some.injEq, Prod.mk.injEq] at he
      obtain ⟨rfl, rfl⟩ := he
      exact ⟨hi, ho, hal⟩
    · simp at he
  · simp at he

theorem allocAt_none {ops : Array Oper} {nA : Nat} (h : allocAt ops nA = none) {i : Nat} {o : Oper} (hi : i < nA) (ho : ops[i]? = some o) : isAl o = false := by
  unfold allocAt at h
  rw [List.findSome?_eq_none_iff] at h
  have := h i (by simpa using hi)
  rw [ho] at this
  simp only at this
  split at this
  · cases this
  · rename_i hn; simpa using hn

/-- A loop over an iterator is entered. -/
theorem enter_sx {P : Program} {w : World} (fn : FuncId) (tmps : Array Value) (ps : Array Tmp) (assign body : Code) (rd : Option Nat) (hr : ∀ l0, rd = some l0 → ∃ r, w.heap[l0]? = some (.loop r)) :
    ∃ (l : Nat) (mark : List Deferred) (r : Loop) (W : World), (Instr.enterLoop fn tmps ps assign body rd).run P w = .ok (l, mark) W ∧ W.heap[l]? = some (.loop { r with state := .ready, pending := none }) ∧
      r.fn = fn ∧ r.tmps = tmps ∧ r.params = ps ∧ r.assign = assign ∧ r.body = body ∧ w.heap.size ≤ l ∧ Below w.heap.size w W ∧
      (mark = [] ∨ ∃ D, mark = [{ target := .collected D, args := #[] }] ∧ w.heap.size ≤ D ∧ D ≠ l ∧ W.heap[D]? = some (.deferred (some []))) := by
  cases rd with
  | none =>
    refine ⟨_, _, { state := .ready, pending := none, fn, tmps, params := ps, assign, body, defers := w.heap.size }, _, run_enterLoop_outer fn tmps ps assign body, ?_, rfl, rfl, rfl, rfl, rfl, by omega, ?_, .inr ⟨_, rfl, Nat.le_refl _, by omega, ?_⟩⟩
    · have := World.alloc_heap_new (w.alloc (.deferred (some []))) (.loop { state := .ready, pending := none, fn, tmps, params := ps, assign, body, defers := w.heap.size })
      rwa [World.size_alloc] at this
    · exact ((Below.refl _ w).alloc (Nat.le_refl _) _).alloc (by simp) _
    · exact (Below.heap_alloc _ _ _ (by simp)).trans (World.alloc_heap_new w _)
  | some l0 =>
    obtain ⟨r0, h0⟩ := hr l0 rfl
    refine ⟨w.heap.size, [], { state := .ready, pending := none, fn, tmps, params := ps, assign, body, defers := r0.defers }, w.alloc (.loop { state := .ready, pending := none, fn, tmps, params := ps, assign, body, defers := r0.defers }), ?_, World.alloc_heap_new w _, rfl, rfl, rfl, rfl, rfl, Nat.le_refl _, (Below.refl _ w).alloc (Nat.le_refl _) _, .inl rfl⟩
    unfold Instr.enterLoop
    simp only [Sem.run_bind, run_getLoop h0, run_newObj_alloc, Result.andThen, Sem.run_pure]

def Ex.code : Ex → Code
  | .normal => .skip
  | .exit id => .exit id
  | .ret => .ret

section
variable {P : Program} {T : Tab} (hT : TabOk P T) {I : CI} (hI : CIOk P I) {C : Ctr} (hC : CtrOk P C) (hm : P.follows .mixedOrders = true) {o : Bool} {n0 : Nat} {Λ : Nat → LM}
include hT hI hC hm

theorem ex_sound (c : Code) : ∀ (rd : Option Nat) (n : Nat) (w0 : Base) (st : St) (K : Ex → St → Prop) (β : List Nat) (a : Act) (w : World) (Q : Exit → Act → World → Prop),
    RoundsOk P n0 w0 → (∀ l0, rd = some l0 → ∀ u, w0.X u → ∃ r, u.heap[l0]? = some (.loop r)) →
    ex o T I C Λ c st K → HR n0 w0 β st.heap w → TmR β st.tmps a.tmps.toList → DOk n0 w0.m w.heap.size a.defers w →
    (∀ e st' γ a' w', K e st' → HR n0 w0 (β ++ γ) st'.heap w' → TmR (β ++ γ) st'.tmps a'.tmps.toList → DOk n0 w0.m w'.heap.size a'.defers w' → Q e.out a' w') →
    c.wpIn (Wd rd) n P Q a w := by
  induction c with
  | skip =>
    intro rd n w0 st K β a w Q hB hR h hH hM hD hK
    exact wpIn_skip (hK .normal st [] a w h (by simpa using hH) (by simpa using hM) hD)
  | label l =>
    intro rd n w0 st K β a w Q hB hR h hH hM hD hK
    exact wpIn_label (hK .normal st [] a w h (by simpa using hH) (by simpa using hM) hD)
  | exit id =>
    intro rd n w0 st K β a w Q hB hR h hH hM hD hK
    exact wpIn_exit (hK (.exit id) st [] a w h (by simpa using hH) (by simpa using hM) hD)
  | ret =>
    intro rd n w0 st K β a w Q hB hR h hH hM hD hK
    exact wpIn_ret (hK .ret st [] a w h (by simpa using hH) (by simpa using hM) hD)
  | region id ops draw =>
    intro rd n w0 st K β a w Q hB hR h hH hM hD hK
    have hYg : ∀ u v, Grow n0 w.heap.size u v → DOk n0 w0.m w.heap.size a.defers u → DOk n0 w0.m w.heap.size a.defers v := fun u v hg hd =>
      hd.keep (Nat.le_refl _) (Nat.le_refl _) fun r _ h2 h3 => hg.ko r _ h2 h3 (fun _ _ _ e => by cases e)
    have hYr : ∀ u v, RK n0 u v → DOk n0 w0.m w.heap.size a.defers u → DOk n0 w0.m w.heap.size a.defers v := fun u v hg hd =>
      hd.keep (Nat.le_refl _) (Nat.le_refl _) fun r h1 _ h3 => hg.2 r _ h1 h3 (fun _ _ _ e => by cases e)
    have hB2 := hB.and (Y := DOk n0 w0.m w.heap.size a.defers) (s := w.heap.size) hYr
    have hH2 := hH.and (Y := DOk n0 w0.m w.heap.size a.defers) (s := w.heap.size) hH.ms (Nat.le_refl _) hD hYg
    cases draw with
    | false =>
      refine wpIn_region_list (evOps_sound hT hI hB2 ops.toList st β a w h hH2 hM rfl (fun st' γ a' w' k1 k2 k3 k4 => hK .normal st' γ a' w' k1 (k2.left hH.ms hH.st) k3 ?_))
      rw [k4]
      exact k2.ext.2.keep (Nat.le_refl _) k2.ms (fun _ _ _ h => h)
    | true =>
      simp only [ex] at h
      refine wpIn_mono (Q := fun e a w => match e with | .panic _ => False | e => Q e a w) ?_ (fun e a w hq => by cases e <;> first | exact hq | exact hq.elim)
      have hsel : ∀ nA, nA ≤ ops.size → (ops.toList.take nA).length = nA := fun nA h => by rw [List.length_take, Array.length_toList]; omega
      -- the tail behind the first part
      have tail : ∀ {nA : Nat}, TailOk ops nA → (∀ j oj, ops[j]? = some oj → ∀ e ∈ oj.after, Region.binds .any e = true → e.on < j) → nA ≤ ops.size → ∀ (st' : St) (β' : List Nat) (a' : Act) (w' : World) (listed : Array Bool),
          (evOps o T I ops (ops.toList.drop nA) st' fun st' => K .normal st') → HR n0 (w0.and (DOk n0 w0.m w.heap.size a.defers) w.heap.size) (β ++ β') st'.heap w' → TmR (β ++ β') st'.tmps a'.tmps.toList → a'.defers = a.defers →
          (∀ i, i < nA → listed.getD i false = true) → (∀ i, nA ≤ i → i < ops.size → listed.getD i true = false) → listed.size = ops.size → wpAnyIn (Wd rd) n P .any ops (fun e a w => match e with | .panic _ => False | e => Q e a w) (ops.size - nA) listed a' w' := by
        intro nA ht hrg hle st' β' a' w' listed hk k1 k2 k3 l1 l2 l3
        have := wpAny_of_list (rd := rd) (n := n) (P := P) (Q := fun e a w => match e with | .panic _ => False | e => Q e a w) ht hrg (ops.toList.drop nA) nA listed a' w' (Nat.le_refl _) (fun j => by rw [List.getElem?_drop]; simp) l1 l2 l3
          (evOps_sound hT hI hB2 _ st' (β ++ β') a' w' hk k1 k2 k3 (fun st'' γ a'' w'' g1 g2 g3 g4 => hK .normal st'' (β' ++ γ) a'' w'' g1 (by simpa using g2.left hH.ms hH.st) (by simpa using g3) (by
            rw [g4]; exact g2.ext.2.keep (Nat.le_refl _) g2.ms (fun _ _ _ h => h))))
        rw [List.length_drop] at this
        simpa using this
      have go : ∀ {nA p : Nat} {op : Oper} {obj : Obj} {K' : St → Prop}, mixB ops nA p op = true → noDefer ops = true → evOpsV o T C ops (ops.toList.take nA) st K' → (∀ i o', i < nA → ops[i]? = some o' → isAl o' = true → i = p ∧ o' = op) →
          (p < nA → ops[p]? = some op ∧ isAl op = true) → (∀ (a : Act) (w : World), p < nA → (execOp a.eval op).run P w = .ok (.value (.pointer (some ⟨w.heap.size, 0, none⟩))) (w.alloc obj)) →
          (nA ≤ p ∨ p < nA) → (∀ (st' : St) (a' : Act) (b : Option Nat) (w' : World) (listed : Array Bool), K' st' → st'.heap = st.heap → TmR β st'.tmps a'.tmps.toList → a'.defers = a.defers → (p < nA → b.isSome = true) →
            (∀ i, i < nA → listed.getD i false = true) → (∀ i, nA ≤ i → i < ops.size → listed.getD i true = false) → listed.size = ops.size → HR n0 (w0.and (DOk n0 w0.m w.heap.size a.defers) w.heap.size) β st.heap w' → Laid n0 β obj b w' →
            wpAnyIn (Wd rd) n P .any ops (fun e a w => match e with | .panic _ => False | e => Q e a w) (ops.size - nA) listed (actB a' op.dst b) w') → (Code.region id ops true).wpIn (Wd rd) n P (fun e a w => match e with | .panic _ => False | e => Q e a w) a w := by
        intro nA p op obj K' hmx hnd hv hp hop hrun _ hfin
        obtain ⟨m1, m2, m3, m4, m5, m6, m7, m8⟩ := mixB_sound hmx
        refine wpIn_region_any hm ?_
        have hL := evOpsV_sound (rd := rd) (n := n) (P := P) hT hC hH2.draw (ops.toList.take nA) st a hv rfl hM rfl
        have hV := wpV_lex (nA := nA) (K := fun a' => ∃ st', K' st' ∧ st'.heap = st.heap ∧ TmR β st'.tmps a'.tmps.toList ∧ a'.defers = a.defers) m1 (ops.toList.take nA) 0 (Array.replicate ops.size false) a
          (fun j o _ h => absurd h (by
            simp only [Array.getD_eq_getD_getElem?, Array.getElem?_replicate]
            split <;> simp)) (fun j hj => by rw [hsel nA m5] at hj; rw [List.getElem?_take_of_lt hj]; simp) (by rw [hsel nA m5]; omega) (by rw [hsel nA m5]; exact m2) hL
        rw [hsel nA m5] at hV
        have := wpAny_of_V (rd := rd) (n := n) (P := P) (Q := fun e a w => match e with | .panic _ => False | e => Q e a w) (K := fun a' => ∃ st', K' st' ∧ st'.heap = st.heap ∧ TmR β st'.tmps a'.tmps.toList ∧ a'.defers = a.defers) (fun _ _ _ h => h) m4 m8 (n0 := n0) (β := β) (obj := obj) (p := p) (op := op) (nB := ops.size - nA) m1 (fun i o' ho c => noDefer_sound hnd i o' ho c) hp m7 hop hrun
          (fun u hu => ⟨hu.base, fun hb => by have := hu.lt _ hb; omega⟩) (fun u hu => hu.alloc obj)
          (fun a' b w' listed ⟨st', g1, g2, g3, g4⟩ hbs l1 l2 l3 hC' hL' => hfin st' a' b w' listed g1 g2 g3 g4 hbs l1 l2 l3 hC' hL') nA (Array.replicate ops.size false) a none _ hV
          (fun _ => ⟨fun h => (by cases h), fun h => absurd h (by
            simp only [Array.getD_eq_getD_getElem?, Array.getElem?_replicate]
            split <;> simp)⟩) (fun _ => rfl) (fun i _ hi => by simp [hi]) (by simp) (fun j o _ h => absurd h (by
            simp only [Array.getD_eq_getD_getElem?, Array.getElem?_replicate]
            split <;> simp)) hH2.draw trivial
        rw [show nA + (ops.size - nA) = ops.size by omega] at this
        exact this
      split at h
      · rename_i hal
        split at h
        · rename_i hb
          rw [Bool.and_eq_true] at hb
          obtain ⟨m1, m2, m3, m4, m5, m6, m7, m8⟩ := mixB_sound hb.1
          refine go (obj := .deferred none) hb.1 hb.2 h (fun i o' hi ho hal' => by rw [allocAt_none hal hi ho] at hal'; cases hal') (fun hlt => absurd hlt (by omega)) (fun _ _ hlt => absurd hlt (by omega)) (.inl m5) ?_
          intro st' a' b w' listed hk g2 g3 g4 _ l1 l2 l3 hC' hL'
          have hb' : actB a' (default : Oper).dst b = a' := by cases b <;> rfl
          rw [hb']
          exact tail m4 m3 m5 st' [] a' w' listed hk (by rw [g2]; simpa using hC') (by simpa using g3) g4 l1 l2 l3
        · exact h.elim
      · rename_i p op hal
        obtain ⟨a1, a2, a3⟩ := allocAt_sound hal
        split at h
        · rename_i t ho
          split at h
          · rename_i hb
            rw [Bool.and_eq_true, Bool.and_eq_true] at hb
            obtain ⟨⟨hb1, hb2⟩, hb3⟩ := hb
            obtain ⟨m1, m2, m3, m4, m5, m6, m7, m8⟩ := mixB_sound hb1
            obtain ⟨ti, hti⟩ := Option.isSome_iff_exists.1 hb3
            obtain ⟨arr, hrun, hz⟩ := alloc_run hT hti ho
            refine go (obj := .cells arr t (0, 0)) hb1 hb2 h (fun i o' hi ho' hal' => ?_) (fun _ => ⟨a2, a3⟩) (fun a w _ => hrun a w) (.inr a1) ?_
            · have e := m6 i o' hi ho' hal'
              subst e
              rw [a2] at ho'; simp only [Option.some.injEq] at ho'
              exact ⟨rfl, ho'.symm⟩
            · intro st' a' b w' listed hk g2 g3 g4 hbs l1 l2 l3 hC' hL'
              split at hk
              · rename_i x r H' he
                rw [force_eq, forceH_eq] at hk
                unfold evAlloc at he
                rw [hti] at he
                have he := withLen_sound he
                simp only [Option.some.injEq, Prod.mk.injEq] at he
                obtain ⟨_, rfl, rfl⟩ := he
                cases b with
                | none => have := hbs a1; cases this
                | some b =>
                  obtain ⟨b1, b2, b3⟩ := hL'
                  have hAd := hC'.adopt b1 b2 b3 (hz β)
                  refine tail m4 m3 m5 _ [b] (actB a' op.dst (some b)) w' listed hk (by rw [g2]; exact hAd) ?_ ?_ l1 l2 l3
                  · refine putL_sound (β := β ++ [b]) (x := .a (.c (.ptr st'.heap.length 0))) ⟨b, by rw [g2, ← hC'.len]; simp, rfl⟩ _ g3.mono
                  · show (a'.put _ _).defers = _
                    unfold Act.put; split <;> simpa using g4
              · exact hk.elim
          · exact h.elim
        · exact h.elim
  | seq x y ihx ihy =>
    intro rd n w0 st K β a w Q hB hR h hH hM hD hK
    refine wpIn_seq (ihx rd n w0 st _ β a w _ hB hR h hH hM hD ?_)
    intro e st' γ a' w' k1 k2 k3 k4
    cases e with
    | normal =>
      exact ihy rd n w0 st' K (β ++ γ) a' w' Q hB hR k1 k2 k3 k4 (fun e st'' γ' a'' w'' g1 g2 g3 g4 => hK e st'' (γ ++ γ') a'' w'' g1 (by simpa using g2) (by simpa using g3) g4)
    | exit id => exact hK (.exit id) st' γ a' w' k1 k2 k3 k4
    | ret => exact hK .ret st' γ a' w' k1 k2 k3 k4
  | cond c x y ihx ihy =>
    intro rd n w0 st K β a w Q hB hR h hH hM hD hK
    simp only [ex] at h
    have hc := ev_sound hM c
    split at h
    · rename_i hce
      rw [hce] at hc
      exact wpIn_cond_true hc (ihx rd n w0 st K β a w Q hB hR h hH hM hD hK)
    · rename_i hce
      rw [hce] at hc
      exact wpIn_cond_false hc (ihy rd n w0 st K β a w Q hB hR h hH hM hD hK)
    · rename_i b hce
      rw [hce] at hc
      exact wpIn_cond_split hc (fun hb => ihx rd n w0 st K β a w Q hB hR (h.1 hb) hH hM hD hK) (fun hb => ihy rd n w0 st K β a w Q hB hR (h.2 hb) hH hM hD hK)
    · exact h.elim
  | block id body ih =>
    intro rd n w0 st K β a w Q hB hR h hH hM hD hK
    refine wpIn_block (ih rd n w0 st _ β a w _ hB hR h hH hM hD ?_)
    intro e st' γ a' w' k1 k2 k3 k4
    cases e with
    | normal => exact hK .normal st' γ a' w' k1 k2 k3 k4
    | exit i =>
      simp only at k1
      by_cases hi : i = id
      · rw [if_pos hi] at k1
        simp only [Ex.out, Exit.inBlock, hi, if_true]
        exact hK .normal st' γ a' w' k1 k2 k3 k4
      · rw [if_neg hi] at k1
        simp only [Ex.out, Exit.inBlock, hi, if_false]
        exact hK (.exit i) st' γ a' w' k1 k2 k3 k4
    | ret => exact hK .ret st' γ a' w' k1 k2 k3 k4
  | loop body ih =>
    intro rd n w0 st K β a w Q hB hR h hH hM hD hK
    simp only [ex] at h
    split at h
    · rename_i k hk
      refine wpIn_unroll k a w (fun j a w => ∃ st' γ, unrollN (ex o T I C Λ body) j st' K ∧ HR n0 w0 (β ++ γ) st'.heap w ∧ TmR (β ++ γ) st'.tmps a.tmps.toList ∧ DOk n0 w0.m w.heap.size a.defers w)
        ⟨st, [], h, by simpa using hH, by simpa using hM, hD⟩ ?_ ?_
      · rintro j a w ⟨st', γ, h1, h2, h3, h4⟩
        refine ih rd n w0 st' _ (β ++ γ) a w _ hB hR h1 h2 h3 h4 ?_
        intro e st'' γ' a' w' k1 k2 k3 k4
        cases e with
        | normal => exact ⟨st'', γ ++ γ', k1, by simpa using k2, by simpa using k3, k4⟩
        | exit id => exact hK (.exit id) st'' (γ ++ γ') a' w' k1 (by simpa using k2) (by simpa using k3) k4
        | ret => exact hK .ret st'' (γ ++ γ') a' w' k1 (by simpa using k2) (by simpa using k3) k4
      · rintro a w ⟨_, _, h1, _⟩
        exact h1
    · rename_i ann hk
      obtain ⟨⟨x0, i0, t0, hp0⟩, hbody'⟩ := h
      have hbody : ∀ x, ann.inv st x → inSt (ann.J (dstsC body) st x) = true ∧ ex o T I C Λ body (ann.J (dstsC body) st x) fun e st' => match e with
          | .normal => ∃ y, ann.inv st y ∧ ann.μ st y < ann.μ st x ∧ leT st'.tmps (ann.J (dstsC body) st y).tmps ∧ leH st'.heap (ann.J (dstsC body) st y).heap
          | e => K e st' := by
        intro x ix
        have := hbody' x ix
        rw [forceT_eq, forceH_eq] at this
        split at this
        · rename_i hin; exact ⟨hin, this⟩
        · exact this.elim
      have hJ : ∀ x, (ann.J (dstsC body) st x).heap.length = β.length := by
        intro x
        rw [hH.len]; exact (setG_len _ _).trans (setBs_len _ _)
      refine wpIn_family (fun x a w => ann.inv st x ∧ HR n0 w0 β (ann.J (dstsC body) st x).heap w ∧ TmR β (ann.J (dstsC body) st x).tmps a.tmps.toList ∧ DOk n0 w0.m w.heap.size a.defers w) (ann.μ st) ⟨x0, i0, ?_⟩ ?_
      · have := weaken t0 hp0 (hbody x0 i0).1 hH hM
        rw [hJ, List.take_length] at this
        exact ⟨this.1, this.2, hD⟩
      · rintro x a w ⟨i1, h1, h2, h3⟩
        have hb := (hbody x i1).2
        refine ih rd n w0 _ _ β a w _ hB hR hb h1 h2 h3 ?_
        intro e st' γ a' w' k1 k2 k3 k4
        cases e with
        | normal =>
          obtain ⟨y, iy, hlt, ty, hpy⟩ := k1
          have := weaken ty hpy (hbody y iy).1 k2 k3
          rw [hJ, List.take_append_of_le_length (Nat.le_refl _), List.take_length] at this
          exact ⟨y, ⟨iy, this.1, this.2, k4⟩, hlt⟩
        | exit id => exact hK (.exit id) st' γ a' w' k1 k2 k3 k4
        | ret => exact hK .ret st' γ a' w' k1 k2 k3 k4
    · exact h.elim
  | rangeFunc g ps assign body iha ihb =>
    intro rd n w0 st K β a w Q hB hR h hH hM hD hK
    simp only [ex] at h
    split at h
    · rename_i f caps t ann hg hps hΛ
      split at h
      · rename_i p N gd el hc
        obtain ⟨hp, ⟨x0, hi0, hs0⟩, hround, hskip, hend⟩ := h
        obtain ⟨hf, hseq⟩ := hC.1 _ _ _ _ _ _ _ hc hp
        have hv := ev_sound hM g
        rw [hg] at hv
        obtain ⟨bs, hbs, hv⟩ := hv
        have hcaps := TmR_caps hbs
        have hps' : ps = #[t] := Array.toList_inj.1 hps
        have hJl : ∀ i x, (ann.J st i x).length = β.length := by
          intro i x
          rw [hH.len]; exact setBs_len _ _
        have wk : ∀ {w0' : Base} {γ : List Nat} {H : List Blk} {i : Nat} {x : ann.ι} {W : World}, (forceH (ann.J st i x) fun H' => if inH H' = true then leH H H' else Stuck "ids") → HR n0 w0' (β ++ γ) H W → HR n0 w0' β (ann.J st i x) W := by
          intro w0' γ H i x W hh hr
          rw [forceH_eq] at hh
          split at hh
          · rename_i hin
            have := weakenH hh hin hr
            rwa [hJl, List.take_append_of_le_length (Nat.le_refl _), List.take_length] at this
          · exact hh.elim
        refine wpIn_rangeFunc ?_
        intro fn _
        obtain ⟨l, mark, r, W1, henter, hl1, rfl, htm, hpa, hasg, hbd, hlw, hbW, hmark⟩ := enter_sx (P := P) fn a.tmps ps assign body rd (fun l0 e => hR l0 e _ hH.ext)
        have hlW1 : l < W1.heap.size := (Array.getElem?_eq_some_iff.1 hl1).1
        have hD1 : ∀ D, mark = [{ target := .collected D, args := #[] }] → w.heap.size ≤ D ∧ D ≠ l ∧ D < W1.heap.size ∧ W1.heap[D]? = some (.deferred (some [])) := by
          intro D hD
          rcases hmark with rfl | ⟨D', rfl, h1, h2, h3⟩
          · cases hD
          · cases hD; exact ⟨h1, h2, (Array.getElem?_eq_some_iff.1 h3).1, h3⟩
        have hn0l : n0 ≤ l := Nat.le_trans hH.base hlw
        refine ⟨l, mark, W1, { target := .fn (.func f) (bs.map fun b => Value.pointer (some ⟨b, 0, none⟩)).toArray, args := #[.func (.yield l) #[] #[]] }, W1, f, #[.func (.yield l) #[] #[]] ++ (bs.map fun b => Value.pointer (some ⟨b, 0, none⟩)).toArray, W1, henter, ?_, fun _ _ => trivial, ?_, fun hd => by simp [Wd, Fence.wide] at hd, ?_⟩
        · simp [resolve, hv, Deferred.ofValue]; rfl
        · obtain ⟨fn', g1, g2, g3⟩ := hf
          show (callFunc f _).run P W1 = _
          simp only [callFunc, Sem.run_bind, run_program, Result.andThen_ok, g1, g2, g3, Bool.false_eq_true, if_false, Sem.run_pure]
        · -- the contract
          let Side : LoopState → Option Code → World → Prop := fun s pe W => W.heap[l]? = some (.loop { r with state := s, pending := pe }) ∧ KO n0 w W ∧ ∀ D, mark = [{ target := .collected D, args := #[] }] → W.heap[D]? = some (.deferred (some []))
          let JJ : Option Nat → World → Prop := fun i W => match i with
            | some i => (∃ x, ann.inv st i x ∧ HR n0 w0 β (ann.J st i x) W) ∧ Side .ready none W
            | none => ∃ e H', e ≠ Ex.normal ∧ K e ⟨st.tmps, H'⟩ ∧ HR n0 w0 β H' W ∧ Side .done (some e.code) W
          have hβ1 : ∀ b ∈ β, b < W1.heap.size := fun b hb => Nat.lt_of_lt_of_le (hH.lt b hb) hbW.size
          have hlater : ∀ {H : List Blk} {A B : World}, Below W1.heap.size A B → HR n0 w0 β H A → HR n0 w0 β H B := fun hb hr =>
            hr.later (Nat.le_trans hH.base hbW.size) (Nat.le_trans hH.ms hbW.size) hβ1 hb
          have hSide : ∀ {s pe} {A B : World}, Below W1.heap.size A B → Side s pe A → Side s pe B := by
            rintro s pe A B hb ⟨h1, h2, h3⟩
            exact ⟨(hb.block l hlW1).trans h1, h2.below hbW.size hb, fun D hD => (hb.block D (hD1 D hD).2.2.1).trans (h3 D hD)⟩
          have hS1 : Side .ready none W1 := ⟨hl1, fun k o _ h2 _ => (hbW.block k (Array.getElem?_eq_some_iff.1 h2).1).trans h2, fun D hD => (hD1 D hD).2.2.2⟩
          have hH1 : HR n0 w0 β st.heap W1 := hH.later hH.base hH.ms hH.lt hbW
          have hcall : Calls P f (#[.func (.yield l) #[] #[]] ++ (bs.map fun b => Value.pointer (some ⟨b, 0, none⟩)).toArray) W1 fun e W' => (∃ v, e = .returned v) ∧ W1.heap.size ≤ W'.heap.size ∧ (JJ (some N) W' ∨ JJ none W') := by
            refine hseq n0 w0 β W1 _ hH1 hcaps l JJ hlW1 (fun hb => by have := hH.lt l hb; omega) ?gstab ?ground ?gskip ⟨⟨x0, hi0, wk (γ := []) hs0 (by simpa using hH1)⟩, hS1⟩
            case gstab =>
              intro i A B hb hj
              cases i with
              | none => obtain ⟨e, H', h1, h2, h3, h4⟩ := hj; exact ⟨e, H', h1, h2, hlater hb h3, hSide hb h4⟩
              | some i => obtain ⟨⟨x, h1, h2⟩, h3⟩ := hj; exact ⟨⟨x, h1, hlater hb h2⟩, hSide hb h3⟩
            case gskip =>
              rintro i hiN hgi W ⟨⟨x, h1, h2⟩, h3⟩
              obtain ⟨y, hy, hle⟩ := hskip i x hiN hgi h1
              exact ⟨⟨y, hy, wk (γ := []) hle (by simpa using h2)⟩, h3⟩
            case ground =>
              rintro i hiN hgi W2 hW12 ⟨⟨x, hix, hHx⟩, hl2, hko2, hmk2⟩
              have hlW2 : l < W2.heap.size := (Array.getElem?_eq_some_iff.1 hl2).1
              have hy := run_yield (P := P) (args := #[Value.int .i64 (el i)]) hl2 (by simp [hpa, hps'])
              refine ⟨_, _, _, _, hy, fun r' n' => ?_⟩
              simp only [hpa, hps', hasg, hbd, htm]
              refine roundIn_of_wpIn (F := Wd r') trivial ?_
              show assign.wpIn (Wd (some l)) n' P _ _ W2
              have hrd := hround i x hiN hgi hix
              rw [forceT_eq, forceH_eq] at hrd
              -- the assignment
              have hYg : ∀ u v, Grow n0 W2.heap.size u v → KO n0 W2 u → KO n0 W2 v := fun u v hg hk => hk.grow (Nat.le_refl _) hg
              have hBa := hB.and (Y := KO n0 W2) (s := W2.heap.size) (fun u v hr hk => hk.rk hr)
              have hHa := hHx.and (Y := KO n0 W2) (s := W2.heap.size) hHx.ms (Nat.le_refl _) (KO.refl _ _) hYg
              refine iha (some l) n' _ _ _ β _ W2 _ hBa ?_ hrd hHa ?_ trivial ?_
              · rintro l0 e u ⟨_, hu⟩
                cases e
                exact ⟨_, hu l _ hn0l hl2 (fun _ _ _ e => by cases e)⟩
              · have := setL_sound (β := β) (x := .a (.c (.int .i64 (el i)))) (v := .int .i64 (el i)) rfl t hM
                simpa using this
              · intro e st1 γ1 a1 w1 k1 hH1 hM1 hD1'
                cases e with
                | exit id => exact k1.elim
                | ret => exact k1.elim
                | normal =>
                  have hl3 : w1.heap[l]? = some (.loop { r with state := .ready, pending := none }) := hH1.ext.2 l _ hn0l hl2 (fun _ _ _ e => by cases e)
                  refine ⟨_, run_beginRound hl3 rfl, ?_⟩
                  show body.wpIn (Wd (some l)) n' P _ _ _
                  -- the body
                  let rb : Loop := { r with state := .busy, pending := none }
                  let W2b := W2.putObj l (.loop rb)
                  have hW2b : W2b.heap.size = W2.heap.size := World.putObj_size
                  have hl2b : W2b.heap[l]? = some (.loop rb) := World.putObj_heap_same hlW2
                  have hko1 : KO n0 W2b (w1.putObj l (.loop rb)) := by
                    intro k ob h1 h2 h3
                    by_cases hkl : k = l
                    · subst hkl; rw [hl2b] at h2; rw [← h2]; exact World.putObj_heap_same (Array.getElem?_eq_some_iff.1 hl3).1
                    · rw [World.putObj_heap_other hkl] at h2 ⊢
                      exact hH1.ext.2 k ob h1 h2 h3
                  have hYgb : ∀ u v, Grow n0 W2.heap.size u v → KO n0 W2b u → KO n0 W2b v := fun u v hg hk => hk.grow (by rw [hW2b]; exact Nat.le_refl _) hg
                  have hBb := hB.and (Y := KO n0 W2b) (s := W2.heap.size) (fun u v hr hk => hk.rk hr)
                  have hXp : w0.X (w1.putObj l (.loop rb)) := hH.st _ _ (grow_putO _ hn0l (Nat.le_trans hH.ms hlw)) hH1.ext.1
                  have hHb : HR n0 (w0.and (KO n0 W2b) W2.heap.size) (β ++ γ1) st1.heap (w1.putObj l (.loop rb)) :=
                    ((hH1.left hHx.ms hH.st).putO hl3 (fun _ _ _ e => by cases e) hn0l hXp).and hHx.ms (by have : W2.heap.size ≤ w1.heap.size := hH1.ms; simpa using this) hko1 hYgb
                  refine ihb (some l) n' _ _ _ (β ++ γ1) _ _ _ hBb ?_ k1 hHb hM1 ?_ ?_
                  · rintro l0 e u ⟨_, hu⟩
                    cases e
                    exact ⟨_, hu l _ hn0l hl2b (fun _ _ _ e => by cases e)⟩
                  · refine hD1'.keep (Nat.le_refl _) (by simp) ?_
                    intro r1 h1 h2 h3
                    rw [World.putObj_heap_other]
                    · exact h3
                    · intro e; subst e; rw [hl3] at h3; cases h3
                  · intro e2 st2 γ2 a2 w3 k2 hH2 hM2 _
                    have hko3 : KO n0 W2b w3 := hH2.ext.2
                    have hl4 : w3.heap[l]? = some (.loop rb) := hko3 l _ hn0l hl2b (fun _ _ _ e => by cases e)
                    have hlw3 : l < w3.heap.size := (Array.getElem?_eq_some_iff.1 hl4).1
                    have hsz : W2.heap.size ≤ w3.heap.size := hH2.ms
                    have fin : ∀ (jump : Option Code), (Instr.endRound l jump).run P w3 = .ok (.bool jump.isNone) (w3.putObj l (.loop { r with state := if jump.isNone then .ready else .done, pending := jump })) ∧
                        RK W1.heap.size W2 (w3.putObj l (.loop { r with state := if jump.isNone then .ready else .done, pending := jump })) ∧
                        Side (if jump.isNone then .ready else .done) jump (w3.putObj l (.loop { r with state := if jump.isNone then .ready else .done, pending := jump })) := by
                      intro jump
                      have oth : ∀ k ob, n0 ≤ k → k ≠ l → W2.heap[k]? = some ob → (∀ a t s, ob ≠ .cells a t s) → (w3.putObj l (.loop { r with state := if jump.isNone then .ready else .done, pending := jump })).heap[k]? = some ob := by
                        intro k ob h1 h2 h3 h4
                        rw [World.putObj_heap_other h2]
                        exact hko3 k ob h1 ((World.putObj_heap_other h2).trans h3) h4
                      refine ⟨by have := run_endRound (P := P) (r := rb) jump hl4; exact this, ⟨by simpa using hsz, fun k ob h1 h2 h3 => oth k ob (by have := hH1.base; omega) (by omega) h2 h3⟩, World.putObj_heap_same hlw3, ?_, ?_⟩
                      · intro k ob h1 h2 h3
                        have hkw := (Array.getElem?_eq_some_iff.1 h2).1
                        exact oth k ob h1 (by omega) (hko2 k ob h1 h2 h3) h3
                      · intro D hD
                        obtain ⟨g1, g2, g3, g4⟩ := hD1 D hD
                        exact oth D _ (by have := hH.base; omega) g2 (hmk2 D hD) (fun _ _ _ e => by cases e)
                    have hHr := hH2.left hHx.ms hH.st
                    have putl : ∀ {H : List Blk} (ob : Obj), HR n0 w0 β H w3 → HR n0 w0 β H (w3.putObj l ob) := fun ob hr =>
                      hr.putO hl4 (fun _ _ _ e => by cases e) hn0l (hH.st _ _ (grow_putO _ hn0l (Nat.le_trans hH.ms hlw)) hr.ext)
                    have jmp : ∀ (e : Ex), e ≠ .normal → (forceH (st2.heap.take st.heap.length) fun H => if inH H = true then K e ⟨st.tmps, H⟩ else Stuck "ids") →
                        ∃ v w', (Instr.endRound l (some e.code)).run P w3 = .ok v w' ∧ (RK W1.heap.size W2 w' ∧ ((Ending.returned v = .returned (.bool true) ∧ JJ (some (i + 1)) w') ∨ (Ending.returned v = .returned (.bool false) ∧ JJ none w'))) := by
                      intro e hne hk
                      rw [forceH_eq] at hk
                      split at hk
                      · rename_i hin
                        obtain ⟨f1, f2, f3⟩ := fin (some e.code)
                        refine ⟨_, _, f1, f2, .inr ⟨rfl, e, _, hne, hk, putl _ ?_, f3⟩⟩
                        have := weakenH (leH_take st2.heap st.heap.length) hin hHr
                        have hle : st.heap.length ≤ st2.heap.length := by have h1 := hHr.len; have h2 := hH.len; simp at h1; omega
                        have hl5 : (st2.heap.take st.heap.length).length = β.length := by rw [List.length_take, Nat.min_eq_left hle, hH.len]
                        rwa [hl5, List.append_assoc, List.take_append_of_le_length (Nat.le_refl _), List.take_length] at this
                      · exact hk.elim
                    cases e2 with
                    | normal =>
                      obtain ⟨y, hy, hle⟩ := k2
                      obtain ⟨f1, f2, f3⟩ := fin none
                      refine ⟨_, _, f1, f2, .inl ⟨rfl, ⟨y, hy, putl _ ?_⟩, f3⟩⟩
                      exact wk (γ := γ1 ++ γ2) hle (by simpa using hHr)
                    | ret => exact jmp .ret (by simp) k2
                    | exit id => exact jmp (.exit id) (by simp) k2
          -- behind the iterator
          refine (calls_wd rd hcall).mono ?_
          have hDm : ∀ (W : World), w.heap.size ≤ W.heap.size → W1.heap.size ≤ W.heap.size → KO n0 w W → (∀ D, mark = [{ target := .collected D, args := #[] }] → W.heap[D]? = some (.deferred (some []))) → DOk n0 w0.m W.heap.size (mark ++ a.defers) W := by
            intro W hsz hsz1 hk hm1
            have hold : DOk n0 w0.m W.heap.size a.defers W := hD.ko (Nat.le_refl _) hsz hk
            rcases hmark with rfl | ⟨D, rfl, h1, h2, h3⟩
            · exact hold
            · refine ⟨⟨D, rfl, Nat.le_trans hH.base h1, Nat.le_trans hH.ms h1, by have := (hD1 D rfl).2.2.1; omega, hm1 D rfl, ?_⟩, hold⟩
              have : ∀ (ds : List Deferred), DOk n0 w0.m w.heap.size ds w → ∀ d' ∈ ds, d' ≠ { target := .collected D, args := #[] } := by
                intro ds
                induction ds with
                | nil => intro _ d' hd'; simp at hd'
                | cons d ds ih =>
                  rintro ⟨⟨r1, e1, _, _, e4, _, _⟩, hds⟩ d' hd'
                  rcases List.mem_cons.1 hd' with rfl | hd'
                  · rw [e1]; intro e; simp at e; omega
                  · exact ih hds d' hd'
              exact this _ hD
          have fin2 : ∀ {s : LoopState} {pe : Option Code} {H : List Blk} {W3 : World}, s ≠ .busy → HR n0 w0 β H W3 → Side s pe W3 → W1.heap.size ≤ W3.heap.size →
              ∃ W4, (Instr.endLoop l).run P W3 = .ok pe W4 ∧ HR n0 w0 β H W4 ∧ DOk n0 w0.m W4.heap.size (mark ++ a.defers) W4 := by
            rintro s pe H W3 hs hr ⟨h1, h2, h3⟩ hsz
            refine ⟨_, run_endLoop h1 (by simpa using hs), hr.putO h1 (fun _ _ _ e => by cases e) hn0l (hH.st _ _ (grow_putO _ hn0l (Nat.le_trans hH.ms hlw)) hr.ext), hDm _ (by simp; exact Nat.le_trans hbW.size hsz) (by simpa using hsz) ?_ ?_⟩
            · intro k ob g1 g2 g3
              have hkw := (Array.getElem?_eq_some_iff.1 g2).1
              rw [World.putObj_heap_other (by omega)]
              exact h2 k ob g1 g2 g3
            · intro D hD
              rw [World.putObj_heap_other (hD1 D hD).2.1]
              exact h3 D hD
          rintro e W3 ⟨⟨v, rfl⟩, hsz3, hj | hj⟩
          · obtain ⟨⟨x, h1, h2⟩, h3⟩ := hj
            obtain ⟨W4, g1, g2, g3⟩ := fin2 (by simp) h2 h3 hsz3
            have he := hend x h1
            rw [forceH_eq] at he
            exact ⟨none, W4, g1, hK .normal _ [] { a with defers := mark ++ a.defers } W4 he (by simpa using g2) (by simpa using hM) g3⟩
          · obtain ⟨e, H', hne, h1, h2, h3⟩ := hj
            obtain ⟨W4, g1, g2, g3⟩ := fin2 (by simp) h2 h3 hsz3
            refine ⟨some e.code, W4, g1, ?_⟩
            have hq := hK e _ [] { a with defers := mark ++ a.defers } W4 h1 (by simpa using g2) (by simpa using hM) g3
            cases e with
            | normal => exact absurd rfl hne
            | ret => exact wpIn_ret hq
            | exit id => exact wpIn_exit hq
      · exact h.elim
    · exact h.elim
  | _ => intro rd n w0 st K β a w Q hB hR h; exact h.elim

end

/-! ### Functions -/

def resAv (T : Tab) (st : St) : ResultVar → Option Av
  | .tmp t => match getL st.tmps t with
    | .a av => some av
    | .tup _ => none
  | .cell t ty => match look T ty, getL st.tmps t with
    | some ti, .a (.c (.ptr id off)) => match getB st.heap id with
      | .cells _ _ cs => match loadC cs ti off with
        | some (.a av) => some av
        | _ => none
      | _ => none
    | _, _ => none

def resAvs (T : Tab) (st : St) : List ResultVar → Option (List Av)
  | [] => some []
  | r :: rs => match resAv T st r, resAvs T st rs with
    | some a, some as => some (a :: as)
    | _, _ => none

def resLV (T : Tab) (st : St) (rs : List ResultVar) : Option LV :=
  match rs with
  | [r] => (resAv T st r).map .a
  | rs => (resAvs T st rs).map .tup

theorem resAv_sound {P : Program} {T : Tab} (hT : TabOk P T) {n0 : Nat} {w0 : Base} {w : World} {β : List Nat} {st : St} {tmps : Array Value} (hH : HR n0 w0 β st.heap w) (hM : TmR β st.tmps tmps.toList) {r : ResultVar} {av : Av}
    (h : resAv T st r = some av) : ∃ v, (match r with | .tmp t => pure (tmps.getD t undef) | .cell a t => do loadVar t (← asAddr (tmps.getD a undef)) : Sem Value).run P w = .ok v w ∧ AvR β av v := by
  have g : ∀ t, LVR β (getL st.tmps t) (tmps.getD t undef) := fun t => by simpa using getL_sound t hM
  unfold resAv at h
  split at h
  · rename_i t
    split at h
    · rename_i av' he
      simp only [Option.some.injEq] at h; subst h
      have := g t
      rw [he] at this
      exact ⟨_, by simp, this⟩
    · simp at h
  · rename_i t ty
    split at h
    · rename_i ti id off hti hl
      split at h
      · rename_i own te cs hg
        split at h
        · rename_i av' hv
          simp only [Option.some.injEq] at h; subst h
          have hx := g t
          rw [hl] at hx
          have he : evLoad T st.heap ty (.a (.c (.ptr id off))) = some (True, .a av') := by
            simp [evLoad, hti, hg, hv]
          obtain ⟨v, h1, h2⟩ := evLoad_sound hT hH hx he trivial
          obtain ⟨b, _, hb⟩ := hx
          refine ⟨v, ?_, h2⟩
          rw [hb] at h1 ⊢
          simpa [Instr.loadAt, Instr.sureAddr, asAddr] using h1
        · simp at h
      · simp at h
    · simp at h

theorem resAvs_sound {P : Program} {T : Tab} (hT : TabOk P T) {n0 : Nat} {w0 : Base} {w : World} {β : List Nat} {st : St} {tmps : Array Value} (hH : HR n0 w0 β st.heap w) (hM : TmR β st.tmps tmps.toList) : ∀ {rs : List ResultVar} {as : List Av},
    resAvs T st rs = some as → ∃ vs, (rs.mapM (fun r => match r with | .tmp t => pure (tmps.getD t undef) | .cell a t => do loadVar t (← asAddr (tmps.getD a undef)) : ResultVar → Sem Value)).run P w = .ok vs w ∧ AvsR β as vs
  | [], as, h => by
    simp only [resAvs, Option.some.injEq] at h; subst h
    exact ⟨[], by simp, rfl⟩
  | r :: rs, as, h => by
    simp only [resAvs] at h
    split at h
    · rename_i a as' ha has
      simp only [Option.some.injEq] at h; subst h
      obtain ⟨v, h1, h2⟩ := resAv_sound hT hH hM ha
      obtain ⟨vs, h3, h4⟩ := resAvs_sound hT hH hM has
      refine ⟨v :: vs, ?_, ⟨v, vs, rfl, h2, h4⟩⟩
      rw [List.mapM_cons, Sem.run_bind, h1, Result.andThen_ok, Sem.run_bind, h3, Result.andThen_ok]; rfl
    · simp at h

theorem AvsR.length {β : List Nat} : ∀ {as : List Av} {vs : List Value}, AvsR β as vs → vs.length = as.length
  | [], _, h => by simp only [AvsR] at h; subst h; rfl
  | _ :: _, _, ⟨v, r, e, _, h⟩ => by subst e; simp [AvsR.length h]

theorem resLV_sound {P : Program} {T : Tab} (hT : TabOk P T) {n0 : Nat} {w0 : Base} {w : World} {β : List Nat} {st : St} {tmps : Array Value} (hH : HR n0 w0 β st.heap w) (hM : TmR β st.tmps tmps.toList) {fn : Func} {lv : LV}
    (h : resLV T st fn.results.toList = some lv) : ∃ v, (results fn tmps).run P w = .ok v w ∧ LVR β lv v := by
  have key : ∀ as, resAvs T st fn.results.toList = some as → ∃ vs, (fn.results.mapM (fun r => match r with | .tmp t => pure (tmps.getD t undef) | .cell a t => do loadVar t (← asAddr (tmps.getD a undef)) : ResultVar → Sem Value)).run P w = .ok vs w ∧ AvsR β as vs.toList := by
    intro as has
    obtain ⟨vs, h1, h2⟩ := resAvs_sound hT hH hM has
    refine ⟨vs.toArray, ?_, by simpa using h2⟩
    rw [← Array.toArray_toList (xs := fn.results), List.mapM_toArray]
    simp only [Sem.run_map, h1, Result.andThen_ok]
  have e0 : results fn tmps = (do
      let vs ← fn.results.mapM (fun r => match r with | .tmp t => pure (tmps.getD t undef) | .cell a t => do loadVar t (← asAddr (tmps.getD a undef)) : ResultVar → Sem Value)
      pure (if h : vs.size = 1 then vs[0] else .tuple vs)) := by
    unfold results
    congr 1
  unfold resLV at h
  split at h
  · rename_i r hr
    obtain ⟨av, hav, rfl⟩ := Option.map_eq_some_iff.1 h
    obtain ⟨vs, h1, h2⟩ := key [av] (by rw [hr]; simp [resAvs, hav])
    obtain ⟨v, r', e, h3, h4⟩ := h2
    simp only [AvsR] at h4; subst h4
    have hs : vs = #[v] := Array.toList_inj.1 e
    subst hs
    refine ⟨v, ?_, h3⟩
    rw [e0, Sem.run_bind, h1]; rfl
  · rename_i hne
    obtain ⟨as, has, rfl⟩ := Option.map_eq_some_iff.1 h
    obtain ⟨vs, h1, h2⟩ := key as has
    refine ⟨.tuple vs, ?_, ⟨vs, rfl, h2⟩⟩
    have hl := h2.length
    have hla : ∀ (rs : List ResultVar) (as : List Av), resAvs T st rs = some as → as.length = rs.length := by
      intro rs
      induction rs with
      | nil => intro as h; simp only [resAvs, Option.some.injEq] at h; subst h; rfl
      | cons r rs ih =>
        intro as h
        simp only [resAvs] at h
        split at h
        · rename_i a as' _ has'
          simp only [Option.some.injEq] at h; subst h
          simp [ih as' has']
        · simp at h
    have h1' : vs.size ≠ 1 := by
      intro e
      have := hla _ _ has
      rw [Array.length_toList, e] at hl
      rw [← hl] at this
      obtain ⟨r, hr⟩ := List.length_eq_one_iff.1 this.symm
      exact hne r hr
    rw [e0, Sem.run_bind, h1, Result.andThen_ok, dif_neg h1']; rfl

def undefs : Nat → List LV
  | 0 => []
  | n + 1 => .a (.c (.val undef)) :: undefs n

theorem undefs_sound (β : List Nat) : ∀ n, TmR β (undefs n) (List.replicate n undef)
  | 0 => rfl
  | n + 1 => ⟨undef, _, rfl, rfl, undefs_sound β n⟩

/-- A function's blocks seen by what it calls: they may be read, not written. -/
def shut : List Blk → List Blk
  | [] => []
  | .cells _ t cs :: r => .cells false t cs :: shut r
  | _ :: r => .dead :: shut r

theorem shut_get : ∀ {H : List Blk} {i : Nat} {B : Blk}, (shut H)[i]? = some B → B = .dead ∨ ∃ o t cs, B = .cells false t cs ∧ H[i]? = some (.cells o t cs)
  | [], _, _, h => by simp [shut] at h
  | .dead :: r, 0, B, h => by simp [shut] at h; exact .inl h.symm
  | .gst _ _ _ _ :: r, 0, B, h => by simp [shut] at h; exact .inl h.symm
  | .cells o t cs :: r, 0, B, h => by simp [shut] at h; exact .inr ⟨o, t, cs, h.symm, rfl⟩
  | .dead :: r, i + 1, B, h => by simp [shut] at h; simpa using shut_get h
  | .gst _ _ _ _ :: r, i + 1, B, h => by simp [shut] at h; simpa using shut_get h
  | .cells o t cs :: r, i + 1, B, h => by simp [shut] at h; simpa using shut_get h

theorem shut_len : ∀ (H : List Blk), (shut H).length = H.length
  | [] => rfl
  | .dead :: r => by simp [shut, shut_len r]
  | .gst _ _ _ _ :: r => by simp [shut, shut_len r]
  | .cells _ _ _ :: r => by simp [shut, shut_len r]

/-- The blocks as they are when a call begins. -/
theorem HR.enter {n0 : Nat} {w0 : Base} {w : World} {β : List Nat} {H : List Blk} (h : HR n0 w0 β H w) : HR w.heap.size (Base.pl w) β (shut H) w :=
  ⟨Nat.le_refl _, by rw [shut_len]; exact h.len, h.nd, h.lt, Nat.zero_le _, fun _ _ hg hx => hx.trans hg.below, fun _ _ _ _ _ _ _ hx => hx.elim, Below.refl _ _, fun i B b hB hb => by
    rcases shut_get hB with rfl | ⟨o, t, cs, rfl, hB'⟩
    · trivial
    · obtain ⟨_, arr, h1, h2⟩ := h.blk i _ b hB' hb
      exact ⟨fun e => by simp at e, arr, h1, h2⟩⟩

/-- What a plain callee leaves: the caller's blocks as they were. -/
theorem HR.after {n0 : Nat} {w0 : Base} {w w' : World} {β : List Nat} {H : List Blk} (h : HR n0 w0 β H w) (hb : Below w.heap.size w w') : HR n0 w0 β H w' :=
  h.later h.base h.ms h.lt hb

/-- The end of a function: the marks are taken off. -/
theorem leaves_sx {F : Fence} {n : Nat} {P : Program} {fn : Func} {tmps : Array Value} {R : Ending → World → Prop} {n0 hi : Nat} {w0 : Base} {β : List Nat} {H : List Blk} : ∀ (ds : List Deferred) (w : World),
    HR n0 w0 β H w → DOk n0 w0.m hi ds w → (∀ w', HR n0 w0 β H w' → ∃ v, (results fn tmps).run P w' = .ok v w' ∧ R (.returned v) w') → LeavesInM F n P fn tmps R ds .returning w
  | [], w, hH, _, h => h w hH
  | d :: ds, w, hH, ⟨⟨r, e, h1, h2, _, h4, h5⟩, hds⟩, h => by
    refine ⟨by simp, .inl ⟨r, _, by rw [e], run_takeDeferred h4, ?_⟩⟩
    refine leaves_sx (n0 := n0) (hi := hi) (w0 := w0) (β := β) (H := H) ds _ (hH.putO h4 (fun _ _ _ e => by cases e) h1 (hH.st _ _ (grow_putO _ h1 h2) hH.ext)) ?_ h
    have : ∀ (ds : List Deferred), (∀ d' ∈ ds, d' ≠ d) → DOk n0 w0.m hi ds w → DOk n0 w0.m hi ds (w.putObj r (.deferred none)) := by
      intro ds
      induction ds with
      | nil => intro _ _; trivial
      | cons d1 ds ih =>
        rintro hne ⟨⟨r1, e1, g1, g2, g3, g4, g5⟩, hds⟩
        refine ⟨⟨r1, e1, g1, g2, g3, ?_, g5⟩, ih (fun d' hd' => hne d' (List.mem_cons_of_mem _ hd')) hds⟩
        rw [World.putObj_heap_other]; exact g4
        intro er
        exact hne d1 (by simp) (by rw [e1, e, er])
    exact this ds h5 hds

/-- A function by its execution: what it hands back, and that nothing which lay there has turned. -/
theorem fn_calls {P : Program} {T : Tab} (hT : TabOk P T) {I : CI} (hI : CIOk P I) {C : Ctr} (hC : CtrOk P C) (hm : P.follows .mixedOrders = true) {o : Bool} {Λ : Nat → LM} {f : FuncId} {fn : Func} {c : Code} (hf : P.funcs[f]? = some fn) (hb : fn.body = some c)
    {args : List LV} {H : List Blk} {R : LV → List Blk → Prop}
    (h : ex o T I C Λ c ⟨args ++ undefs (fn.ntmps - args.length), shut H⟩ fun e st => match e with
      | .normal => ∃ lv, resLV T st fn.results.toList = some lv ∧ R lv st.heap
      | .ret => ∃ lv, resLV T st fn.results.toList = some lv ∧ R lv st.heap
      | .exit _ => False)
    {n0 : Nat} {w0 : Base} {w : World} {β : List Nat} {vals : Array Value} (hH : HR n0 w0 β H w) (hA : TmR β args vals.toList) :
    Calls P f vals w fun e w' => ∃ v lv γ H', e = .returned v ∧ R lv H' ∧ Below w.heap.size w w' ∧ HR w.heap.size (Base.pl w) (β ++ γ) H' w' ∧ LVR (β ++ γ) lv v := by
  have hlen : args.length = vals.size := by
    have : ∀ {as : List LV} {vs : List Value}, TmR β as vs → as.length = vs.length := by
      intro as
      induction as with
      | nil => intro vs h; simp only [TmR] at h; subst h; rfl
      | cons a as ih => intro vs ⟨v, r, e, _, h⟩; subst e; simp [ih h]
    simpa using this hA
  rw [← callsIn_wide (n := 0)]
  refine callsIn_of_wp_marks hf hb trivial ?_
  refine ex_sound hT hI hC hm c none _ (Base.pl w) _ _ β _ w _ (RoundsOk.pl P _ w) (fun _ e => by cases e) h hH.enter ?_ trivial ?_
  · simp only [Array.toList_append, Array.toList_replicate]
    rw [← hlen]
    exact hA.append (undefs_sound β _)
  · intro e st' γ a' w' k1 k2 k3 k4
    have fin : (∃ lv, resLV T st' fn.results.toList = some lv ∧ R lv st'.heap) → LeavesInM Fence.wide 0 P fn a'.tmps (fun e w' => ∃ v lv γ H', e = .returned v ∧ R lv H' ∧ Below w.heap.size w w' ∧ HR w.heap.size (Base.pl w) (β ++ γ) H' w' ∧ LVR (β ++ γ) lv v) a'.defers .returning w' := by
      rintro ⟨lv, hlv, hR⟩
      refine leaves_sx _ w' k2 k4 ?_
      intro w'' hH''
      obtain ⟨v, h1, h2⟩ := resLV_sound hT hH'' k3 hlv
      exact ⟨v, h1, v, lv, γ, st'.heap, rfl, hR, hH''.ext, hH'', h2⟩
    cases e with
    | normal => exact fin k1
    | ret => exact fin k1
    | exit id => exact k1.elim

/-! ### Functions met in place -/

def inlN (o : Bool) (T : Tab) (C : Ctr) (inl : FuncId → Option (Func × (Nat → LM))) : Nat → CI
  | 0 => ciOf C
  | n + 1 => fun f args H K =>
    match inl f with
    | some (fn, Λ) => match fn.body with
      | some c => force (args ++ undefs (fn.ntmps - args.length)) fun ts => ex o T (inlN o T C inl n) C Λ c ⟨ts, H⟩ fun e st => match e with
        | .exit _ => Stuck "exit"
        | _ => match resLV T st fn.results.toList with
          | some lv => K lv st.heap
          | none => Stuck "result"
      | none => Stuck "body"
    | none => ciOf C f args H K

def InlOk (P : Program) (inl : FuncId → Option (Func × (Nat → LM))) : Prop := ∀ f fn Λ, inl f = some (fn, Λ) → P.funcs[f]? = some fn ∧ (fn.name == "runtime.NumGoroutine") = false

theorem TmR.length {β : List Nat} : ∀ {as : List LV} {vs : List Value}, TmR β as vs → as.length = vs.length
  | [], _, h => by simp only [TmR] at h; subst h; rfl
  | _ :: _, _, ⟨v, r, e, _, h⟩ => by subst e; simp [TmR.length h]

theorem inlN_ok {P : Program} {T : Tab} (hT : TabOk P T) {C : Ctr} (hC : CtrOk P C) (hm : P.follows .mixedOrders = true) {o : Bool} {inl : FuncId → Option (Func × (Nat → LM))} (hi : InlOk P inl) : ∀ n, CIOk P (inlN o T C inl n)
  | 0 => ciOf_ok hC
  | n + 1 => by
    intro f args H K h
    unfold inlN at h
    split at h
    · rename_i fn Λ hfn
      obtain ⟨hf, hnm⟩ := hi f fn Λ hfn
      split at h
      · rename_i c hb
        rw [force_eq] at h
        refine ⟨⟨fn, hf, hnm, by simp [hb]⟩, fun n0 w0 β w vals hB hH hA => ?_⟩
        rw [← callsIn_wide (n := 0)]
        refine callsIn_of_wp_marks hf hb trivial ?_
        refine ex_sound hT (inlN_ok hT hC hm hi n) hC hm c none _ w0 _ _ β _ w _ hB (fun _ e => by cases e) h hH ?_ trivial ?_
        · simp only [Array.toList_append, Array.toList_replicate]
          have hlen : args.length = vals.size := by rw [hA.length]; simp
          rw [← hlen]
          exact hA.append (undefs_sound β _)
        · intro e st' γ a' w' k1 k2 k3 k4
          have fin : (match resLV T st' fn.results.toList with | some lv => K lv st'.heap | none => Stuck "result") → LeavesInM Fence.wide 0 P fn a'.tmps (fun e w' => ∃ v γ lv H', e = .returned v ∧ K lv H' ∧ HR n0 w0 (β ++ γ) H' w' ∧ LVR (β ++ γ) lv v) a'.defers .returning w' := by
            intro k1
            split at k1
            · rename_i lv hlv
              refine leaves_sx _ w' k2 k4 ?_
              intro w'' hH''
              obtain ⟨v, h1, h2⟩ := resLV_sound hT hH'' k3 hlv
              exact ⟨v, h1, v, γ, lv, st'.heap, rfl, k1, hH'', h2⟩
            · exact k1.elim
          cases e with
          | normal => exact fin k1
          | ret => exact fin k1
          | exit id => exact k1.elim
      · exact h.elim
    · exact ciOf_ok hC f args H K h



/-! ### Canonical forms: what is known is said as what is not -/

def canC : Cel → Cel
  | .lit k n => .int k n
  | .tt => .bool true
  | .ff => .bool false
  | x => x
def canA : Av → Av
  | .c x => .c (canC x)
  | .agg l => .agg (l.map canC)
def canL : LV → LV
  | .a x => .a (canA x)
  | .tup l => .tup l
def canB : Blk → Blk
  | .dead => .dead
  | .gst N gd el i => .gst N gd el i
  | .cells o t cs => .cells o t (cs.map canC)

theorem canC1_sound {β : List Nat} {c : Cel} {vs : List Value} (h : Cel1 β c vs) : Cel1 β (canC c) vs := by
  cases c <;> exact h

theorem canCs_sound {β : List Nat} : ∀ {cs : List Cel} {vs : List Value}, CelsR β cs vs → CelsR β (cs.map canC) vs
  | [], _, h => h
  | _ :: _, _, ⟨p, r, e, h1, h2⟩ => ⟨p, r, e, canC1_sound h1, canCs_sound h2⟩

theorem canL_sound {β : List Nat} {x : LV} {v : Value} (h : LVR β x v) : LVR β (canL x) v := by
  cases x with
  | tup l => exact h
  | a x =>
    cases x with
    | c x => cases x <;> exact h
    | agg l => obtain ⟨arr, e, h⟩ := h; exact ⟨arr, e, canCs_sound h⟩

theorem canT_sound {β : List Nat} : ∀ {ts : List LV} {vs : List Value}, TmR β ts vs → TmR β (ts.map canL) vs
  | [], _, h => h
  | _ :: _, _, ⟨v, r, e, h1, h2⟩ => ⟨v, r, e, canL_sound h1, canT_sound h2⟩

theorem canH_sound {n0 : Nat} {w0 : Base} {w : World} {β : List Nat} {H : List Blk} (h : HR n0 w0 β H w) : HR n0 w0 β (H.map canB) w :=
  ⟨h.base, by simp [h.len], h.nd, h.lt, h.ms, h.st, h.sj, h.ext, fun i B b hB hb => by
    rw [List.getElem?_map] at hB
    obtain ⟨A, hA, rfl⟩ := Option.map_eq_some_iff.1 hB
    have := h.blk i A b hA hb
    cases A with
    | dead => trivial
    | gst N gd el j => exact this
    | cells o t cs =>
      obtain ⟨h1, arr, h2, h3⟩ := this
      exact ⟨h1, arr, h2, canCs_sound h3⟩⟩

/-! ### Tables of contracts -/

abbrev Entry := List LV → List Blk → Option (Prop × LV)

def lookE : List (FuncId × Entry) → FuncId → Option Entry
  | [], _ => none
  | (f, g) :: r, u => if f = u then some g else lookE r u

/-- A table of plain contracts: the callee leaves what lay there as it was. -/
def ctrFn (L : List (FuncId × Entry)) : FuncId → List LV → List Blk → Option (Prop × LV × Option (List Blk)) := fun f args H =>
  match lookE L f with
  | some g => match g (args.map canL) (H.map canB) with
    | some (p, r) => if inL H.length r = true then some (p, r, none) else none
    | none => none
  | none => none

/-- An iterator: in a world, whose rounds are which. -/
abbrev SEntry := List LV → List Blk → Option (Prop × Nat × (Nat → Bool) × (Nat → Int))

def lookS : List (FuncId × SEntry) → FuncId → Option SEntry
  | [], _ => none
  | (f, g) :: r, u => if f = u then some g else lookS r u

def ctrSq (S : List (FuncId × SEntry)) : FuncId → List LV → List Blk → Option (Prop × Nat × (Nat → Bool) × (Nat → Int)) := fun f args H =>
  match lookS S f with
  | some g => g (args.map canL) (H.map canB)
  | none => none

def ctrOfS (L : List (FuncId × Entry)) (S : List (FuncId × SEntry)) : Ctr := ⟨ctrFn L, ctrSq S⟩
def ctrOf (L : List (FuncId × Entry)) : Ctr := ctrOfS L []

def EntryOk (P : Program) (f : FuncId) (g : Entry) : Prop :=
  FnOk P f ∧ ∀ args H p r, g args H = some (p, r) → p → ∀ n0 w0 β w (vals : Array Value), HR n0 w0 β H w → TmR β args vals.toList →
    Calls P f vals w fun e w' => ∃ v, e = .returned v ∧ Below w.heap.size w w' ∧ LVR β r v

def EntriesOk (P : Program) : List (FuncId × Entry) → Prop
  | [] => True
  | (f, g) :: r => EntryOk P f g ∧ EntriesOk P r

theorem EntriesOk.look {P : Program} : ∀ {L : List (FuncId × Entry)} {f : FuncId} {g : Entry}, EntriesOk P L → lookE L f = some g → EntryOk P f g
  | [], _, _, _, h => by simp [lookE] at h
  | (u, ui) :: r, t, ti, h, hl => by
    unfold lookE at hl
    split at hl
    · rename_i e; simp only [Option.some.injEq] at hl; subst hl; subst e; exact h.1
    · exact EntriesOk.look h.2 hl

def SEntryOk (P : Program) (f : FuncId) (g : SEntry) : Prop :=
  FnOk P f ∧ ∀ args H p N gd el, g args H = some (p, N, gd, el) → p → ∀ n0 w0 β W (vals : Array Value), HR n0 w0 β H W → TmR β args vals.toList → ∀ (l : Nat) (J : Option Nat → World → Prop), l < W.heap.size → l ∉ β →
    (∀ i a b, Below W.heap.size a b → J i a → J i b) →
    (∀ i, i < N → gd i = true → ∀ W1, W.heap.size ≤ W1.heap.size → J (some i) W1 → YldAt P l #[.int .i64 (el i)] W1 fun e W' =>
      RK W.heap.size W1 W' ∧ ((e = .returned (.bool true) ∧ J (some (i + 1)) W') ∨ (e = .returned (.bool false) ∧ J none W'))) →
    (∀ i, i < N → gd i = false → ∀ W1, J (some i) W1 → J (some (i + 1)) W1) → J (some 0) W →
    Calls P f (#[.func (.yield l) #[] #[]] ++ vals) W fun e W' => (∃ v, e = .returned v) ∧ W.heap.size ≤ W'.heap.size ∧ (J (some N) W' ∨ J none W')

def SEntriesOk (P : Program) : List (FuncId × SEntry) → Prop
  | [] => True
  | (f, g) :: r => SEntryOk P f g ∧ SEntriesOk P r

theorem SEntriesOk.look {P : Program} : ∀ {L : List (FuncId × SEntry)} {f : FuncId} {g : SEntry}, SEntriesOk P L → lookS L f = some g → SEntryOk P f g
  | [], _, _, _, h => by simp [lookS] at h
  | (u, ui) :: r, t, ti, h, hl => by
    unfold lookS at hl
    split at hl
    · rename_i e; simp only [Option.some.injEq] at hl; subst hl; subst e; exact h.1
    · exact SEntriesOk.look h.2 hl

theorem ctrSq_ok {P : Program} {S : List (FuncId × SEntry)} (h : SEntriesOk P S) : SeqsOk P (ctrSq S) := by
  intro f args H p N gd el he hp
  unfold ctrSq at he
  split at he
  · rename_i g hg
    obtain ⟨hf, hc⟩ := h.look hg
    exact ⟨hf, fun n0 w0 β W vals hH hA => hc _ _ _ _ _ _ he hp n0 w0 β W vals (canH_sound hH) (canT_sound hA)⟩
  · simp at he

theorem ctrOfS_ok {P : Program} {L : List (FuncId × Entry)} {S : List (FuncId × SEntry)} (h : EntriesOk P L) (hS : SEntriesOk P S) : CtrOk P (ctrOfS L S) := by
  refine ⟨ctrSq_ok hS, ?_⟩
  intro f args H p r H' he hp
  change ctrFn L f args H = _ at he
  unfold ctrFn at he
  split at he
  · rename_i g hg
    split at he
    · rename_i p' r' hgr
      split at he
      · simp only [Option.some.injEq, Prod.mk.injEq] at he
        obtain ⟨rfl, rfl, rfl⟩ := he
        obtain ⟨hf, hc⟩ := h.look hg
        refine ⟨hf, fun n0 w0 β w vals hH hA => (hc _ _ _ _ hgr hp n0 w0 β w vals (canH_sound hH) (canT_sound hA)).mono ?_⟩
        rintro e w' ⟨v, rfl, hb, hr⟩
        exact ⟨v, [], rfl, by simpa using hH.after hb, by simpa using hr, fun _ => hb⟩
      · simp at he
    · simp at he
  · simp at he

theorem ctrOf_ok {P : Program} {L : List (FuncId × Entry)} (h : EntriesOk P L) : CtrOk P (ctrOf L) := ctrOfS_ok h trivial

/-! ### A function's execution as a proposition -/

def Fex (o : Bool) (T : Tab) (I : CI) (C : Ctr) (Λ : Nat → LM) (fn : Func) (args : List LV) (H : List Blk) (R : LV → List Blk → Prop) : Prop :=
  match fn.body with
  | some c => force (args ++ undefs (fn.ntmps - args.length)) fun ts => force (shut H) fun H => ex o T I C Λ c ⟨ts, H⟩ fun e st => match e with
    | .exit _ => Stuck "exit"
    | _ => match resLV T st fn.results.toList with
      | some lv => R lv st.heap
      | none => Stuck "result"
  | none => Stuck "body"

theorem ex_mono (o : Bool) (T : Tab) (I : CI) (C : Ctr) (Λ : Nat → LM) (c : Code) (st : St) {K K' : Ex → St → Prop} (hK : K = K') (h : ex o T I C Λ c st K) : ex o T I C Λ c st K' := hK ▸ h

theorem Fex.calls {P : Program} {T : Tab} (hT : TabOk P T) {I : CI} (hI : CIOk P I) {C : Ctr} (hC : CtrOk P C) (hm : P.follows .mixedOrders = true) {o : Bool} {Λ : Nat → LM} {f : FuncId} {fn : Func} (hf : P.funcs[f]? = some fn)
    {args : List LV} {H : List Blk} {R : LV → List Blk → Prop} (h : Fex o T I C Λ fn args H R)
    {n0 : Nat} {w0 : Base} {w : World} {β : List Nat} {vals : Array Value} (hH : HR n0 w0 β H w) (hA : TmR β args vals.toList) :
    Calls P f vals w fun e w' => ∃ v lv γ H', e = .returned v ∧ R lv H' ∧ Below w.heap.size w w' ∧ HR w.heap.size (Base.pl w) (β ++ γ) H' w' ∧ LVR (β ++ γ) lv v := by
  unfold Fex at h
  split at h
  · rename_i c hb
    rw [force_eq, force_eq] at h
    refine fn_calls hT hI hC hm hf hb (o := o) (Λ := Λ) (R := R) (ex_mono _ _ _ _ _ _ _ ?_ h) hH hA
    funext e st
    cases e with
    | exit _ => rfl
    | _ =>
      simp only
      cases resLV T st fn.results.toList with
      | none => simp [Stuck]
      | some lv => simp
  · exact h.elim

theorem Fex.plain {P : Program} {T : Tab} (hT : TabOk P T) {I : CI} (hI : CIOk P I) {C : Ctr} (hC : CtrOk P C) (hm : P.follows .mixedOrders = true) {o : Bool} {Λ : Nat → LM} {f : FuncId} {fn : Func} (hf : P.funcs[f]? = some fn)
    {args : List LV} {H : List Blk} {res : LV} (h : Fex o T I C Λ fn args H fun lv _ => leL lv res) (hin : inL H.length res = true)
    {n0 : Nat} {w0 : Base} {w : World} {β : List Nat} {vals : Array Value} (hH : HR n0 w0 β H w) (hA : TmR β args vals.toList) :
    Calls P f vals w fun e w' => ∃ v, e = .returned v ∧ Below w.heap.size w w' ∧ LVR β res v := by
  refine (h.calls hT hI hC hm hf hH hA).mono ?_
  rintro e w' ⟨v, lv, γ, H', rfl, hR, hb, _, hv⟩
  refine ⟨v, rfl, hb, ?_⟩
  have := (leL_sound hR hv).take hin
  rwa [← hH.len, List.take_append_of_le_length (Nat.le_refl _), List.take_length] at this

theorem HR.nil (w : World) : HR w.heap.size (Base.pl w) [] [] w := ⟨Nat.le_refl _, rfl, by simp, by simp, Nat.zero_le _, fun _ _ hg hx => hx.trans hg.below, fun _ _ _ _ _ _ _ hx => hx.elim, Below.refl _ _, by simp⟩

/-- Arguments that name no block. -/
theorem TmR.bare {β : List Nat} {ts : List LV} {vs : List Value} (h : TmR β ts vs) (hi : ts.all (inL 0) = true) : TmR [] ts vs := by simpa using h.take hi

theorem LVR.grow {β : List Nat} {x : LV} {v : Value} (h : LVR [] x v) : LVR β x v := by simpa using h.mono (γ := β)

theorem CelsR.bare {β γ : List Nat} {cs : List Cel} {vs : List Value} (h : CelsR β cs vs) (hi : cs.all (inC 0) = true) : CelsR γ cs vs := by
  have := h.take (m := 0) hi
  simpa using this.mono (γ := γ)

/-- One block of the caller's, seen by a callee. -/
theorem HR.one {n0 : Nat} {w0 : Base} {w : World} {β : List Nat} {H : List Blk} (h : HR n0 w0 β H w) {id : Nat} {o : Bool} {t : TypeId} {cs : List Cel} (hg : getB H id = .cells o t cs) (hi : cs.all (inC 0) = true) :
    ∃ b, β[id]? = some b ∧ HR w.heap.size (Base.pl w) [b] [.cells false t cs] w := by
  obtain ⟨b, arr, hb, hlt, _, hh, hc⟩ := h.get hg
  refine ⟨b, hb, Nat.le_refl _, rfl, by simp, by simpa using hlt, Nat.zero_le _, fun _ _ hg hx => hx.trans hg.below, fun _ _ _ _ _ _ _ hx => hx.elim, Below.refl _ _, ?_⟩
  intro i B b' hB hb'
  cases i with
  | zero =>
    simp at hB hb'
    subst hB; subst hb'
    exact ⟨fun e => by simp at e, arr, hh, hc.bare hi⟩
  | succ i => simp at hB

/-- A function of bare arguments, with a bare result: a contract by its execution. -/
theorem entry_bare {P : Program} {T : Tab} (hT : TabOk P T) {I : CI} (hI : CIOk P I) {C : Ctr} (hC : CtrOk P C) (hm : P.follows .mixedOrders = true) {o : Bool} {Λ : Nat → LM} {f : FuncId} {fn : Func} (hf : P.funcs[f]? = some fn)
    {args : List LV} {res : LV} (h : Fex o T I C Λ fn args [] fun lv _ => leL lv res) (hin : inL 0 res = true) (hai : args.all (inL 0) = true)
    {β : List Nat} {w : World} {vals : Array Value} (hA : TmR β args vals.toList) :
    Calls P f vals w fun e w' => ∃ v, e = .returned v ∧ Below w.heap.size w w' ∧ LVR β res v := by
  refine (h.plain hT hI hC hm hf hin (HR.nil w) (hA.bare hai)).mono ?_
  rintro e w' ⟨v, rfl, hb, hv⟩
  exact ⟨v, rfl, hb, hv.grow⟩

/-- The same with a first argument that points to a block. -/
theorem entry_ptr {P : Program} {T : Tab} (hT : TabOk P T) {I : CI} (hI : CIOk P I) {C : Ctr} (hC : CtrOk P C) (hm : P.follows .mixedOrders = true) {o : Bool} {Λ : Nat → LM} {f : FuncId} {fn : Func} (hf : P.funcs[f]? = some fn)
    {args : List LV} {res : LV} {t : TypeId} {cs : List Cel} {off : Nat} (h : Fex o T I C Λ fn (.a (.c (.ptr 0 off)) :: args) [.cells false t cs] fun lv _ => leL lv res) (hin : inL 0 res = true) (hai : args.all (inL 0) = true) (hci : cs.all (inC 0) = true)
    {n0 : Nat} {w0 : Base} {β : List Nat} {w : World} {vals : Array Value} {H : List Blk} {id : Nat} {own : Bool} (hH : HR n0 w0 β H w) (hg : getB H id = .cells own t cs) (hA : TmR β (.a (.c (.ptr id off)) :: args) vals.toList) :
    Calls P f vals w fun e w' => ∃ v, e = .returned v ∧ Below w.heap.size w w' ∧ LVR β res v := by
  obtain ⟨b, hb, hH1⟩ := hH.one hg hci
  obtain ⟨v0, rest, e, ⟨b', hb', hv0⟩, hrest⟩ := hA
  rw [hb] at hb'; simp only [Option.some.injEq] at hb'; subst hb'
  have hin1 : inL 1 res = true := by
    have mono : ∀ x, inC 0 x = true → inC 1 x = true := by
      intro x hx
      cases x <;> simp_all [inC]
    have monoA : ∀ x, inA 0 x = true → inA 1 x = true := by
      intro x hx
      cases x with
      | c x => exact mono x hx
      | agg l => simp only [inA, List.all_eq_true] at hx ⊢; exact fun c hc => mono c (hx c hc)
    cases res with
    | a x => exact monoA x hin
    | tup l => simp only [inL, List.all_eq_true] at hin ⊢; exact fun c hc => monoA c (hin c hc)
  refine (h.plain hT hI hC hm hf hin1 hH1 (w := w) (vals := vals) ?_).mono ?_
  · exact ⟨v0, rest, e, ⟨b, rfl, hv0⟩, by have := (hrest.bare hai).mono (γ := [b]); simpa using this⟩
  · rintro e w' ⟨v, rfl, hb, hv⟩
    refine ⟨v, rfl, hb, ?_⟩
    have := hv.take hin
    exact LVR.grow (by simpa using this)

/-! ### An iterator by its execution -/

/-- The iterator's run with a loop whose body is not in sight: the last of the blocks counts the rounds. -/
def SFex (o : Bool) (T : Tab) (I : CI) (C : Ctr) (Λ : Nat → LM) (fn : Func) (args : List LV) (H : List Blk) (N : Nat) (gd : Nat → Bool) (el : Nat → Int) : Prop :=
  match fn.body with
  | some c => force ((.a (.c (.yld H.length)) :: args) ++ undefs (fn.ntmps - (args.length + 1))) fun ts => forceH (shut H ++ [.gst N gd el (some 0)]) fun H' => ex o T I C Λ c ⟨ts, H'⟩ fun e st => match e with
    | .exit _ => Stuck "exit"
    | _ => match resLV T st fn.results.toList, getB st.heap H.length with
      | some _, .gst _ _ _ (some i) => i ≤ N ∧ ∀ k, i ≤ k → k < N → gd k = false
      | some _, .gst _ _ _ none => True
      | _, _ => Stuck "result"
  | none => Stuck "body"

theorem seq_by {P : Program} {T : Tab} (hT : TabOk P T) {I : CI} (hI : CIOk P I) {C : Ctr} (hC : CtrOk P C) (hm : P.follows .mixedOrders = true) {o : Bool} {Λ : Nat → LM} {f : FuncId} {fn : Func} (hf : P.funcs[f]? = some fn)
    {args : List LV} {H : List Blk} {N : Nat} {gd : Nat → Bool} {el : Nat → Int} (h : SFex o T I C Λ fn args H N gd el)
    {n0 : Nat} {w0 : Base} {β : List Nat} {W : World} {vals : Array Value} (hH : HR n0 w0 β H W) (hA : TmR β args vals.toList) (l : Nat) (J : Option Nat → World → Prop) (hl : l < W.heap.size) (hlβ : l ∉ β)
    (hst : ∀ i a b, Below W.heap.size a b → J i a → J i b)
    (hro : ∀ i, i < N → gd i = true → ∀ W1, W.heap.size ≤ W1.heap.size → J (some i) W1 → YldAt P l #[.int .i64 (el i)] W1 fun e W' =>
      RK W.heap.size W1 W' ∧ ((e = .returned (.bool true) ∧ J (some (i + 1)) W') ∨ (e = .returned (.bool false) ∧ J none W')))
    (hsk : ∀ i, i < N → gd i = false → ∀ W1, J (some i) W1 → J (some (i + 1)) W1) (h0 : J (some 0) W) :
    Calls P f (#[.func (.yield l) #[] #[]] ++ vals) W fun e W' => (∃ v, e = .returned v) ∧ W.heap.size ≤ W'.heap.size ∧ (J (some N) W' ∨ J none W') := by
  let wb : Base := ⟨fun _ => True, 0, l, fun N' gd' el' i u => N' = N ∧ gd' = gd ∧ el' = el ∧ W.heap.size ≤ u.heap.size ∧ J i u⟩
  have hB : RoundsOk P W.heap.size wb := by
    refine ⟨fun _ _ _ _ _ _ => hl, ?_, ?_, fun _ _ _ _ _ _ _ _ _ => trivial⟩
    · rintro N' gd' el' i h1 h2 W1 ⟨rfl, rfl, rfl, h3, h4⟩
      obtain ⟨fn', tm, as, bd, g1, g2⟩ := hro i h1 h2 W1 h3 h4
      refine ⟨fn', tm, as, bd, g1, fun r n => (g2 r n).mono ?_⟩
      rintro e W' ⟨hr, ⟨he, hj⟩ | ⟨he, hj⟩⟩
      · exact ⟨hr, .inl ⟨he, rfl, rfl, rfl, Nat.le_trans h3 hr.1, hj⟩⟩
      · exact ⟨hr, .inr ⟨he, rfl, rfl, rfl, Nat.le_trans h3 hr.1, hj⟩⟩
    · rintro N' gd' el' i h1 h2 W1 ⟨rfl, rfl, rfl, h3, h4⟩
      exact ⟨rfl, rfl, rfl, h3, hsk i h1 h2 W1 h4⟩
  have hHb : HR W.heap.size wb (β ++ [l]) (shut H ++ [.gst N gd el (some 0)]) W := by
    refine ⟨Nat.le_refl _, by simp [shut_len, hH.len], ?_, ?_, Nat.zero_le _, fun _ _ _ _ => trivial, ?_, trivial, ?_⟩
    · rw [List.nodup_append]
      exact ⟨hH.nd, by simp, fun a ha b hb e => by simp at hb; subst hb; subst e; exact hlβ ha⟩
    · intro b hb
      rcases List.mem_append.1 hb with hb | hb
      · exact hH.lt b hb
      · simp at hb; subst hb; exact hl
    · rintro N' gd' el' i a b hb ⟨e1, e2, e3, h4, h5⟩
      exact ⟨e1, e2, e3, Nat.le_trans h4 hb.size, hst i a b hb h5⟩
    · intro i B b hB' hb
      by_cases hi : i < (shut H).length
      · rw [List.getElem?_append_left hi] at hB'
        rw [List.getElem?_append_left (by rw [shut_len] at hi; rw [hH.len]; exact hi)] at hb
        have := hH.enter.blk i B b hB' hb
        rcases shut_get hB' with rfl | ⟨o, t, cs, rfl, _⟩
        · trivial
        · obtain ⟨g1, arr, g2, g3⟩ := this
          exact ⟨g1, arr, g2, g3.mono⟩
      · have hl' : i = (shut H).length := by
          have := (List.getElem?_eq_some_iff.1 hB').1
          simp at this; omega
        subst hl'
        have e1 : (shut H ++ [Blk.gst N gd el (some 0)])[(shut H).length]? = some (.gst N gd el (some 0)) := by simp
        have e2 : (β ++ [l])[(shut H).length]? = some l := by rw [shut_len, ← hH.len]; simp
        rw [e1] at hB'; rw [e2] at hb
        simp only [Option.some.injEq] at hB' hb
        subst hB'; subst hb
        exact ⟨rfl, rfl, rfl, rfl, Nat.le_refl _, h0⟩
  have hlen : args.length = vals.size := by rw [hA.length]; simp
  unfold SFex at h
  split at h
  · rename_i c hb
    rw [force_eq, forceH_eq] at h
    rw [← callsIn_wide (n := 0)]
    refine callsIn_of_wp_marks hf hb trivial ?_
    refine ex_sound hT hI hC hm c none _ wb _ _ (β ++ [l]) _ W _ hB (fun _ e => by cases e) h hHb ?_ trivial ?_
    · simp only [Array.toList_append, Array.toList_replicate]
      have : (#[Value.func (Fn.yield l) #[] #[]] ++ vals).size = args.length + 1 := by simp; omega
      rw [this]
      refine TmR.append ⟨_, _, rfl, ⟨l, by rw [← hH.len]; simp, rfl⟩, hA.mono⟩ (undefs_sound _ _)
    · intro e st' γ a' w' k1 k2 k3 k4
      have hβl : ((β ++ [l]) ++ γ)[H.length]? = some l := by rw [← hH.len]; simp
      have fin : (match resLV T st' fn.results.toList, getB st'.heap H.length with
          | some _, .gst _ _ _ (some i) => i ≤ N ∧ ∀ k, i ≤ k → k < N → gd k = false
          | some _, .gst _ _ _ none => True
          | _, _ => Stuck "result") → LeavesInM Fence.wide 0 P fn a'.tmps (fun e W' => (∃ v, e = .returned v) ∧ W.heap.size ≤ W'.heap.size ∧ (J (some N) W' ∨ J none W')) a'.defers .returning w' := by
        intro k1
        split at k1
        · rename_i lv N' gd' el' i hlv hg
          refine leaves_sx _ w' k2 k4 ?_
          intro w'' hH''
          obtain ⟨v, h1, h2⟩ := resLV_sound hT hH'' k3 hlv
          obtain ⟨_, rfl, rfl, rfl, h5, h6⟩ := hH''.blk _ _ _ (getB_gst hg) hβl
          have := skips (J := J) (gd := gd') (N := N') (w := w'') (fun i g1 g2 g3 => hsk i g1 g2 w'' g3) h6 (N' - i) (by omega) (fun k a b => k1.2 k a (by omega))
          rw [show i + (N' - i) = N' by omega] at this
          exact ⟨v, h1, ⟨v, rfl⟩, h5, .inl this⟩
        · rename_i lv N' gd' el' hlv hg
          refine leaves_sx _ w' k2 k4 ?_
          intro w'' hH''
          obtain ⟨v, h1, h2⟩ := resLV_sound hT hH'' k3 hlv
          obtain ⟨_, rfl, rfl, rfl, h5, h6⟩ := hH''.blk _ _ _ (getB_gst hg) hβl
          exact ⟨v, h1, ⟨v, rfl⟩, h5, .inr h6⟩
        · exact k1.elim
      cases e with
      | normal => exact fin k1
      | ret => exact fin k1
      | exit id => exact k1.elim
  · exact h.elim

theorem by_eq {p q : Prop} (h : p = q) (hq : q) : p := h ▸ hq



/-- The kind of the i-th cell of a type made of integers, arrays and structs. -/
def kindAt (P : Program) : Nat → TypeId → Nat → Option IntKind
  | 0, _, _ => none
  | n + 1, t, i => match P.underlying t with
    | some (.int k) => if i = 0 then some k else none
    | some (.array m e) => if i / P.cellsOf e < m then (if i % P.cellsOf e < P.cellsOf e then kindAt P n e (i % P.cellsOf e) else none) else none
    | some (.struct fs) => match fs.toList.find? (fun f => decide (f.offset ≤ i) && decide (i < f.offset + P.cellsOf f.type)) with
      | some f => kindAt P n f.type (i - f.offset)
      | none => none
    | _ => none

section
variable {H : Type} {enc : TypeId × Value → H} {P : Program} {w : World} {base : Nat} {spare : Nat → Bool} {held : Bool}

theorem kindAt_sound : ∀ (n : Nat) (t : TypeId) (i : Nat) (k : IntKind) (fuel : Nat) (cs : List Value) (x : DataW H × List MemPlace),
    kindAt P n t i = some k → DataW.trod enc P w base spare held fuel t cs = some x → ∃ m, cs[i]? = some (.int k m) ∧ (Lit.int k m).wf = true := by
  intro n
  induction n with
  | zero => intro t i k fuel cs x h; simp [kindAt] at h
  | succ n ih =>
    intro t i k fuel cs x h hx
    unfold kindAt at h
    split at h
    · rename_i k' hu
      split at h
      · simp only [Option.some.injEq] at h; subst h
        rename_i h0; subst h0
        obtain ⟨m, rfl, _, hw⟩ := DataW.trod_int hu hx
        exact ⟨m, rfl, hw⟩
      · simp at h
    · rename_i m e hu
      split at h
      · rename_i h1
        split at h
        · rename_i h2
          obtain ⟨xs, f, _, _, hl, hlen, hf⟩ := DataW.trod_array hu hx
          have h3 := hf _ h1
          have h4 : xs[i / P.cellsOf e]? = some xs[i / P.cellsOf e] := List.getElem?_eq_getElem (by omega)
          rw [h4] at h3
          obtain ⟨z, hz, hw⟩ := ih _ _ _ _ _ _ h h3
          refine ⟨z, ?_, hw⟩
          rw [List.getElem?_take_of_lt h2, List.getElem?_drop, Nat.mul_comm, Nat.div_add_mod] at hz
          exact hz
        · simp at h
      · simp at h
    · rename_i fs hu
      split at h
      · rename_i f hfd
        have hp := List.find?_some hfd
        simp only [Bool.and_eq_true, decide_eq_true_eq] at hp
        obtain ⟨j, hj, hjf⟩ := List.getElem_of_mem (List.mem_of_find?_eq_some hfd)
        obtain ⟨xs, m, _, _, hl, hlen, hf⟩ := DataW.trod_struct hu hx
        have hjf' : fs[j]? = some f := by
          rw [← hjf]; simp at hj ⊢
        have h3 := hf j f hjf'
        have h4 : xs[j]? = some (xs[j]'(by simp at hj; omega)) := List.getElem?_eq_getElem _
        rw [h4] at h3
        obtain ⟨z, hz, hw⟩ := ih _ _ _ _ _ _ h h3
        refine ⟨z, ?_, hw⟩
        rw [List.getElem?_take_of_lt (by omega), List.getElem?_drop, Nat.add_sub_cancel' hp.1] at hz
        exact hz
      · simp at h
    · simp at h

end

/-- How the numbers of a value are put into cells. -/
inductive ShI where
  | one (k : IntKind)
  | many (ks : List IntKind) (n : Nat)

def shKinds : List ShI → List IntKind
  | [] => []
  | .one k :: r => k :: shKinds r
  | .many ks n :: r => (List.range n).map (fun j => ks.getD (j % ks.length) .i64) ++ shKinds r

def shCels : List ShI → List Int → List Cel
  | [], _ => []
  | .one k :: r, ns => .int k (ns.headD 0) :: shCels r ns.tail
  | .many ks n :: r, ns => .run ks n (ns.take n) :: shCels r (ns.drop n)

theorem shCels_ok (β : List Nat) : ∀ (sh : List ShI) (ns : List Int), ns.length = (shKinds sh).length → CelsR β (shCels sh ns) (List.zipWith Value.int (shKinds sh) ns)
  | [], ns, _ => by simp [shCels, shKinds, CelsR]
  | .one k :: r, [], h => by simp [shKinds] at h
  | .one k :: r, a :: ns, h => ⟨[.int k a], _, rfl, ⟨_, rfl, rfl⟩, shCels_ok β r ns (by simpa [shKinds] using h)⟩
  | .many ks n :: r, ns, h => by
    simp only [shKinds, List.length_append, List.length_map, List.length_range] at h
    have h1 : (ns.take n).length = n := by simp; omega
    refine ⟨runV ks (ns.take n), List.zipWith Value.int (shKinds r) (ns.drop n), ?_, ⟨h1, rfl⟩, shCels_ok β r (ns.drop n) (by simp; omega)⟩
    conv => lhs; rw [← List.take_append_drop n ns]
    simp only [shKinds]
    rw [List.zipWith_append (by simp; omega)]
    congr 1
    apply List.ext_getElem?
    intro j
    by_cases hj : j < n
    · rw [runV_get _ _ _ (by omega)]
      simp [List.getElem?_zipWith, hj, List.getD]
      have : ns[j]? = some (ns[j]'(by omega)) := List.getElem?_eq_getElem (by omega)
      simp [this]
    · rw [List.getElem?_eq_none (by simp only [List.length_zipWith, List.length_map, List.length_range]; omega), List.getElem?_eq_none (by simp [runV]; omega)]

def getI : Value → Int
  | .int _ m => m
  | _ => 0

/-- Numbers by value, opened: each fits its kind. -/
theorem open_agg {H : Type} {enc : TypeId × Value → H} {P : Program} {w : World} {base : Nat} {spare : Nat → Bool} {held : Bool} {t : TypeId} {v : Value} {d : DataW H} {ps : List MemPlace}
    (hv : ∃ cs, v = .agg cs ∧ cs.size = P.cellsOf t) (hd : DataW.Trod enc P w base spare held t v d ps) (sh : List ShI)
    (hk : ((P.cellsOf t == (shKinds sh).length) && ((List.range (P.cellsOf t)).map (kindAt P 8 t) == (shKinds sh).map some)) = true) :
    ∃ ns : List Int, ns.length = (shKinds sh).length ∧ (∀ (i : Nat) (k : IntKind) (n : Int), (shKinds sh)[i]? = some k → ns[i]? = some n → (Lit.int k n).wf = true) ∧ ∀ β, LVR β (.a (.agg (shCels sh ns))) v := by
  obtain ⟨cs, rfl, hsz⟩ := hv
  obtain ⟨fuel, hf⟩ := hd
  simp only [Bool.and_eq_true, beq_iff_eq] at hk
  obtain ⟨hk1, hk2⟩ := hk
  have key : ∀ i, i < (shKinds sh).length → ∃ k m, (shKinds sh)[i]? = some k ∧ cs.toList[i]? = some (.int k m) ∧ (Lit.int k m).wf = true := by
    intro i hi
    have h1 : (shKinds sh)[i]? = some (shKinds sh)[i] := List.getElem?_eq_getElem hi
    have h2 : ((shKinds sh).map some)[i]? = some (some (shKinds sh)[i]) := by simp [hi]
    rw [← hk2, List.getElem?_map, List.getElem?_range (by omega)] at h2
    simp only [Option.map_some, Option.some.injEq] at h2
    obtain ⟨m, hm, hw⟩ := kindAt_sound _ _ _ _ _ _ _ h2 hf
    exact ⟨_, m, h1, by simpa [Value.cells] using hm, hw⟩
  have hlen : cs.toList.length = (shKinds sh).length := by simp; omega
  have hcs : cs.toList = List.zipWith Value.int (shKinds sh) (cs.toList.map getI) := by
    apply List.ext_getElem?
    intro i
    by_cases hi : i < (shKinds sh).length
    · obtain ⟨k, m, h1, h2, _⟩ := key i hi
      rw [h2, List.getElem?_zipWith, h1, List.getElem?_map, h2]
      rfl
    · rw [List.getElem?_eq_none (by omega), List.getElem?_eq_none (by simp at hlen ⊢; omega)]
  refine ⟨cs.toList.map getI, by simpa using hlen, ?_, fun β => ⟨cs, rfl, ?_⟩⟩
  · intro i k n h1 h2
    have hi : i < (shKinds sh).length := (List.getElem?_eq_some_iff.1 h1).1
    obtain ⟨k', m, h1', h3, hw⟩ := key i hi
    rw [h1] at h1'; simp only [Option.some.injEq] at h1'; subst h1'
    rw [List.getElem?_map, h3] at h2
    simp only [Option.map_some, Option.some.injEq, getI] at h2
    subst h2; exact hw
  · have := shCels_ok β sh (cs.toList.map getI) (by simpa using hlen)
    rw [← hcs] at this
    exact this

/-- A struct by value, opened. -/
theorem open_flat {H : Type} {enc : TypeId × Value → H} {P : Program} {w : World} {base : Nat} {spare : Nat → Bool} {held : Bool} {r : Reach} {b0 : Nat} {t : TypeId} {fs : Array Field} {v : Value} {d : DataW H} {ps : List MemPlace}
    (ht : P.underlying t = some (.struct fs)) (hval : Value.okWide P w r b0 t v) (hd : DataW.Trod enc P w base spare held t v d ps) (sh : List ShI)
    (hk : ((P.cellsOf t == (shKinds sh).length) && ((List.range (P.cellsOf t)).map (kindAt P 8 t) == (shKinds sh).map some)) = true) :
    ∃ ns : List Int, ns.length = (shKinds sh).length ∧ (∀ (i : Nat) (k : IntKind) (n : Int), (shKinds sh)[i]? = some k → ns[i]? = some n → (Lit.int k n).wf = true) ∧ ∀ β, LVR β (.a (.agg (shCels sh ns))) v :=
  open_agg (WideShapes.okWide_struct ht hval) hd sh hk

/-- An array by value, opened. -/
theorem open_arr {H : Type} {enc : TypeId × Value → H} {P : Program} {w : World} {base : Nat} {spare : Nat → Bool} {held : Bool} {r : Reach} {b0 : Nat} {t : TypeId} {n : Nat} {e : TypeId} {v : Value} {d : DataW H} {ps : List MemPlace}
    (ht : P.underlying t = some (.array n e)) (hval : Value.okWide P w r b0 t v) (hd : DataW.Trod enc P w base spare held t v d ps) (sh : List ShI)
    (hk : ((P.cellsOf t == (shKinds sh).length) && ((List.range (P.cellsOf t)).map (kindAt P 8 t) == (shKinds sh).map some)) = true) :
    ∃ ns : List Int, ns.length = (shKinds sh).length ∧ (∀ (i : Nat) (k : IntKind) (n : Int), (shKinds sh)[i]? = some k → ns[i]? = some n → (Lit.int k n).wf = true) ∧ ∀ β, LVR β (.a (.agg (shCels sh ns))) v := by
  refine open_agg ?_ hd sh hk
  simp only [Value.okWide, ht] at hval
  obtain ⟨cs, h1, h2, _⟩ := hval
  exact ⟨cs, h1, h2⟩


end Go.Sx
