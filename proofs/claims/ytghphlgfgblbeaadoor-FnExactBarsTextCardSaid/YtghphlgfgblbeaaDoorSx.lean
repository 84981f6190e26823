/- A small symbolic executor over the walk calculus, and that it is sound: symbolic cells, operations, statements, loops, functions, contracts. No conditions. -/
import Derived.Test.YtghphlgfgblbeaaDoorSz
import Derived.Scope
import Derived.OpenShut
import Derived.WideShapes
import Derived.Below
import Derived.DataElems
import Derived.KernelRfl
set_option linter.unusedSimpArgs false
set_option linter.unusedVariables false
namespace Go.Sx
open Go.RowKit

/-! ### A quiet region, in a round too: the kit's law without its condition on the round -/

section
variable {F : Fence} {n : Nat} {P : Program} {ops : Array Oper} {md : Region.Mode} {C : World → Prop}

theorem wpIn_of_quiet' {o : Oper} {a : Act} {K : Act → Prop} {K' : Act → World → Prop} {Q' : Exit → Act → World → Prop} {w : World} (hro : ∀ c, o.op ≠ .defer c) (hw : C w) (h : ∀ a w', C w' → K a → K' a w')
    (ha : o.askedIn F P a C) (hh : o.quietIn F n P a C K) : o.wpIn F n P a w K' Q' := by
  obtain ⟨v, h1, h2⟩ := hh
  have h3 := h1 w hw
  unfold Oper.quietAtIn at h3
  unfold Oper.wpIn
  refine ⟨ha w hw, ?_⟩
  rw [Oper.semAt_eq _ _ _ hro]
  generalize (execOp a.eval o).run P w = r at *
  cases r with
  | ok x w' =>
    cases x <;> simp only [Oper.quietUponIn] at h3 <;> simp only [Oper.uponIn]
    case value u =>
      obtain ⟨e1, e2⟩ := h3
      rw [e1, e2]
      exact h _ _ hw h2
    case skip =>
      obtain ⟨e1, e2⟩ := h3
      rw [e1, ← e2]
      exact h _ _ hw h2
    case enter f args =>
      obtain ⟨e1, hd, hc⟩ := h3
      rw [e1]
      exact ⟨hd, hc.mono fun e w'' ⟨he, hw''⟩ => by subst he; exact h _ _ hw'' h2⟩
  | halt x w' => simp only [Oper.quietUponIn] at h3

theorem wpOpIn_of_qOpIn' (hro : ∀ (i : Nat) (o : Oper), ops[i]? = some o → ∀ c, o.op ≠ .defer c) {i : Nat} {a : Act} {K : Act → Prop} {K' : Act → World → Prop} {Q' : Exit → Act → World → Prop} {w : World} (hC : C w) (h : ∀ a w', C w' → K a → K' a w')
    (hh : qOpIn F n P ops C i K a) : wpOpIn F n P ops Q' i K' a w := by
  unfold qOpIn at hh
  unfold wpOpIn
  split
  · rename_i ho; simp only [ho] at hh; exact h _ _ hC hh
  · rename_i o ho
    simp only [ho] at hh
    obtain ⟨ha, hh⟩ := hh
    split
    · rename_i hw; simp only [hw, if_true] at hh; exact wpIn_of_quiet' (hro i o ho) hC h ha hh
    · rename_i hw; simp only [hw] at hh; exact ⟨ha w hC, h _ _ hC hh⟩

theorem wpAnyIn_of_quiet' (hro : ∀ (i : Nat) (o : Oper), ops[i]? = some o → ∀ c, o.op ≠ .defer c) {Q : Act → Prop} {Q' : Exit → Act → World → Prop} (hQ : ∀ a w, C w → Q a → Q' .normal a w) : ∀ (fuel : Nat) (listed : Array Bool) (a : Act) (w : World), C w →
    wpAnyQIn F n P md ops C Q fuel listed a → wpAnyIn F n P md ops Q' fuel listed a w
  | 0, _, _, _, hw, h => ⟨h.1, hQ _ _ hw h.2⟩
  | fuel + 1, _, _, _, hw, h => ⟨fun h0 => hQ _ _ hw (h.1 h0), fun i hi => wpOpIn_of_qOpIn' hro hw (fun a' w' hw' => wpAnyIn_of_quiet' hro hQ fuel _ a' w' hw') (h.2 i hi)⟩

theorem wpIn_region_quiet' {id : Nat} {Q : Exit → Act → World → Prop} {a : Act} {w : World} (hro : ∀ (i : Nat) (o : Oper), ops[i]? = some o → ∀ c, o.op ≠ .defer c) (hm : P.follows .mixedOrders = true) (hB : Region.lexB .any ops = true) (hC : C { w with drawn := w.drawn + 1 })
    (h : wpQuietIn F n P ops C (fun a' => ∀ w', C w' → Q .normal a' w') ops.toList a) : (Code.region id ops true).wpIn F n P Q a w := by
  simp only [Region.lexB, Bool.and_eq_true] at hB
  refine wpIn_region_any hm (wpAnyIn_of_quiet' (Q := fun a' => ∀ w', C w' → Q .normal a' w') hro (fun _ w' hw' h => h w' hw') _ _ _ _ hC ?_)
  have := wpAnyQIn_lex (F := F) (n := n) (C := C) (md := .any) hB.1 ops.toList 0 (Array.replicate ops.size false) a (by simp) (by simpa using hB.2) h
  simpa using this

end

def noDefer (ops : Array Oper) : Bool := ops.toList.all fun o => match o.op with | .defer _ => false | _ => true

theorem noDefer_sound {ops : Array Oper} (h : noDefer ops = true) (i : Nat) (o : Oper) (ho : ops[i]? = some o) (c : Call) : o.op ≠ .defer c := by
  intro e
  have := List.all_eq_true.1 h o (by rw [← Array.getElem?_toList] at ho; exact List.mem_of_getElem? ho)
  simp [e] at this

theorem semAt_plain' {r : Option Nat} {ρ : Operand → Value} {op : Oper} (h : ∀ c, op.op ≠ .defer c) : op.semAt r ρ = execOp ρ op := Oper.semAt_eq r ρ op h

/-! ### Regions that draw their order: quiet operations, one block laid among them, then operations that wait for all -/

def isAl (o : Oper) : Bool := match o.guard, o.op with
  | none, .alloc _ => true
  | _, _ => false

/-- An operation that looks at no world. -/
def isWF (o : Oper) : Bool := match o.guard, o.op with
  | none, .extract _ _ => true
  | none, .move _ => true
  | _, _ => false

/-- What abides whatever turns nothing that lay there. -/
def Stb (D : World → Prop) : Prop := ∀ w w', D w → Below w.heap.size w w' → D w'

section
variable {rd : Option Nat} {n : Nat} {P : Program} {ops : Array Oper} {C : World → Prop} {nA : Nat}

/-- One value in every world of the class, and nothing turned; a block's address is left open. -/
def YU (rd : Option Nat) (n : Nat) (P : Program) (ops : Array Oper) (C : World → Prop) (o : Oper) (v : Value) (a : Act) : Prop :=
  if isAl o = true then v = undef else
  ((Region.wanted o (yielded ops a.tmps) = true ∧ ∀ D, Stb D → ∀ w, C w → D w → o.quietAtIn (Wd rd) n P a (fun u => C u ∧ D u) w v) ∨ (Region.wanted o (yielded ops a.tmps) = false ∧ v = undef))

theorem YU.same {o : Oper} {v : Value} {a a' : Act} (h : YU rd n P ops C o v a) (he : execOp a'.eval o = execOp a.eval o) (hw : Region.wanted o (yielded ops a'.tmps) = Region.wanted o (yielded ops a.tmps)) : YU rd n P ops C o v a' := by
  unfold YU Oper.quietAtIn at *
  rw [he, hw]
  exact h

def wpV (rd : Option Nat) (n : Nat) (P : Program) (ops : Array Oper) (C : World → Prop) (nA : Nat) (K : Act → Prop) : Nat → Array Bool → Act → Prop
  | 0, listed, a => (∀ i, i < nA → listed.getD i false = true) ∧ K a
  | f + 1, listed, a => (∃ i, i ∈ Region.ready .any ops listed ∧ i < nA) ∧ ∀ i ∈ Region.ready .any ops listed, i < nA → ∃ o v, ops[i]? = some o ∧ YU rd n P ops C o v a ∧ wpV rd n P ops C nA K f (listed.setIfInBounds i true) (a.put o.dst v)

def wpL (rd : Option Nat) (n : Nat) (P : Program) (ops : Array Oper) (C : World → Prop) (K : Act → Prop) : List Oper → Act → Prop
  | [], a => K a
  | o :: r, a => ∃ v, YU rd n P ops C o v a ∧ wpL rd n P ops C K r (a.put o.dst v)

/-- What is listed has what it waits for listed. -/
def DC (ops : Array Oper) (listed : Array Bool) : Prop := ∀ (j : Nat) (o : Oper), ops[j]? = some o → listed.getD j false = true → ∀ e ∈ o.after, Region.binds .any e = true → listed.getD e.on false = true

theorem DC.set {listed : Array Bool} (h : DC ops listed) {i : Nat} (hi : i ∈ Region.ready .any ops listed) : DC ops (listed.setIfInBounds i true) := by
  intro j o ho hl e he hb
  obtain ⟨_, oi, hoi, hall⟩ := mem_ready.1 hi
  by_cases hji : j = i
  · subst hji
    rw [ho] at hoi; simp only [Option.some.injEq] at hoi; subst hoi
    exact getD_set_true (hall e he hb)
  · rw [getD_set_ne false (Ne.symm hji)] at hl
    exact getD_set_true (h j o ho hl e he hb)

def TailOk (ops : Array Oper) (nA : Nat) : Prop := ∀ (j : Nat) (oj : Oper), nA ≤ j → ops[j]? = some oj → ∀ (listed : Array Bool), DC ops listed → (∀ e ∈ oj.after, Region.binds .any e = true → listed.getD e.on false = true) → ∀ k, k < j → listed.getD k false = true ∨ ∃ ok, ops[k]? = some ok ∧ isWF ok = true

theorem un_of {listed : Array Bool} {i : Nat} (h : listed.getD i true = false) : listed.getD i false = false := by
  rcases Nat.lt_or_ge i listed.size with h' | h'
  · simp [h'] at h ⊢; exact h
  · simp [Array.getElem?_eq_none h'] at h

theorem wpV_first (hs : Region.noSelect ops = true) {K : Act → Prop} {i : Nat} {oi : Oper} {v : Value} (hi : ops[i]? = some oi) (hin : i < nA) : ∀ (f : Nat) (listed : Array Bool) (a : Act), DC ops listed →
    (∀ j oj, ops[j]? = some oj → j ≠ i → listed.getD j true = false → (∀ e ∈ oj.after, Region.binds .any e = true → e.on ≠ i) → oi.apart ops oj = true) →
    i ∈ Region.ready .any ops listed → YU rd n P ops C oi v a → wpV rd n P ops C nA K f (listed.setIfInBounds i true) (a.put oi.dst v) → wpV rd n P ops C nA K (f + 1) listed a := by
  intro f
  induction f with
  | zero =>
    intro listed a hdc _ hr hy H
    refine ⟨⟨i, hr, hin⟩, fun j hj hjl => ?_⟩
    by_cases hji : j = i
    · subst hji; exact ⟨oi, v, hi, hy, H⟩
    · exfalso
      have h1 := H.1 j hjl
      rw [getD_set_ne false (Ne.symm hji), un_of (mem_ready.1 hj).1] at h1
      cases h1
  | succ f ih =>
    intro listed a hdc hfree hr hy H
    refine ⟨⟨i, hr, hin⟩, fun j hj hjl => ?_⟩
    by_cases hji : j = i
    · subst hji; exact ⟨oi, v, hi, hy, H⟩
    · obtain ⟨oj, u, hoj, hyj, hj2⟩ := H.2 j (ready_mono hj hji) hjl
      obtain ⟨hjun, oj', hoj', hall⟩ := mem_ready.1 hj
      rw [hoj] at hoj'; simp only [Option.some.injEq] at hoj'; subst hoj'
      have hnot : ∀ e ∈ oj.after, Region.binds .any e = true → e.on ≠ i := fun e he hb heq => by
        have h1 := hall e he hb
        rw [heq, un_of (mem_ready.1 hr).1] at h1
        cases h1
      obtain ⟨h1, h2, h3⟩ := Oper.apart_spec (hfree j oj hoj hji hjun hnot)
      have si := fun cs b => Region.noSelect_spec hs i oi cs b hi
      have sj := fun cs b => Region.noSelect_spec hs j oj cs b hoj
      refine ⟨oj, u, hoj, hyj.same (execOp_put oj sj a oi.dst v h1).symm (wanted_put oj a oi.dst v h1).symm, ?_⟩
      refine ih (listed.setIfInBounds j true) (a.put oj.dst u) (hdc.set hj) ?_ (ready_mono hr (Ne.symm hji)) (hy.same (execOp_put oi si a oj.dst u h3) (wanted_put oi a oj.dst u h3)) ?_
      · intro k ok hk hki hun hno
        refine hfree k ok hk hki ?_ hno
        by_cases hjk : j = k
        · subst hjk; exact hjun
        · rw [getD_set_ne true hjk] at hun; exact hun
      · rw [Array.setIfInBounds_comm _ _ hji, ← Act.put_comm a v u h2]
        exact hj2

def lexA (ops : Array Oper) (nA : Nat) : Nat → Nat → Array Bool → Bool
  | 0, _, listed => (List.range nA).all fun i => listed.getD i false
  | f + 1, k, listed => (Region.ready .any ops listed).contains k && Region.free .any ops listed k && lexA ops nA f (k + 1) (listed.setIfInBounds k true)

theorem wpV_lex (hs : Region.noSelect ops = true) {K : Act → Prop} : ∀ (l : List Oper) (k : Nat) (listed : Array Bool) (a : Act), DC ops listed → (∀ j, j < l.length → l[j]? = ops[k + j]?) → k + l.length = nA →
    lexA ops nA l.length k listed = true → wpL rd n P ops C K l a → wpV rd n P ops C nA K l.length listed a
  | [], _, _, _, _, _, _, hB, h => by
    simp only [List.length_nil, lexA, List.all_eq_true, List.mem_range] at hB
    exact ⟨hB, h⟩
  | o :: l, k, listed, a, hdc, hl, hk, hB, ⟨v, hy, h⟩ => by
    have h0 : ops[k]? = some o := by simpa using (hl 0 (by simp)).symm
    simp only [List.length_cons, lexA, Bool.and_eq_true] at hB
    obtain ⟨⟨hr, hf⟩, hB'⟩ := hB
    have hr' : k ∈ Region.ready .any ops listed := by simpa using hr
    refine wpV_first hs h0 (by simp at hk; omega) l.length listed a hdc (Region.free_spec h0 hf) hr' hy ?_
    exact wpV_lex hs l (k + 1) _ _ (hdc.set hr') (fun j hj => by have := hl (j + 1) (by simpa using hj); simpa [Nat.add_assoc, Nat.add_comm 1 j] using this) (by simp at hk; omega) hB' h

theorem wf_run {F : Fence} {o : Oper} (h : isWF o = true) {a : Act} {C : World → Prop} {w : World} {v : Value} (hq : o.quietAtIn F n P a C w v) : ∀ u, (execOp a.eval o).run P u = .ok (.value v) u := by
  unfold isWF at h
  split at h
  · rename_i x i _ ho
    intro u
    unfold Oper.quietAtIn at hq
    simp only [execOp, ho, Instr.extract] at hq ⊢
    cases hx : a.eval x <;> simp only [hx] at hq ⊢ <;> try (simp [Oper.quietUponIn, stuck, Sem.run] at hq; done)
    split at hq
    · rename_i y hy
      simp [Oper.quietUponIn] at hq
      subst hq
      simp []
    · simp [Oper.quietUponIn, stuck, Sem.run] at hq
  · rename_i x _ ho
    intro u
    unfold Oper.quietAtIn at hq
    simp only [execOp, ho] at hq ⊢
    simp [Oper.quietUponIn] at hq ⊢
    exact hq
  · cases h

theorem wpOp_put_wf {Q : Exit → Act → World → Prop} {j : Nat} {oi oj : Oper} {v : Value} (hj : ops[j]? = some oj) (hap : oi.apart ops oj = true) (hsi : ∀ cs b, oi.op ≠ .select cs b) (hsj : ∀ cs b, oj.op ≠ .select cs b) (hdj : ∀ c, oj.op ≠ .defer c)
    (hQ : ∀ c a w, ¬ Q (.panic c) a w) {K : Act → World → Prop} {a : Act} {w : World} (hy : ∀ u, (execOp a.eval oi).run P u = .ok (.value v) u) (h : wpOpIn (Wd rd) n P ops Q j K (a.put oi.dst v) w) :
    wpOpIn (Wd rd) n P ops Q j (fun a' w' => (∀ u, (execOp a'.eval oi).run P u = .ok (.value v) u) ∧ K (a'.put oi.dst v) w') a w := by
  obtain ⟨h1, h2, h3⟩ := Oper.apart_spec hap
  have keep : ∀ u, ∀ x, (execOp (a.put oj.dst u).eval oi).run P x = .ok (.value v) x := fun u x => by rw [execOp_put oi hsi a oj.dst u h3]; exact hy x
  unfold wpOpIn at *
  simp only [hj] at *
  rw [wanted_put oj a oi.dst v h1] at h
  split
  · rename_i hw
    rw [if_pos hw] at h
    unfold Oper.wpIn at *
    refine ⟨fun _ _ => trivial, ?_⟩
    have h := h.2
    rw [semAt_plain' hdj, execOp_put oj hsj a oi.dst v h1] at h
    rw [semAt_plain' hdj]
    generalize (execOp a.eval oj).run P w = r at *
    cases r with
    | ok x w' =>
      cases x <;> simp only [Oper.uponIn] at h ⊢
      case value u => exact ⟨keep u, by rw [← Act.put_comm a v u h2]; exact h⟩
      case skip => exact ⟨keep _, by rw [← Act.put_comm a v undef h2]; exact h⟩
      case defer d =>
        refine ⟨fun x => ?_, ?_⟩
        · have : execOp ({ a with defers := d :: a.defers }.put oj.dst undef).eval oi = execOp (a.put oj.dst undef).eval oi := by
            rw [execOp_put oi hsi a oj.dst undef h3]; exact execOp_put oi hsi { a with defers := d :: a.defers } oj.dst undef h3
          rw [this]; exact keep _ x
        · rw [← Act.put_comm _ v undef h2, ← Act.put_defers]
          exact h
      case enter f args =>
        refine ⟨h.1, CallsIn.mono h.2 fun e w'' he => ?_⟩
        cases e with
        | returned u => exact ⟨keep u, by rw [← Act.put_comm a v u h2]; exact he⟩
        | panicked c => exact (hQ _ _ _ he).elim
        | outgrown => exact he
      case row row args => exact ⟨h.1, RowsIn.mono h.2 fun u w'' he => ⟨keep u, by rw [← Act.put_comm a v u h2]; exact he⟩⟩
      case round l f tmps assign body =>
        refine ⟨h.1, RoundIn.mono h.2 fun e w'' he => ?_⟩
        cases e with
        | returned u => exact ⟨keep u, by rw [← Act.put_comm a v u h2]; exact he⟩
        | panicked c => exact (hQ _ _ _ he).elim
        | outgrown => exact he
    | halt x w' =>
      cases x <;> simp only [Oper.uponIn] at h ⊢
      case panic u => exact (hQ _ _ _ h).elim
  · rename_i hw
    rw [if_neg hw] at h
    exact ⟨fun _ _ => trivial, keep _, by rw [← Act.put_comm a v undef h2]; exact h.2⟩

/-- An operation that looks at no world may be taken first. -/
theorem wpAny_first_wf {Q : Exit → Act → World → Prop} {i : Nat} {oi : Oper} {v : Value} (hi : ops[i]? = some oi) (hg : oi.guard = none) (hs : Region.noSelect ops = true) (hnd : ∀ (i : Nat) (o : Oper), ops[i]? = some o → ∀ c, o.op ≠ .defer c) (hQ : ∀ c a w, ¬ Q (.panic c) a w)
    (hfree : ∀ j oj, ops[j]? = some oj → j ≠ i → (∀ e ∈ oj.after, Region.binds .any e = true → e.on ≠ i) → (∀ e ∈ oi.after, Region.binds .any e = true → e.on ≠ j) → oi.apart ops oj = true) :
    ∀ (fuel : Nat) (listed : Array Bool) (a : Act) (w : World), i ∈ Region.ready .any ops listed → (∀ u, (execOp a.eval oi).run P u = .ok (.value v) u) →
      wpAnyIn (Wd rd) n P .any ops Q fuel (listed.setIfInBounds i true) (a.put oi.dst v) w → wpAnyIn (Wd rd) n P .any ops Q (fuel + 1) listed a w := by
  have self : ∀ {K : Act → World → Prop} {a : Act} {w : World}, (∀ u, (execOp a.eval oi).run P u = .ok (.value v) u) → K (a.put oi.dst v) w → wpOpIn (Wd rd) n P ops Q i K a w := by
    intro K a w hy h
    unfold wpOpIn
    simp only [hi]
    rw [if_pos (by simp [Region.wanted, hg])]
    refine ⟨fun _ _ => trivial, ?_⟩
    rw [semAt_plain' (hnd i oi hi), hy w]
    exact h
  intro fuel
  induction fuel with
  | zero =>
    intro listed a w hr hy H
    refine ⟨fun h => (by rw [h] at hr; cases hr), fun j hj => ?_⟩
    by_cases hji : j = i
    · subst hji; exact self hy H
    · have := ready_mono hj hji
      rw [H.1] at this
      cases this
  | succ fuel ih =>
    intro listed a w hr hy H
    refine ⟨fun h => (by rw [h] at hr; cases hr), fun j hj => ?_⟩
    by_cases hji : j = i
    · subst hji; exact self hy H
    · have h1 := H.2 j (ready_mono hj hji)
      obtain ⟨hjun, oj, hoj, hall⟩ := mem_ready.1 hj
      obtain ⟨hiun, oi', hoi', halli⟩ := mem_ready.1 hr
      rw [hi] at hoi'; simp only [Option.some.injEq] at hoi'; subst hoi'
      have hap := hfree j oj hoj hji (fun e he hb heq => by
        have := hall e he hb
        rw [heq, un_of hiun] at this; cases this) (fun e he hb heq => by
        have := halli e he hb
        rw [heq, un_of hjun] at this; cases this)
      have h2 := wpOp_put_wf hoj hap (fun cs b => Region.noSelect_spec hs i oi cs b hi) (fun cs b => Region.noSelect_spec hs j oj cs b hoj) (hnd j oj hoj) hQ hy h1
      refine wpOpIn_mono (fun a' w' h3 => ih (listed.setIfInBounds j true) a' w' (ready_mono hr (Ne.symm hji)) h3.1 ?_) h2
      rw [Array.setIfInBounds_comm _ _ hji]
      exact h3.2

theorem wf_val {o : Oper} (h : isWF o = true) (hnd : ∀ c, o.op ≠ .defer c) {a : Act} {w : World} {K : Act → World → Prop} {Q : Exit → Act → World → Prop} (hQ : ∀ c a w, ¬ Q (.panic c) a w) (hq : o.wpIn (Wd rd) n P a w K Q) :
    ∃ v, (∀ u, (execOp a.eval o).run P u = .ok (.value v) u) ∧ K (a.put o.dst v) w := by
  unfold isWF at h
  split at h
  · rename_i x i _ ho
    unfold Oper.wpIn at hq
    have hq := hq.2
    rw [semAt_plain' hnd] at hq
    simp only [execOp, ho, Instr.extract] at hq ⊢
    cases hx : a.eval x <;> simp only [hx] at hq ⊢ <;> try (simp [Oper.uponIn, stuck, Sem.run] at hq; done)
    split at hq
    · rename_i y hy
      simp [Oper.uponIn] at hq
      exact ⟨y, fun u => by simp, hq⟩
    · simp [Oper.uponIn, stuck, Sem.run] at hq
  · rename_i x _ ho
    unfold Oper.wpIn at hq
    have hq := hq.2
    rw [semAt_plain' hnd] at hq
    simp only [execOp, ho] at hq ⊢
    simp [Oper.uponIn] at hq
    exact ⟨_, fun u => by simp, hq⟩
  · cases h

/-- The tail, in its one order, but for those that look at no world. -/
theorem wpAny_of_list {Q : Exit → Act → World → Prop} (hs : Region.noSelect ops = true) (hnd : ∀ (i : Nat) (o : Oper), ops[i]? = some o → ∀ c, o.op ≠ .defer c) (hQ : ∀ c a w, ¬ Q (.panic c) a w) (hwf : ∀ i oi j oj, ops[i]? = some oi → isWF oi = true → ops[j]? = some oj → j ≠ i → (∀ e ∈ oj.after, Region.binds .any e = true → e.on ≠ i) → (∀ e ∈ oi.after, Region.binds .any e = true → e.on ≠ j) → oi.apart ops oj = true) (ht : TailOk ops nA) (hrange : ∀ j oj, ops[j]? = some oj → ∀ e ∈ oj.after, Region.binds .any e = true → e.on < j) : ∀ (l : List Oper) (k : Nat) (listed : Array Bool) (a : Act) (w : World),
    nA ≤ k → (∀ j, l[j]? = ops[k + j]?) → (∀ i, i < k → listed.getD i false = true) → (∀ i, k ≤ i → i < ops.size → listed.getD i true = false) → listed.size = ops.size →
    wpListIn (Wd rd) n P ops Q l a w → wpAnyIn (Wd rd) n P .any ops Q l.length listed a w
  | [], k, listed, a, w, hn, hl, h1, h2, hsz, h => by
    refine ⟨?_, h⟩
    rw [List.eq_nil_iff_forall_not_mem]
    intro i hi
    obtain ⟨hun, o, ho, _⟩ := mem_ready.1 hi
    have hk : ops.size ≤ k := by
      have := hl 0
      simp at this
      exact this
    have := h1 i (by have := (Array.getElem?_eq_some_iff.1 ho).1; omega)
    rw [un_of hun] at this; cases this
  | o :: l, k, listed, a, w, hn, hl, h1, h2, hsz, h => by
    have h0 : ops[k]? = some o := by simpa using (hl 0).symm
    have hks : k < ops.size := (Array.getElem?_eq_some_iff.1 h0).1
    have hk : k ∈ Region.ready .any ops listed := mem_ready.2 ⟨h2 k (Nat.le_refl _) hks, o, h0, fun e he hb => h1 _ (hrange k o h0 e he hb)⟩
    have key : ∀ a w, wpListIn (Wd rd) n P ops Q l a w → wpAnyIn (Wd rd) n P .any ops Q l.length (listed.setIfInBounds k true) a w := by
      intro a w h
      refine wpAny_of_list hs hnd hQ hwf ht hrange l (k + 1) _ a w (by omega) (fun j => by have := hl (j + 1); simpa [Nat.add_assoc, Nat.add_comm 1 j] using this) ?_ ?_ (by simpa using hsz) h
      · intro j hj
        by_cases hji : k = j
        · subst hji; simp [hsz, hks]
        · rw [getD_set_ne false hji]; exact h1 j (by omega)
      · intro j hj hjs
        rw [getD_set_ne true (by omega)]; exact h2 j (by omega) hjs
    by_cases hwk : isWF o = true
    · have hg : o.guard = none := by
        unfold isWF at hwk
        split at hwk
        · assumption
        · assumption
        · cases hwk
      unfold wpListIn at h
      rw [if_pos (by simp [Region.wanted, hg])] at h
      obtain ⟨v, hv, hK⟩ := wf_val hwk (hnd k o h0) hQ h
      exact wpAny_first_wf h0 hg hs hnd hQ (fun j oj g1 g2 g3 g4 => hwf k o j oj h0 hwk g1 g2 g3 g4) l.length listed a w hk hv (key _ _ hK)
    refine ⟨fun he => by rw [he] at hk; simp at hk, fun i hi => ?_⟩
    obtain ⟨hun, oi, hoi, hall⟩ := mem_ready.1 hi
    have hik : i = k := by
      rcases Nat.lt_trichotomy i k with h' | h' | h'
      · have := h1 i h'; rw [un_of hun] at this; cases this
      · exact h'
      · have hdc : DC ops listed := by
          intro j oj hj hlj e he hb
          have hjs := (Array.getElem?_eq_some_iff.1 hj).1
          have hjk : j < k := by
            rcases Nat.lt_or_ge j k with h | h
            · exact h
            · rw [un_of (h2 j h hjs)] at hlj; cases hlj
          exact h1 _ (by have := hrange j oj hj e he hb; omega)
        rcases ht i oi (by omega) hoi listed hdc hall k h' with h3 | ⟨ok, h3, h4⟩
        · rw [un_of (h2 k (Nat.le_refl _) hks)] at h3; cases h3
        · rw [h0] at h3; simp only [Option.some.injEq] at h3; subst h3; exact absurd h4 hwk
    subst hik
    unfold wpOpIn
    unfold wpListIn at h
    simp only [h0]
    split
    · rename_i hw; rw [if_pos hw] at h; exact Oper.wpIn_mono key h
    · rename_i hw; rw [if_neg hw] at h; exact ⟨h.1, key _ _ h.2⟩

/-- What is known of the block that the region lays. -/
def Laid (n0 : Nat) (β : List Nat) (obj : Obj) : Option Nat → World → Prop
  | none, _ => True
  | some b, w => n0 ≤ b ∧ b ∉ β ∧ w.heap[b]? = some obj

def actB (a : Act) (d : Option Nat) : Option Nat → Act
  | none => a
  | some b => a.put d (.pointer (some ⟨b, 0, none⟩))

theorem put_put (a : Act) (d : Option Nat) (u v : Value) : (a.put d u).put d v = a.put d v := by
  cases d with
  | none => rfl
  | some d => simp [Act.put]

theorem wpAny_of_V {Q : Exit → Act → World → Prop} (hQ : ∀ c a w, ¬ Q (.panic c) a w) (ht : TailOk ops nA) (hwf : ∀ i oi j oj, ops[i]? = some oi → isWF oi = true → ops[j]? = some oj → j ≠ i → (∀ e ∈ oj.after, Region.binds .any e = true → e.on ≠ i) → (∀ e ∈ oi.after, Region.binds .any e = true → e.on ≠ j) → oi.apart ops oj = true) {n0 : Nat} {β : List Nat} {obj : Obj} {p : Nat} {op : Oper} {K : Act → Prop} {nB : Nat} (hs : Region.noSelect ops = true) (hnd : ∀ (i : Nat) (o : Oper), ops[i]? = some o → ∀ c, o.op ≠ .defer c)
    (hp : ∀ i o, i < nA → ops[i]? = some o → isAl o = true → i = p ∧ o = op) (hap : ∀ j oj, j < nA → j ≠ p → ops[j]? = some oj → p < nA → op.apart ops oj = true) (hop : p < nA → ops[p]? = some op ∧ isAl op = true)
    (hrun : ∀ (a : Act) (w : World), p < nA → (execOp a.eval op).run P w = .ok (.value (.pointer (some ⟨w.heap.size, 0, none⟩))) (w.alloc obj)) (hCn : ∀ w, C w → n0 ≤ w.heap.size ∧ w.heap.size ∉ β) (hCa : ∀ w, C w → C (w.alloc obj))
    (hK : ∀ a b w listed, K a → (p < nA → b.isSome = true) → (∀ i, i < nA → listed.getD i false = true) → (∀ i, nA ≤ i → i < ops.size → listed.getD i true = false) → listed.size = ops.size → C w → Laid n0 β obj b w → wpAnyIn (Wd rd) n P .any ops Q nB listed (actB a op.dst b) w) :
    ∀ (f : Nat) (listed : Array Bool) (a : Act) (b : Option Nat) (w : World), wpV rd n P ops C nA K f listed a → (p < nA → (b.isSome = true ↔ listed.getD p false = true)) → (nA ≤ p → b = none) → (∀ i, nA ≤ i → i < ops.size → listed.getD i true = false) → listed.size = ops.size → DC ops listed → C w → Laid n0 β obj b w →
      wpAnyIn (Wd rd) n P .any ops Q (f + nB) listed (actB a op.dst b) w
  | 0, listed, a, b, w, ⟨h1, h2⟩, hb1, hb2, hl, hsz, hdc, hC, hL => by
    rw [Nat.zero_add]
    exact hK a b w listed h2 (fun hpn => (hb1 hpn).2 (h1 p hpn)) h1 hl hsz hC hL
  | f + 1, listed, a, b, w, ⟨⟨i0, hi0, hi0n⟩, hall⟩, hb1, hb2, hl, hsz, hdc, hC, hL => by
    rw [show f + 1 + nB = (f + nB) + 1 by omega]
    have hstb : Stb (Laid n0 β obj b) := by
      intro u u' h1 h2
      cases b with
      | none => trivial
      | some b => exact ⟨h1.1, h1.2.1, (h2.block b (Array.getElem?_eq_some_iff.1 h1.2.2).1).trans h1.2.2⟩
    by_cases hrd : ∀ i ∈ Region.ready .any ops listed, i < nA
    case neg =>
      -- the tail may come up: what has not come up yet looks at no world, and is taken first
      simp only [Classical.not_forall] at hrd
      obtain ⟨j, hj, hjn⟩ := hrd
      obtain ⟨_, oj, hoj, hallj⟩ := mem_ready.1 hj
      obtain ⟨o, v, ho, hy, hnext⟩ := hall i0 hi0 hi0n
      have hiun := (mem_ready.1 hi0).1
      have hw0 : isWF o = true := by
        rcases ht j oj (by omega) hoj listed hdc hallj i0 (by omega) with h | ⟨ok, hk, hkw⟩
        · rw [un_of hiun] at h; cases h
        · rw [ho] at hk; simp only [Option.some.injEq] at hk; subst hk; exact hkw
      have hal : isAl o = false := by
        unfold isWF at hw0
        split at hw0
        · rename_i x y hg hx; simp [isAl, hg, hx]
        · rename_i x hg hx; simp [isAl, hg, hx]
        · cases hw0
      have hip : i0 ≠ p ∨ nA ≤ p := by
        rcases Nat.lt_or_ge p nA with h | h
        · left; rintro rfl
          obtain ⟨e1, e2⟩ := hop h
          rw [ho] at e1; simp only [Option.some.injEq] at e1; subst e1; rw [hal] at e2; cases e2
        · exact .inr h
      have hsel := fun cs b => Region.noSelect_spec hs i0 o cs b ho
      have eqs : execOp (actB a op.dst b).eval o = execOp a.eval o ∧ ∀ u, (actB a op.dst b).put o.dst u = actB (a.put o.dst u) op.dst b := by
        cases b with
        | none => exact ⟨rfl, fun _ => rfl⟩
        | some b =>
          have hpn : p < nA := by
            rcases Nat.lt_or_ge p nA with h | h
            · exact h
            · have := hb2 h; cases this
          obtain ⟨h1, h2, h3⟩ := Oper.apart_spec (hap i0 o hi0n (by rcases hip with h | h; exact h; omega) ho hpn)
          exact ⟨execOp_put o hsel a op.dst _ h1, fun u => Act.put_comm a _ u h2⟩
      unfold YU at hy
      rw [if_neg (by rw [hal]; simp)] at hy
      have hg : o.guard = none := by
        unfold isWF at hw0
        split at hw0
        · assumption
        · assumption
        · cases hw0
      rcases hy with ⟨hw, hq⟩ | ⟨hw, _⟩
      · have hrun0 := wf_run hw0 (hq (Laid n0 β obj b) hstb w hC hL)
        refine wpAny_first_wf ho hg hs hnd hQ (fun j' oj' h1 h2 h3 h4 => hwf i0 o j' oj' ho hw0 h1 h2 h3 h4) (f + nB) listed (actB a op.dst b) w hi0 (fun u => by rw [eqs.1]; exact hrun0 u) ?_
        rw [eqs.2 v]
        exact wpAny_of_V hQ ht hwf hs hnd hp hap hop hrun hCn hCa hK f (listed.setIfInBounds i0 true) (a.put o.dst v) b w hnext (fun hpn => by
          rw [getD_set_ne false (by rcases hip with h | h; exact h; omega)]; exact hb1 hpn) hb2 (fun j hj hjs => by
          rw [getD_set_ne true (by omega)]; exact hl j hj hjs) (by simpa using hsz) (hdc.set hi0) hC hL
      · exfalso; simp [Region.wanted, hg] at hw
    refine ⟨fun he => by rw [he] at hi0; simp at hi0, fun i hi => ?_⟩
    have hin := hrd i hi
    obtain ⟨o, v, ho, hy, hnext⟩ := hall i hi hin
    have hiun := (mem_ready.1 hi).1
    have hisz : i < ops.size := (Array.getElem?_eq_some_iff.1 ho).1
    have hl' : ∀ j, nA ≤ j → j < ops.size → (listed.setIfInBounds i true).getD j true = false := fun j hj hjs => by
      rw [getD_set_ne true (by omega)]; exact hl j hj hjs
    unfold wpOpIn
    simp only [ho]
    by_cases hal : isAl o = true
    · obtain ⟨rfl, rfl⟩ := hp i o hin ho hal
      have hbn : b = none := by
        cases b with
        | none => rfl
        | some b => have := (hb1 hin).1 rfl; rw [un_of hiun] at this; cases this
      subst hbn
      unfold YU at hy
      rw [if_pos hal] at hy
      subst hy
      have hg : o.guard = none := by
        unfold isAl at hal
        split at hal
        · assumption
        · cases hal
      rw [if_pos (by simp [Region.wanted, hg])]
      refine ⟨fun _ _ => trivial, ?_⟩
      rw [semAt_plain' (hnd i o ho)]
      simp only [actB]
      rw [hrun a w hin]
      obtain ⟨c1, c2⟩ := hCn w hC
      have := wpAny_of_V hQ ht hwf hs hnd hp hap hop hrun hCn hCa hK f (listed.setIfInBounds i true) (a.put o.dst undef) (some w.heap.size) (w.alloc obj) hnext (fun _ => ⟨fun _ => by simp [hsz, hisz], fun _ => rfl⟩) (fun h => by omega) hl' (by simpa using hsz) (hdc.set hi) (hCa w hC) ⟨c1, c2, by show (w.heap.push obj)[w.heap.size]? = _; simp⟩
      simp only [actB, put_put] at this
      exact this
    · unfold YU at hy
      rw [if_neg hal] at hy
      have hip : i ≠ p ∨ nA ≤ p := by
        rcases Nat.lt_or_ge p nA with h | h
        · left; rintro rfl
          obtain ⟨e1, e2⟩ := hop h
          rw [ho] at e1; simp only [Option.some.injEq] at e1; subst e1; exact hal e2
        · exact .inr h
      have nx : ∀ w', C w' → Laid n0 β obj b w' → wpAnyIn (Wd rd) n P .any ops Q (f + nB) (listed.setIfInBounds i true) (actB (a.put o.dst v) op.dst b) w' := fun w' hC' hL' =>
        wpAny_of_V hQ ht hwf hs hnd hp hap hop hrun hCn hCa hK f (listed.setIfInBounds i true) (a.put o.dst v) b w' hnext (fun hpn => by
          rw [getD_set_ne false (by rcases hip with h | h; exact h; omega)]; exact hb1 hpn) hb2 hl' (by simpa using hsz) (hdc.set hi) hC' hL'
      have hsel := fun cs b => Region.noSelect_spec hs i o cs b ho
      have eqs : execOp (actB a op.dst b).eval o = execOp a.eval o ∧ Region.wanted o (yielded ops (actB a op.dst b).tmps) = Region.wanted o (yielded ops a.tmps) ∧ ∀ u, (actB a op.dst b).put o.dst u = actB (a.put o.dst u) op.dst b := by
        cases b with
        | none => exact ⟨rfl, rfl, fun _ => rfl⟩
        | some b =>
          have hpn : p < nA := by
            rcases Nat.lt_or_ge p nA with h | h
            · exact h
            · have := hb2 h; cases this
          obtain ⟨h1, h2, h3⟩ := Oper.apart_spec (hap i o hin (by rcases hip with h | h; exact h; omega) ho hpn)
          exact ⟨execOp_put o hsel a op.dst _ h1, wanted_put o a op.dst _ h1, fun u => Act.put_comm a _ u h2⟩
      obtain ⟨e1, e2, e3⟩ := eqs
      rw [e2]
      rcases hy with ⟨hw, hq⟩ | ⟨hw, rfl⟩
      · rw [if_pos hw]
        have hq' := hq (Laid n0 β obj b) hstb w hC hL
        refine wpIn_of_quiet' (C := fun u => C u ∧ Laid n0 β obj b u) (K := fun a' => a' = actB (a.put o.dst v) op.dst b) (hnd i o ho) ⟨hC, hL⟩ (fun a' w' hw' he => by rw [he]; exact nx w' hw'.1 hw'.2) (fun _ _ _ _ => trivial) ⟨v, fun u hu => ?_, e3 v⟩
        have := hq (Laid n0 β obj b) hstb u hu.1 hu.2
        unfold Oper.quietAtIn at this ⊢
        rw [e1]; exact this
      · rw [if_neg (by rw [hw]; simp)]
        exact ⟨fun _ _ => trivial, by rw [e3]; exact nx w hC hL⟩

end

/-! ### The shape of such a region, checked -/

/-- Does an operation wait for another one, through so many steps? -/
def reaches (ops : Array Oper) : Nat → Oper → Nat → Bool
  | 0, _, _ => false
  | f + 1, o, k => o.after.toList.any fun e => Region.binds .any e && (e.on == k || match ops[e.on]? with
    | some o' => reaches ops f o' k
    | none => false)

theorem reaches_sound {ops : Array Oper} {listed : Array Bool} (hdc : DC ops listed) {k : Nat} : ∀ (f : Nat) (o : Oper), (∀ e ∈ o.after, Region.binds .any e = true → listed.getD e.on false = true) → reaches ops f o k = true → listed.getD k false = true
  | 0, _, _, h => by simp [reaches] at h
  | f + 1, o, hall, h => by
    simp only [reaches, List.any_eq_true, Bool.and_eq_true, Bool.or_eq_true, beq_iff_eq] at h
    obtain ⟨e, he, hb, hon⟩ := h
    have h1 := hall e (by simpa using he) hb
    rcases hon with rfl | hon
    · exact h1
    · split at hon
      · rename_i o' ho'
        exact reaches_sound hdc f o' (fun e' he' hb' => hdc _ _ ho' h1 e' he' hb') hon
      · cases hon

def waitsMost (ops : Array Oper) (o : Oper) (j nA : Nat) : Bool := (List.range j).all fun k => reaches ops 8 o k || match ops[k]? with
  | some ok => isWF ok
  | none => false

/-- Those that look at no world are apart from whatever need not wait. -/
def wfOk (ops : Array Oper) : Bool := (List.range ops.size).all fun i => match ops[i]? with
  | some oi => !isWF oi || (List.range ops.size).all fun j => j == i || match ops[j]? with
    | some oj => (oj.after.toList.any fun e => Region.binds .any e && e.on == i) || (oi.after.toList.any fun e => Region.binds .any e && e.on == j) || oi.apart ops oj
    | none => true
  | none => true

/-- Where the tail begins. -/
def tailAt (ops : Array Oper) : Nat → Nat
  | 0 => 0
  | j + 1 => match ops[j]? with
    | some o => if waitsMost ops o j j then tailAt ops j else j + 1
    | none => 0

def allocAt (ops : Array Oper) (nA : Nat) : Option (Nat × Oper) := ((List.range nA).findSome? fun i => match ops[i]? with
  | some o => if isAl o then some (i, o) else none
  | none => none)

def rangeOk (ops : Array Oper) : Bool := (List.range ops.size).all fun j => match ops[j]? with
  | some o => o.after.toList.all fun e => !Region.binds .any e || decide (e.on < j)
  | none => true

def mixB (ops : Array Oper) (nA : Nat) (p : Nat) (op : Oper) : Bool :=
  Region.noSelect ops && lexA ops nA nA 0 (Array.replicate ops.size false) && rangeOk ops && wfOk ops &&
  ((List.range ops.size).all fun j => decide (j < nA) || match ops[j]? with | some o => waitsMost ops o j nA | none => false) && decide (nA ≤ ops.size) &&
  (List.range nA).all fun j => match ops[j]? with
    | some oj => (!isAl oj || j == p) && (j == p || decide (nA ≤ p) || op.apart ops oj)
    | none => false

/-- What lies in a world lies in another one too. -/
def Same (w u : World) : Prop := w.heap.size ≤ u.heap.size ∧ ∀ k, k < w.heap.size → u.heap[k]? = w.heap[k]?

theorem Same.refl (w : World) : Same w w := ⟨Nat.le_refl _, fun _ _ => rfl⟩
theorem Same.below {w u v : World} (h : Same w u) (hb : Below u.heap.size u v) : Same w v := ⟨Nat.le_trans h.1 hb.size, fun k hk => (hb.block k (Nat.lt_of_lt_of_le hk h.1)).trans (h.2 k hk)⟩
theorem Same.alloc {w u : World} (h : Same w u) (o : Obj) : Same w (u.alloc o) := h.below ((Below.refl _ u).alloc (Nat.le_refl _) o)

theorem Same.cell {w u : World} (h : Same w u) {a : Addr} {v : Value} (hc : w.cell? a = some v) : u.cell? a = some v := by
  unfold World.cell? at hc ⊢
  cases hb : w.heap[a.block]? with
  | none => rw [hb] at hc; simp at hc
  | some o => rw [h.2 _ (Array.getElem?_eq_some_iff.1 hb).1]; exact hc

theorem slack_same {P : Program} {T : Tab} (hT : TabOk P T) {op : Oper} (hs : slack T op.op = true) {a : Act} {w u : World} {v : Value} (hcell : ∀ t x ti, op.op = .load t x → look T t = some ti → ti.d.agg? = some false → ∃ ad z, a.eval x = .pointer (some ad) ∧ w.cell? ad = some z) (hcells : ∀ t x ti, op.op = .load t x → look T t = some ti → ti.d.agg? = some true → ∃ (b off : Nat) (vs : List Value), a.eval x = .pointer (some ⟨b, off, none⟩) ∧ vs.length = ti.size ∧ ∀ (j : Nat) (z : Value), vs[j]? = some z → w.cell? ⟨b, off + j, none⟩ = some z) (hsl : ∀ t x lo hi mx, op.op = .slice t x lo hi mx → ∃ v, ∀ u, (execOp a.eval op).run P u = .ok (.value v) u) (h : (execOp a.eval op).run P w = .ok (.value v) w) (hsm : Same w u) : (execOp a.eval op).run P u = .ok (.value v) u := by
  unfold slack at hs
  split at hs
  · rename_i x ho; simpa [execOp, ho] using h
  · rename_i x ho; simpa [execOp, ho] using h
  · rename_i x i ho
    simp only [execOp, ho, Instr.extract] at h ⊢
    cases hv : a.eval x with
    | tuple vs =>
      rw [hv] at h
      simp only at h ⊢
      cases hi : vs[i]? with
      | none => rw [hi] at h; simp at h
      | some z => rw [hi] at h; simpa using h
    | _ => rw [hv] at h; simp at h
  · rename_i t x lo hi mx ho
    obtain ⟨v', hv'⟩ := hsl t x lo hi mx ho
    rw [hv' w] at h
    have h : v' = v := by simpa using h
    rw [← h]; exact hv' u
  · rename_i t x ho
    split at hs
    · rename_i ti hti
      split at hs
      · rename_i ag ha
        cases ag with
        | false =>
          obtain ⟨ad, z, hv, hc⟩ := hcell t x ti ho hti ha
          simp only [execOp, ho, Instr.loadAt, hv] at h ⊢
          simp only [Instr.sureAddr, Sem.run_bind, Sem.run_pure, Result.andThen_ok, loadVar, run_isAgg hT hti ha, Bool.false_eq_true, if_false, run_load, hc, hsm.cell hc] at h ⊢
          simpa using h
        | true =>
          obtain ⟨b, off, vs, hv, hl, hc⟩ := hcells t x ti ho hti ha
          have e1 := run_load_aggW (P := P) hT hti ha hl hc
          have e2 := run_load_aggW (P := P) hT hti ha hl fun j z hj => hsm.cell (hc j z hj)
          simp only [execOp, ho, Instr.loadAt, hv] at h ⊢
          simp only [Instr.sureAddr, Sem.run_bind, Sem.run_pure, Result.andThen_ok, e1, e2] at h ⊢
          simpa using h
      · cases hs
    · cases hs
  · cases hs

section
variable {P : Program} {T : Tab} (hT : TabOk P T) {C : Ctr} (hC : CtrOk P T C) {o : Bool} {n0 : Nat} {w0 : Base} (hG : GOk T w0) {D : List Deferred} {rd : Option Nat} {n : Nat}
include hT hC hG

theorem evOneQ_sound {op : Oper} {st : St} {K : St → Prop} {β : List Nat} {a : Act} {w : World} {K' : Act → Prop}
    (h : evOneQ o T C op st K) (hH : HR n0 w0 β st.heap w) (hM : TmR β st.tmps a.tmps.toList) (hD : a.defers = D)
    (hK : ∀ st' a', K st' → st'.heap = st.heap → TmR β st'.tmps a'.tmps.toList → a'.defers = D → K' a') :
    ∃ v, (∀ D, Stb D → ∀ u, (HR n0 w0 β st.heap u ∧ Same w u) → D u → op.quietAtIn (Wd rd) n P a (fun u => (HR n0 w0 β st.heap u ∧ Same w u) ∧ D u) u v) ∧ K' (a.put op.dst v) := by
  have hput : ∀ (v : Value), (a.put op.dst v).defers = D := by intro v; unfold Act.put; split <;> simpa using hD
  have pure : ∀ {p r}, evPure o T st op.op = some (p, r) → p → (fixL r || slack T op.op) = true → (forceV r fun r => force (putL st.tmps op.dst r) fun ts => K ⟨ts, st.heap⟩) →
      ∃ v, (∀ D, Stb D → ∀ u, (HR n0 w0 β st.heap u ∧ Same w u) → D u → op.quietAtIn (Wd rd) n P a (fun u => (HR n0 w0 β st.heap u ∧ Same w u) ∧ D u) u v) ∧ K' (a.put op.dst v) := by
    intro p r he hp hf h
    rw [forceV_eq, force_eq] at h
    obtain ⟨v, h1, h2⟩ := evPure_sound hT hG hH hM (a := a) (op := op) he hp
    refine ⟨v, fun D hDs u hu hDu => ?_, hK _ _ h rfl (putL_sound h2 _ hM) (hput v)⟩
    unfold Oper.quietAtIn
    rw [Bool.or_eq_true] at hf
    rcases hf with hf | hf
    · obtain ⟨v', k1, k2⟩ := evPure_sound hT hG hu.1 hM (a := a) (op := op) he hp
      rw [k1]
      exact ⟨rfl, LVR.uniq hf k2 h2⟩
    · rw [slack_same hT hf (fun t x ti ho hti ha => by
        rw [ho] at he
        exact evLoad_cell hG hH hti ha (ev_sound hM x) he hp) (fun t x ti ho hti ha => by
        rw [ho] at he
        exact evLoad_cells hH hti ha (ev_sound hM x) he hp) (fun t x lo hi mx ho => by
        rw [ho] at he
        obtain ⟨v', g1, _⟩ := evSlice_all hT hM he hp
        exact ⟨v', fun u => by simp only [execOp, ho, Sem.run_bind, g1 u, Result.andThen_ok, Sem.run_pure]⟩) h1 hu.2]
      exact ⟨rfl, rfl⟩
  unfold evOneQ at h
  split at h
  · rename_i c ho
    split at h
    · split at h
      · rename_i p r he
        split at h
        · rename_i hf; exact pure he h.1 (by rw [hf]; rfl) h.2
        · exact h.elim
      · exact h.elim
    split at h
    · rename_i p r he
      split at h
      · rename_i hf
        obtain ⟨hp, h⟩ := h
        rw [forceV_eq, force_eq] at h
        obtain ⟨f, vals, h1, h2⟩ := evCall_sound hT hC hM (a := a) (op := op) he hp
        obtain ⟨e, w1, fr, ⟨v, _, g2, _⟩, _⟩ := h2 n0 w0 w hG hH []
        refine ⟨v, fun D hDs u hu hDu => ?_, hK _ _ h rfl (putL_sound g2 _ hM) (hput v)⟩
        unfold Oper.quietAtIn
        rw [h1 u]
        refine ⟨rfl, fun hd => by simp [Wd, Fence.wide] at hd, (calls_wd rd (h2 n0 w0 u hG hu.1)).mono ?_⟩
        rintro e w'' ⟨v', rfl, k2, k3⟩
        exact ⟨by rw [LVR.uniq hf k2 g2], ⟨hu.1.after k3, hu.2.below k3⟩, hDs _ _ hDu k3⟩
      · exact h.elim
    · exact h.elim
  · split at h
    · rename_i p r he
      split at h
      · rename_i hf; exact pure he h.1 hf h.2
      · exact h.elim
    · exact h.elim

theorem evOpsV_sound {all : Array Oper} {K : St → Prop} {H : List Blk} {β : List Nat} {w : World} (hH : HR n0 w0 β H w) : ∀ (l : List Oper) (st : St) (a : Act),
    evOpsV o T C all l st K → st.heap = H → TmR β st.tmps a.tmps.toList → a.defers = D →
    wpL rd n P all (fun u => HR n0 w0 β H u ∧ Same w u) (fun a' => ∃ st', K st' ∧ st'.heap = H ∧ TmR β st'.tmps a'.tmps.toList ∧ a'.defers = D) l a
  | [], st, a, h, hh, hM, hD => ⟨st, h, hh, hM, hD⟩
  | op :: rest, st, a, h, hh, hM, hD => by
    have hput : ∀ (v : Value), (a.put op.dst v).defers = D := by intro v; unfold Act.put; split <;> simpa using hD
    have one : ∀ (st : St), st.heap = H → TmR β st.tmps a.tmps.toList → Region.wanted op (yielded all a.tmps) = true → isAl op = false → evOneQ o T C op st (fun st' => evOpsV o T C all rest st' K) →
        ∃ v, YU rd n P all (fun u => HR n0 w0 β H u ∧ Same w u) op v a ∧ wpL rd n P all (fun u => HR n0 w0 β H u ∧ Same w u) (fun a' => ∃ st', K st' ∧ st'.heap = H ∧ TmR β st'.tmps a'.tmps.toList ∧ a'.defers = D) rest (a.put op.dst v) := by
      intro st hh hM hw hal h
      subst hh
      obtain ⟨v, h1, h2⟩ := evOneQ_sound (rd := rd) (n := n) (D := D) hT hC hG h hH hM hD (K' := fun a' => wpL rd n P all (fun u => HR n0 w0 β st.heap u ∧ Same w u) (fun a' => ∃ st', K st' ∧ st'.heap = st.heap ∧ TmR β st'.tmps a'.tmps.toList ∧ a'.defers = D) rest a')
        (fun st' a' hk g0 g1 g2 => evOpsV_sound hH rest st' a' hk g0 g1 g2)
      refine ⟨v, ?_, h2⟩
      unfold YU
      rw [if_neg (by rw [hal]; simp)]
      exact .inl ⟨hw, h1⟩
    have skip : ∀ (ts : List LV), TmR β ts a.tmps.toList → (isAl op = true ∨ Region.wanted op (yielded all a.tmps) = false) → evOpsV o T C all rest ⟨putL ts op.dst (.a (.c (.val undef))), st.heap⟩ K →
        ∃ v, YU rd n P all (fun u => HR n0 w0 β H u ∧ Same w u) op v a ∧ wpL rd n P all (fun u => HR n0 w0 β H u ∧ Same w u) (fun a' => ∃ st', K st' ∧ st'.heap = H ∧ TmR β st'.tmps a'.tmps.toList ∧ a'.defers = D) rest (a.put op.dst v) := by
      intro ts hts hw h
      refine ⟨undef, ?_, evOpsV_sound hH rest _ _ h hh (putL_sound (x := .a (.c (.val undef))) (v := undef) rfl _ hts) (hput undef)⟩
      unfold YU
      split
      · rfl
      · rename_i hal
        rcases hw with hw | hw
        · exact absurd hw hal
        · exact .inr ⟨hw, rfl⟩
    unfold evOpsV at h
    unfold wpL
    split at h
    · rename_i hg
      have hw : Region.wanted op (yielded all a.tmps) = true := by simp [Region.wanted, hg]
      split at h
      · rename_i t ho
        rw [force_eq] at h
        exact skip _ hM (.inl (by simp [isAl, hg, ho])) h
      · rename_i hne
        refine one st hh hM hw ?_ h
        unfold isAl
        split
        · rename_i t _ ho; exact absurd ho (hne t)
        · rfl
    · rename_i j want hg
      have hal : isAl op = false := by simp [isAl, hg]
      split at h
      · rename_i b hy
        have hy' := yOf_known hM hy
        by_cases hb : b = want
        · rw [if_pos hb] at h
          exact one st hh hM (by simp [Region.wanted, hg, hy', hb]) hal h
        · rw [if_neg hb, force_eq] at h
          exact skip _ hM (.inr (by simp [Region.wanted, hg, hy', hb])) h
      · rename_i d b hy
        obtain ⟨hy', hgd⟩ := yOf_open hM hy
        by_cases hb : b = want
        · have h := h.1 hb
          rw [force_eq] at h
          subst hb
          exact one ⟨setL st.tmps d (litB b), st.heap⟩ hh (know_sound hM hgd) (by simp [Region.wanted, hg, hy']) hal h
        · have hb' : b = !want := by cases b <;> cases want <;> simp_all
          have h := h.2 hb'
          rw [force_eq] at h
          refine skip _ ?_ (.inr (by simp [Region.wanted, hg, hy', hb])) h
          rw [← hb']; exact know_sound hM hgd
      · rename_i hy
        have hy' := yOf_none hM hy
        rw [force_eq] at h
        exact skip _ hM (.inr (by simp [Region.wanted, hg, hy'])) h
      · exact h.elim

end

/-! ### Weaker states -/

def leC : Cel → Cel → Prop
  | .run _ _ _, .any => False
  | _, .any => True
  | .lit k n, .int k' m => k = k' ∧ n = m
  | .int k n, .int k' m => k = k' ∧ n = m
  | .lit k n, .lit k' m => k = k' ∧ n = m
  | .int k n, .lit k' m => k = k' ∧ n = m
  | .tt, .bool b => b = true
  | .ff, .bool b => b = false
  | .bool b, .tt => b = true
  | .bool b, .ff => b = false
  | .bool b, .bool b' => b = b'
  | .tt, .tt => True
  | .ff, .ff => True
  | .str s, .str s' => s = s'
  | .run ks n l, .run ks' n' l' => ks = ks' ∧ n = n' ∧ l = l'
  | .val (.slice none 0 0), .slc _ _ i _ len cap => i = 0 ∧ len = 0 ∧ cap = 0
  | .val (.pointer none), .sp b _ => b = false
  | .ptr id o, .sp b id' => b = true ∧ id = id' ∧ o = 0
  | .sp b id, .sp b' id' => b = b' ∧ id = id'
  | a, b => a = b

def leCs : List Cel → List Cel → Prop
  | [], [] => True
  | a :: as, b :: bs => leC a b ∧ leCs as bs
  | _, _ => False

/-- Single numbers that are known, told as a run. -/
def litN (k : EK) : Cel → Option Int
  | .lit k' v => if EK.of k' = k then some v else none
  | .int k' v => if EK.of k' = k then some v else none
  | _ => none
def numsC (ks : List EK) : Nat → Nat → List Cel → Option (List Int × List Cel)
  | _, 0, cs => some ([], cs)
  | j, n + 1, c :: cs => match litN (ks.getD (j % ks.length) .i64) c with
    | some v => match numsC ks (j + 1) n cs with
      | some (xs, r) => some (v :: xs, r)
      | none => none
    | none => none
  | _, _ + 1, [] => none
/-- Known numbers are told as the runs that stand in their places in another list. -/
def regroup : List Cel → List Cel → List Cel
  | as, [] => as
  | [], _ :: _ => []
  | a :: as, b :: bs => match a, b with
    | .lit k v, .run ks n _ => match numsC ks 0 n (.lit k v :: as) with
      | some (xs, r) => .run ks n xs :: regroup r bs
      | none => .lit k v :: as
    | .int k v, .run ks n _ => match numsC ks 0 n (.int k v :: as) with
      | some (xs, r) => .run ks n xs :: regroup r bs
      | none => .int k v :: as
    | a, _ => a :: regroup as bs

theorem numsC_sound {β : List Nat} {ks : List EK} : ∀ {n j : Nat} {cs : List Cel} {xs : List Int} {r : List Cel} {vs : List Value}, numsC ks j n cs = some (xs, r) → CelsR β cs vs →
    ∃ rest, vs = (List.range n).map (fun i => (ks.getD ((j + i) % ks.length) .i64).val (xs.getD i 0)) ++ rest ∧ xs.length = n ∧ CelsR β r rest
  | 0, j, cs, xs, r, vs, h, hr => by
    simp only [numsC, Option.some.injEq, Prod.mk.injEq] at h
    obtain ⟨rfl, rfl⟩ := h
    exact ⟨vs, by simp, rfl, hr⟩
  | n + 1, j, [], _, _, _, h, _ => by simp [numsC] at h
  | n + 1, j, c :: cs, xs, r, vs, h, hr => by
    obtain ⟨pre, rest, rfl, h1, h2⟩ := hr
    simp only [numsC] at h
    split at h
    · rename_i v hv
      split at h
      · rename_i xs' r' hn
        simp only [Option.some.injEq, Prod.mk.injEq] at h
        obtain ⟨rfl, rfl⟩ := h
        obtain ⟨rest', e, hl, hrr⟩ := numsC_sound hn h2
        refine ⟨rest', ?_, by simp [hl], hrr⟩
        have hp : pre = [(ks.getD (j % ks.length) .i64).val v] := by
          unfold litN at hv
          split at hv
          · rename_i k' v'
            split at hv
            · rename_i hk
              simp only [Option.some.injEq] at hv
              subst hv
              obtain ⟨x, rfl, hx⟩ := h1
              have hx : x = .int k' v' := hx
              rw [hx, ← hk, EK.of_val]
            · simp at hv
          · rename_i k' v'
            split at hv
            · rename_i hk
              simp only [Option.some.injEq] at hv
              subst hv
              obtain ⟨x, rfl, hx⟩ := h1
              have hx : x = .int k' v' := hx
              rw [hx, ← hk, EK.of_val]
            · simp at hv
          · simp at hv
        rw [hp, e, List.range_succ_eq_map]
        simp only [List.map_cons, List.map_map, List.cons_append, List.nil_append, Nat.add_zero, List.getD_cons_zero, List.cons.injEq, true_and]
        congr 1
        refine List.map_congr_left fun i _ => ?_
        simp only [Function.comp, Nat.succ_eq_add_one, List.getD_cons_succ, show j + 1 + i = j + (i + 1) by omega]
      · simp at h
    · simp at h

theorem regroup_sound {β : List Nat} : ∀ {bs as : List Cel} {vs : List Value}, CelsR β as vs → CelsR β (regroup as bs) vs
  | [], as, _, h => by cases as <;> exact h
  | _ :: _, [], _, h => h
  | b :: bs, a :: as, vs, h => by
    unfold regroup
    split
    · rename_i k v ks n l
      split
      · rename_i xs r hn
        obtain ⟨rest, e, hl, hr⟩ := numsC_sound hn h
        refine ⟨_, rest, e, ⟨hl, ?_⟩, regroup_sound hr⟩
        rw [runV, hl]
        exact List.map_congr_left fun i _ => by rw [Nat.zero_add]
      · exact h
    · rename_i k v ks n l
      split
      · rename_i xs r hn
        obtain ⟨rest, e, hl, hr⟩ := numsC_sound hn h
        refine ⟨_, rest, e, ⟨hl, ?_⟩, regroup_sound hr⟩
        rw [runV, hl]
        exact List.map_congr_left fun i _ => by rw [Nat.zero_add]
      · exact h
    · obtain ⟨p, r, e, h1, h2⟩ := h
      exact ⟨p, r, e, h1, regroup_sound h2⟩

theorem regroup_self : ∀ l : List Cel, regroup l l = l
  | [] => rfl
  | c :: r => by cases c <;> simp only [regroup, regroup_self r]

theorem numsC_width {ks : List EK} : ∀ {n j : Nat} {cs : List Cel} {xs : List Int} {r : List Cel}, numsC ks j n cs = some (xs, r) → width cs = n + width r
  | 0, _, _, _, _, h => by
    simp only [numsC, Option.some.injEq, Prod.mk.injEq] at h
    rw [h.2]; omega
  | n + 1, _, [], _, _, h => by simp [numsC] at h
  | n + 1, j, c :: cs, xs, r, h => by
    simp only [numsC] at h
    split at h
    · rename_i v hv
      split at h
      · rename_i xs' r' hn
        simp only [Option.some.injEq, Prod.mk.injEq] at h
        obtain ⟨rfl, rfl⟩ := h
        have := numsC_width hn
        have hc : c.w = 1 := by
          unfold litN at hv
          split at hv
          · rfl
          · rfl
          · simp at hv
        simp only [width, hc]; omega
      · simp at h
    · simp at h
theorem regroup_width : ∀ {bs as : List Cel}, width (regroup as bs) = width as
  | [], as => by cases as <;> rfl
  | _ :: _, [] => rfl
  | b :: bs, a :: as => by
    unfold regroup
    split
    · split
      · rename_i hn
        have := numsC_width hn
        simp only [width, Cel.w, regroup_width] at this ⊢; omega
      · rfl
    · split
      · rename_i hn
        have := numsC_width hn
        simp only [width, Cel.w, regroup_width] at this ⊢; omega
      · rfl
    · simp only [width, regroup_width]

def leA : Av → Av → Prop
  | _, .c .any => True
  | .c a, .c b => leC a b
  | .agg l, .agg m => leCs (regroup l m) m
  | _, _ => False

def leAs : List Av → List Av → Prop
  | [], [] => True
  | a :: as, b :: bs => leA a b ∧ leAs as bs
  | _, _ => False

def leL : LV → LV → Prop
  | _, .a (.c .any) => True
  | .a x, .a y => leA x y
  | .tup l, .tup m => leAs l m
  | a, b => a = b

def leT : List LV → List LV → Prop
  | [], [] => True
  | a :: as, b :: bs => leL a b ∧ leT as bs
  | _, _ => False

def leB : Blk → Blk → Prop
  | _, .dead => True
  | .cells o t cs, .cells o' t' cs' => o = o' ∧ t = t' ∧ leCs (regroup cs cs') cs'
  | .lp s pe, .lp s' pe' => s = s' ∧ pe = pe'
  | .wnd o ks n l, .wnd o' ks' n' l' => o = o' ∧ ks = ks' ∧ n = n' ∧ l = l'
  | .mp o ks ve L, .mp o' ks' ve' L' => o = o' ∧ ks = ks' ∧ ve = ve' ∧ L = L'
  | .nst w t o ks s L, .nst w' t' o' ks' s' L' => w = w' ∧ t = t' ∧ o = o' ∧ ks = ks' ∧ s = s' ∧ L = L'
  | _, _ => False

def leH : List Blk → List Blk → Prop
  | _, [] => True
  | a :: as, b :: bs => leB a b ∧ leH as bs
  | [], _ :: _ => False

theorem leC_sound {β : List Nat} {a b : Cel} {v : Value} (h : leC a b) (hr : CelR β a v) : CelR β b v := by
  unfold leC at h
  split at h
  · exact h.elim
  · trivial
  · obtain ⟨rfl, rfl⟩ := h; exact hr
  · obtain ⟨rfl, rfl⟩ := h; exact hr
  · obtain ⟨rfl, rfl⟩ := h; exact hr
  · obtain ⟨rfl, rfl⟩ := h; exact hr
  · subst h; exact hr
  · subst h; exact hr
  · subst h; exact hr
  · subst h; exact hr
  · subst h; exact hr
  · exact hr
  · exact hr
  · subst h; exact hr
  · obtain ⟨rfl, rfl, rfl⟩ := h; exact hr
  · obtain ⟨rfl, rfl, rfl⟩ := h
    have hr : v = .slice none 0 0 := hr
    exact ⟨by omega, by omega, by omega, .inr ⟨rfl, none, hr⟩⟩
  · subst h; exact .inl ⟨rfl, hr⟩
  · obtain ⟨rfl, rfl, rfl⟩ := h
    obtain ⟨c, h1, h2⟩ := hr
    exact .inr ⟨c, h1, rfl, h2⟩
  · obtain ⟨rfl, rfl⟩ := h; exact hr
  · subst h; exact hr

theorem leC1_sound {β : List Nat} {a b : Cel} {vs : List Value} (h : leC a b) (hr : Cel1 β a vs) : Cel1 β b vs := by
  by_cases hs : ∃ x, a = .val x ∧ ∃ id base i s len cap, b = .slc id base i s len cap
  · obtain ⟨x, rfl, id, base, i, s, len, cap, rfl⟩ := hs
    obtain ⟨v, rfl, hr⟩ := hr
    exact ⟨v, rfl, leC_sound h hr⟩
  by_cases hs2 : ∃ x, a = .val x ∧ ∃ u id, b = .sp u id
  · obtain ⟨x, rfl, u, id, rfl⟩ := hs2
    obtain ⟨v, rfl, hr⟩ := hr
    exact ⟨v, rfl, leC_sound h hr⟩
  cases a <;> cases b <;> (try (exact absurd ⟨_, rfl, _, _, _, _, _, _, rfl⟩ hs)) <;> (try (exact absurd ⟨_, rfl, _, _, rfl⟩ hs2)) <;> simp only [leC, reduceCtorEq] at h <;> (try (exact hr)) <;>
    first
      | (obtain ⟨rfl, rfl, rfl⟩ := h; exact hr)
      | (obtain ⟨v, rfl, hr⟩ := hr; exact ⟨v, rfl, leC_sound (by simp only [leC]; exact h) hr⟩)
      | (obtain ⟨v, rfl, hr⟩ := hr; exact ⟨v, rfl, trivial⟩)
      | (cases h; exact hr)

theorem leCs_sound {β : List Nat} : ∀ {as bs : List Cel} {vs : List Value}, leCs as bs → CelsR β as vs → CelsR β bs vs
  | [], [], _, _, h => h
  | [], _ :: _, _, h, _ => h.elim
  | _ :: _, [], _, h, _ => h.elim
  | _a :: _as, _b :: _bs, _vs, ⟨h1, h2⟩, ⟨p, r, e, k1, k2⟩ => ⟨p, r, e, leC1_sound h1 k1, leCs_sound h2 k2⟩

theorem leA_sound {β : List Nat} {a b : Av} {v : Value} (h : leA a b) (hr : AvR β a v) : AvR β b v := by
  unfold leA at h
  split at h
  · trivial
  · exact leC_sound h hr
  · obtain ⟨arr, e, hr⟩ := hr; exact ⟨arr, e, leCs_sound h (regroup_sound hr)⟩
  · exact h.elim

theorem leAs_sound {β : List Nat} : ∀ {as bs : List Av} {vs : List Value}, leAs as bs → AvsR β as vs → AvsR β bs vs
  | [], [], _, _, h => h
  | [], _ :: _, _, h, _ => h.elim
  | _ :: _, [], _, h, _ => h.elim
  | _a :: _as, _b :: _bs, _vs, ⟨h1, h2⟩, ⟨v, r, e, k1, k2⟩ => ⟨v, r, e, leA_sound h1 k1, leAs_sound h2 k2⟩

theorem leL_sound {β : List Nat} {a b : LV} {v : Value} (h : leL a b) (hr : LVR β a v) : LVR β b v := by
  unfold leL at h
  split at h
  · trivial
  · exact leA_sound h hr
  · obtain ⟨arr, e, hr⟩ := hr; exact ⟨arr, e, leAs_sound h hr⟩
  · subst h; exact hr

theorem leT_sound {β : List Nat} : ∀ {as bs : List LV} {vs : List Value}, leT as bs → TmR β as vs → TmR β bs vs
  | [], [], _, _, h => h
  | [], _ :: _, _, h, _ => h.elim
  | _ :: _, [], _, h, _ => h.elim
  | _a :: _as, _b :: _bs, _vs, ⟨h1, h2⟩, ⟨v, r, e, k1, k2⟩ => ⟨v, r, e, leL_sound h1 k1, leT_sound h2 k2⟩

/-! ### Only the first m blocks are named -/

def inC (m : Nat) : Cel → Bool
  | .ptr id _ => decide (id < m)
  | .pti id _ _ _ _ => decide (id < m)
  | .slc id _ _ _ _ _ => decide (id < m)
  | .fn _ caps => caps.all fun id => decide (id < m)
  | .fnb _ id _ _ _ _ _ => decide (id < m)
  | .yld id => decide (id < m)
  | .mpr id => decide (id < m)
  | .sp _ id => decide (id < m)
  | .ifp _ id => decide (id < m)
  | _ => true
def inA (m : Nat) : Av → Bool
  | .c x => inC m x
  | .agg l => l.all (inC m)
def inL (m : Nat) : LV → Bool
  | .a x => inA m x
  | .tup l => l.all (inA m)
def inB (m : Nat) : Blk → Bool
  | .dead => true
  | .cells _ _ cs => cs.all (inC m)
  | .lp _ _ => true
  | .wnd _ _ _ _ => true
  | .mp _ _ _ _ => true
  | .nst _ _ _ _ _ _ => true
def inSt (st : St) : Bool := st.tmps.all (inL st.heap.length) && st.heap.all (inB st.heap.length)

/-! ### Blocks named otherwise -/

def rnC (f : Nat → Nat) : Cel → Cel
  | .ptr id o => .ptr (f id) o
  | .pti id b i s fo => .pti (f id) b i s fo
  | .slc id b i s l c => .slc (f id) b i s l c
  | .fn g caps => .fn g (caps.map f)
  | .fnb g id b i s l c => .fnb g (f id) b i s l c
  | .yld id => .yld (f id)
  | .mpr id => .mpr (f id)
  | .sp b id => .sp b (f id)
  | .ifp t id => .ifp t (f id)
  | c => c
def rnA (f : Nat → Nat) : Av → Av
  | .c x => .c (rnC f x)
  | .agg l => .agg (l.map (rnC f))
def rnL (f : Nat → Nat) : LV → LV
  | .a x => .a (rnA f x)
  | .tup l => .tup (l.map (rnA f))
def rnB (f : Nat → Nat) : Blk → Blk
  | .cells o t cs => .cells o t (cs.map (rnC f))
  | b => b

section
variable {β β' : List Nat} {M : Nat} {f : Nat → Nat} (hf : ∀ id, id < M → ∀ b, β[f id]? = some b → β'[id]? = some b)
include hf

theorem mapM_rn : ∀ {caps bs : List Nat}, (caps.all fun id => decide (id < M)) = true → (caps.map f).mapM (fun i => β[i]?) = some bs → caps.mapM (fun i => β'[i]?) = some bs
  | [], bs, _, h => by simpa using h
  | c :: cs, bs, hm, h => by
    simp only [List.all_cons, Bool.and_eq_true, decide_eq_true_eq] at hm
    simp only [List.map_cons, List.mapM_cons, Option.bind_eq_bind, Option.bind_eq_some_iff, Option.pure_def] at h ⊢
    obtain ⟨x, hx, y, hy, e⟩ := h
    exact ⟨x, hf _ hm.1 _ hx, y, mapM_rn hm.2 hy, e⟩

theorem SlcR.rn {id base : Nat} {i : Int} {stride : Nat} {len cap : Int} {v : Value} (h : SlcR β (f id) base i stride len cap v) (hm : id < M) : SlcR β' id base i stride len cap v := by
  obtain ⟨h1, h2, h3, ⟨b, h4, h5⟩ | h4⟩ := h
  · exact ⟨h1, h2, h3, .inl ⟨b, hf _ hm _ h4, h5⟩⟩
  · exact ⟨h1, h2, h3, .inr h4⟩

theorem CelR.rn {c : Cel} {v : Value} (h : CelR β (rnC f c) v) (hm : inC M c = true) : CelR β' c v := by
  cases c <;> simp only [CelR, inC, decide_eq_true_eq, rnC] at * <;>
    first
      | exact h
      | (obtain ⟨b, h1, h2⟩ := h; exact ⟨b, hf _ hm _ h1, h2⟩)
      | (obtain ⟨h1, h2, h3, ⟨b, h4, h5⟩ | h4⟩ := h; exact ⟨h1, h2, h3, .inl ⟨b, hf _ hm _ h4, h5⟩⟩; exact ⟨h1, h2, h3, .inr h4⟩)
      | (obtain ⟨bs, h1, h2⟩ := h; exact ⟨bs, mapM_rn hf hm h1, h2⟩)
      | (obtain ⟨x, h1, h2⟩ := h; exact ⟨x, SlcR.rn hf h1 hm, h2⟩)
      | (rcases h with h | ⟨b, h1, h2⟩; exact .inl h; exact .inr ⟨b, hf _ hm _ h1, h2⟩)

theorem Cel1.rn {c : Cel} {vs : List Value} (h : Cel1 β (rnC f c) vs) (hm : inC M c = true) : Cel1 β' c vs := by
  cases c <;> simp only [Cel1, rnC] at * <;>
    first
      | exact h
      | (obtain ⟨v, h1, h2⟩ := h; exact ⟨v, h1, CelR.rn hf (by simpa only [rnC] using h2) hm⟩)

theorem CelsR.rn : ∀ {cs : List Cel} {vs : List Value}, CelsR β (cs.map (rnC f)) vs → cs.all (inC M) = true → CelsR β' cs vs
  | [], _, h, _ => h
  | c :: cs, _, ⟨p, r, e, h1, h2⟩, hm => by
    simp only [List.all_cons, Bool.and_eq_true] at hm
    exact ⟨p, r, e, Cel1.rn hf h1 hm.1, CelsR.rn h2 hm.2⟩

theorem AvR.rn {a : Av} {v : Value} (h : AvR β (rnA f a) v) (hm : inA M a = true) : AvR β' a v := by
  cases a with
  | c x => exact CelR.rn hf h hm
  | agg l => obtain ⟨arr, e, h⟩ := h; exact ⟨arr, e, CelsR.rn hf h hm⟩

theorem AvsR.rn : ∀ {cs : List Av} {vs : List Value}, AvsR β (cs.map (rnA f)) vs → cs.all (inA M) = true → AvsR β' cs vs
  | [], _, h, _ => h
  | c :: cs, _, ⟨p, r, e, h1, h2⟩, hm => by
    simp only [List.all_cons, Bool.and_eq_true] at hm
    exact ⟨p, r, e, AvR.rn hf h1 hm.1, AvsR.rn h2 hm.2⟩

theorem LVR.rn {a : LV} {v : Value} (h : LVR β (rnL f a) v) (hm : inL M a = true) : LVR β' a v := by
  cases a with
  | a x => exact AvR.rn hf h hm
  | tup l => obtain ⟨arr, e, h⟩ := h; exact ⟨arr, e, AvsR.rn hf h hm⟩

theorem TmR.rn : ∀ {cs : List LV} {vs : List Value}, TmR β (cs.map (rnL f)) vs → cs.all (inL M) = true → TmR β' cs vs
  | [], _, h, _ => h
  | c :: cs, _, ⟨p, r, e, h1, h2⟩, hm => by
    simp only [List.all_cons, Bool.and_eq_true] at hm
    exact ⟨p, r, e, LVR.rn hf h1 hm.1, TmR.rn h2 hm.2⟩
end

/-- The first m blocks keep their names; those behind are in the state under the names of a list. -/
def rnF (m : Nat) (ρ : List Nat) (id : Nat) : Nat := if id < m then id else ρ.getD (id - m) 0

def ghostB : Blk → Prop
  | .dead => True
  | .cells _ _ [.run _ n l] => n = 0 ∧ l = []
  | _ => False

def leHr (f : Nat → Nat) (H : List Blk) : Nat → List Blk → Prop
  | _, [] => True
  | i, B :: r => (match B with
    | .dead => True
    | .lp s pe => if f i = i then leB (getB H i) (.lp s pe) else False
    | .wnd o ks n l => if f i = i then leB (getB H i) (.wnd o ks n l) else False
    | .mp o ks ve L => if f i < H.length then leB (getB H (f i)) (.mp o ks ve L) else False
    | .nst w t o ks s L => if f i < H.length then leB (getB H (f i)) (.nst w t o ks s L) else False
    | .cells o t cs => if f i < H.length then leB (getB H (f i)) (.cells o t (cs.map (rnC f))) else ghostB (.cells o t cs)) ∧ leHr f H (i + 1) r

def isDead : Blk → Bool
  | .dead => true
  | _ => false

def okR (m : Nat) (ρ : List Nat) (H J : List Blk) : Bool := ρ.all fun k => decide (H.length ≤ k) || ((decide (m ≤ k) || isDead (getB J k)) && decide (ρ.count k = 1))

theorem getB_get : ∀ {H : List Blk} {i : Nat}, i < H.length → H[i]? = some (getB H i)
  | [], _, h => by simp at h
  | x :: xs, 0, _ => rfl
  | x :: xs, n + 1, h => by simpa [getB] using getB_get (H := xs) (i := n) (by simpa using h)

theorem leHr_get {f : Nat → Nat} {H : List Blk} : ∀ {J : List Blk} {i j : Nat} {B : Blk}, leHr f H i J → J[j]? = some B →
    match B with
    | .dead => True
    | .lp s pe => f (i + j) = i + j ∧ leB (getB H (i + j)) (.lp s pe)
    | .wnd o ks n l => f (i + j) = i + j ∧ leB (getB H (i + j)) (.wnd o ks n l)
    | .mp o ks ve L => f (i + j) < H.length ∧ leB (getB H (f (i + j))) (.mp o ks ve L)
    | .nst w t o ks s L => f (i + j) < H.length ∧ leB (getB H (f (i + j))) (.nst w t o ks s L)
    | .cells o t cs => (f (i + j) < H.length ∧ leB (getB H (f (i + j))) (.cells o t (cs.map (rnC f)))) ∨ (¬ f (i + j) < H.length ∧ ghostB (.cells o t cs))
  | [], _, _, _, _, h => by simp at h
  | C :: J, i, 0, B, ⟨h1, _⟩, h => by
    simp only [List.getElem?_cons_zero, Option.some.injEq] at h
    subst h
    cases C with
    | dead => trivial
    | lp s pe =>
      simp only at h1 ⊢
      split at h1
      · rename_i e; exact ⟨e, h1⟩
      · exact h1.elim
    | wnd o ks n l =>
      simp only at h1 ⊢
      split at h1
      · rename_i e; exact ⟨e, h1⟩
      · exact h1.elim
    | mp o ks ve L =>
      simp only at h1 ⊢
      split at h1
      · rename_i e; exact ⟨e, h1⟩
      · exact h1.elim
    | nst w t o ks s L =>
      simp only at h1 ⊢
      split at h1
      · rename_i e; exact ⟨e, h1⟩
      · exact h1.elim
    | cells o t cs =>
      simp only at h1 ⊢
      split at h1
      · rename_i e; exact .inl ⟨e, h1⟩
      · rename_i e; exact .inr ⟨e, h1⟩
  | C :: J, i, j + 1, B, ⟨_, h2⟩, h => by
    simp only [List.getElem?_cons_succ] at h
    have := leHr_get h2 h
    rw [show i + 1 + j = i + (j + 1) by omega] at this
    exact this

theorem count_one {ρ : List Nat} {i j k : Nat} (hc : ρ.count k = 1) (hi : ρ[i]? = some k) (hj : ρ[j]? = some k) : i = j := by
  induction ρ generalizing i j with
  | nil => simp at hi
  | cons x xs ih =>
    rw [List.count_cons] at hc
    cases i with
    | zero =>
      simp only [List.getElem?_cons_zero, Option.some.injEq] at hi
      subst hi
      simp only [beq_self_eq_true, if_true] at hc
      cases j with
      | zero => rfl
      | succ j =>
        simp only [List.getElem?_cons_succ] at hj
        have : 0 < xs.count x := List.count_pos_iff.2 (List.mem_of_getElem? hj)
        omega
    | succ i =>
      simp only [List.getElem?_cons_succ] at hi
      cases j with
      | zero =>
        simp only [List.getElem?_cons_zero, Option.some.injEq] at hj
        subst hj
        simp only [beq_self_eq_true, if_true] at hc
        have : 0 < xs.count x := List.count_pos_iff.2 (List.mem_of_getElem? hi)
        omega
      | succ j =>
        simp only [List.getElem?_cons_succ] at hj
        have h1 : 0 < xs.count k := List.count_pos_iff.2 (List.mem_of_getElem? hi)
        have := ih (by split at hc <;> omega) hi hj
        omega

/-- What a block says, said in other words. -/
theorem nil_leB {A B : Blk} (h : leB A B) (hn : A.nil) : B.nil := by
  cases B with
  | dead => trivial
  | lp s pe => cases A <;> first | exact h.elim | exact hn.elim
  | wnd o ks n l => cases A <;> first | exact h.elim | (obtain ⟨_, _, rfl, _⟩ := h; exact hn)
  | mp o ks ve L => cases A <;> first | exact h.elim | exact hn.elim
  | nst w t o ks s L => cases A <;> first | exact h.elim | (obtain ⟨_, _, _, _, _, rfl⟩ := h; exact hn)
  | cells o t cs =>
    cases A with
    | dead => exact h.elim
    | lp s pe => exact h.elim
    | wnd _ _ _ _ => exact h.elim
    | mp _ _ _ _ => exact h.elim
    | nst _ _ _ _ _ _ => exact h.elim
    | cells o' t' cs' =>
      obtain ⟨_, _, hc⟩ := h
      have : ∀ (as bs : List Cel), leCs as bs → width as = 0 → width bs = 0 := by
        intro as
        induction as with
        | nil => intro bs h _; cases bs with | nil => rfl | cons b bs => exact h.elim
        | cons a as ih =>
          intro bs h hw
          cases bs with
          | nil => exact h.elim
          | cons b bs =>
            obtain ⟨h1, h2⟩ := h
            simp only [width] at hw ⊢
            have e1 : b.w = a.w := by
              cases a <;> cases b <;> simp only [leC, Cel.w, reduceCtorEq] at * <;>
                first
                  | rfl
                  | exact h1.elim
                  | (obtain ⟨_, rfl, _⟩ := h1; rfl)
                  | (injection h1 with _ h1 _; exact h1.symm)
            rw [e1, ih bs h2 (by omega)]; omega
      exact this _ _ hc (regroup_width.trans hn)

theorem width_rn (f : Nat → Nat) : ∀ cs : List Cel, width (cs.map (rnC f)) = width cs
  | [] => rfl
  | c :: cs => by
    simp only [List.map_cons, width, width_rn f cs]
    congr 1
    cases c <;> rfl

/-- A state may be forgotten in part, and its blocks be named otherwise. -/
theorem weakenR {n0 : Nat} {w0 : Base} {w : World} {β : List Nat} {st st' : St} {a : Act} {m : Nat} {ρ : List Nat} (hm : m ≤ st.heap.length) (hl : st'.heap.length = m + ρ.length)
    (hT : leT st.tmps (st'.tmps.map (rnL (rnF m ρ)))) (hHp : leHr (rnF m ρ) st.heap 0 st'.heap) (hok : okR m ρ st.heap st'.heap = true) (hin : inSt st' = true)
    (hH : HR n0 w0 β st.heap w) (hM : TmR β st.tmps a.tmps.toList) :
    HR n0 w0 (β.take m ++ ρ.map fun k => β.getD k 0) st'.heap w ∧ TmR (β.take m ++ ρ.map fun k => β.getD k 0) st'.tmps a.tmps.toList := by
  unfold inSt at hin
  rw [Bool.and_eq_true] at hin
  have hlt : (β.take m).length = m := by rw [List.length_take, hH.len]; omega
  have fge : ∀ id, m ≤ id → id < st'.heap.length → ∃ k, ρ[id - m]? = some k ∧ rnF m ρ id = k ∧ (β.take m ++ ρ.map fun k => β.getD k 0)[id]? = some (β.getD k 0) := by
    intro id h1 h2
    have h3 : id - m < ρ.length := by omega
    have h4 : ρ[id - m]? = some ρ[id - m] := List.getElem?_eq_getElem h3
    refine ⟨_, h4, ?_, ?_⟩
    · unfold rnF; rw [if_neg (by omega), List.getD_eq_getElem?_getD, h4]; rfl
    · rw [List.getElem?_append_right (by omega), hlt, List.getElem?_map, h4]; rfl
  have flt : ∀ id, id < m → rnF m ρ id = id ∧ (β.take m ++ ρ.map fun k => β.getD k 0)[id]? = β[id]? := by
    intro id h1
    refine ⟨by unfold rnF; rw [if_pos h1], ?_⟩
    rw [List.getElem?_append_left (by omega), List.getElem?_take_of_lt h1]
  have hf : ∀ id, id < st'.heap.length → ∀ b, β[rnF m ρ id]? = some b → (β.take m ++ ρ.map fun k => β.getD k 0)[id]? = some b := by
    intro id h1 b hb
    by_cases h2 : id < m
    · obtain ⟨e1, e2⟩ := flt id h2
      rw [e1] at hb; rw [e2]; exact hb
    · obtain ⟨k, e1, e2, e3⟩ := fge id (by omega) h1
      rw [e2] at hb; rw [e3, List.getD_eq_getElem?_getD, hb]; rfl
  -- the address of a block that says something
  have addr : ∀ {i c : Nat} {B : Blk}, st'.heap[i]? = some B → (β.take m ++ ρ.map fun k => β.getD k 0)[i]? = some c → ¬ B.nil → rnF m ρ i < st.heap.length ∧ β[rnF m ρ i]? = some c ∧ leB (getB st.heap (rnF m ρ i)) (rnB (rnF m ρ) B) := by
    intro i c B hB hc hn
    have hi : i < st'.heap.length := (List.getElem?_eq_some_iff.1 hB).1
    have hg := leHr_get hHp hB
    have fin : rnF m ρ i < st.heap.length → β[rnF m ρ i]? = some c := by
      intro h1
      have h2 : rnF m ρ i < β.length := by rw [hH.len]; exact h1
      have := hf i hi _ (List.getElem?_eq_getElem h2)
      rw [hc] at this
      simp only [Option.some.injEq] at this
      rw [List.getElem?_eq_getElem h2, this]
    cases B with
    | dead => exact absurd trivial hn
    | lp s pe =>
      simp only [Nat.zero_add] at hg
      obtain ⟨g1, g2⟩ := hg
      have h1 : rnF m ρ i < st.heap.length := by
        by_cases h2 : i < m
        · rw [(flt i h2).1]; omega
        · rw [g1]
          by_cases h3 : i < st.heap.length
          · exact h3
          · exfalso
            have : getB st.heap i = .dead := by
              have : ∀ (H : List Blk) (i : Nat), ¬ i < H.length → getB H i = .dead := by
                intro H
                induction H with
                | nil => intro i _; rfl
                | cons x xs ih => intro i h; cases i with | zero => simp at h | succ i => exact ih i (by simpa using h)
              exact this _ _ h3
            rw [this] at g2
            exact g2.elim
      exact ⟨h1, fin h1, by rw [g1]; exact g2⟩
    | wnd o ks n l =>
      simp only [Nat.zero_add] at hg
      obtain ⟨g1, g2⟩ := hg
      have h1 : rnF m ρ i < st.heap.length := by
        by_cases h2 : i < m
        · rw [(flt i h2).1]; omega
        · rw [g1]
          by_cases h3 : i < st.heap.length
          · exact h3
          · exfalso
            have : getB st.heap i = .dead := by
              have : ∀ (H : List Blk) (i : Nat), ¬ i < H.length → getB H i = .dead := by
                intro H
                induction H with
                | nil => intro i _; rfl
                | cons x xs ih => intro i h; cases i with | zero => simp at h | succ i => exact ih i (by simpa using h)
              exact this _ _ h3
            rw [this] at g2
            exact g2.elim
      exact ⟨h1, fin h1, by rw [g1]; exact g2⟩
    | mp o ks ve L =>
      simp only [Nat.zero_add] at hg
      exact ⟨hg.1, fin hg.1, hg.2⟩
    | nst w t o ks s L =>
      simp only [Nat.zero_add] at hg
      exact ⟨hg.1, fin hg.1, hg.2⟩
    | cells o t cs =>
      simp only [Nat.zero_add] at hg
      rcases hg with ⟨g1, g2⟩ | ⟨g1, g2⟩
      · exact ⟨g1, fin g1, g2⟩
      · exfalso
        apply hn
        show width cs = 0
        unfold ghostB at g2
        split at g2
        · rename_i h; cases h
        · rename_i h; cases h
          obtain ⟨rfl, _⟩ := g2; rfl
        · exact g2.elim
  have inj : ∀ {i j : Nat} {B C : Blk}, st'.heap[i]? = some B → st'.heap[j]? = some C → rnF m ρ i < st.heap.length → rnF m ρ i = rnF m ρ j → i ≠ j → B = .dead ∨ C = .dead := by
    intro i j B C hB hC h1 h2 hne
    have hi : i < st'.heap.length := (List.getElem?_eq_some_iff.1 hB).1
    have hj : j < st'.heap.length := (List.getElem?_eq_some_iff.1 hC).1
    have okk : ∀ k ∈ ρ, k < st.heap.length → (m ≤ k ∨ getB st'.heap k = .dead) ∧ ρ.count k = 1 := by
      intro k hk hlt
      have := List.all_eq_true.1 hok k hk
      simp only [Bool.or_eq_true, Bool.and_eq_true, decide_eq_true_eq] at this
      rcases this with h | ⟨h | h, h'⟩
      · omega
      · exact ⟨.inl h, h'⟩
      · refine ⟨.inr ?_, h'⟩
        unfold isDead at h
        split at h
        · assumption
        · cases h
    have dead : ∀ {k : Nat} {E : Blk}, st'.heap[k]? = some E → getB st'.heap k = .dead → E = .dead := by
      intro k E hE hd
      have := getB_get (H := st'.heap) (i := k) (List.getElem?_eq_some_iff.1 hE).1
      rw [hE, hd] at this
      simpa using this
    by_cases ci : i < m <;> by_cases cj : j < m
    · rw [(flt i ci).1, (flt j cj).1] at h2; exact absurd h2 hne
    · obtain ⟨k, e1, e2, _⟩ := fge j (by omega) hj
      rw [(flt i ci).1, e2] at h2
      subst h2
      rcases (okk i (List.mem_of_getElem? e1) (by omega)).1 with h | h
      · omega
      · exact .inl (dead hB h)
    · obtain ⟨k, e1, e2, _⟩ := fge i (by omega) hi
      rw [(flt j cj).1, e2] at h2
      subst h2
      rw [e2] at h1
      rcases (okk k (List.mem_of_getElem? e1) h1).1 with h | h
      · omega
      · exact .inr (dead hC h)
    · obtain ⟨k, e1, e2, _⟩ := fge i (by omega) hi
      obtain ⟨k', e1', e2', _⟩ := fge j (by omega) hj
      rw [e2, e2'] at h2
      subst h2
      rw [e2] at h1
      have := count_one (okk k (List.mem_of_getElem? e1) h1).2 e1 e1'
      omega
  have rnil : ∀ {B : Blk}, (rnB (rnF m ρ) B).nil ↔ B.nil := by
    intro B
    cases B with
    | dead => exact Iff.rfl
    | lp s pe => exact Iff.rfl
    | wnd _ _ _ _ => exact Iff.rfl
    | mp _ _ _ _ => exact Iff.rfl
    | nst _ _ _ _ _ _ => exact Iff.rfl
    | cells o t cs => show width (cs.map _) = 0 ↔ width cs = 0; rw [width_rn]
  have rown : ∀ {A B : Blk}, leB A (rnB (rnF m ρ) B) → B.own = true → ¬ B.nil → A.own = true ∧ ¬ A.nil := by
    intro A B h ho hn
    refine ⟨?_, fun h' => hn (rnil.1 (nil_leB h h'))⟩
    cases B with
    | dead => simp [Blk.own] at ho
    | lp s pe => cases A <;> first | exact h.elim | rfl
    | wnd _ _ _ _ => simp [Blk.own] at ho
    | mp o ks ve L =>
      cases A with
      | mp o' ks' ve' L' => obtain ⟨rfl, _⟩ := h; exact ho
      | _ => exact h.elim
    | nst w t o ks s L =>
      cases A with
      | nst w' t' o' ks' s' L' => obtain ⟨rfl, _⟩ := h; exact ho
      | _ => exact h.elim
    | cells o t cs =>
      cases A with
      | dead => exact h.elim
      | lp s pe => exact h.elim
      | wnd _ _ _ _ => exact h.elim
      | mp _ _ _ _ => exact h.elim
      | nst _ _ _ _ _ _ => exact h.elim
      | cells o' t' cs' => obtain ⟨rfl, _⟩ := h; exact ho
  refine ⟨⟨hH.base, by rw [List.length_append, hlt, List.length_map, hl], ?_, hH.niStep (fun i b B x hB hb hx => ?_) (fun j c C hC ho hn hc => ?_), hH.ms, hH.st, hH.ext, ?_⟩, TmR.rn hf (leT_sound hT hM) hin.1⟩
  rotate_left
  · obtain ⟨a1, a2, a3⟩ := addr hB hb (Blk.inn_nil hx)
    refine ⟨_, _, getB_get a1, a2, ?_⟩
    cases B with
    | nst w t o ks s L =>
      cases hAe : getB st.heap (rnF m ρ i) with
      | nst w' t' o' ks' s' L' =>
        rw [hAe] at a3
        obtain ⟨_, _, rfl, _, rfl, rfl⟩ := a3
        exact hx
      | _ => rw [hAe] at a3; exact a3.elim
    | _ => exact hx.elim
  · obtain ⟨a1, a2, a3⟩ := addr hC hc hn
    obtain ⟨r1, r2⟩ := rown a3 ho hn
    exact .inr ⟨_, _, getB_get a1, r1, r2, a2⟩
  rotate_left
  · intro i j c B C hB ho hn hb hb' hne hC
    by_cases hcn : C.nil
    · exact hcn
    obtain ⟨a1, a2, a3⟩ := addr hB hb hn
    obtain ⟨b1, b2, b3⟩ := addr hC hb' hcn
    by_cases hij : rnF m ρ i = rnF m ρ j
    · rcases inj hB hC a1 hij (fun e => hne e.symm) with h | h
      · subst h; exact absurd trivial hn
      · subst h; trivial
    · obtain ⟨r1, r2⟩ := rown a3 ho hn
      have := hH.nd _ _ c _ _ (getB_get a1) r1 r2 a2 b2 (fun e => hij e.symm) (getB_get b1)
      exact rnil.1 (nil_leB b3 this)
  · intro i B c hB hc
    have hinB := List.all_eq_true.1 hin.2 _ (List.mem_of_getElem? hB)
    by_cases hn : B.nil
    · -- it says nothing
      cases B with
      | dead => trivial
      | lp s pe => exact hn.elim
      | mp o ks ve L => exact hn.elim
      | nst w t o ks s L =>
        have hn : L.length = 0 := hn
        exact ⟨fun h => by omega, fun j e hj => by have := (List.getElem?_eq_some_iff.1 hj).1; omega⟩
      | wnd o ks n l =>
        have hg := leHr_get hHp hB
        simp only [Nat.zero_add] at hg
        have hn : n = 0 := hn
        subst hn
        obtain ⟨g1, g2⟩ := hg
        cases hAe : getB st.heap i with
        | nst _ _ _ _ _ _ => rw [hAe] at g2; exact g2.elim
        | dead => rw [hAe] at g2; exact g2.elim
        | lp s pe => rw [hAe] at g2; exact g2.elim
        | cells _ _ _ => rw [hAe] at g2; exact g2.elim
        | mp _ _ _ _ => rw [hAe] at g2; exact g2.elim
        | wnd o' ks' n' l' =>
          rw [hAe] at g2
          obtain ⟨_, _, rfl, rfl⟩ := g2
          obtain ⟨_, _, h3, _⟩ := hH.getW hAe
          exact ⟨h3, fun j hj => by omega⟩
      | cells o t cs =>
        have hg := leHr_get hHp hB
        simp only [Nat.zero_add] at hg
        rcases hg with ⟨g1, g2⟩ | ⟨g1, g2⟩
        · have hA := getB_get g1
          have h2 : rnF m ρ i < β.length := by rw [hH.len]; exact g1
          have hblk := hH.blk _ _ _ hA (List.getElem?_eq_getElem h2)
          cases hAe : getB st.heap (rnF m ρ i) with
          | nst _ _ _ _ _ _ => rw [hAe] at g2; exact g2.elim
          | dead => rw [hAe] at g2; exact g2.elim
          | lp s pe => rw [hAe] at g2; exact g2.elim
          | wnd _ _ _ _ => rw [hAe] at g2; exact g2.elim
          | mp _ _ _ _ => rw [hAe] at g2; exact g2.elim
          | cells o' t' cs' =>
            rw [hAe] at g2 hblk
            obtain ⟨rfl, rfl, hcl⟩ := g2
            obtain ⟨arr, k1, k2⟩ := hblk
            have k3 := CelsR.rn hf (leCs_sound hcl (regroup_sound k1)) hinB
            refine ⟨arr, k3, fun hz => ?_⟩
            have := k3.len
            have hn : width cs = 0 := hn
            simp at this; omega
        · unfold ghostB at g2
          split at g2
          · rename_i h; cases h
          · rename_i h; cases h
            obtain ⟨rfl, rfl⟩ := g2
            exact ⟨#[], ⟨[], [], rfl, ⟨rfl, rfl⟩, rfl⟩, fun h => by simp at h⟩
          · exact g2.elim
    · obtain ⟨a1, a2, a3⟩ := addr hB hc hn
      have hblk := hH.blk _ _ c (getB_get a1) a2
      cases B with
      | dead => trivial
      | lp s pe =>
        have hg := leHr_get hHp hB
        simp only [Nat.zero_add] at hg
        rw [hg.1] at hblk
        cases hAe : getB st.heap i with
        | nst _ _ _ _ _ _ => rw [hAe] at hg; exact hg.2.elim
        | dead => rw [hAe] at hg; exact hg.2.elim
        | cells _ _ _ => rw [hAe] at hg; exact hg.2.elim
        | wnd _ _ _ _ => rw [hAe] at hg; exact hg.2.elim
        | mp _ _ _ _ => rw [hAe] at hg; exact hg.2.elim
        | lp s' pe' =>
          rw [hAe] at hg hblk
          obtain ⟨_, rfl, rfl⟩ := hg
          exact hblk
      | wnd o ks n l =>
        have hg := leHr_get hHp hB
        simp only [Nat.zero_add] at hg
        rw [hg.1] at hblk
        cases hAe : getB st.heap i with
        | nst _ _ _ _ _ _ => rw [hAe] at hg; exact hg.2.elim
        | dead => rw [hAe] at hg; exact hg.2.elim
        | cells _ _ _ => rw [hAe] at hg; exact hg.2.elim
        | lp _ _ => rw [hAe] at hg; exact hg.2.elim
        | mp _ _ _ _ => rw [hAe] at hg; exact hg.2.elim
        | wnd o' ks' n' l' =>
          rw [hAe] at hg hblk
          obtain ⟨_, rfl, rfl, rfl, rfl⟩ := hg
          exact hblk
      | mp o ks ve L =>
        cases hAe : getB st.heap (rnF m ρ i) with
        | mp o' ks' ve' L' =>
          rw [hAe] at a3 hblk
          obtain ⟨rfl, rfl, rfl, rfl⟩ := a3
          exact hblk
        | _ => rw [hAe] at a3; exact a3.elim
      | nst w t o ks s L =>
        cases hAe : getB st.heap (rnF m ρ i) with
        | nst w' t' o' ks' s' L' =>
          rw [hAe] at a3 hblk
          obtain ⟨rfl, rfl, rfl, rfl, rfl, rfl⟩ := a3
          exact hblk
        | _ => rw [hAe] at a3; exact a3.elim
      | cells o t cs =>
        cases hAe : getB st.heap (rnF m ρ i) with
        | nst _ _ _ _ _ _ => rw [hAe] at a3; exact a3.elim
        | dead => rw [hAe] at a3; exact a3.elim
        | lp s pe => rw [hAe] at a3; exact a3.elim
        | wnd _ _ _ _ => rw [hAe] at a3; exact a3.elim
        | mp _ _ _ _ => rw [hAe] at a3; exact a3.elim
        | cells o' t' cs' =>
          rw [hAe] at a3 hblk
          obtain ⟨rfl, rfl, hcl⟩ := a3
          obtain ⟨arr, k1, k2⟩ := hblk
          exact ⟨arr, CelsR.rn hf (leCs_sound hcl (regroup_sound k1)) hinB, k2⟩



inductive Ex where
  | normal
  | exit (id : Nat)
  | ret
  | panic (x : LV)

/-- What is asked at an end. -/
def Ex.ok (Q : Exit → Act → World → Prop) (β : List Nat) : Ex → Act → World → Prop
  | .normal, a, w => Q .normal a w
  | .exit id, a, w => Q (.exit id) a w
  | .ret, a, w => Q .ret a w
  | .panic x, a, w => ∀ v, LVR β x v → Q (.panic [{ v, recovered := false }]) a w

theorem stepR_scope' {P : Program} {b : Frame} {a : Act} {k : List Item} {cs : List Frame} {w : World} {c : Code} : step P (lone (b.atR a (.code (.scope c) :: k)) cs w) = .next (lone (b.atR a (.code c :: .inScope c :: k)) cs w) :=
  step_lone_go (by simp [stepG, stepG.exec, Frame.atR])
theorem stepR_inScope' {P : Program} {b : Frame} {a : Act} {k : List Item} {cs : List Frame} {w : World} {c : Code} : step P (lone (b.atR a (.inScope c :: k)) cs w) = .next (lone (b.atR a k) cs w) :=
  step_lone_go (by simp [stepG, stepG.exec, Frame.atR])
/-- A scope through which the run goes without a goto. -/
theorem wpIn_scope_straight {F : Fence} {n : Nat} {P : Program} {Q : Exit → Act → World → Prop} {a : Act} {w : World} {c : Code} (h : c.wpIn F n P (Exit.noGoto Q) a w) : (Code.scope c).wpIn F n P Q a w := by
  intro b k cs hro hb hr
  have h0 : (lone (b.atR a (.code (.scope c) :: k)) cs w).fenced P F := fenced_calm hb hr rfl
  obtain ⟨e, a₁, w₁, hq, harr⟩ := h b (.inScope c :: k) cs hro hb hr
  cases e with
  | normal => exact ⟨.normal, a₁, w₁, hq, .head h0 stepR_scope' (StepsIn.trans harr (.one (fenced_calm hb hr rfl) stepR_inScope'))⟩
  | exit id =>
    have hx : exitTo id (.inScope c :: k) = exitTo id k := by simp [exitTo]
    exact ⟨.exit id, a₁, w₁, hq, fun k' hk => .head h0 stepR_scope' (harr.1 k' (by rw [hx]; exact hk)),
      fun hr' hk => let ⟨k₁, h1, h2⟩ := harr.2 hr' (by rw [hx]; exact hk); ⟨k₁, h1, .head h0 stepR_scope' h2⟩⟩
  | goto l => exact hq.elim
  | ret => exact ⟨_, a₁, w₁, hq, .of_steps (.one h0 stepR_scope') harr⟩
  | panic ch => exact ⟨_, a₁, w₁, hq, .of_steps (.one h0 stepR_scope') harr⟩
  | outgrown => exact ⟨_, a₁, w₁, hq, .of_steps (.one h0 stepR_scope') harr⟩

/-- A region that ends in a panic. -/
def lastP (ops : Array Oper) : Option (List Oper × Oper × Operand) := match ops.toList.reverse with
  | o :: r => match o.guard, o.op with
    | none, .panic x => some (r.reverse, o, x)
    | _, _ => none
  | [] => none

theorem lastP_sound {ops : Array Oper} {pre : List Oper} {o : Oper} {x : Operand} (h : lastP ops = some (pre, o, x)) : ops.toList = pre ++ [o] ∧ o.guard = none ∧ o.op = .panic x := by
  unfold lastP at h
  split at h
  · rename_i o' r hr
    split at h
    · rename_i x' hg ho
      simp only [Option.some.injEq, Prod.mk.injEq] at h
      obtain ⟨rfl, rfl, rfl⟩ := h
      refine ⟨?_, hg, ho⟩
      have := congrArg List.reverse hr
      simpa using this
    · simp at h
  · simp at h

/-- Interface values that a panic takes. -/
def isIf : LV → Bool
  | .a (.c (.ifi _ _ _)) => true
  | .a (.c (.ifr _ _ _)) => true
  | .a (.c (.val (.iface _ _))) => true
  | _ => false

theorem isIf_sound {β : List Nat} {x : LV} {v : Value} (h : isIf x = true) (hx : LVR β x v) : ∃ t y, v = .iface t y := by
  unfold isIf at h
  split at h
  · exact ⟨_, _, hx⟩
  · exact ⟨_, _, hx.2⟩
  · exact ⟨_, _, hx⟩
  · cases h

/-- What is told of a loop: a family of states at its head. Blocks may be laid behind those that there are ('frs'); 'mv' tells, in a state that comes to the head, under which names they lie there. -/
structure LAnn where
  ι : Type
  inv : St → ι → Prop
  slots : St → ι → List (Nat × LV)
  blks : St → ι → List (Nat × List Cel)
  μ : St → ι → Nat
  kills : List Nat := []
  frs : St → ι → List Blk := fun _ _ => []
  mv : St → List Nat := fun _ => []

inductive LM where
  | unroll (n : Nat)
  | inv (a : LAnn)
  /-- A region of which all orders are run. -/
  | all
  /-- The same, and its ends are told as one. -/
  | allj (a : LAnn)

def firstR : Code → Nat
  | .region id _ _ => id
  | .seq a _ => firstR a
  | .block _ b => firstR b
  | .loop b => firstR b
  | .scope b => firstR b
  | _ => 0

def dstsO : List Oper → List Nat
  | [] => []
  | o :: r => match o.dst with
    | some d => d :: dstsO r
    | none => dstsO r

def dstsC : Code → List Nat
  | .region _ ops _ => dstsO ops.toList
  | .seq a b => dstsC a ++ dstsC b
  | .cond _ a b => dstsC a ++ dstsC b
  | .block _ b => dstsC b
  | .loop b => dstsC b
  | .scope b => dstsC b
  | .rangeFunc _ _ a b => dstsC a ++ dstsC b
  | _ => []

def havoc : List LV → List Nat → List LV
  | ts, [] => ts
  | ts, d :: ds => havoc (setL ts d (.a (.c .any))) ds

def setSl : List LV → List (Nat × LV) → List LV
  | ts, [] => ts
  | ts, (d, v) :: r => setSl (setL ts d v) r

def setCs : List Blk → Nat → List Cel → List Blk
  | [], _, _ => []
  | .cells o t _ :: r, 0, cs => .cells o t cs :: r
  | x :: r, 0, _ => x :: r
  | x :: r, n + 1, cs => x :: setCs r n cs

def setBs : List Blk → List (Nat × List Cel) → List Blk
  | H, [] => H
  | H, (i, cs) :: r => setBs (setCs H i cs) r

theorem setCs_len : ∀ (H : List Blk) (i : Nat) (cs : List Cel), (setCs H i cs).length = H.length
  | [], _, _ => rfl
  | .cells _ _ _ :: r, 0, _ => rfl
  | .dead :: r, 0, _ => rfl
  | .lp _ _ :: r, 0, _ => rfl
  | .wnd _ _ _ _ :: r, 0, _ => rfl
  | .mp _ _ _ _ :: r, 0, _ => rfl
  | .nst _ _ _ _ _ _ :: r, 0, _ => rfl
  | x :: r, n + 1, cs => by simp [setCs, setCs_len r n cs]

theorem setBs_len : ∀ (l : List (Nat × List Cel)) (H : List Blk), (setBs H l).length = H.length
  | [], _ => rfl
  | (i, cs) :: r, H => by rw [setBs, setBs_len r, setCs_len]

def killBs : List Blk → List Nat → List Blk
  | H, [] => H
  | H, i :: r => killBs (H.set i .dead) r

/-- The block to which a slot's slice belongs: for annotations. -/
def slotB (st : St) (t : Nat) : Nat := match getL st.tmps t with
  | .a (.c (.slc id _ _ _ _ _)) => id
  | .a (.c (.ptr id _)) => id
  | _ => 9999

/-- The block to which the slice in a cell belongs: for annotations. -/
def cellB (st : St) (id off : Nat) : Nat := match getB st.heap id with
  | .cells _ _ cs => match cellAt cs off with
    | some (.slc id _ _ _ _ _) => id
    | some (.ptr id _) => id
    | _ => 9999
  | _ => 9999

/-- What a slot holds: for annotations. -/
def slotI (st : St) (t : Nat) : Int := match getL st.tmps t with
  | .a (.c (.int _ y)) => y
  | .a (.c (.lit _ y)) => y
  | _ => 0

def LAnn.J (a : LAnn) (ds : List Nat) (st : St) (x : a.ι) : St := ⟨setSl (havoc st.tmps ds) (a.slots st x), killBs (setBs st.heap (a.blks st x)) a.kills ++ a.frs st x⟩

/-- One state is told by another one, at a loop's head. -/
def leSt (st J : St) (m : Nat) (ρ : List Nat) : Prop :=
  if (okR m ρ st.heap J.heap && decide (J.heap.length = m + ρ.length)) = true then leT st.tmps (J.tmps.map (rnL (rnF m ρ))) ∧ leHr (rnF m ρ) st.heap 0 J.heap else Stuck "names"

def unrollN (f : St → (Ex → St → Prop) → Prop) : Nat → St → (Ex → St → Prop) → Prop
  | 0, _, _ => Stuck "unroll"
  | n + 1, st, K => f st fun e st' => match e with
    | .normal => unrollN f n st' K
    | e => K e st'

def lpOf : List Blk → Nat → Option (LoopState × Option Code)
  | H, id => match getB H id with
    | .lp s pe => some (s, pe)
    | _ => none

def setLp (H : List Blk) (id : Nat) (s : LoopState) (pe : Option Code) : List Blk := H.set id (.lp s pe)

def Ex.code : Ex → Code
  | .normal => .skip
  | .exit id => .exit id
  | .ret => .ret
  | .panic _ => .skip

def exOf : Code → Option Ex
  | .exit id => some (.exit id)
  | .ret => some .ret
  | _ => none

def isReady : Option (LoopState × Option Code) → Bool
  | some (.ready, none) => true
  | _ => false

def isBusy : Option (LoopState × Option Code) → Bool
  | some (.busy, none) => true
  | _ => false

/-- Slots that take values. -/
def putLs : List LV → List Tmp → List LV → Option (List LV)
  | ts, [], [] => some ts
  | ts, t :: r, v :: vs => putLs (setL ts t v) r vs
  | _, _, _ => none

/-! ### A region's last operation, that waits for all others -/
section
variable {P : Program} {rd : Option Nat} {n : Nat}

theorem Oper.wpIn_monoQ {F : Fence} {o : Oper} {a : Act} {w : World} {K K' : Act → World → Prop} {Q Q' : Exit → Act → World → Prop} (h : ∀ a w, K a w → K' a w) (hQ : ∀ c a w, Q (.panic c) a w → Q' (.panic c) a w) (hO : LetsOut Q → LetsOut Q')
    (hh : o.wpIn F n P a w K Q) : o.wpIn F n P a w K' Q' := by
  unfold Oper.wpIn at *
  refine ⟨hh.1, ?_⟩
  have hh := hh.2
  generalize (o.semAt F.round a.eval).run P w = r at *
  cases r with
  | ok x w' =>
    cases x <;> simp only [Oper.uponIn] at hh ⊢ <;>
      first
        | exact h _ _ hh
        | exact ⟨hh.1, CallsIn.mono hh.2 (fun e w'' he => by cases e <;> first | exact h _ _ he | exact hQ _ _ _ he | exact hO he)⟩
        | exact ⟨hh.1, RowsIn.mono hh.2 (fun _ _ he => h _ _ he)⟩
        | exact ⟨hh.1, RoundIn.mono hh.2 (fun e w'' he => by cases e <;> first | exact h _ _ he | exact hQ _ _ _ he | exact hO he)⟩
        | exact hh
  | halt x w' => cases x <;> simp only [Oper.uponIn] at hh ⊢ <;> first | exact hh | exact hQ _ _ _ hh

theorem wpAnyIn_monoQ {F : Fence} {md : Region.Mode} {ops : Array Oper} {Q : Exit → Act → World → Prop} : ∀ {f : Nat} {l : Array Bool} {a : Act} {w : World}, wpAnyIn F n P md ops (fun e a w => match e with | .panic _ => False | e => Q e a w) f l a w → wpAnyIn F n P md ops Q f l a w
  | 0, _, _, _, h => h
  | f + 1, l, a, w, h => ⟨h.1, fun i hi => by
    have hw := h.2 i hi
    unfold wpOpIn at hw ⊢
    split
    · rename_i he; rw [he] at hw; exact wpAnyIn_monoQ hw
    · rename_i x hx
      rw [hx] at hw
      simp only at hw
      split
      · rename_i h'
        rw [if_pos h'] at hw
        exact Oper.wpIn_monoQ (fun _ _ h => wpAnyIn_monoQ h) (by intro _ _ _ h; exact h.elim) (by rintro ⟨a, w, h⟩; exact ⟨a, w, h⟩) hw
      · rename_i h'
        rw [if_neg h'] at hw
        exact ⟨hw.1, wpAnyIn_monoQ hw.2⟩⟩

/-- The last operation waits for all others; no operation looks at whether it came up. -/
def strictB (pre : List Oper) (o : Oper) : Bool :=
  ((List.range pre.length).all fun k => reaches (pre ++ [o]).toArray 16 o k) &&
  ((List.range pre.length).all fun j => match pre[j]? with
    | some oj => (oj.after.toList.all fun e => !Region.binds .any e || decide (e.on < j)) && (match oj.guard with | none => true | some (i, _) => decide (i < pre.length))
    | none => true) &&
  (o.after.toList.all fun e => !Region.binds .any e || decide (e.on < pre.length))

theorem wpAny_last {pre : List Oper} {o : Oper} (hB : strictB pre o = true) (hg : o.guard = none) {Q : Exit → Act → World → Prop} {K : Act → World → Prop}
    (hK : ∀ a w, K a w → o.wpIn (Wd rd) n P a w (Q .normal) Q) :
    ∀ (f : Nat) (lp l : Array Bool) (a : Act) (w : World), (∀ i, i < pre.length → lp.getD i true = l.getD i true) → (∀ i, i < pre.length → lp.getD i false = l.getD i false) → l.getD pre.length true = false → l.size = pre.length + 1 → lp.size = pre.length → DC (pre ++ [o]).toArray l →
      wpAnyIn (Wd rd) n P .any pre.toArray (fun e a w => match e with | .panic _ => False | .normal => K a w | e => Q e a w) f lp a w →
      wpAnyIn (Wd rd) n P .any (pre ++ [o]).toArray Q (f + 1) l a w := by
  obtain ⟨ops, hops⟩ : ∃ ops, ops = (pre ++ [o]).toArray := ⟨_, rfl⟩
  obtain ⟨opsP, hopsP⟩ : ∃ opsP, opsP = pre.toArray := ⟨_, rfl⟩
  rw [← hops, ← hopsP]
  have hlt : ∀ {i : Nat}, i < pre.length → ops[i]? = opsP[i]? := fun hi => by
    rw [hops, hopsP, List.getElem?_toArray, List.getElem?_toArray, List.getElem?_append_left hi]
  have hm : ops[pre.length]? = some o := by rw [hops, List.getElem?_toArray]; simp
  have hsz : ∀ {i : Nat} {x : Oper}, ops[i]? = some x → i < pre.length + 1 := fun h => by
    have := (Array.getElem?_eq_some_iff.1 h).1
    rw [hops] at this; simpa using this
  have hszP : ∀ {i : Nat} {x : Oper}, opsP[i]? = some x → i < pre.length := fun h => by
    have := (Array.getElem?_eq_some_iff.1 h).1
    rw [hopsP] at this; simpa using this
  unfold strictB at hB
  rw [← hops] at hB
  simp only [Bool.and_eq_true, List.all_eq_true, List.mem_range] at hB
  obtain ⟨⟨B1, B2⟩, B3⟩ := hB
  have bnd : ∀ {i : Nat} {oi : Oper}, opsP[i]? = some oi → (∀ e ∈ oi.after, Region.binds .any e = true → e.on < i) ∧ ∀ g w, oi.guard = some (g, w) → g < pre.length := by
    intro i oi hi
    have hi' := hszP hi
    have hp : pre[i]? = some oi := by rw [hopsP, List.getElem?_toArray] at hi; exact hi
    have := B2 i hi'
    rw [hp] at this
    simp only [Bool.and_eq_true, List.all_eq_true] at this
    refine ⟨fun e he hb => ?_, fun g w hgd => ?_⟩
    · have := this.1 e (by simpa using he)
      rw [hb] at this; simpa using this
    · have := this.2
      rw [hgd] at this; simpa using this
  have rdy : ∀ {lp l : Array Bool} {i : Nat}, (∀ i, i < pre.length → lp.getD i true = l.getD i true) → (∀ i, i < pre.length → lp.getD i false = l.getD i false) → i < pre.length → (i ∈ Region.ready .any opsP lp ↔ i ∈ Region.ready .any ops l) := by
    intro lp l i e1 e2 hi
    rw [mem_ready, mem_ready, hlt hi, e1 i hi]
    constructor
    · rintro ⟨h1, x, hx, h2⟩
      exact ⟨h1, x, hx, fun e he hb => by have := (bnd hx).1 e he hb; rw [← e2 _ (by omega)]; exact h2 e he hb⟩
    · rintro ⟨h1, x, hx, h2⟩
      exact ⟨h1, x, hx, fun e he hb => by have := (bnd hx).1 e he hb; rw [e2 _ (by omega)]; exact h2 e he hb⟩
  have getD_in : ∀ {l : Array Bool} {i : Nat}, i < l.size → l.getD i true = l.getD i false := fun h => by simp [h]
  have all : ∀ {lp l : Array Bool}, (∀ i, i < pre.length → lp.getD i true = l.getD i true) → (∀ i, i < pre.length → lp.getD i false = l.getD i false) → l.size = pre.length + 1 → Region.ready .any opsP lp = [] → ∀ i, i < pre.length → l.getD i false = true := by
    intro lp l e1 e2 hs hr i
    induction i using Nat.strongRecOn with
    | _ i ih =>
      intro hi
      by_cases hn : l.getD i false = true
      · exact hn
      exfalso
      have : i ∈ Region.ready .any opsP lp := by
        obtain ⟨x, hx⟩ : ∃ x, opsP[i]? = some x := by
          rw [hopsP, List.getElem?_toArray]; exact ⟨_, List.getElem?_eq_getElem hi⟩
        refine (rdy e1 e2 hi).2 (mem_ready.2 ⟨?_, x, by rw [hlt hi]; exact hx, fun e he hb => ?_⟩)
        · rw [getD_in (by omega)]; simpa using hn
        · have := (bnd hx).1 e he hb
          exact ih _ this (by omega)
      rw [hr] at this; cases this
  have fin : ∀ (f : Nat) (l : Array Bool) (a : Act) (w : World), l.size = pre.length + 1 → l.getD pre.length true = false → (∀ i, i < pre.length → l.getD i false = true) → K a w → wpAnyIn (Wd rd) n P .any ops Q (f + 1) l a w := by
    intro f l a w hs hl ha hk
    have hmr : pre.length ∈ Region.ready .any ops l := mem_ready.2 ⟨hl, o, hm, fun e he hb => by
      have := B3 e (by simpa using he)
      rw [hb] at this
      exact ha _ (by simpa using this)⟩
    refine ⟨fun he => (by rw [he] at hmr; cases hmr), fun i hi => ?_⟩
    obtain ⟨g1, x, g2, _⟩ := mem_ready.1 hi
    have him : i = pre.length := by
      have := hsz g2
      rcases Nat.lt_or_ge i pre.length with h | h
      · have := ha i h; rw [un_of g1] at this; cases this
      · omega
    subst him
    unfold wpOpIn
    simp only [hm]
    rw [if_pos (by simp [Region.wanted, hg])]
    refine Oper.wpIn_mono (fun a' w' hq => ?_) (hK a w hk)
    have hr : Region.ready .any ops (l.setIfInBounds pre.length true) = [] := by
      rw [List.eq_nil_iff_forall_not_mem]
      intro j hj
      obtain ⟨j1, y, j2, _⟩ := mem_ready.1 hj
      have := hsz j2
      by_cases hjm : pre.length = j
      · subst hjm; simp [hs] at j1
      · rw [getD_set_ne true hjm] at j1
        have := ha j (by omega); rw [un_of j1] at this; cases this
    cases f with
    | zero => exact ⟨hr, hq⟩
    | succ f => exact ⟨fun _ => hq, fun j hj => (by rw [hr] at hj; cases hj)⟩
  intro f
  induction f with
  | zero =>
    intro lp l a w e1 e2 hl hs hsp hdc h
    exact fin 0 l a w hs hl (all e1 e2 hs h.1) h.2
  | succ f ih =>
    intro lp l a w e1 e2 hl hs hsp hdc h
    by_cases he : Region.ready .any opsP lp = []
    · exact fin (f + 1) l a w hs hl (all e1 e2 hs he) (h.1 he)
    obtain ⟨i0, hi0⟩ := List.exists_mem_of_ne_nil _ he
    have hi0m : i0 < pre.length := by obtain ⟨_, x, hx, _⟩ := mem_ready.1 hi0; exact hszP hx
    have hi0r := (rdy e1 e2 hi0m).1 hi0
    refine ⟨fun he' => (by rw [he'] at hi0r; cases hi0r), fun i hi => ?_⟩
    obtain ⟨g1, x, g2, g3⟩ := mem_ready.1 hi
    have him : i < pre.length := by
      have := hsz g2
      rcases Nat.lt_or_ge i pre.length with h | h'
      · exact h
      · exfalso
        obtain rfl : i = pre.length := by omega
        rw [hm] at g2
        simp only [Option.some.injEq] at g2
        subst g2
        have := reaches_sound hdc 16 o g3 (B1 i0 hi0m)
        rw [un_of (mem_ready.1 hi0r).1] at this; cases this
    have hw := h.2 i ((rdy e1 e2 him).2 hi)
    unfold wpOpIn at hw ⊢
    rw [hlt him] at g2 ⊢
    simp only [g2] at hw ⊢
    have eqw : Region.wanted x (yielded ops a.tmps) = Region.wanted x (yielded opsP a.tmps) := by
      unfold Region.wanted
      split
      · rfl
      · rename_i g wt hgd
        have := (bnd g2).2 g wt hgd
        unfold yielded
        rw [hlt this]
    have step : ∀ a' w', wpAnyIn (Wd rd) n P .any opsP (fun e a w => match e with | .panic _ => False | .normal => K a w | e => Q e a w) f (lp.setIfInBounds i true) a' w' → wpAnyIn (Wd rd) n P .any ops Q (f + 1) (l.setIfInBounds i true) a' w' := by
      intro a' w' h'
      refine ih (lp.setIfInBounds i true) (l.setIfInBounds i true) a' w' (fun j hj => ?_) (fun j hj => ?_) ?_ (by simpa using hs) (by simpa using hsp) (hdc.set hi) h'
      · by_cases hji : i = j
        · subst hji; simp [hs, hsp, him, show i < pre.length + 1 by omega]
        · rw [getD_set_ne true hji, getD_set_ne true hji]; exact e1 j hj
      · by_cases hji : i = j
        · subst hji; simp [hs, hsp, him, show i < pre.length + 1 by omega]
        · rw [getD_set_ne false hji, getD_set_ne false hji]; exact e2 j hj
      · rw [getD_set_ne true (by omega)]; exact hl
    rw [eqw]
    split
    · rename_i hw'
      rw [if_pos hw'] at hw
      exact Oper.wpIn_monoQ step (by intro _ _ _ h; exact h.elim) (by rintro ⟨a, w, h⟩; exact ⟨a, w, h⟩) hw
    · rename_i hw'
      rw [if_neg hw'] at hw
      exact ⟨hw.1, step _ _ hw.2⟩
end

/-- A region that ends in a call of a function that panics if what it is given does not hold. -/
def lastN (C : Ctr) (ops : Array Oper) : Option (List Oper × Oper) := match ops.toList.reverse with
  | o :: r => match o.guard, o.op with
    | none, .call c => match c.callee with
      | .value (.func f) => if (lookN C.nd f).isSome = true then some (r.reverse, o) else none
      | _ => none
    | _, _ => none
  | [] => none

theorem lastN_sound {C : Ctr} {ops : Array Oper} {pre : List Oper} {o : Oper} (h : lastN C ops = some (pre, o)) : ops.toList = pre ++ [o] ∧ o.guard = none ∧ ∀ c, o.op ≠ .defer c := by
  unfold lastN at h
  split at h
  · rename_i o' r hr
    split at h
    · rename_i c hg ho
      split at h
      · split at h
        · simp only [Option.some.injEq, Prod.mk.injEq] at h
          obtain ⟨rfl, rfl⟩ := h
          refine ⟨?_, hg, fun c hc => by rw [ho] at hc; cases hc⟩
          have := congrArg List.reverse hr
          simpa using this
        · simp at h
      · simp at h
    · simp at h
  · simp at h

def evNeed (T : Tab) (C : Ctr) (st : St) (op : Oper) (K : Ex → St → Prop) : Prop :=
  match target T st op.op with
  | some (f, [x]) => match lookN C.nd f with
    | some u => match x with
      | .a (.c .tt) => force (putL st.tmps op.dst (.tup [])) fun ts => K .normal ⟨ts, st.heap⟩
      | .a (.c .ff) => K (.panic (.a (.c (.val u)))) st
      | .a (.c (.bool b)) => (b = true → force (putL st.tmps op.dst (.tup [])) fun ts => K .normal ⟨ts, st.heap⟩) ∧ (b = false → K (.panic (.a (.c (.val u)))) st)
      | _ => Stuck "need"
    | none => Stuck "need"
  | _ => Stuck "need"

theorem evNeed_sound {P : Program} {T : Tab} (hT : TabOk P T) {C : Ctr} (hC : CtrOk P T C) {n0 : Nat} {w0 : Base} {rd : Option Nat} {n : Nat} {β : List Nat} {st : St} {a : Act} {w : World} {op : Oper} {K : Ex → St → Prop} {Q : Exit → Act → World → Prop} (hd : ∀ c, op.op ≠ .defer c)
    (h : evNeed T C st op K) (hH : HR n0 w0 β st.heap w) (hM : TmR β st.tmps a.tmps.toList)
    (hK : ∀ e st' a' w', K e st' → HR n0 w0 β st'.heap w' → TmR β st'.tmps a'.tmps.toList → a'.defers = a.defers → e.ok Q β a' w') : op.wpIn (Wd rd) n P a w (Q .normal) Q := by
  unfold evNeed at h
  split at h
  · rename_i f x ht
    split at h
    · rename_i u hu
      obtain ⟨hf, hc⟩ := hC.2.2.look hu
      obtain ⟨vals, h1, h2⟩ := target_sound hT hM (a := a) (op := op) ht hf
      obtain ⟨v, rest, e1, hv, hr⟩ := h2
      have hr : rest = [] := hr
      subst hr
      have hvals : vals = #[v] := Array.toList_inj.1 e1
      subst hvals
      unfold Oper.wpIn
      refine ⟨fun _ _ => trivial, ?_⟩
      rw [semAt_plain hd, h1 w]
      simp only [Oper.uponIn]
      refine ⟨fun hd => by simp [Wd, Fence.wide] at hd, ?_⟩
      have yes : (force (putL st.tmps op.dst (.tup [])) fun ts => K .normal ⟨ts, st.heap⟩) → v = .bool true → CallsIn (Wd rd) (n - 1) P f #[v] w fun | .returned v, w'' => Q .normal (a.put op.dst v) w'' | .panicked chain, w'' => Q (.panic chain) a w'' | .outgrown, _ => LetsOut Q := by
        intro hk hv
        rw [force_eq] at hk
        subst hv
        refine (calls_wd rd (hc true w)).mono ?_
        rintro e w' ⟨hb, g1, _⟩
        have := g1 rfl
        subst this
        exact hK .normal _ (a.put op.dst (.tuple #[])) w' hk (hH.after hb) (putL_sound (x := .tup []) ⟨#[], rfl, rfl⟩ _ hM) (by unfold Act.put; split <;> rfl)
      have no : K (.panic (.a (.c (.val u)))) st → v = .bool false → CallsIn (Wd rd) (n - 1) P f #[v] w fun | .returned v, w'' => Q .normal (a.put op.dst v) w'' | .panicked chain, w'' => Q (.panic chain) a w'' | .outgrown, _ => LetsOut Q := by
        intro hk hv
        subst hv
        refine (calls_wd rd (hc false w)).mono ?_
        rintro e w' ⟨hb, _, g2⟩
        have := g2 rfl
        subst this
        exact hK (.panic (.a (.c (.val u)))) st a w' hk (hH.after hb) hM rfl u rfl
      split at h
      · exact yes h hv
      · exact no h hv
      · rename_i b
        cases b
        · exact no (h.2 rfl) hv
        · exact yes (h.1 rfl) hv
      · exact h.elim
    · exact h.elim
  · exact h.elim

/-! ### All orders of a region -/
def allL : List Nat → (Nat → Prop) → Prop
  | [], _ => True
  | i :: r, p => p i ∧ allL r p

theorem allL_mem {p : Nat → Prop} : ∀ {l : List Nat}, allL l p → ∀ i ∈ l, p i
  | _ :: _, ⟨h, _⟩, _, .head _ => h
  | _ :: _, ⟨_, h⟩, i, .tail _ hi => allL_mem h i hi

def isMv (o : Oper) : Bool := match o.guard, o.op with
  | none, .extract _ _ => true
  | none, .move _ => true
  | _, _ => false

/-- An operation that looks at no world, and that may be taken first. -/
def mvOk (ops : Array Oper) (i : Nat) (oi : Oper) : Bool := isMv oi && (List.range ops.size).all fun j => j == i || match ops[j]? with
  | some oj => (oj.after.toList.any fun e => Region.binds .any e && e.on == i) || (oi.after.toList.any fun e => Region.binds .any e && e.on == j) || oi.apart ops oj
  | none => true

def pickF (ops : Array Oper) : List Nat → Option (Nat × Oper)
  | [] => none
  | i :: r => match ops[i]? with
    | some o => if mvOk ops i o = true then some (i, o) else pickF ops r
    | none => pickF ops r

theorem pickF_mem {ops : Array Oper} {j : Nat} {o : Oper} : ∀ {l : List Nat}, pickF ops l = some (j, o) → j ∈ l ∧ ops[j]? = some o ∧ mvOk ops j o = true
  | [], h => by simp [pickF] at h
  | i :: r, h => by
    unfold pickF at h
    split at h
    · rename_i o' ho
      split at h
      · rename_i hm
        simp only [Option.some.injEq, Prod.mk.injEq] at h
        obtain ⟨rfl, rfl⟩ := h
        exact ⟨.head _, ho, hm⟩
      · obtain ⟨h1, h2⟩ := pickF_mem h
        exact ⟨.tail _ h1, h2⟩
    · obtain ⟨h1, h2⟩ := pickF_mem h
      exact ⟨.tail _ h1, h2⟩

def evB (o : Bool) (T : Tab) (I : CI) (Y : YE) (ops : Array Oper) : Nat → Array Bool → St → (St → Prop) → Prop
  | 0, listed, st, K => match Region.ready .any ops listed with
    | [] => K st
    | _ :: _ => Stuck "order"
  | f + 1, listed, st, K => match Region.ready .any ops listed with
    | [] => K st
    | i :: r => match pickF ops (i :: r) with
      | some (j, op) => evOps o T I Y ops [op] st fun st' => evB o T I Y ops f (listed.setIfInBounds j true) st' K
      | none => allL (i :: r) fun j => match ops[j]? with
        | some op => evOps o T I Y ops [op] st fun st' => evB o T I Y ops f (listed.setIfInBounds j true) st' K
        | none => Stuck "order"

/-! ### Several blocks laid among quiet operations -/
def allocsAt (ops : Array Oper) (nA : Nat) : List (Nat × Oper) := (List.range nA).filterMap fun i => match ops[i]? with
  | some o => if isAl o = true then some (i, o) else none
  | none => none

/-- The blocks that the region has laid, one after another. -/
def evAllocs (T : Tab) : List (Nat × Oper) → St → (St → Prop) → Prop
  | [], st, K => K st
  | (_, op) :: r, st, K => match op.op with
    | .alloc t => match evAlloc T st.heap t with
      | some (_, x, H') => force (putL st.tmps op.dst x) fun ts => forceH H' fun H' => evAllocs T r ⟨ts, H'⟩ K
      | none => Stuck "alloc"
    | _ => Stuck "alloc"

def mixBs (T : Tab) (ops : Array Oper) (nA : Nat) : Bool :=
  Region.noSelect ops && lexA ops nA nA 0 (Array.replicate ops.size false) && rangeOk ops && wfOk ops &&
  ((List.range ops.size).all fun j => decide (j < nA) || match ops[j]? with | some o => waitsMost ops o j nA | none => false) && decide (nA ≤ ops.size) &&
  ((allocsAt ops nA).all fun x => ((List.range nA).all fun j => j == x.1 || match ops[j]? with | some oj => x.2.apart ops oj | none => false) && match x.2.op with | .alloc t => (look T t).isSome | _ => false) &&
  decide ((allocsAt ops nA).map (·.1)).Nodup

/-- A region of which the order is drawn. -/
def exD (o : Bool) (T : Tab) (I : CI) (C : Ctr) (l : LM) (ops : Array Oper) (Y : YE) (st : St) (K : St → Prop) : Prop :=
  match l with
  | .all => if (Region.noSelect ops && noDefer ops) = true then evB o T I Y ops ops.size (Array.replicate ops.size false) st K else Stuck "draw"
  | _ => match allocAt ops (tailAt ops ops.size) with
    | none => if (mixB ops (tailAt ops ops.size) ops.size default && noDefer ops) = true then
        evOpsV o T C ops (ops.toList.take (tailAt ops ops.size)) st fun st' => evOps o T I Y ops (ops.toList.drop (tailAt ops ops.size)) st' K
      else Stuck "draw"
    | some (p, op) => match op.op with
      | .alloc t => if ((mixB ops (tailAt ops ops.size) p op && noDefer ops) && (look T t).isSome) = true then
        evOpsV o T C ops (ops.toList.take (tailAt ops ops.size)) st fun st' => match evAlloc T st'.heap t with
            | some (_, r, H') => force (putL st'.tmps op.dst r) fun ts => forceH H' fun H' => evOps o T I Y ops (ops.toList.drop (tailAt ops ops.size)) ⟨ts, H'⟩ K
            | none => Stuck "alloc"
        else if (mixBs T ops (tailAt ops ops.size) && noDefer ops) = true then
          evOpsV o T C ops (ops.toList.take (tailAt ops ops.size)) st fun st' => evAllocs T (allocsAt ops (tailAt ops ops.size)) st' fun st' => evOps o T I Y ops (ops.toList.drop (tailAt ops ops.size)) st' K
        else Stuck "draw"
      | _ => Stuck "draw"

/-- The executor. -/
def ex (o : Bool) (T : Tab) (I : CI) (C : Ctr) (Λ : Nat → LM) : Code → YE → St → (Ex → St → Prop) → Prop
  | .skip, _, st, K => K .normal st
  | .label _, _, st, K => K .normal st
  | .scope c, Y, st, K => ex o T I C Λ c Y st K
  | .region rid ops draw, Y, st, K =>
    match draw with
    | false => match lastP ops with
      | some (pre, _, x) => evOps o T I Y ops pre st fun st' => if isIf (st'.ev x) = true then forceV (st'.ev x) fun v => K (.panic v) st' else Stuck "panic"
      | none => match lastN C ops with
        | some (pre, po) => evOps o T I Y ops pre st fun st' => evNeed T C st' po K
        | none => evOps o T I Y ops ops.toList st fun st' => K .normal st'
    | true => match lastN C ops with
      | some (pre, po) => if strictB pre po = true then exD o T I C (Λ rid) pre.toArray Y st fun st' => evNeed T C st' po K else Stuck "need"
      | none => match Λ rid with
        | .allj an => exD o T I C .all ops Y st (fun st' => ∃ x, an.inv st x ∧ leSt st' (an.J (dstsO ops.toList) st x) st.heap.length (an.mv st')) ∧
            ∀ x, an.inv st x → forceT (an.J (dstsO ops.toList) st x).tmps fun ts => forceH (an.J (dstsO ops.toList) st x).heap fun H => if inSt ⟨ts, H⟩ = true then K .normal ⟨ts, H⟩ else Stuck "ids"
        | l => exD o T I C l ops Y st fun st' => K .normal st'
  | .seq a b, Y, st, K => ex o T I C Λ a Y st fun e st' => match e with
    | .normal => ex o T I C Λ b Y st' K
    | e => K e st'
  | .cond c x y, Y, st, K =>
    match st.ev c with
    | .a (.c .tt) => ex o T I C Λ x Y st K
    | .a (.c .ff) => ex o T I C Λ y Y st K
    | .a (.c (.bool b)) => (b = true → ex o T I C Λ x Y st K) ∧ (b = false → ex o T I C Λ y Y st K)
    | _ => Stuck "cond"
  | .block id body, Y, st, K => ex o T I C Λ body Y st fun e st' => match e with
    | .exit i => if i = id then K .normal st' else K (.exit i) st'
    | e => K e st'
  | .loop body, Y, st, K =>
    match Λ (firstR body) with
    | .unroll n => unrollN (ex o T I C Λ body Y) n st K
    | .inv a =>
      (∃ x, a.inv st x ∧ leSt st (a.J (dstsC body) st x) st.heap.length (a.mv st)) ∧
      ∀ x, a.inv st x → forceT (a.J (dstsC body) st x).tmps fun ts => forceH (a.J (dstsC body) st x).heap fun H =>
        if inSt ⟨ts, H⟩ = true then ex o T I C Λ body Y ⟨ts, H⟩ fun e st' => match e with
          | .normal => ∃ y, a.inv st y ∧ a.μ st y < a.μ st x ∧ leSt st' (a.J (dstsC body) st y) st.heap.length (a.mv st')
          | e => K e st'
        else Stuck "ids"
    | .all => Stuck "all"
    | .allj _ => Stuck "all"
  | .rangeFunc g ps assign body, Y, st, K =>
    match st.ev g with
    | .a (.c (.fn (.func f) caps)) => withLenP st.heap fun id =>
      I (fun j args H K' => if j = id then
          (if isReady (lpOf H id) = true then match putLs st.tmps ps.toList args with
            | some ts => forceT ts fun ts => ex o T I C Λ assign Y ⟨ts, H⟩ fun e st1 => match e with
              | .normal => if isReady (lpOf st1.heap id) = true then forceH (setLp st1.heap id .busy none) fun H1 => ex o T I C Λ body Y ⟨st1.tmps, H1⟩ fun e st2 =>
                  if isBusy (lpOf st2.heap id) = true then match e with
                    | .normal => forceH (setLp st2.heap id .ready none) fun H2 => K' (.a (.c .tt)) H2
                    | .panic _ => Stuck "panic"
                    | e => forceH (setLp st2.heap id .done (some e.code)) fun H2 => K' (.a (.c .ff)) H2
                  else Stuck "busy"
                else Stuck "assign"
              | _ => Stuck "assign"
            | none => Stuck "yield"
          else Stuck "round")
        else Y j args H K') f (.a (.c (.yld id)) :: caps.map fun i => .a (.c (.ptr i 0))) (st.heap ++ [.lp .ready none]) fun _ H' =>
        match lpOf H' id with
        | some (.ready, none) => forceH (H'.set id .dead) fun H2 => K .normal ⟨st.tmps, H2⟩
        | some (.done, some c) => match exOf c with
          | some e => forceH (H'.set id .dead) fun H2 => K e ⟨st.tmps, H2⟩
          | none => Stuck "jump"
        | _ => Stuck "range"
    | _ => Stuck "range"
  | .exit id, _, st, K => K (.exit id) st
  | .ret, _, st, K => K .ret st
  | _, _, _, _ => Stuck "code"

theorem least {S : Nat → Prop} (h : ∃ n, S n) : ∃ n, S n ∧ ∀ m, S m → n ≤ m := by
  obtain ⟨n, hn⟩ := h
  induction n using Nat.strongRecOn with
  | _ n ih =>
    by_cases hm : ∃ m, m < n ∧ S m
    · obtain ⟨m, hlt, hS⟩ := hm
      exact ih m hlt hS
    · exact ⟨n, hn, fun m hS => Nat.le_of_not_lt fun hlt => hm ⟨m, hlt, hS⟩⟩

/-- A loop, by a family of states. -/
theorem wpIn_family {F : Fence} {n : Nat} {P : Program} {Q : Exit → Act → World → Prop} {a : Act} {w : World} {c : Code} {ι : Type} (I : ι → Act → World → Prop) (μ : ι → Nat) (h₀ : ∃ x, I x a w)
    (round : ∀ x a w, I x a w → c.wpIn F n P (Exit.then (fun a' w' => ∃ y, I y a' w' ∧ μ y < μ x) Q) a w) : (Code.loop c).wpIn F n P Q a w := by
  classical
  let m : Act → World → Nat := fun a w => if h : ∃ k, ∃ x, I x a w ∧ μ x = k then Classical.choose (least h) else 0
  have hm : ∀ a w, (∃ x, I x a w) → ∃ x, I x a w ∧ μ x = m a w ∧ ∀ y, I y a w → m a w ≤ μ y := by
    intro a w ⟨x, hx⟩
    have h : ∃ k, ∃ x, I x a w ∧ μ x = k := ⟨_, x, hx, rfl⟩
    have hc := Classical.choose_spec (least h)
    have e : m a w = Classical.choose (least h) := dif_pos h
    obtain ⟨⟨y, hy, hyk⟩, hmin⟩ := hc
    exact ⟨y, hy, by rw [e, hyk], fun z hz => by rw [e]; exact hmin _ ⟨z, hz, rfl⟩⟩
  refine wpIn_loop (fun a w => ∃ x, I x a w) m h₀ fun a w h => ?_
  obtain ⟨x, hx, hxm, _⟩ := hm a w h
  refine wpIn_mono (round x a w hx) ?_
  intro e a' w' hq
  cases e with
  | normal =>
    obtain ⟨y, hy, hlt⟩ := hq
    obtain ⟨_, _, _, hmin⟩ := hm a' w' ⟨y, hy⟩
    exact ⟨⟨y, hy⟩, by have := hmin y hy; omega⟩
  | _ => exact hq

/-- A loop that is walked round by round. -/
theorem wpIn_unroll {F : Fence} {n : Nat} {P : Program} {Q : Exit → Act → World → Prop} {c : Code} : ∀ (k : Nat) (a : Act) (w : World) (S : Nat → Act → World → Prop), S k a w →
    (∀ j a w, S (j + 1) a w → c.wpIn F n P (Exit.then (S j) Q) a w) → (∀ a w, ¬ S 0 a w) → (Code.loop c).wpIn F n P Q a w := by
  intro k a w S hk hs h0
  refine wpIn_family (fun j => S j) id ⟨k, hk⟩ ?_
  intro j a w h
  cases j with
  | zero => exact (h0 a w h).elim
  | succ j =>
    refine wpIn_mono (hs j a w h) ?_
    intro e a' w' hq
    cases e with
    | normal => exact ⟨j, hq, Nat.lt_succ_self j⟩
    | _ => exact hq

/-! ### Marks among the deferred calls -/

def DOk (n0 m hi : Nat) : List Deferred → World → Prop
  | [], _ => True
  | d :: ds, w => (∃ r, d = { target := .collected r, args := #[] } ∧ n0 ≤ r ∧ m ≤ r ∧ r < hi ∧ w.heap[r]? = some (.deferred (some [])) ∧ ∀ d' ∈ ds, d' ≠ d) ∧ DOk n0 m hi ds w

theorem DOk.keep {n0 m m' hi hi' : Nat} {w w' : World} (hm : m' ≤ m) (hh : hi ≤ hi') (hk : ∀ r, n0 ≤ r → r < hi → w.heap[r]? = some (.deferred (some [])) → w'.heap[r]? = some (.deferred (some []))) : ∀ {ds : List Deferred}, DOk n0 m hi ds w → DOk n0 m' hi' ds w'
  | [], _ => trivial
  | d :: ds, ⟨⟨r, h1, h2, h3, h4, h5, h6⟩, h⟩ => ⟨⟨r, h1, h2, by omega, by omega, hk r h2 h4 h5, h6⟩, DOk.keep hm hh hk h⟩

/-- A base in which a fact on worlds is kept beside. -/
def Base.and (w0 : Base) (Y : World → Prop) (s : Nat) : Base := ⟨fun u => w0.X u ∧ Y u, s, w0.R⟩

theorem Ext.and (N : Nat) (w0 : Base) (Y : World → Prop) (s : Nat) : Ext N w0 (w0.and Y s) := ⟨fun _ h => h.1, fun _ _ => rfl⟩

theorem HR.and {n0 : Nat} {w0 : Base} {β : List Nat} {H : List Blk} {w : World} (h : HR n0 w0 β H w) {Y : World → Prop} {s : Nat} (hs : w0.m ≤ s) (hw : s ≤ w.heap.size) (hY : Y w) (hst : ∀ a b, Grow n0 s a b → Y a → Y b) : HR n0 (w0.and Y s) β H w :=
  ⟨h.base, h.len, h.nd, h.ni, hw, fun a b hg hx => ⟨h.st a b ⟨hg.below, fun k o hk => hg.ko k o (Nat.lt_of_lt_of_le hk hs), hg.lo⟩ hx.1, hst a b hg hx.2⟩, ⟨h.ext, hY⟩, fun i B b hB hb => by
    have := h.blk i B b hB hb
    cases B <;> exact this⟩

theorem HR.left {n0 : Nat} {w0 : Base} {β : List Nat} {H : List Blk} {w : World} {Y : World → Prop} {s : Nat} (hs : w0.m ≤ s) (hst : ∀ a b, Grow n0 w0.m a b → w0.X a → w0.X b) (h : HR n0 (w0.and Y s) β H w) : HR n0 w0 β H w :=
  ⟨h.base, h.len, h.nd, h.ni, Nat.le_trans hs h.ms, hst, h.ext.1, fun i B b hB hb => by
    have := h.blk i B b hB hb
    cases B <;> exact this⟩

/-- Another base: of the loops that are told the records are the same. -/
theorem HR.rebase {n0 : Nat} {w0 w1 : Base} {β : List Nat} {H : List Blk} {w : World} (h : HR n0 w0 β H w) (hR : ∀ i s pe, H[i]? = some (.lp s pe) → w1.R i = w0.R i) (hm : w1.m ≤ w.heap.size) (hx : w1.X w) (hst : ∀ a b, Grow n0 w1.m a b → w1.X a → w1.X b) : HR n0 w1 β H w :=
  ⟨h.base, h.len, h.nd, h.ni, hm, hst, hx, fun i B b hB hb => by
    have := h.blk i B b hB hb
    cases B with
    | dead => trivial
    | lp s pe => exact ⟨this.1, by rw [hR i s pe hB]; exact this.2⟩
    | wnd _ _ _ _ => exact this
    | mp _ _ _ _ => exact this
    | nst _ _ _ _ _ _ => exact this
    | cells o t cs => exact this⟩

theorem push_cases {β : List Nat} {H : List Blk} (hlen : β.length = H.length) {E : Blk} {l i c : Nat} {B : Blk} (hB : (H ++ [E])[i]? = some B) (hc : (β ++ [l])[i]? = some c) : (i < H.length ∧ H[i]? = some B ∧ β[i]? = some c) ∨ (i = H.length ∧ B = E ∧ c = l) := by
  rcases append_one hB with hB | ⟨rfl, rfl⟩
  · have hi : i < H.length := (List.getElem?_eq_some_iff.1 hB).1
    rw [List.getElem?_append_left (by rw [hlen]; exact hi)] at hc
    exact .inl ⟨hi, hB, hc⟩
  · rw [← hlen] at hc
    simp at hc
    exact .inr ⟨rfl, rfl, hc.symm⟩

theorem push_dist {β : List Nat} {H : List Blk} (hlen : β.length = H.length) (hd : Dist β H) {E : Blk} {l : Nat} (hne : ∀ (i b : Nat) (B : Blk), H[i]? = some B → β[i]? = some b → ¬ B.nil → b ≠ l) : Dist (β ++ [l]) (H ++ [E]) := by
  intro i j c B C hB ho hnB hc hc' hne' hC
  rcases push_cases hlen hB hc with ⟨i1, i2, i3⟩ | ⟨i1, i2, i3⟩ <;> rcases push_cases hlen hC hc' with ⟨j1, j2, j3⟩ | ⟨j1, j2, j3⟩
  · exact hd i j c B C i2 ho hnB i3 j3 hne' j2
  · exact absurd j3 (hne i c B i2 i3 hnB)
  · by_cases hcn : C.nil
    · exact hcn
    · exact absurd i3 (hne j c C j2 j3 hcn)
  · omega

/-- A loop's record told. -/
theorem HR.pushLp {n0 : Nat} {w0 : Base} {β : List Nat} {H : List Blk} {w : World} (h : HR n0 w0 β H w) {l : Nat} {s : LoopState} {pe : Option Code} (hn : n0 ≤ l) (hl : w.heap[l]? = some (.loop { w0.R H.length with state := s, pending := pe }))
    (hne : ∀ (i b : Nat) (B : Blk), H[i]? = some B → β[i]? = some b → ¬ B.nil → b ≠ l) : HR n0 w0 (β ++ [l]) (H ++ [.lp s pe]) w := by
  refine ⟨h.base, by simp [h.len], push_dist h.len h.nd hne, fun i b B x hB hb hx j c C hC ho hnC hc => ?_, h.ms, h.st, h.ext, ?_⟩
  · rcases push_cases h.len hB hb with ⟨i1, i2, i3⟩ | ⟨rfl, rfl, rfl⟩
    · rcases push_cases h.len hC hc with ⟨j1, j2, j3⟩ | ⟨rfl, rfl, rfl⟩
      · exact h.ni i b B x i2 i3 hx j c C j2 ho hnC j3
      · exact (h.innNo i2 i3 hx hl (fun _ _ _ e => by cases e)).symm
    · exact hx.elim
  intro i B c hB hc
  rcases push_cases h.len hB hc with ⟨i1, i2, i3⟩ | ⟨rfl, rfl, rfl⟩
  · exact (h.blk i B c i2 i3).mono
  · exact ⟨hn, hl⟩

theorem below_putO {n : Nat} {w : World} {r : Nat} (o : Obj) (hn : n ≤ r) : Below n w (w.putObj r o) := ⟨rfl, rfl, rfl, by simp, fun k hk => World.putObj_heap_other (by omega)⟩
theorem grow_putO {n0 m : Nat} {w : World} {r : Nat} {o : Obj} (o' : Obj) (hr : w.heap[r]? = some o) (hno : ∀ r, o ≠ .loop r) (hn : n0 ≤ r) (hm : m ≤ r) : Grow n0 m w (w.putObj r o') :=
  ⟨below_putO o' hn, fun k o' hk ho _ _ _ => (World.putObj_heap_other (by omega)).trans ho, fun k q hk => ⟨q, by
    rw [World.putObj_heap_other]; exact hk
    intro e; subst e; rw [hr] at hk; simp only [Option.some.injEq] at hk; exact hno _ hk⟩⟩
theorem grow_putL {n0 m : Nat} {w : World} {l : Nat} {q : Loop} (q' : Loop) (hl : w.heap[l]? = some (.loop q)) (hn : n0 ≤ l) : Grow n0 m w (w.putObj l (.loop q')) :=
  ⟨below_putO _ hn, fun k o' _ ho _ hno _ => by
    rw [World.putObj_heap_other]; exact ho
    intro e; subst e; rw [hl] at ho; simp only [Option.some.injEq] at ho; exact hno _ ho.symm, fun k r hk => by
    by_cases hkl : k = l
    · subst hkl; exact ⟨q', World.putObj_heap_same (Array.getElem?_eq_some_iff.1 hl).1⟩
    · exact ⟨r, by rw [World.putObj_heap_other hkl]; exact hk⟩⟩

/-- A block that is neither cells nor a loop's record turns. -/
theorem HR.putO {n0 : Nat} {w0 : Base} {β : List Nat} {H : List Blk} {w : World} (h : HR n0 w0 β H w) {r : Nat} {o : Obj} (o' : Obj) (hr : w.heap[r]? = some o) (ho : ∀ a t s, o ≠ .cells a t s) (hno : ∀ q, o ≠ .loop q) (hnm : ∀ e c, o ≠ .map e c) (hn : n0 ≤ r) (hm : w0.m ≤ r) : HR n0 w0 β H (w.putObj r o') := by
  have hnb : ∀ (i b : Nat) (B : Blk) (x : Nat), H[i]? = some B → β[i]? = some b → B.inn w b x → b ≠ r := by
    rintro i b B x hB hb hx rfl
    cases B with
    | nst t1 t2 off ks s L =>
      obtain ⟨j, e, ao, cap, he, hn, hc⟩ := hx
      unfold World.cell? at hc
      rw [hr] at hc
      cases o <;> first | exact ho _ _ _ rfl | simp at hc
    | _ => exact hx.elim
  have hnb' : ∀ (i b : Nat) (B : Blk) (x : Nat), H[i]? = some B → β[i]? = some b → B.inn (w.putObj r o') b x → b ≠ r := by
    rintro i b B x hB hb hx rfl
    have hblk := h.blk i B b hB hb
    cases B with
    | nst t1 t2 off ks s L =>
      obtain ⟨j, e, ao, cap, he, hn, hc⟩ := hx
      obtain ⟨a, cap', h1, _⟩ := hblk.2 j e he
      unfold World.cell? at h1
      rw [hr] at h1
      cases o <;> first | exact ho _ _ _ rfl | simp at h1
    | _ => exact hx.elim
  refine ⟨by simpa using h.base, h.len, h.nd, h.niStep (fun i b B x hB hb hx => ⟨i, B, hB, hb, Blk.inn_keep (World.putObj_heap_other (hnb' i b B x hB hb hx)) hx⟩) (fun j c C hC ho hn hc => .inr ⟨j, C, hC, ho, hn, hc⟩),
    by simpa using h.ms, h.st, h.st _ _ (grow_putO o' hr hno hn hm) h.ext, fun i B b hB hbβ => ?_⟩
  have := h.blk i B b hB hbβ
  by_cases hb : b = r
  · subst hb
    by_cases hnl : B.nil
    · exact this.any hnl
    · exfalso
      cases B with
      | dead => exact hnl trivial
      | lp s pe => have := this.2; rw [hr] at this; simp only [Option.some.injEq] at this; exact hno _ this
      | mp o2 ks ve L => have := this.2.2; rw [hr] at this; simp only [Option.some.injEq] at this; exact hnm _ _ this
      | nst t1 t2 off ks s L =>
        have hnl : ¬ L.length = 0 := hnl
        obtain ⟨a, cap', h1, _⟩ := this.2 0 _ (List.getElem?_eq_getElem (by omega))
        unfold World.cell? at h1
        rw [hr] at h1
        cases o <;> first | exact ho _ _ _ rfl | simp at h1
      | wnd o2 ks n l =>
        have hnl : ¬ n = 0 := hnl
        have h2 := this.2 0 (by omega)
        unfold World.cell? at h2
        rw [hr] at h2
        cases o <;> first | exact ho _ _ _ rfl | simp at h2
      | cells own t cs =>
        obtain ⟨arr, h1, h2⟩ := this
        have hl := h1.len
        have hnl : ¬ width cs = 0 := hnl
        have := (h2 (by simp at hl; omega)).2
        rw [hr] at this; simp only [Option.some.injEq] at this; exact ho _ _ _ this
  · exact this.keep (World.putObj_heap_other hb) fun x hx => World.putObj_heap_other (h.innNo hB hbβ hx hr ho)

/-- A loop's record turns. -/
theorem HR.putLp {n0 : Nat} {w0 : Base} {β : List Nat} {H : List Blk} {w : World} (h : HR n0 w0 β H w) {id l : Nat} {s : LoopState} (s' : LoopState) {pe : Option Code} (pe' : Option Code) (hg : H[id]? = some (.lp s pe)) (hb : β[id]? = some l) :
    w.heap[l]? = some (.loop { w0.R id with state := s, pending := pe }) ∧ n0 ≤ l ∧ HR n0 w0 β (setLp H id s' pe') (w.putObj l (.loop { w0.R id with state := s', pending := pe' })) := by
  obtain ⟨hn, hl⟩ := h.blk id _ l hg hb
  have hidl : id < H.length := (List.getElem?_eq_some_iff.1 hg).1
  have hnn : ¬ (Blk.lp s pe).nil := fun h => h
  refine ⟨hl, hn, by simpa using h.base, by simp [setLp, h.len], ?_, h.niSet hg hb (fun k _ hk => World.putObj_heap_other (hk rfl hnn)) (fun x hx => hx.elim) (fun _ _ => ⟨rfl, hnn⟩), by simpa using h.ms, h.st, h.st _ _ (grow_putL _ hl hn) h.ext, ?_⟩
  · intro k j c B C hB ho hnB hb1 hb2 hne hC
    unfold setLp at hB hC
    rw [List.getElem?_set] at hB hC
    by_cases hk : id = k
    · subst hk
      rw [if_neg (fun e => hne e.symm)] at hC
      exact h.nd id j c _ C hg rfl hnn hb1 hb2 hne hC
    · rw [if_neg hk] at hB
      by_cases hj : id = j
      · subst hj
        exact absurd (h.nd k id c B _ hB ho hnB hb1 hb2 hne hg) hnn
      · rw [if_neg hj] at hC
        exact h.nd k j c B C hB ho hnB hb1 hb2 hne hC
  · intro i B b hB hβ
    unfold setLp at hB
    rw [List.getElem?_set] at hB
    by_cases hi : id = i
    · subst hi
      simp only [hidl, if_true, Option.some.injEq] at hB
      subst hB
      rw [hb] at hβ; simp only [Option.some.injEq] at hβ; subst hβ
      exact ⟨hn, World.putObj_heap_same (Array.getElem?_eq_some_iff.1 hl).1⟩
    · rw [if_neg hi] at hB
      have hr := h.blk i B b hB hβ
      by_cases hbl : b = l
      · subst hbl
        exact hr.any (h.nd id i b _ B hg rfl hnn hb hβ (fun e => hi e.symm) hB)
      · exact hr.keep (World.putObj_heap_other hbl) fun x hx => World.putObj_heap_other (h.innNe hg hb rfl hnn hB hβ hx)

theorem leC_refl (c : Cel) : leC c c := by cases c <;> simp [leC]
theorem leCs_refl : ∀ l, leCs l l
  | [] => trivial
  | c :: r => ⟨leC_refl c, leCs_refl r⟩
theorem leB_refl (b : Blk) : leB b b := by cases b <;> simp [leB, leCs_refl, regroup_self]
/-- A block that lies there already, taken up. -/
theorem HR.adopt {n0 : Nat} {w0 : Base} {β : List Nat} {H : List Blk} {w : World} (h : HR n0 w0 β H w) {b : Nat} {arr : Array Value} {t : TypeId} {cs : List Cel} (h1 : n0 ≤ b) (h2 : ∀ (i c : Nat) (B : Blk), H[i]? = some B → β[i]? = some c → ¬ B.nil → c ≠ b) (h2' : ∀ (i c : Nat) (B : Blk) (y : Nat), H[i]? = some B → β[i]? = some c → B.inn w c y → y ≠ b) (h3 : w.heap[b]? = some (.cells arr t (0, 0))) (hc : CelsR β cs arr.toList) :
    HR n0 w0 (β ++ [b]) (H ++ [.cells true t cs]) w := by
  refine ⟨h.base, by simp [h.len], push_dist h.len h.nd h2, fun i d B x hB hb hx j e C hC ho hnC he => ?_, h.ms, h.st, h.ext, ?_⟩
  · rcases push_cases h.len hB hb with ⟨i1, i2, i3⟩ | ⟨rfl, rfl, rfl⟩
    · rcases push_cases h.len hC he with ⟨j1, j2, j3⟩ | ⟨rfl, rfl, rfl⟩
      · exact h.ni i d B x i2 i3 hx j e C j2 ho hnC j3
      · exact (h2' i d B x i2 i3 hx).symm
    · exact hx.elim
  intro i B c hB hc'
  rcases push_cases h.len hB hc' with ⟨i1, i2, i3⟩ | ⟨rfl, rfl, rfl⟩
  · exact (h.blk i B c i2 i3).mono
  · exact ⟨arr, hc.mono, fun _ => ⟨fun _ => h1, h3⟩⟩

theorem HR.alloc {n0 : Nat} {w0 : Base} {β : List Nat} {H : List Blk} {w : World} (h : HR n0 w0 β H w) (o : Obj) : HR n0 w0 β H (w.alloc o) :=
  h.after ((Below.refl _ w).alloc (Nat.le_refl _) o)

theorem alloc_run {P : Program} {T : Tab} (hT : TabOk P T) {t : TypeId} {ti : TI} (hti : look T t = some ti) {op : Oper} (ho : op.op = .alloc t) : ∃ arr : Array Value,
    (∀ (a : Act) (w : World), (execOp a.eval op).run P w = .ok (.value (.pointer (some ⟨w.heap.size, 0, none⟩))) (w.alloc (.cells arr t (0, 0)))) ∧ ∀ β, CelsR β ti.3 arr.toList := by
  obtain ⟨d, sz, z, by_⟩ := ti
  obtain ⟨⟨inf, h1, h2, z', hz, hc⟩, _⟩ := hT.look hti
  refine ⟨z'.cells, fun a w => ?_, hc⟩
  simp [execOp, ho, Instr.alloc, zeroValue, typeInfo, h1, hz, newVar, newRow]

theorem allocsAt_mem {ops : Array Oper} {nA p : Nat} {op : Oper} : (p, op) ∈ allocsAt ops nA ↔ p < nA ∧ ops[p]? = some op ∧ isAl op = true := by
  unfold allocsAt
  rw [List.mem_filterMap]
  constructor
  · rintro ⟨i, hi, he⟩
    simp only [List.mem_range] at hi
    split at he
    · rename_i o ho
      split at he
      · rename_i hal
        simp only [Option.some.injEq, Prod.mk.injEq] at he
        obtain ⟨rfl, rfl⟩ := he
        exact ⟨hi, ho, hal⟩
      · simp at he
    · simp at he
  · rintro ⟨h1, h2, h3⟩
    exact ⟨p, by simpa using h1, by rw [h2]; simp [h3]⟩

def actBs (b : Nat → Option Nat) : List (Nat × Oper) → Act → Act
  | [], a => a
  | (i, op) :: r, a => actBs b r (actB a op.dst (b i))

def updB (b : Nat → Option Nat) (p x : Nat) : Nat → Option Nat := fun i => if i = p then some x else b i

section
variable {rd : Option Nat} {n : Nat} {P : Program} {ops : Array Oper} {C : World → Prop} {nA : Nat}

theorem actB_exec {op o : Oper} {a : Act} {b : Option Nat} (hs : ∀ cs x, o.op ≠ .select cs x) (h : op.apart ops o = true) : execOp (actB a op.dst b).eval o = execOp a.eval o := by
  cases b with
  | none => rfl
  | some b => exact execOp_put o hs a op.dst _ (Oper.apart_spec h).1
theorem actB_wanted {op o : Oper} {a : Act} {b : Option Nat} (h : op.apart ops o = true) : Region.wanted o (yielded ops (actB a op.dst b).tmps) = Region.wanted o (yielded ops a.tmps) := by
  cases b with
  | none => rfl
  | some b => exact wanted_put o a op.dst _ (Oper.apart_spec h).1
theorem actB_put {op o : Oper} {a : Act} {b : Option Nat} (h : op.apart ops o = true) (u : Value) : (actB a op.dst b).put o.dst u = actB (a.put o.dst u) op.dst b := by
  cases b with
  | none => rfl
  | some b => exact Act.put_comm a _ u (Oper.apart_spec h).2.1
theorem actBs_exec {o : Oper} {b : Nat → Option Nat} (hs : ∀ cs x, o.op ≠ .select cs x) : ∀ {L : List (Nat × Oper)} {a : Act}, (∀ p op, (p, op) ∈ L → op.apart ops o = true) → execOp (actBs b L a).eval o = execOp a.eval o
  | [], _, _ => rfl
  | (i, op) :: r, a, h => by
    rw [actBs, actBs_exec hs fun p q hm => h p q (List.mem_cons_of_mem _ hm)]
    exact actB_exec hs (h i op (List.mem_cons_self ..))
theorem actBs_wanted {o : Oper} {b : Nat → Option Nat} : ∀ {L : List (Nat × Oper)} {a : Act}, (∀ p op, (p, op) ∈ L → op.apart ops o = true) → Region.wanted o (yielded ops (actBs b L a).tmps) = Region.wanted o (yielded ops a.tmps)
  | [], _, _ => rfl
  | (i, op) :: r, a, h => by
    rw [actBs, actBs_wanted fun p q hm => h p q (List.mem_cons_of_mem _ hm)]
    exact actB_wanted (h i op (List.mem_cons_self ..))
theorem actBs_put {o : Oper} {b : Nat → Option Nat} {u : Value} : ∀ {L : List (Nat × Oper)} {a : Act}, (∀ p op, (p, op) ∈ L → op.apart ops o = true) → (actBs b L a).put o.dst u = actBs b L (a.put o.dst u)
  | [], _, _ => rfl
  | (i, op) :: r, a, h => by
    rw [actBs, actBs_put fun p q hm => h p q (List.mem_cons_of_mem _ hm), actB_put (h i op (List.mem_cons_self ..)), actBs]
theorem actBs_upd {b : Nat → Option Nat} {p x : Nat} : ∀ {L : List (Nat × Oper)} {a : Act}, (∀ q op, (q, op) ∈ L → q ≠ p) → actBs (updB b p x) L a = actBs b L a
  | [], _, _ => rfl
  | (i, op) :: r, a, h => by
    have := h i op (List.mem_cons_self ..)
    rw [actBs, actBs, actBs_upd fun q o hm => h q o (List.mem_cons_of_mem _ hm), updB, if_neg this]
theorem actBs_none : ∀ {L : List (Nat × Oper)} {a : Act}, actBs (fun _ => none) L a = a
  | [], _ => rfl
  | (_, _) :: r, a => actBs_none (L := r)
/-- A block's name comes in. -/
theorem actBs_new {b : Nat → Option Nat} {p x : Nat} {op : Oper} (hbn : b p = none) : ∀ {L : List (Nat × Oper)} {a : Act}, (p, op) ∈ L → (∀ q o o', (q, o) ∈ L → (q, o') ∈ L → o = o') → (L.map (·.1)).Nodup → (∀ q o, (q, o) ∈ L → q ≠ p → o.apart ops op = true) →
    (actBs b L a).put op.dst (.pointer (some ⟨x, 0, none⟩)) = actBs (updB b p x) L (a.put op.dst undef)
  | [], _, h, _, _, _ => by cases h
  | (i, oi) :: r, a, hm, hu, hn, hap => by
    simp only [List.map_cons, List.nodup_cons] at hn
    by_cases hip : i = p
    · subst hip
      obtain rfl : oi = op := hu i oi op (List.mem_cons_self ..) hm
      have hr : ∀ q o, (q, o) ∈ r → q ≠ i := fun q o hq e => hn.1 (by subst e; exact List.mem_map_of_mem (f := (·.1)) hq)
      rw [actBs, actBs, hbn, actBs_upd hr, updB, if_pos rfl]
      show (actBs b r a).put oi.dst _ = actBs b r (actB (a.put oi.dst undef) oi.dst (some x))
      rw [actBs_put (ops := ops) fun q o hq => hap q o (List.mem_cons_of_mem _ hq) (hr q o hq)]
      simp only [actB, put_put]
    · have hm' : (p, op) ∈ r := by
        rcases List.mem_cons.1 hm with h | h
        · exact absurd (Prod.mk.injEq .. ▸ h).1.symm hip
        · exact h
      rw [actBs, actBs, actBs_new hbn hm' (fun q o o' h1 h2 => hu q o o' (List.mem_cons_of_mem _ h1) (List.mem_cons_of_mem _ h2)) hn.2 (fun q o hq => hap q o (List.mem_cons_of_mem _ hq)), updB, if_neg hip,
        actB_put (hap i oi (List.mem_cons_self ..) hip)]

/-- What is known of the blocks that the region lays. -/
def LaidL (n0 : Nat) (β : List Nat) (objs : Nat → Obj) (b : Nat → Option Nat) (w : World) : Prop :=
  (∀ p x, b p = some x → n0 ≤ x ∧ x ∉ β ∧ w.heap[x]? = some (objs p)) ∧ ∀ p q x, b p = some x → b q = some x → p = q

theorem wpAny_of_Vs {Q : Exit → Act → World → Prop} (hQ : ∀ c a w, ¬ Q (.panic c) a w) (ht : TailOk ops nA) (hwf : ∀ i oi j oj, ops[i]? = some oi → isWF oi = true → ops[j]? = some oj → j ≠ i → (∀ e ∈ oj.after, Region.binds .any e = true → e.on ≠ i) → (∀ e ∈ oi.after, Region.binds .any e = true → e.on ≠ j) → oi.apart ops oj = true) {n0 : Nat} {β : List Nat} {objs : Nat → Obj} {K : Act → Prop} {nB : Nat} (hs : Region.noSelect ops = true) (hnd : ∀ (i : Nat) (o : Oper), ops[i]? = some o → ∀ c, o.op ≠ .defer c)
    (hap : ∀ p op, (p, op) ∈ allocsAt ops nA → ∀ j oj, j < nA → j ≠ p → ops[j]? = some oj → op.apart ops oj = true)
    (hrun : ∀ p op, (p, op) ∈ allocsAt ops nA → ∀ (a : Act) (w : World), (execOp a.eval op).run P w = .ok (.value (.pointer (some ⟨w.heap.size, 0, none⟩))) (w.alloc (objs p))) (hnodup : ((allocsAt ops nA).map (·.1)).Nodup)
    (hCn : ∀ w, C w → n0 ≤ w.heap.size ∧ w.heap.size ∉ β) (hCa : ∀ w o, C w → C (w.alloc o))
    (hK : ∀ a b w listed, K a → (∀ p op, (p, op) ∈ allocsAt ops nA → (b p).isSome = true) → (∀ i, i < nA → listed.getD i false = true) → (∀ i, nA ≤ i → i < ops.size → listed.getD i true = false) → listed.size = ops.size → C w → LaidL n0 β objs b w → wpAnyIn (Wd rd) n P .any ops Q nB listed (actBs b (allocsAt ops nA) a) w) :
    ∀ (f : Nat) (listed : Array Bool) (a : Act) (b : Nat → Option Nat) (w : World), wpV rd n P ops C nA K f listed a → (∀ p op, (p, op) ∈ allocsAt ops nA → ((b p).isSome = true ↔ listed.getD p false = true)) → (∀ i, nA ≤ i → i < ops.size → listed.getD i true = false) → listed.size = ops.size → DC ops listed → C w → LaidL n0 β objs b w →
      wpAnyIn (Wd rd) n P .any ops Q (f + nB) listed (actBs b (allocsAt ops nA) a) w
  | 0, listed, a, b, w, ⟨h1, h2⟩, hb1, hl, hsz, hdc, hC, hL => by
    rw [Nat.zero_add]
    exact hK a b w listed h2 (fun p op hp => (hb1 p op hp).2 (h1 p (allocsAt_mem.1 hp).1)) h1 hl hsz hC hL
  | f + 1, listed, a, b, w, ⟨⟨i0, hi0, hi0n⟩, hall⟩, hb1, hl, hsz, hdc, hC, hL => by
    rw [show f + 1 + nB = (f + nB) + 1 by omega]
    have hstb : Stb (LaidL n0 β objs b) := by
      intro u u' h1 h2
      exact ⟨fun p x hx => ⟨(h1.1 p x hx).1, (h1.1 p x hx).2.1, (h2.block x (Array.getElem?_eq_some_iff.1 (h1.1 p x hx).2.2).1).trans (h1.1 p x hx).2.2⟩, h1.2⟩
    have apt : ∀ {i : Nat} {o : Oper}, i < nA → ops[i]? = some o → isAl o = false → ∀ p op, (p, op) ∈ allocsAt ops nA → op.apart ops o = true := by
      intro i o hi ho hal p op hp
      refine hap p op hp i o hi ?_ ho
      rintro rfl
      obtain ⟨_, h2, h3⟩ := allocsAt_mem.1 hp
      rw [ho] at h2; simp only [Option.some.injEq] at h2; subst h2; rw [hal] at h3; cases h3
    by_cases hrd : ∀ i ∈ Region.ready .any ops listed, i < nA
    case neg =>
      simp only [Classical.not_forall] at hrd
      obtain ⟨j, hj, hjn⟩ := hrd
      obtain ⟨_, oj, hoj, hallj⟩ := mem_ready.1 hj
      obtain ⟨o, v, ho, hy, hnext⟩ := hall i0 hi0 hi0n
      have hiun := (mem_ready.1 hi0).1
      have hw0 : isWF o = true := by
        rcases ht j oj (by omega) hoj listed hdc hallj i0 (by omega) with h | ⟨ok, hk, hkw⟩
        · rw [un_of hiun] at h; cases h
        · rw [ho] at hk; simp only [Option.some.injEq] at hk; subst hk; exact hkw
      have hal : isAl o = false := by
        unfold isWF at hw0
        split at hw0
        · rename_i x y hg hx; simp [isAl, hg, hx]
        · rename_i x hg hx; simp [isAl, hg, hx]
        · cases hw0
      have hsel := fun cs b => Region.noSelect_spec hs i0 o cs b ho
      have e1 : execOp (actBs b (allocsAt ops nA) a).eval o = execOp a.eval o := actBs_exec (ops := ops) hsel (apt hi0n ho hal)
      have e3 : ∀ u, (actBs b (allocsAt ops nA) a).put o.dst u = actBs b (allocsAt ops nA) (a.put o.dst u) := fun u => actBs_put (ops := ops) (apt hi0n ho hal)
      unfold YU at hy
      rw [if_neg (by rw [hal]; simp)] at hy
      have hg : o.guard = none := by
        unfold isWF at hw0
        split at hw0
        · assumption
        · assumption
        · cases hw0
      rcases hy with ⟨hw, hq⟩ | ⟨hw, _⟩
      · have hrun0 := wf_run hw0 (hq (LaidL n0 β objs b) hstb w hC hL)
        refine wpAny_first_wf ho hg hs hnd hQ (fun j' oj' h1 h2 h3 h4 => hwf i0 o j' oj' ho hw0 h1 h2 h3 h4) (f + nB) listed _ w hi0 (fun u => by rw [e1]; exact hrun0 u) ?_
        rw [e3 v]
        exact wpAny_of_Vs hQ ht hwf hs hnd hap hrun hnodup hCn hCa hK f (listed.setIfInBounds i0 true) (a.put o.dst v) b w hnext (fun p op hp => by
          have hne : i0 ≠ p := by
            rintro rfl
            obtain ⟨_, h2, h3⟩ := allocsAt_mem.1 hp
            rw [ho] at h2; simp only [Option.some.injEq] at h2; subst h2; rw [hal] at h3; cases h3
          rw [getD_set_ne false hne]; exact hb1 p op hp) (fun j hj hjs => by
          rw [getD_set_ne true (by omega)]; exact hl j hj hjs) (by simpa using hsz) (hdc.set hi0) hC hL
      · exfalso; simp [Region.wanted, hg] at hw
    refine ⟨fun he => (by rw [he] at hi0; simp at hi0), fun i hi => ?_⟩
    have hin := hrd i hi
    obtain ⟨o, v, ho, hy, hnext⟩ := hall i hi hin
    have hiun := (mem_ready.1 hi).1
    have hisz : i < ops.size := (Array.getElem?_eq_some_iff.1 ho).1
    have hl' : ∀ j, nA ≤ j → j < ops.size → (listed.setIfInBounds i true).getD j true = false := fun j hj hjs => by
      rw [getD_set_ne true (by omega)]; exact hl j hj hjs
    unfold wpOpIn
    simp only [ho]
    by_cases hal : isAl o = true
    · have hp : (i, o) ∈ allocsAt ops nA := allocsAt_mem.2 ⟨hin, ho, hal⟩
      have hbn : b i = none := by
        cases hbi : b i with
        | none => rfl
        | some x => have := (hb1 i o hp).1 (by rw [hbi]; rfl); rw [un_of hiun] at this; cases this
      unfold YU at hy
      rw [if_pos hal] at hy
      subst hy
      have hg : o.guard = none := by
        unfold isAl at hal
        split at hal
        · assumption
        · cases hal
      rw [if_pos (by simp [Region.wanted, hg])]
      refine ⟨fun _ _ => trivial, ?_⟩
      rw [semAt_plain' (hnd i o ho), hrun i o hp _ w]
      obtain ⟨c1, c2⟩ := hCn w hC
      simp only [Oper.uponIn]
      rw [actBs_new (ops := ops) hbn hp (fun q o1 o2 h1 h2 => by
        have e1 := (allocsAt_mem.1 h1).2.1; rw [(allocsAt_mem.1 h2).2.1] at e1; simpa using e1.symm) hnodup (fun q o' hq hne => hap q o' hq i o hin (Ne.symm hne) ho)]
      have hxn : ∀ q y, b q = some y → y ≠ w.heap.size := fun q y hy e => by
        have := (Array.getElem?_eq_some_iff.1 (hL.1 q y hy).2.2).1; omega
      refine wpAny_of_Vs hQ ht hwf hs hnd hap hrun hnodup hCn hCa hK f (listed.setIfInBounds i true) (a.put o.dst undef) (updB b i w.heap.size) (w.alloc (objs i)) hnext (fun q oq hq => ?_) hl' (by simpa using hsz) (hdc.set hi) (hCa w _ hC) ⟨fun q y hy => ?_, fun q r y h1 h2 => ?_⟩
      · unfold updB
        by_cases e : q = i
        · subst e; simp [hsz, hisz]
        · rw [if_neg e, getD_set_ne false (Ne.symm e)]; exact hb1 q oq hq
      · unfold updB at hy
        by_cases e : q = i
        · subst e
          rw [if_pos rfl] at hy; simp only [Option.some.injEq] at hy; subst hy
          exact ⟨c1, c2, by show (w.heap.push (objs q))[w.heap.size]? = _; simp⟩
        · rw [if_neg e] at hy
          obtain ⟨g1, g2, g3⟩ := hL.1 q y hy
          exact ⟨g1, g2, by rw [Below.heap_alloc _ _ _ (Array.getElem?_eq_some_iff.1 g3).1]; exact g3⟩
      · unfold updB at h1 h2
        by_cases e1 : q = i
        · by_cases e2 : r = i
          · rw [e1, e2]
          · rw [if_pos e1] at h1; rw [if_neg e2] at h2
            simp only [Option.some.injEq] at h1
            exact absurd h1.symm (hxn r y h2)
        · by_cases e2 : r = i
          · rw [if_neg e1] at h1; rw [if_pos e2] at h2
            simp only [Option.some.injEq] at h2
            exact absurd h2.symm (hxn q y h1)
          · rw [if_neg e1] at h1; rw [if_neg e2] at h2
            exact hL.2 q r y h1 h2
    · have hal' : isAl o = false := by simpa using hal
      unfold YU at hy
      rw [if_neg hal] at hy
      have hne : ∀ p op, (p, op) ∈ allocsAt ops nA → i ≠ p := by
        rintro p op hp rfl
        obtain ⟨_, h2, h3⟩ := allocsAt_mem.1 hp
        rw [ho] at h2; simp only [Option.some.injEq] at h2; subst h2; exact hal h3
      have nx : ∀ w', C w' → LaidL n0 β objs b w' → wpAnyIn (Wd rd) n P .any ops Q (f + nB) (listed.setIfInBounds i true) (actBs b (allocsAt ops nA) (a.put o.dst v)) w' := fun w' hC' hL' =>
        wpAny_of_Vs hQ ht hwf hs hnd hap hrun hnodup hCn hCa hK f (listed.setIfInBounds i true) (a.put o.dst v) b w' hnext (fun p op hp => by
          rw [getD_set_ne false (hne p op hp)]; exact hb1 p op hp) hl' (by simpa using hsz) (hdc.set hi) hC' hL'
      have hsel := fun cs b => Region.noSelect_spec hs i o cs b ho
      have e1 : execOp (actBs b (allocsAt ops nA) a).eval o = execOp a.eval o := actBs_exec (ops := ops) hsel (apt hin ho hal')
      have e2 : Region.wanted o (yielded ops (actBs b (allocsAt ops nA) a).tmps) = Region.wanted o (yielded ops a.tmps) := actBs_wanted (ops := ops) (apt hin ho hal')
      have e3 : ∀ u, (actBs b (allocsAt ops nA) a).put o.dst u = actBs b (allocsAt ops nA) (a.put o.dst u) := fun u => actBs_put (ops := ops) (apt hin ho hal')
      rw [e2]
      rcases hy with ⟨hw, hq⟩ | ⟨hw, rfl⟩
      · rw [if_pos hw]
        refine wpIn_of_quiet' (C := fun u => C u ∧ LaidL n0 β objs b u) (K := fun a' => a' = actBs b (allocsAt ops nA) (a.put o.dst v)) (hnd i o ho) ⟨hC, hL⟩ (fun a' w' hw' he => by rw [he]; exact nx w' hw'.1 hw'.2) (fun _ _ _ _ => trivial) ⟨v, fun u hu => ?_, e3 v⟩
        have := hq (LaidL n0 β objs b) hstb u hu.1 hu.2
        unfold Oper.quietAtIn at this ⊢
        rw [e1]; exact this
      · rw [if_neg (by rw [hw]; simp)]
        exact ⟨fun _ _ => trivial, by rw [e3]; exact nx w hC hL⟩

end

theorem evAllocs_sound {T : Tab} {n0 : Nat} {w0 : Base} {w : World} {D : List Deferred} {b : Nat → Option Nat} {K : St → Prop} {R : Prop} (hinj : ∀ p q x, b p = some x → b q = some x → p = q) : ∀ (L : List (Nat × Oper)) (st : St) (β : List Nat) (a : Act), evAllocs T L st K → HR n0 w0 β st.heap w → TmR β st.tmps a.tmps.toList → a.defers = D → (L.map (·.1)).Nodup →
    (∀ p op, (p, op) ∈ L → ∃ x t ti arr, b p = some x ∧ op.op = .alloc t ∧ look T t = some ti ∧ w.heap[x]? = some (.cells arr t (0, 0)) ∧ n0 ≤ x ∧ (∀ β, CelsR β ti.3 arr.toList) ∧ (∀ (i c : Nat) (B : Blk), st.heap[i]? = some B → β[i]? = some c → ¬ B.nil → c ≠ x) ∧ ∀ (i c : Nat) (B : Blk) (y : Nat), st.heap[i]? = some B → β[i]? = some c → B.inn w c y → y ≠ x) →
    (∀ st' γ, K st' → HR n0 w0 (β ++ γ) st'.heap w → TmR (β ++ γ) st'.tmps (actBs b L a).tmps.toList → (actBs b L a).defers = D → R) → R
  | [], st, β, a, h, hH, hM, hD, _, _, hR => hR st [] h (by simpa using hH) (by simp only [List.append_nil]; exact hM) hD
  | (p, op) :: r, st, β, a, h, hH, hM, hD, hn, hL, hR => by
    simp only [List.map_cons, List.nodup_cons] at hn
    obtain ⟨x, t, ti, arr, h1, h2, h3, h4, h5, h6, h7, h8⟩ := hL p op (List.mem_cons_self ..)
    unfold evAllocs at h
    rw [h2] at h
    simp only at h
    split at h
    · rename_i y r' H' he
      rw [force_eq, forceH_eq] at h
      unfold evAlloc at he
      rw [h3] at he
      have he := withLen_sound he
      simp only [Option.some.injEq, Prod.mk.injEq] at he
      obtain ⟨_, rfl, rfl⟩ := he
      have hAd := hH.adopt h5 h7 h8 h4 (h6 β)
      refine evAllocs_sound (b := b) hinj r _ (β ++ [x]) (actB a op.dst (b p)) h hAd ?_ ?_ hn.2 (fun q oq hq => ?_) (fun st' γ k1 k2 k3 k4 => hR st' ([x] ++ γ) k1 (by simpa using k2) (by rw [← List.append_assoc]; exact k3) k4)
      · rw [h1]
        exact putL_sound (β := β ++ [x]) (x := .a (.c (.ptr st.heap.length 0))) ⟨x, by rw [← hH.len]; simp, rfl⟩ _ hM.mono
      · rw [h1]
        show (a.put _ _).defers = _
        unfold Act.put; split <;> simpa using hD
      · obtain ⟨x', t', ti', arr', g1, g2, g3, g4, g5, g6, g7⟩ := hL q oq (List.mem_cons_of_mem _ hq)
        refine ⟨x', t', ti', arr', g1, g2, g3, g4, g5, g6, fun i c B hB hc hnil e => ?_, fun i c B y hB hc hy => ?_⟩
        rotate_left
        · rcases push_cases hH.len hB hc with ⟨i1, i2, i3⟩ | ⟨rfl, rfl, rfl⟩
          · exact g7.2 i c B y i2 i3 hy
          · exact hy.elim
        have g7 := g7.1
        rcases push_cases hH.len hB hc with ⟨i1, i2, i3⟩ | ⟨rfl, rfl, rfl⟩
        · exact g7 i c B i2 i3 hnil e
        · subst e
          have := hinj p q c h1 g1
          subst this
          exact hn.1 (List.mem_map_of_mem (f := (·.1)) hq)
    · exact h.elim

theorem mixBs_sound {T : Tab} {ops : Array Oper} {nA : Nat} (h : mixBs T ops nA = true) : Region.noSelect ops = true ∧ lexA ops nA nA 0 (Array.replicate ops.size false) = true ∧
    (∀ j oj, ops[j]? = some oj → ∀ e ∈ oj.after, Region.binds .any e = true → e.on < j) ∧ TailOk ops nA ∧ nA ≤ ops.size ∧
    (∀ p op, (p, op) ∈ allocsAt ops nA → (∀ j oj, j < nA → j ≠ p → ops[j]? = some oj → op.apart ops oj = true) ∧ ∃ t ti, op.op = .alloc t ∧ look T t = some ti) ∧ ((allocsAt ops nA).map (·.1)).Nodup ∧
    (∀ i oi j oj, ops[i]? = some oi → isWF oi = true → ops[j]? = some oj → j ≠ i → (∀ e ∈ oj.after, Region.binds .any e = true → e.on ≠ i) → (∀ e ∈ oi.after, Region.binds .any e = true → e.on ≠ j) → oi.apart ops oj = true) := by
  unfold mixBs at h
  rw [Bool.and_eq_true, Bool.and_eq_true] at h
  obtain ⟨⟨h0, h6⟩, h8⟩ := h
  simp only [Bool.and_eq_true, List.all_eq_true, List.mem_range, decide_eq_true_eq, Bool.or_eq_true] at h0
  obtain ⟨⟨⟨⟨⟨h1, h2⟩, h3⟩, h7⟩, h4⟩, h5⟩ := h0
  refine ⟨h1, h2, ?_, ?_, h5, ?_, by simpa using h8, ?_⟩
  · intro j oj hj e he hb
    simp only [rangeOk, List.all_eq_true, List.mem_range] at h3
    have := h3 j (Array.getElem?_eq_some_iff.1 hj).1
    rw [hj] at this
    simp only [List.all_eq_true, Bool.or_eq_true, Bool.not_eq_true', decide_eq_true_eq] at this
    rcases this e (by simpa using he) with h' | h'
    · rw [hb] at h'; cases h'
    · exact h'
  · intro j oj hn hj listed hdc hall k hk
    rcases h4 j (Array.getElem?_eq_some_iff.1 hj).1 with h' | h'
    · omega
    · rw [hj] at h'
      simp only [waitsMost, List.all_eq_true, List.mem_range, Bool.or_eq_true] at h'
      rcases h' k hk with hr | hkw
      · exact .inl (reaches_sound hdc 8 oj hall hr)
      · split at hkw
        · rename_i ok hok
          exact .inr ⟨ok, hok, hkw⟩
        · cases hkw
  · intro p op hp
    have := (List.all_eq_true.1 h6) (p, op) hp
    rw [Bool.and_eq_true] at this
    refine ⟨fun j oj hj hjp ho => ?_, ?_⟩
    · have := (List.all_eq_true.1 this.1) j (by simpa using hj)
      rw [ho] at this
      simp only [Bool.or_eq_true, beq_iff_eq] at this
      exact this.resolve_left hjp
    · have h2 := this.2
      simp only at h2
      split at h2
      · rename_i t ho
        obtain ⟨ti, hti⟩ := Option.isSome_iff_exists.1 h2
        exact ⟨t, ti, ho, hti⟩
      · cases h2
  · intro i oi j oj hi hw hj hji n1 n2
    simp only [wfOk, List.all_eq_true, List.mem_range] at h7
    have := h7 i (Array.getElem?_eq_some_iff.1 hi).1
    rw [hi] at this
    simp only [hw, Bool.not_true, Bool.false_or, List.all_eq_true, List.mem_range] at this
    have := this j (Array.getElem?_eq_some_iff.1 hj).1
    rw [hj] at this
    simp only [Bool.or_eq_true, beq_iff_eq, List.any_eq_true, Bool.and_eq_true] at this
    rcases this with h' | (⟨e, he, hb, hon⟩ | ⟨e, he, hb, hon⟩) | h'
    · exact absurd h' hji
    · exact absurd hon (n1 e (by simpa using he) hb)
    · exact absurd hon (n2 e (by simpa using he) hb)
    · exact h'

theorem mixB_sound {ops : Array Oper} {nA p : Nat} {op : Oper} (h : mixB ops nA p op = true) : Region.noSelect ops = true ∧ lexA ops nA nA 0 (Array.replicate ops.size false) = true ∧
    (∀ j oj, ops[j]? = some oj → ∀ e ∈ oj.after, Region.binds .any e = true → e.on < j) ∧ TailOk ops nA ∧ nA ≤ ops.size ∧
    (∀ i o, i < nA → ops[i]? = some o → isAl o = true → i = p) ∧ (∀ j oj, j < nA → j ≠ p → ops[j]? = some oj → p < nA → op.apart ops oj = true) ∧
    (∀ i oi j oj, ops[i]? = some oi → isWF oi = true → ops[j]? = some oj → j ≠ i → (∀ e ∈ oj.after, Region.binds .any e = true → e.on ≠ i) → (∀ e ∈ oi.after, Region.binds .any e = true → e.on ≠ j) → oi.apart ops oj = true) := by
  simp only [mixB, Bool.and_eq_true, List.all_eq_true, List.mem_range, decide_eq_true_eq, Bool.or_eq_true] at h
  obtain ⟨⟨⟨⟨⟨⟨h1, h2⟩, h3⟩, h7⟩, h4⟩, h5⟩, h6⟩ := h
  refine ⟨h1, h2, ?_, ?_, h5, ?_, ?_, ?_⟩
  · intro j oj hj e he hb
    simp only [rangeOk, List.all_eq_true, List.mem_range] at h3
    have := h3 j (Array.getElem?_eq_some_iff.1 hj).1
    rw [hj] at this
    simp only [List.all_eq_true, Bool.or_eq_true, Bool.not_eq_true', decide_eq_true_eq] at this
    rcases this e (by simpa using he) with h' | h'
    · rw [hb] at h'; cases h'
    · exact h'
  · intro j oj hn hj listed hdc hall k hk
    rcases h4 j (Array.getElem?_eq_some_iff.1 hj).1 with h' | h'
    · omega
    · rw [hj] at h'
      simp only [waitsMost, List.all_eq_true, List.mem_range, Bool.and_eq_true, Bool.or_eq_true, decide_eq_true_eq] at h'
      rcases h' k hk with hr | hkw
      · exact .inl (reaches_sound hdc 8 oj hall hr)
      · split at hkw
        · rename_i ok hok
          exact .inr ⟨ok, hok, hkw⟩
        · cases hkw
  · intro i o hi ho hal
    have := h6 i hi
    rw [ho] at this
    simp only [Bool.and_eq_true, Bool.or_eq_true, Bool.not_eq_true', beq_iff_eq] at this
    rcases this.1 with h' | h'
    · rw [hal] at h'; cases h'
    · exact h'
  · intro j oj hj hjp ho hpn
    have := h6 j hj
    rw [ho] at this
    simp only [Bool.and_eq_true, Bool.or_eq_true, Bool.not_eq_true', beq_iff_eq, decide_eq_true_eq] at this
    rcases this.2 with (h' | h') | h'
    · exact absurd h' hjp
    · omega
    · exact h'
  · intro i oi j oj hi hw hj hji n1 n2
    simp only [wfOk, List.all_eq_true, List.mem_range] at h7
    have := h7 i (Array.getElem?_eq_some_iff.1 hi).1
    rw [hi] at this
    simp only [hw, Bool.not_true, Bool.false_or, List.all_eq_true, List.mem_range] at this
    have := this j (Array.getElem?_eq_some_iff.1 hj).1
    rw [hj] at this
    simp only [Bool.or_eq_true, beq_iff_eq, List.any_eq_true, Bool.and_eq_true] at this
    rcases this with h' | (⟨e, he, hb, hon⟩ | ⟨e, he, hb, hon⟩) | h'
    · exact absurd h' hji
    · exact absurd hon (n1 e (by simpa using he) hb)
    · exact absurd hon (n2 e (by simpa using he) hb)
    · exact h'

theorem allocAt_sound {ops : Array Oper} {nA p : Nat} {op : Oper} (h : allocAt ops nA = some (p, op)) : p < nA ∧ ops[p]? = some op ∧ isAl op = true := by
  unfold allocAt at h
  obtain ⟨i, hi, he⟩ := List.exists_of_findSome?_eq_some h
  simp only [List.mem_range] at hi
  split at he
  · rename_i o ho
    split at he
    · rename_i hal
      simp only [Option.some.injEq, Prod.mk.injEq] at he
      obtain ⟨rfl, rfl⟩ := he
      exact ⟨hi, ho, hal⟩
    · simp at he
  · simp at he

theorem allocAt_none {ops : Array Oper} {nA : Nat} (h : allocAt ops nA = none) {i : Nat} {o : Oper} (hi : i < nA) (ho : ops[i]? = some o) : isAl o = false := by
  unfold allocAt at h
  rw [List.findSome?_eq_none_iff] at h
  have := h i (by simpa using hi)
  rw [ho] at this
  simp only at this
  split at this
  · cases this
  · rename_i hn; simpa using hn

/-- A loop over an iterator is entered. -/
theorem enter_sx {P : Program} {w : World} (fn : FuncId) (tmps : Array Value) (ps : Array Tmp) (assign body : Code) (rd : Option Nat) (hr : ∀ l0, rd = some l0 → ∃ r, w.heap[l0]? = some (.loop r)) :
    ∃ (l : Nat) (mark : List Deferred) (r : Loop) (W : World), (Instr.enterLoop fn tmps ps assign body rd).run P w = .ok (l, mark) W ∧ W.heap[l]? = some (.loop { r with state := .ready, pending := none }) ∧
      r.fn = fn ∧ r.tmps = tmps ∧ r.params = ps ∧ r.assign = assign ∧ r.body = body ∧ w.heap.size ≤ l ∧ Below w.heap.size w W ∧
      (mark = [] ∨ ∃ D, mark = [{ target := .collected D, args := #[] }] ∧ w.heap.size ≤ D ∧ D ≠ l ∧ W.heap[D]? = some (.deferred (some []))) := by
  cases rd with
  | none =>
    refine ⟨_, _, { state := .ready, pending := none, fn, tmps, params := ps, assign, body, defers := w.heap.size }, _, run_enterLoop_outer fn tmps ps assign body, ?_, rfl, rfl, rfl, rfl, rfl, by omega, ?_, .inr ⟨_, rfl, Nat.le_refl _, by omega, ?_⟩⟩
    · have := World.alloc_heap_new (w.alloc (.deferred (some []))) (.loop { state := .ready, pending := none, fn, tmps, params := ps, assign, body, defers := w.heap.size })
      rwa [World.size_alloc] at this
    · exact ((Below.refl _ w).alloc (Nat.le_refl _) _).alloc (by simp) _
    · exact (Below.heap_alloc _ _ _ (by simp)).trans (World.alloc_heap_new w _)
  | some l0 =>
    obtain ⟨r0, h0⟩ := hr l0 rfl
    refine ⟨w.heap.size, [], { state := .ready, pending := none, fn, tmps, params := ps, assign, body, defers := r0.defers }, w.alloc (.loop { state := .ready, pending := none, fn, tmps, params := ps, assign, body, defers := r0.defers }), ?_, World.alloc_heap_new w _, rfl, rfl, rfl, rfl, rfl, Nat.le_refl _, (Below.refl _ w).alloc (Nat.le_refl _) _, .inl rfl⟩
    unfold Instr.enterLoop
    simp only [Sem.run_bind, run_getLoop h0, run_newObj_alloc, Result.andThen, Sem.run_pure]

theorem getB_lp {s : LoopState} {pe : Option Code} : ∀ {H : List Blk} {i : Nat}, getB H i = .lp s pe → H[i]? = some (.lp s pe)
  | [], _, h => by simp [getB] at h
  | x :: xs, 0, h => by simpa [getB] using h
  | x :: xs, n + 1, h => by simpa using getB_lp (H := xs) (by simpa [getB] using h)

theorem lpOf_get {H : List Blk} {id : Nat} {s : LoopState} {pe : Option Code} (h : lpOf H id = some (s, pe)) : H[id]? = some (.lp s pe) := by
  cases hg : getB H id with
  | dead => simp [lpOf, hg] at h
  | cells o t cs => simp [lpOf, hg] at h
  | wnd _ _ _ _ => simp [lpOf, hg] at h
  | mp _ _ _ _ => simp [lpOf, hg] at h
  | nst _ _ _ _ _ _ => simp [lpOf, hg] at h
  | lp s' pe' =>
    simp only [lpOf, hg, Option.some.injEq, Prod.mk.injEq] at h
    obtain ⟨rfl, rfl⟩ := h
    exact getB_lp hg

theorem isReady_get {H : List Blk} {id : Nat} (h : isReady (lpOf H id) = true) : H[id]? = some (.lp .ready none) := by
  unfold isReady at h
  split at h
  · rename_i hh; exact lpOf_get hh
  · cases h

theorem isBusy_get {H : List Blk} {id : Nat} (h : isBusy (lpOf H id) = true) : H[id]? = some (.lp .busy none) := by
  unfold isBusy at h
  split at h
  · rename_i hh; exact lpOf_get hh
  · cases h

theorem TmR.pre {β β1 : List Nat} (h : β <+: β1) {ts : List LV} {vs : List Value} (ht : TmR β ts vs) : TmR β1 ts vs := by
  obtain ⟨γ, rfl⟩ := h; exact ht.mono

theorem putLs_go {β : List Nat} : ∀ {ps : List Tmp} {args : List LV} {vals : List Value} {ts ts' : List LV} {vs : Array Value}, TmR β ts vs.toList → TmR β args vals → putLs ts ps args = some ts' →
    vals.length = ps.length ∧ TmR β ts' ((ps.zip vals).foldl (fun tmps (t, a) => tmps.setIfInBounds t a) vs).toList
  | [], [], vals, ts, ts', vs, h, ha, hp => by
    simp only [putLs, Option.some.injEq] at hp; subst hp
    simp only [TmR] at ha; subst ha
    exact ⟨rfl, by simpa using h⟩
  | [], _ :: _, _, _, _, _, _, _, hp => by simp [putLs] at hp
  | _ :: _, [], _, _, _, _, _, _, hp => by simp [putLs] at hp
  | p :: ps, x :: args, vals, ts, ts', vs, h, ⟨v, rest, e, h1, h2⟩, hp => by
    subst e
    simp only [putLs] at hp
    obtain ⟨g1, g2⟩ := putLs_go (vs := vs.setIfInBounds p v) (by simpa using setL_sound h1 p h) h2 hp
    exact ⟨by simp [g1], by simpa using g2⟩

theorem putLs_sound {β : List Nat} {ps : Array Tmp} {args : List LV} {vals : Array Value} {ts ts' : List LV} {vs : Array Value} (h : TmR β ts vs.toList) (ha : TmR β args vals.toList) (hp : putLs ts ps.toList args = some ts') :
    vals.size = ps.size ∧ TmR β ts' ((ps.zip vals).foldl (fun tmps (t, a) => tmps.setIfInBounds t a) vs).toList := by
  obtain ⟨g1, g2⟩ := putLs_go h ha hp
  refine ⟨by simpa using g1, ?_⟩
  rw [← Array.foldl_toList, Array.toList_zip]; exact g2

section
variable {P : Program} {T : Tab} (hT : TabOk P T) {I : CI} (hI : CIOk P T I) {C : Ctr} (hC : CtrOk P T C) (hm : P.follows .mixedOrders = true) {o : Bool} {n0 : Nat} {Λ : Nat → LM}
include hT hI hC hm

omit hC hm in
theorem evOp1_sound {Y : YE} {rd : Option Nat} {n : Nat} {w0 : Base} {B : List Nat} {D : List Deferred} (hG : GOk T w0) (hY : YOk P n0 w0 B Y) {all : Array Oper} {K : St → Prop} {K' : Act → World → Prop} {Q : Exit → Act → World → Prop} {i : Nat} {op : Oper} (hi : all[i]? = some op) (st : St) (β : List Nat) (a : Act) (w : World)
    (h : evOps o T I Y all [op] st K) (hN : B <+: β) (hH : HR n0 w0 β st.heap w) (hM : TmR β st.tmps a.tmps.toList) (hD : a.defers = D)
    (hK : ∀ st' γ a' w', K st' → HR n0 w0 (β ++ γ) st'.heap w' → TmR (β ++ γ) st'.tmps a'.tmps.toList → a'.defers = D → K' a' w') :
    wpOpIn (Wd rd) n P all Q i K' a w := by
  have hput : ∀ (v : Value), (a.put op.dst v).defers = D := by intro v; unfold Act.put; split <;> simpa using hD
  have one : ∀ (st : St), HR n0 w0 β st.heap w → TmR β st.tmps a.tmps.toList → evOne o T I Y op st (fun st' => evOps o T I Y all [] st' K) → op.wpIn (Wd rd) n P a w K' Q := by
    intro st hH hM h
    refine evOne_sound hT hI hG hY h hN hH hM hD ?_
    intro st' γ a' w' hk g1 g2 g3
    exact hK st' γ a' w' hk g1 g2 g3
  have skip : ∀ (ts : List LV), TmR β ts a.tmps.toList → evOps o T I Y all [] ⟨putL ts op.dst (.a (.c (.val undef))), st.heap⟩ K → K' (a.put op.dst undef) w := by
    intro ts hts h
    refine hK _ [] _ w h (by simpa using hH) ?_ (hput undef)
    simpa using putL_sound (x := .a (.c (.val undef))) (v := undef) rfl op.dst hts
  unfold evOps at h
  unfold wpOpIn
  simp only [hi]
  split at h
  · rename_i hg
    rw [if_pos (by simp [Region.wanted, hg])]
    exact one st hH hM h
  · rename_i j want hg
    split at h
    · rename_i b hy
      have hy' := yOf_known hM hy
      by_cases hb : b = want
      · rw [if_pos hb] at h
        rw [if_pos (by simp [Region.wanted, hg, hy', hb])]
        exact one st hH hM h
      · rw [if_neg hb, force_eq] at h
        rw [if_neg (by simp [Region.wanted, hg, hy', hb])]
        exact ⟨fun _ _ => trivial, skip _ hM h⟩
    · rename_i d b hy
      obtain ⟨hy', hgd⟩ := yOf_open hM hy
      by_cases hb : b = want
      · have h := h.1 hb
        rw [force_eq] at h
        rw [if_pos (by simp [Region.wanted, hg, hy', hb])]
        subst hb
        exact one ⟨setL st.tmps d (litB b), st.heap⟩ hH (know_sound hM hgd) h
      · have hb' : b = !want := by cases b <;> cases want <;> simp_all
        have h := h.2 hb'
        rw [force_eq] at h
        rw [if_neg (by simp [Region.wanted, hg, hy', hb])]
        refine ⟨fun _ _ => trivial, skip _ ?_ h⟩
        rw [← hb']; exact know_sound hM hgd
    · rename_i hy
      have hy' := yOf_none hM hy
      rw [force_eq] at h
      rw [if_neg (by simp [Region.wanted, hg, hy'])]
      exact ⟨fun _ _ => trivial, skip _ hM h⟩
    · exact h.elim

omit hT hI hC hm in
theorem mv_val {rd : Option Nat} {n : Nat} {o : Oper} (h : isMv o = true) (hnd : ∀ c, o.op ≠ .defer c) {a : Act} {w : World} {K : Act → World → Prop} {Q : Exit → Act → World → Prop} (hQ : ∀ c a w, ¬ Q (.panic c) a w) (hq : o.wpIn (Wd rd) n P a w K Q) :
    o.guard = none ∧ ∃ v, (∀ u, (execOp a.eval o).run P u = .ok (.value v) u) ∧ K (a.put o.dst v) w := by
  unfold isMv at h
  split at h
  · rename_i x i hgu ho
    refine ⟨hgu, ?_⟩
    unfold Oper.wpIn at hq
    have hq := hq.2
    rw [semAt_plain' hnd] at hq
    simp only [execOp, ho, Instr.extract] at hq ⊢
    cases hx : a.eval x <;> simp only [hx] at hq ⊢ <;> try (simp [Oper.uponIn, stuck, Sem.run] at hq; done)
    split at hq
    · rename_i y hy
      simp [Oper.uponIn] at hq
      exact ⟨y, fun u => by simp, hq⟩
    · simp [Oper.uponIn, stuck, Sem.run] at hq
  · rename_i x hgu ho
    refine ⟨hgu, ?_⟩
    unfold Oper.wpIn at hq
    have hq := hq.2
    rw [semAt_plain' hnd] at hq
    simp only [execOp, ho] at hq ⊢
    simp [Oper.uponIn] at hq
    exact ⟨_, fun u => by simp, hq⟩
  · cases h

omit hC hm in
/-- A region of which all orders are run. -/
theorem evB_sound {Y : YE} {rd : Option Nat} {n : Nat} {w0 : Base} {B : List Nat} {D : List Deferred} (hG : GOk T w0) (hY : YOk P n0 w0 B Y) {ops : Array Oper} {K : St → Prop} {Q : Exit → Act → World → Prop} (hs : Region.noSelect ops = true) (hnd : noDefer ops = true) (hQ : ∀ c a w, ¬ Q (.panic c) a w) : ∀ (f : Nat) (listed : Array Bool) (st : St) (β : List Nat) (a : Act) (w : World),
    evB o T I Y ops f listed st K → B <+: β → HR n0 w0 β st.heap w → TmR β st.tmps a.tmps.toList → a.defers = D →
    (∀ st' γ a' w', K st' → HR n0 w0 (β ++ γ) st'.heap w' → TmR (β ++ γ) st'.tmps a'.tmps.toList → a'.defers = D → Q .normal a' w') → wpAnyIn (Wd rd) n P .any ops Q f listed a w
  | 0, listed, st, β, a, w, h, hN, hH, hM, hD, hK => by
    unfold evB at h
    split at h
    · rename_i he
      exact ⟨he, hK st [] a w h (by simpa using hH) (by simpa using hM) hD⟩
    · exact h.elim
  | f + 1, listed, st, β, a, w, h, hN, hH, hM, hD, hK => by
    have step : ∀ (j : Nat) (op : Oper), ops[j]? = some op → evOps o T I Y ops [op] st (fun st' => evB o T I Y ops f (listed.setIfInBounds j true) st' K) →
        wpOpIn (Wd rd) n P ops Q j (fun a' w' => wpAnyIn (Wd rd) n P .any ops Q f (listed.setIfInBounds j true) a' w') a w := by
      intro j op ho h
      refine evOp1_sound hT hI hG hY ho st β a w h hN hH hM hD ?_
      intro st' γ a' w' k1 k2 k3 k4
      exact evB_sound hG hY hs hnd hQ f _ st' (β ++ γ) a' w' k1 (pre_append hN) k2 k3 k4 (fun st'' γ' a'' w'' g1 g2 g3 g4 => hK st'' (γ ++ γ') a'' w'' g1 (by simpa using g2) (by simpa using g3) g4)
    unfold evB at h
    split at h
    · rename_i he
      exact ⟨fun _ => hK st [] a w h (by simpa using hH) (by simpa using hM) hD, fun i hi => by rw [he] at hi; cases hi⟩
    · rename_i i r he
      split at h
      · rename_i j op hp
        obtain ⟨p1, p2, p3⟩ := pickF_mem hp
        unfold mvOk at p3
        rw [Bool.and_eq_true] at p3
        obtain ⟨p3, p4⟩ := p3
        have h1 := step j op p2 h
        have hgu : op.guard = none := by
          unfold isMv at p3
          split at p3 <;> first | assumption | cases p3
        unfold wpOpIn at h1
        simp only [p2] at h1
        rw [if_pos (by simp [Region.wanted, hgu])] at h1
        obtain ⟨_, v, v1, v2⟩ := mv_val p3 (noDefer_sound hnd j op p2) hQ h1
        refine wpAny_first_wf p2 hgu hs (noDefer_sound hnd) hQ ?_ f listed a w (by rw [he]; exact p1) v1 v2
        intro k ok hk hkj n1 n2
        simp only [List.all_eq_true, List.mem_range] at p4
        have := p4 k (Array.getElem?_eq_some_iff.1 hk).1
        rw [hk] at this
        simp only [Bool.or_eq_true, beq_iff_eq, List.any_eq_true, Bool.and_eq_true] at this
        rcases this with h' | (⟨e, he, hb, hon⟩ | ⟨e, he, hb, hon⟩) | h'
        · exact absurd h' hkj
        · exact absurd hon (n1 e (by simpa using he) hb)
        · exact absurd hon (n2 e (by simpa using he) hb)
        · exact h'
      · refine ⟨fun h0 => (by rw [he] at h0; cases h0), fun j hj => ?_⟩
        rw [he] at hj
        have h2 := allL_mem h j hj
        split at h2
        · rename_i op ho
          exact step j op ho h2
        · exact h2.elim

omit hm in
theorem exD_any {Y : YE} {rd : Option Nat} {n : Nat} {w0 : Base} {B : List Nat} {l : LM} {ops : Array Oper} {st : St} {KD : St → Prop} {β : List Nat} {a : Act} {w : World} {Q : Exit → Act → World → Prop} (hQ : ∀ c a w, ¬ Q (.panic c) a w)
    (hG : GOk T w0) (hY : YOk P n0 w0 B Y) (hB : B <+: β) (h : exD o T I C l ops Y st KD) (hH : HR n0 w0 β st.heap w) (hM : TmR β st.tmps a.tmps.toList) (hD : DOk n0 w0.m w.heap.size a.defers w)
    (hK : ∀ st' γ a' w', KD st' → HR n0 w0 (β ++ γ) st'.heap w' → TmR (β ++ γ) st'.tmps a'.tmps.toList → DOk n0 w0.m w'.heap.size a'.defers w' → Q .normal a' w') :
    wpAnyIn (Wd rd) n P .any ops Q ops.size (Array.replicate ops.size false) a { w with drawn := w.drawn + 1 } := by
  have hYg : ∀ u v, Grow n0 w.heap.size u v → DOk n0 w0.m w.heap.size a.defers u → DOk n0 w0.m w.heap.size a.defers v := fun u v hg hd =>
    hd.keep (Nat.le_refl _) (Nat.le_refl _) fun r _ h2 h3 => hg.ko r _ h2 h3 (fun _ _ _ e => by cases e) (fun _ e => by cases e) (fun _ _ e => by cases e)
  have hG2 : GOk T (w0.and (DOk n0 w0.m w.heap.size a.defers) w.heap.size) := hG.ext (Ext.and 0 _ _ _)
  have hY2 : YOk P n0 (w0.and (DOk n0 w0.m w.heap.size a.defers) w.heap.size) B Y := hY.ext (Ext.and _ _ _ _)
  have hH2 := hH.and (Y := DOk n0 w0.m w.heap.size a.defers) (s := w.heap.size) hH.ms (Nat.le_refl _) hD hYg
  unfold exD at h
  have hsel : ∀ nA, nA ≤ ops.size → (ops.toList.take nA).length = nA := fun nA h => by rw [List.length_take, Array.length_toList]; omega
  -- the tail behind the first part
  have tail : ∀ {nA : Nat}, Region.noSelect ops = true → (∀ (i : Nat) (o : Oper), ops[i]? = some o → ∀ c, o.op ≠ .defer c) → (∀ i oi j oj, ops[i]? = some oi → isWF oi = true → ops[j]? = some oj → j ≠ i → (∀ e ∈ oj.after, Region.binds .any e = true → e.on ≠ i) → (∀ e ∈ oi.after, Region.binds .any e = true → e.on ≠ j) → oi.apart ops oj = true) → TailOk ops nA → (∀ j oj, ops[j]? = some oj → ∀ e ∈ oj.after, Region.binds .any e = true → e.on < j) → nA ≤ ops.size → ∀ (st' : St) (β' : List Nat) (a' : Act) (w' : World) (listed : Array Bool),
      (evOps o T I Y ops (ops.toList.drop nA) st' KD) → HR n0 (w0.and (DOk n0 w0.m w.heap.size a.defers) w.heap.size) (β ++ β') st'.heap w' → TmR (β ++ β') st'.tmps a'.tmps.toList → a'.defers = a.defers →
      (∀ i, i < nA → listed.getD i false = true) → (∀ i, nA ≤ i → i < ops.size → listed.getD i true = false) → listed.size = ops.size → wpAnyIn (Wd rd) n P .any ops Q (ops.size - nA) listed a' w' := by
    intro nA hse hnde hwfe ht hrg hle st' β' a' w' listed hk k1 k2 k3 l1 l2 l3
    have := wpAny_of_list (rd := rd) (n := n) (P := P) (Q := Q) hse hnde hQ hwfe ht hrg (ops.toList.drop nA) nA listed a' w' (Nat.le_refl _) (fun j => by rw [List.getElem?_drop]; simp) l1 l2 l3
      (evOps_sound hT hI hG2 hY2 _ st' (β ++ β') a' w' hk (pre_append hB) k1 k2 k3 (fun st'' γ a'' w'' g1 g2 g3 g4 => hK st'' (β' ++ γ) a'' w'' g1 (by simpa using g2.left hH.ms hH.st) (by simpa using g3) (by
        rw [g4]; exact g2.ext.2.keep (Nat.le_refl _) g2.ms (fun _ _ _ h => h))))
    rw [List.length_drop] at this
    simpa using this
  have go : ∀ {nA p : Nat} {op : Oper} {obj : Obj} {K' : St → Prop}, mixB ops nA p op = true → noDefer ops = true → evOpsV o T C ops (ops.toList.take nA) st K' → (∀ i o', i < nA → ops[i]? = some o' → isAl o' = true → i = p ∧ o' = op) →
      (p < nA → ops[p]? = some op ∧ isAl op = true) → (∀ (a : Act) (w : World), p < nA → (execOp a.eval op).run P w = .ok (.value (.pointer (some ⟨w.heap.size, 0, none⟩))) (w.alloc obj)) →
      (nA ≤ p ∨ p < nA) → (∀ (st' : St) (a' : Act) (b : Option Nat) (w' : World) (listed : Array Bool), K' st' → st'.heap = st.heap → TmR β st'.tmps a'.tmps.toList → a'.defers = a.defers → (p < nA → b.isSome = true) →
        (∀ i, i < nA → listed.getD i false = true) → (∀ i, nA ≤ i → i < ops.size → listed.getD i true = false) → listed.size = ops.size → HR n0 (w0.and (DOk n0 w0.m w.heap.size a.defers) w.heap.size) β st.heap w' → Same { w with drawn := w.drawn + 1 } w' → Laid n0 (List.range w.heap.size) obj b w' →
        wpAnyIn (Wd rd) n P .any ops Q (ops.size - nA) listed (actB a' op.dst b) w') → wpAnyIn (Wd rd) n P .any ops Q ops.size (Array.replicate ops.size false) a { w with drawn := w.drawn + 1 } := by
    intro nA p op obj K' hmx hnd hv hp hop hrun _ hfin
    obtain ⟨m1, m2, m3, m4, m5, m6, m7, m8⟩ := mixB_sound hmx
    have hL := evOpsV_sound (rd := rd) (n := n) (P := P) hT hC hG2 hH2.draw (ops.toList.take nA) st a hv rfl hM rfl
    have hV := wpV_lex (nA := nA) (K := fun a' => ∃ st', K' st' ∧ st'.heap = st.heap ∧ TmR β st'.tmps a'.tmps.toList ∧ a'.defers = a.defers) m1 (ops.toList.take nA) 0 (Array.replicate ops.size false) a
      (fun j o _ h => absurd h (by
        simp only [Array.getD_eq_getD_getElem?, Array.getElem?_replicate]
        split <;> simp)) (fun j hj => by rw [hsel nA m5] at hj; rw [List.getElem?_take_of_lt hj]; simp) (by rw [hsel nA m5]; omega) (by rw [hsel nA m5]; exact m2) hL
    rw [hsel nA m5] at hV
    have := wpAny_of_V (rd := rd) (n := n) (P := P) (Q := Q) (K := fun a' => ∃ st', K' st' ∧ st'.heap = st.heap ∧ TmR β st'.tmps a'.tmps.toList ∧ a'.defers = a.defers) hQ m4 m8 (n0 := n0) (β := List.range w.heap.size) (obj := obj) (p := p) (op := op) (nB := ops.size - nA) m1 (fun i o' ho c => noDefer_sound hnd i o' ho c) hp m7 hop hrun
      (fun u hu => ⟨hu.1.base, fun hb => by
        have h1 := List.mem_range.1 hb
        have h2 : w.heap.size ≤ u.heap.size := hu.1.ms
        omega⟩) (fun u hu => ⟨hu.1.alloc obj, hu.2.alloc obj⟩)
      (fun a' b w' listed ⟨st', g1, g2, g3, g4⟩ hbs l1 l2 l3 hC' hL' => hfin st' a' b w' listed g1 g2 g3 g4 hbs l1 l2 l3 hC'.1 hC'.2 hL') nA (Array.replicate ops.size false) a none _ hV
      (fun _ => ⟨fun h => (by cases h), fun h => absurd h (by
        simp only [Array.getD_eq_getD_getElem?, Array.getElem?_replicate]
        split <;> simp)⟩) (fun _ => rfl) (fun i _ hi => by simp [hi]) (by simp) (fun j o _ h => absurd h (by
        simp only [Array.getD_eq_getD_getElem?, Array.getElem?_replicate]
        split <;> simp)) ⟨hH2.draw, Same.refl _⟩ trivial
    rw [show nA + (ops.size - nA) = ops.size by omega] at this
    exact this
  split at h
  · split at h
    · rename_i hb
      rw [Bool.and_eq_true] at hb
      refine evB_sound (Q := Q) hT hI hG2 hY2 hb.1 hb.2 hQ ops.size _ st β a _ h hB hH2.draw hM rfl ?_
      intro st' γ a' w' k1 k2 k3 k4
      refine hK st' γ a' w' k1 (k2.left hH.ms hH.st) k3 ?_
      rw [k4]
      exact k2.ext.2.keep (Nat.le_refl _) k2.ms (fun _ _ _ h => h)
    · exact h.elim
  split at h
  · rename_i hal
    split at h
    · rename_i hb
      rw [Bool.and_eq_true] at hb
      obtain ⟨m1, m2, m3, m4, m5, m6, m7, m8⟩ := mixB_sound hb.1
      refine go (obj := .deferred none) hb.1 hb.2 h (fun i o' hi ho hal' => by rw [allocAt_none hal hi ho] at hal'; cases hal') (fun hlt => absurd hlt (by omega)) (fun _ _ hlt => absurd hlt (by omega)) (.inl m5) ?_
      intro st' a' b w' listed hk g2 g3 g4 _ l1 l2 l3 hC' _ hL'
      have hb' : actB a' (default : Oper).dst b = a' := by cases b <;> rfl
      rw [hb']
      exact tail m1 (noDefer_sound hb.2) m8 m4 m3 m5 st' [] a' w' listed hk (by rw [g2]; simpa using hC') (by simpa using g3) g4 l1 l2 l3
    · exact h.elim
  · rename_i p op hal
    obtain ⟨a1, a2, a3⟩ := allocAt_sound hal
    split at h
    · rename_i t ho
      split at h
      · rename_i hb
        rw [Bool.and_eq_true, Bool.and_eq_true] at hb
        obtain ⟨⟨hb1, hb2⟩, hb3⟩ := hb
        obtain ⟨m1, m2, m3, m4, m5, m6, m7, m8⟩ := mixB_sound hb1
        obtain ⟨ti, hti⟩ := Option.isSome_iff_exists.1 hb3
        obtain ⟨arr, hrun, hz⟩ := alloc_run hT hti ho
        refine go (obj := .cells arr t (0, 0)) hb1 hb2 h (fun i o' hi ho' hal' => ?_) (fun _ => ⟨a2, a3⟩) (fun a w _ => hrun a w) (.inr a1) ?_
        · have e := m6 i o' hi ho' hal'
          subst e
          rw [a2] at ho'; simp only [Option.some.injEq] at ho'
          exact ⟨rfl, ho'.symm⟩
        · intro st' a' b w' listed hk g2 g3 g4 hbs l1 l2 l3 hC' hSm hL'
          split at hk
          · rename_i x r H' he
            rw [force_eq, forceH_eq] at hk
            unfold evAlloc at he
            rw [hti] at he
            have he := withLen_sound he
            simp only [Option.some.injEq, Prod.mk.injEq] at he
            obtain ⟨_, rfl, rfl⟩ := he
            cases b with
            | none => have := hbs a1; cases this
            | some b =>
              obtain ⟨b1, b2, b3⟩ := hL'
              have hAd := hC'.adopt b1 (fun i c E hE hc hn e => b2 (by
                subst e
                exact List.mem_range.2 (hH.lt hE hc hn))) (fun i c E y hE hc hy e => b2 (by
                subst e
                exact List.mem_range.2 (hH.innLt hE hc (Blk.inn_keep (hSm.2 c (hH.lt hE hc (Blk.inn_nil hy))) hy)))) b3 (hz β)
              refine tail m1 (noDefer_sound hb2) m8 m4 m3 m5 _ [b] (actB a' op.dst (some b)) w' listed hk (by rw [g2]; exact hAd) ?_ ?_ l1 l2 l3
              · refine putL_sound (β := β ++ [b]) (x := .a (.c (.ptr st'.heap.length 0))) ⟨b, by rw [g2, ← hC'.len]; simp, rfl⟩ _ g3.mono
              · show (a'.put _ _).defers = _
                unfold Act.put; split <;> simpa using g4
          · exact hk.elim
      · split at h
        · rename_i hb
          rw [Bool.and_eq_true] at hb
          obtain ⟨m1, m2, m3, m4, m5, m6, m7, m8⟩ := mixBs_sound hb.1
          generalize tailAt ops ops.size = nA at *
          have hobj : ∀ p, ∃ obj : Obj, ∀ op, (p, op) ∈ allocsAt ops nA → (∀ (a : Act) (w : World), (execOp a.eval op).run P w = .ok (.value (.pointer (some ⟨w.heap.size, 0, none⟩))) (w.alloc obj)) ∧ ∃ t ti arr, op.op = .alloc t ∧ look T t = some ti ∧ obj = .cells arr t (0, 0) ∧ ∀ β, CelsR β ti.3 arr.toList := by
            intro p
            by_cases hp : ∃ op, (p, op) ∈ allocsAt ops nA
            · obtain ⟨op, hp⟩ := hp
              obtain ⟨_, t, ti, ho, hti⟩ := m6 p op hp
              obtain ⟨arr, hrun, hz⟩ := alloc_run hT hti ho
              refine ⟨.cells arr t (0, 0), fun op' hp' => ?_⟩
              have e := (allocsAt_mem.1 hp').2.1
              rw [(allocsAt_mem.1 hp).2.1] at e
              simp only [Option.some.injEq] at e
              subst e
              exact ⟨hrun, t, ti, arr, ho, hti, rfl, hz⟩
            · exact ⟨.deferred none, fun op h => absurd ⟨op, h⟩ hp⟩
          obtain ⟨objs, hobjs⟩ := Classical.skolem.1 hobj
          have hL := evOpsV_sound (rd := rd) (n := n) (P := P) hT hC hG2 hH2.draw (ops.toList.take nA) st a h rfl hM rfl
          have hV := wpV_lex (nA := nA) (K := fun a' => ∃ st', (evAllocs T (allocsAt ops nA) st' fun st' => evOps o T I Y ops (ops.toList.drop nA) st' KD) ∧ st'.heap = st.heap ∧ TmR β st'.tmps a'.tmps.toList ∧ a'.defers = a.defers) m1 (ops.toList.take nA) 0 (Array.replicate ops.size false) a
            (fun j o _ h => absurd h (by
              simp only [Array.getD_eq_getD_getElem?, Array.getElem?_replicate]
              split <;> simp)) (fun j hj => by rw [hsel nA m5] at hj; rw [List.getElem?_take_of_lt hj]; simp) (by rw [hsel nA m5]; omega) (by rw [hsel nA m5]; exact m2) hL
          rw [hsel nA m5] at hV
          have := wpAny_of_Vs (rd := rd) (n := n) (P := P) (Q := Q) (K := fun a' => ∃ st', (evAllocs T (allocsAt ops nA) st' fun st' => evOps o T I Y ops (ops.toList.drop nA) st' KD) ∧ st'.heap = st.heap ∧ TmR β st'.tmps a'.tmps.toList ∧ a'.defers = a.defers) hQ m4 m8 (n0 := n0) (β := List.range w.heap.size) (objs := objs) (nB := ops.size - nA) m1 (fun i o' ho c => noDefer_sound hb.2 i o' ho c) (fun p op hp => (m6 p op hp).1) (fun p op hp => (hobjs p op hp).1) m7
            (fun u hu => ⟨hu.1.base, fun hb => by
              have h1 := List.mem_range.1 hb
              have h2 : w.heap.size ≤ u.heap.size := hu.1.ms
              omega⟩) (fun u ob hu => ⟨hu.1.alloc ob, hu.2.alloc ob⟩)
            (fun a' b w' listed ⟨st', g1, g2, g3, g4⟩ hbs l1 l2 l3 hC' hL' => evAllocs_sound (b := b) hL'.2 (allocsAt ops nA) st' β a' g1 (by rw [g2]; exact hC'.1) g3 g4 m7 (fun p op hp => by
              obtain ⟨x, hx⟩ := Option.isSome_iff_exists.1 (hbs p op hp)
              obtain ⟨_, t, ti, arr, e1, e2, e3, e4⟩ := hobjs p op hp
              obtain ⟨b1, b2, b3⟩ := hL'.1 p x hx
              refine ⟨x, t, ti, arr, hx, e1, e2, by rw [b3, e3], b1, e4, fun i c E hE hc hn e => b2 ?_, fun i c E y hE hc hy e => b2 ?_⟩
              · subst e
                rw [g2] at hE
                exact List.mem_range.2 (hH.lt hE hc hn)
              · subst e
                rw [g2] at hE
                exact List.mem_range.2 (hH.innLt hE hc (Blk.inn_keep (hC'.2.2 c (hH.lt hE hc (Blk.inn_nil hy))) hy)))
              (fun st'' γ k1 k2 k3 k4 => tail m1 (noDefer_sound hb.2) m8 m4 m3 m5 st'' γ _ w' listed k1 k2 k3 k4 l1 l2 l3)) nA (Array.replicate ops.size false) a (fun _ => none) _ hV
            (fun p op hp => ⟨fun h => (by cases h), fun h => absurd h (by
              simp only [Array.getD_eq_getD_getElem?, Array.getElem?_replicate]
              split <;> simp)⟩) (fun i _ hi => by simp [hi]) (by simp) (fun j o _ h => absurd h (by
              simp only [Array.getD_eq_getD_getElem?, Array.getElem?_replicate]
              split <;> simp)) ⟨hH2.draw, Same.refl _⟩ ⟨fun _ _ h => (by cases h), fun _ _ _ h => (by cases h)⟩
          rw [show nA + (ops.size - nA) = ops.size by omega, actBs_none] at this
          exact this
        · exact h.elim
    · exact h.elim

theorem ex_sound (c : Code) : ∀ (Y : YE) (rd : Option Nat) (n : Nat) (w0 : Base) (B : List Nat) (st : St) (K : Ex → St → Prop) (β : List Nat) (a : Act) (w : World) (Q : Exit → Act → World → Prop),
    GOk T w0 → YOk P n0 w0 B Y → B <+: β → (∀ l0, rd = some l0 → ∀ u, w0.X u → ∃ r, u.heap[l0]? = some (.loop r)) →
    ex o T I C Λ c Y st K → HR n0 w0 β st.heap w → TmR β st.tmps a.tmps.toList → DOk n0 w0.m w.heap.size a.defers w →
    (∀ e st' γ a' w', K e st' → HR n0 w0 (β ++ γ) st'.heap w' → TmR (β ++ γ) st'.tmps a'.tmps.toList → DOk n0 w0.m w'.heap.size a'.defers w' → e.ok Q (β ++ γ) a' w') →
    c.wpIn (Wd rd) n P Q a w := by
  induction c with
  | skip =>
    intro Y rd n w0 B st K β a w Q hG hY hB hR h hH hM hD hK
    exact wpIn_skip (hK .normal st [] a w h (by simpa using hH) (by simpa using hM) hD)
  | scope c ih =>
    intro Y rd n w0 B st K β a w Q hG hY hB hR h hH hM hD hK
    refine wpIn_scope_straight (ih Y rd n w0 B st K β a w _ hG hY hB hR h hH hM hD ?_)
    intro e st' γ a' w' k1 k2 k3 k4
    cases e with
    | normal => exact hK .normal st' γ a' w' k1 k2 k3 k4
    | exit i => exact hK (.exit i) st' γ a' w' k1 k2 k3 k4
    | ret => exact hK .ret st' γ a' w' k1 k2 k3 k4
    | panic x => exact fun v hv => hK (.panic x) st' γ a' w' k1 k2 k3 k4 v hv
  | label l =>
    intro Y rd n w0 B st K β a w Q hG hY hB hR h hH hM hD hK
    exact wpIn_label (hK .normal st [] a w h (by simpa using hH) (by simpa using hM) hD)
  | exit id =>
    intro Y rd n w0 B st K β a w Q hG hY hB hR h hH hM hD hK
    exact wpIn_exit (hK (.exit id) st [] a w h (by simpa using hH) (by simpa using hM) hD)
  | ret =>
    intro Y rd n w0 B st K β a w Q hG hY hB hR h hH hM hD hK
    exact wpIn_ret (hK .ret st [] a w h (by simpa using hH) (by simpa using hM) hD)
  | region id ops draw =>
    intro Y rd n w0 B st K β a w Q hG hY hB hR h hH hM hD hK
    have hYg : ∀ u v, Grow n0 w.heap.size u v → DOk n0 w0.m w.heap.size a.defers u → DOk n0 w0.m w.heap.size a.defers v := fun u v hg hd =>
      hd.keep (Nat.le_refl _) (Nat.le_refl _) fun r _ h2 h3 => hg.ko r _ h2 h3 (fun _ _ _ e => by cases e) (fun _ e => by cases e) (fun _ _ e => by cases e)
    have hG2 : GOk T (w0.and (DOk n0 w0.m w.heap.size a.defers) w.heap.size) := hG.ext (Ext.and 0 _ _ _)
    have hY2 : YOk P n0 (w0.and (DOk n0 w0.m w.heap.size a.defers) w.heap.size) B Y := hY.ext (Ext.and _ _ _ _)
    have hH2 := hH.and (Y := DOk n0 w0.m w.heap.size a.defers) (s := w.heap.size) hH.ms (Nat.le_refl _) hD hYg
    cases draw with
    | false =>
      simp only [ex] at h
      split at h
      · rename_i pre po x hl
        obtain ⟨l1, l2, l3⟩ := lastP_sound hl
        refine wpIn_region_list ?_
        rw [l1]
        refine evOps_soundT hT hI hG2 hY2 pre st β a w h hB hH2 hM rfl ?_
        intro st' γ a' w' k1 k2 k3 k4
        split at k1
        · rename_i hif
          rw [forceV_eq] at k1
          have hx := ev_sound k3 x
          obtain ⟨t, y, hv⟩ := isIf_sound hif hx
          unfold wpListIn
          rw [if_pos (by simp [Region.wanted, l2])]
          refine ⟨fun _ _ => trivial, ?_⟩
          rw [semAt_plain (by intro c hc; rw [l3] at hc; cases hc)]
          have e : (execOp a'.eval po).run P w' = .halt (.panic (.iface t y)) w' := by
            simp only [execOp, l3, hv, Instr.panic, goPanic, Sem.run_bind, Sem.run_halt, Result.andThen]
          rw [e]
          have := hK (.panic (st'.ev x)) st' γ a' w' k1 (k2.left hH.ms hH.st) k3 (by
            rw [k4]
            exact k2.ext.2.keep (Nat.le_refl _) k2.ms (fun _ _ _ h => h)) _ hx
          rw [hv] at this
          exact this
        · exact k1.elim
      split at h
      · rename_i pre po hl
        obtain ⟨l1, l2, l3⟩ := lastN_sound hl
        refine wpIn_region_list ?_
        rw [l1]
        refine evOps_soundT hT hI hG2 hY2 pre st β a w h hB hH2 hM rfl ?_
        intro st' γ a' w' k1 k2 k3 k4
        unfold wpListIn
        rw [if_pos (by simp [Region.wanted, l2])]
        refine evNeed_sound hT hC l3 k1 k2 k3 ?_
        intro e st'' a'' w'' g1 g2 g3 g4
        exact hK e st'' γ a'' w'' g1 (g2.left hH.ms hH.st) g3 (by rw [g4, k4]; exact g2.ext.2.keep (Nat.le_refl _) g2.ms (fun _ _ _ h => h))
      refine wpIn_region_list (evOps_sound hT hI hG2 hY2 ops.toList st β a w h hB hH2 hM rfl (fun st' γ a' w' k1 k2 k3 k4 => hK .normal st' γ a' w' k1 (k2.left hH.ms hH.st) k3 ?_))
      rw [k4]
      exact k2.ext.2.keep (Nat.le_refl _) k2.ms (fun _ _ _ h => h)
    | true =>
      simp only [ex] at h
      refine wpIn_region_any hm ?_
      split at h
      · rename_i pre po hl
        obtain ⟨l1, l2, l3⟩ := lastN_sound hl
        split at h
        · rename_i hsb
          obtain rfl : ops = (pre ++ [po]).toArray := Array.toList_inj.1 (by simpa using l1)
          have hsz : (pre ++ [po]).toArray.size = pre.length + 1 := by simp
          have hszp : pre.toArray.size = pre.length := by simp
          have hany := exD_any hT hI hC (rd := rd) (n := n) (Q := fun e a w => match e with | .panic _ => False | .normal => (∃ st' γ, evNeed T C st' po K ∧ HR n0 w0 (β ++ γ) st'.heap w ∧ TmR (β ++ γ) st'.tmps a.tmps.toList ∧ DOk n0 w0.m w.heap.size a.defers w) | e => Q e a w) (fun _ _ _ h => h) hG hY hB h hH hM hD (fun st' γ a' w' k1 k2 k3 k4 => ⟨st', γ, k1, k2, k3, k4⟩)
          rw [hszp] at hany
          rw [hsz]
          refine wpAny_last hsb l2 (K := fun a w => ∃ st' γ, evNeed T C st' po K ∧ HR n0 w0 (β ++ γ) st'.heap w ∧ TmR (β ++ γ) st'.tmps a.tmps.toList ∧ DOk n0 w0.m w.heap.size a.defers w) ?_ pre.length (Array.replicate pre.length false) (Array.replicate (pre.length + 1) false) a _ (fun i hi => ?_) (fun i hi => ?_) (by simp) (by simp) (by simp) (fun j o _ h => absurd h (by
            simp only [Array.getD_eq_getD_getElem?, Array.getElem?_replicate]
            split <;> simp)) hany
          · rintro a' w' ⟨st', γ, k1, k2, k3, k4⟩
            have hYg' : ∀ u v, Grow n0 w'.heap.size u v → DOk n0 w0.m w'.heap.size a'.defers u → DOk n0 w0.m w'.heap.size a'.defers v := fun u v hg hd =>
              hd.keep (Nat.le_refl _) (Nat.le_refl _) fun r _ h2 h3 => hg.ko r _ h2 h3 (fun _ _ _ e => by cases e) (fun _ e => by cases e) (fun _ _ e => by cases e)
            have hH3 := k2.and (Y := DOk n0 w0.m w'.heap.size a'.defers) (s := w'.heap.size) k2.ms (Nat.le_refl _) k4 hYg'
            refine evNeed_sound hT hC l3 k1 hH3 k3 ?_
            intro e st'' a'' w'' g1 g2 g3 g4
            exact hK e st'' γ a'' w'' g1 (g2.left k2.ms k2.st) g3 (by rw [g4]; exact g2.ext.2.keep (Nat.le_refl _) g2.ms (fun _ _ _ h => h))
          · simp [hi, show i < pre.length + 1 by omega]
          · simp [hi, show i < pre.length + 1 by omega]
        · exact h.elim
      · split at h
        · rename_i an _
          obtain ⟨h1, h2⟩ := h
          refine exD_any hT hI hC (rd := rd) (n := n) (Q := fun e a w => match e with | .panic _ => False | e => Q e a w) (fun _ _ _ h => h) hG hY hB h1 hH hM hD ?_ |> fun hh => wpAnyIn_monoQ hh
          rintro st' γ a' w' ⟨x, ix, hle⟩ k2 k3 k4
          have hx := h2 x ix
          rw [forceT_eq, forceH_eq] at hx
          split at hx
          · rename_i hin
            unfold leSt at hle
            split at hle
            · rename_i hok
              rw [Bool.and_eq_true, decide_eq_true_eq] at hok
              have hml : st.heap.length ≤ st'.heap.length := by have h1 := k2.len; have h2 := hH.len; simp at h1; omega
              have := weakenR hml hok.2 hle.1 hle.2 hok.1 hin k2 k3
              rw [← hH.len, List.take_append_of_le_length (Nat.le_refl _), List.take_length] at this
              exact hK .normal _ _ a' w' hx this.1 this.2 k4
            · exact hle.elim
          · exact hx.elim
        · exact exD_any hT hI hC (rd := rd) (n := n) (Q := fun e a w => match e with | .panic _ => False | e => Q e a w) (fun _ _ _ h => h) hG hY hB h hH hM hD (fun st' γ a' w' k1 k2 k3 k4 => hK .normal st' γ a' w' k1 k2 k3 k4) |> fun hh => wpAnyIn_monoQ hh
  | seq x y ihx ihy =>
    intro Y rd n w0 B st K β a w Q hG hY hB hR h hH hM hD hK
    refine wpIn_seq (ihx Y rd n w0 B st _ β a w _ hG hY hB hR h hH hM hD ?_)
    intro e st' γ a' w' k1 k2 k3 k4
    cases e with
    | normal =>
      exact ihy Y rd n w0 B st' K (β ++ γ) a' w' Q hG hY (pre_append hB) hR k1 k2 k3 k4 (fun e st'' γ' a'' w'' g1 g2 g3 g4 => by
        have := hK e st'' (γ ++ γ') a'' w'' g1 (by simpa using g2) (by simpa using g3) g4
        rwa [← List.append_assoc] at this)
    | exit id => exact hK (.exit id) st' γ a' w' k1 k2 k3 k4
    | ret => exact hK .ret st' γ a' w' k1 k2 k3 k4
    | panic x => exact fun v hv => hK (.panic x) st' γ a' w' k1 k2 k3 k4 v hv
  | cond c x y ihx ihy =>
    intro Y rd n w0 B st K β a w Q hG hY hB hR h hH hM hD hK
    simp only [ex] at h
    have hc := ev_sound hM c
    split at h
    · rename_i hce
      rw [hce] at hc
      exact wpIn_cond_true hc (ihx Y rd n w0 B st K β a w Q hG hY hB hR h hH hM hD hK)
    · rename_i hce
      rw [hce] at hc
      exact wpIn_cond_false hc (ihy Y rd n w0 B st K β a w Q hG hY hB hR h hH hM hD hK)
    · rename_i b hce
      rw [hce] at hc
      exact wpIn_cond_split hc (fun hb => ihx Y rd n w0 B st K β a w Q hG hY hB hR (h.1 hb) hH hM hD hK) (fun hb => ihy Y rd n w0 B st K β a w Q hG hY hB hR (h.2 hb) hH hM hD hK)
    · exact h.elim
  | block id body ih =>
    intro Y rd n w0 B st K β a w Q hG hY hB hR h hH hM hD hK
    refine wpIn_block (ih Y rd n w0 B st _ β a w _ hG hY hB hR h hH hM hD ?_)
    intro e st' γ a' w' k1 k2 k3 k4
    cases e with
    | normal => exact hK .normal st' γ a' w' k1 k2 k3 k4
    | exit i =>
      simp only at k1
      by_cases hi : i = id
      · rw [if_pos hi] at k1
        simp only [Ex.ok, Exit.inBlock, hi, if_true]
        exact hK .normal st' γ a' w' k1 k2 k3 k4
      · rw [if_neg hi] at k1
        simp only [Ex.ok, Exit.inBlock, hi, if_false]
        exact hK (.exit i) st' γ a' w' k1 k2 k3 k4
    | ret => exact hK .ret st' γ a' w' k1 k2 k3 k4
    | panic x => exact fun v hv => hK (.panic x) st' γ a' w' k1 k2 k3 k4 v hv
  | loop body ih =>
    intro Y rd n w0 B st K β a w Q hG hY hB hR h hH hM hD hK
    simp only [ex] at h
    split at h
    · rename_i k hk
      refine wpIn_unroll k a w (fun j a w => ∃ st' γ, unrollN (ex o T I C Λ body Y) j st' K ∧ HR n0 w0 (β ++ γ) st'.heap w ∧ TmR (β ++ γ) st'.tmps a.tmps.toList ∧ DOk n0 w0.m w.heap.size a.defers w)
        ⟨st, [], h, by simpa using hH, by simpa using hM, hD⟩ ?_ ?_
      · rintro j a w ⟨st', γ, h1, h2, h3, h4⟩
        refine ih Y rd n w0 B st' _ (β ++ γ) a w _ hG hY (pre_append hB) hR h1 h2 h3 h4 ?_
        intro e st'' γ' a' w' k1 k2 k3 k4
        cases e with
        | normal => exact ⟨st'', γ ++ γ', k1, by simpa using k2, by simpa using k3, k4⟩
        | exit id => exact hK (.exit id) st'' (γ ++ γ') a' w' k1 (by simpa using k2) (by simpa using k3) k4
        | ret => exact hK .ret st'' (γ ++ γ') a' w' k1 (by simpa using k2) (by simpa using k3) k4
        | panic x => exact fun v hv => hK (.panic x) st'' (γ ++ γ') a' w' k1 (by simpa using k2) (by simpa using k3) k4 v (by simpa using hv)
      · rintro a w ⟨_, _, h1, _⟩
        exact h1
    · rename_i ann hk
      obtain ⟨⟨x0, i0, hs0⟩, hbody'⟩ := h
      have hbody : ∀ x, ann.inv st x → inSt (ann.J (dstsC body) st x) = true ∧ ex o T I C Λ body Y (ann.J (dstsC body) st x) fun e st' => match e with
          | .normal => ∃ y, ann.inv st y ∧ ann.μ st y < ann.μ st x ∧ leSt st' (ann.J (dstsC body) st y) st.heap.length (ann.mv st')
          | e => K e st' := by
        intro x ix
        have := hbody' x ix
        rw [forceT_eq, forceH_eq] at this
        split at this
        · rename_i hin; exact ⟨hin, this⟩
        · exact this.elim
      have step : ∀ {st' : St} {γ : List Nat} {a' : Act} {w' : World} {y : ann.ι}, ann.inv st y → leSt st' (ann.J (dstsC body) st y) st.heap.length (ann.mv st') → HR n0 w0 (β ++ γ) st'.heap w' → TmR (β ++ γ) st'.tmps a'.tmps.toList →
          ∃ δ, HR n0 w0 (β ++ δ) (ann.J (dstsC body) st y).heap w' ∧ TmR (β ++ δ) (ann.J (dstsC body) st y).tmps a'.tmps.toList := by
        intro st' γ a' w' y iy hle hr ht
        unfold leSt at hle
        split at hle
        · rename_i hok
          rw [Bool.and_eq_true, decide_eq_true_eq] at hok
          have hml : st.heap.length ≤ st'.heap.length := by have h1 := hr.len; have h2 := hH.len; simp at h1; omega
          have := weakenR hml hok.2 hle.1 hle.2 hok.1 (hbody y iy).1 hr ht
          rw [← hH.len, List.take_append_of_le_length (Nat.le_refl _), List.take_length] at this
          exact ⟨_, this⟩
        · exact hle.elim
      refine wpIn_family (fun x a w => ann.inv st x ∧ ∃ δ, HR n0 w0 (β ++ δ) (ann.J (dstsC body) st x).heap w ∧ TmR (β ++ δ) (ann.J (dstsC body) st x).tmps a.tmps.toList ∧ DOk n0 w0.m w.heap.size a.defers w) (ann.μ st) ⟨x0, i0, ?_⟩ ?_
      · obtain ⟨δ, h1, h2⟩ := step (γ := []) i0 hs0 (by simpa using hH) (by simpa using hM)
        exact ⟨δ, h1, h2, hD⟩
      · rintro x a w ⟨i1, δ, h1, h2, h3⟩
        have hb := (hbody x i1).2
        refine ih Y rd n w0 B _ _ (β ++ δ) a w _ hG hY (pre_append hB) hR hb h1 h2 h3 ?_
        intro e st' γ a' w' k1 k2 k3 k4
        cases e with
        | normal =>
          obtain ⟨y, iy, hlt, hy⟩ := k1
          obtain ⟨δ', g1, g2⟩ := step (γ := δ ++ γ) iy hy (by simpa using k2) (by simpa using k3)
          exact ⟨y, ⟨iy, δ', g1, g2, k4⟩, hlt⟩
        | exit id => exact hK (.exit id) st' (δ ++ γ) a' w' k1 (by simpa using k2) (by simpa using k3) k4
        | ret => exact hK .ret st' (δ ++ γ) a' w' k1 (by simpa using k2) (by simpa using k3) k4
        | panic x => exact fun v hv => hK (.panic x) st' (δ ++ γ) a' w' k1 (by simpa using k2) (by simpa using k3) k4 v (by simpa using hv)
    · exact h.elim
    · exact h.elim
  | rangeFunc g ps assign body iha ihb =>
    intro Y rd n w0 B st K β a w Q hG hY hB hR h hH hM hD hK
    simp only [ex] at h
    split at h
    · rename_i f caps hg
      have h := withLenP_sound h
      obtain ⟨hf, hcall⟩ := hI _ _ _ _ _ h
      have hv := ev_sound hM g
      rw [hg] at hv
      obtain ⟨bs, hbs, hv⟩ := hv
      refine wpIn_rangeFunc ?_
      intro fn _
      obtain ⟨l, mark, r, W1, henter, hl1, rfl, htm, hpa, hasg, hbd, hlw, hbW, hmark⟩ := enter_sx (P := P) fn a.tmps ps assign body rd (fun l0 e => hR l0 e _ hH.ext)
      have hlW1 : l < W1.heap.size := (Array.getElem?_eq_some_iff.1 hl1).1
      have hn0l : n0 ≤ l := Nat.le_trans hH.base hlw
      have hH1 : HR n0 w0 β st.heap W1 := hH.after hbW
      -- the marks
      have hold : DOk n0 w0.m W1.heap.size a.defers W1 := hD.keep (Nat.le_refl _) hbW.size fun r _ h2 h3 => (hbW.block r h2).trans h3
      have hD1 : DOk n0 w0.m W1.heap.size (mark ++ a.defers) W1 := by
        rcases hmark with rfl | ⟨D, rfl, h1, h2, h3⟩
        · exact hold
        · refine ⟨⟨D, rfl, Nat.le_trans hH.base h1, Nat.le_trans hH.ms h1, (Array.getElem?_eq_some_iff.1 h3).1, h3, ?_⟩, hold⟩
          have : ∀ (ds : List Deferred), DOk n0 w0.m w.heap.size ds w → ∀ d' ∈ ds, d' ≠ { target := .collected D, args := #[] } := by
            intro ds
            induction ds with
            | nil => intro _ d' hd'; simp at hd'
            | cons d ds ih =>
              rintro ⟨⟨r1, e1, _, _, e4, _, _⟩, hds⟩ d' hd'
              rcases List.mem_cons.1 hd' with rfl | hd'
              · rw [e1]; intro e; simp at e; omega
              · exact ih hds d' hd'
          exact this _ hD
      -- the base in which the iterator runs
      let wl : Base := ⟨fun u => w0.X u ∧ DOk n0 w0.m W1.heap.size (mark ++ a.defers) u, W1.heap.size, fun i => if i = st.heap.length then r else w0.R i⟩
      have hel : Ext B.length w0 wl := ⟨fun _ h => h.1, fun i hi => by
        have h1 := hB.length_le
        have h2 := hH.len
        show (if i = st.heap.length then r else w0.R i) = w0.R i
        rw [if_neg (by omega)]⟩
      have hstl : ∀ u v, Grow n0 wl.m u v → wl.X u → wl.X v := fun u v hg hx => ⟨hH.st u v ⟨hg.below, fun k o hk => hg.ko k o (Nat.lt_of_lt_of_le hk (Nat.le_trans hH.ms hbW.size)), hg.lo⟩ hx.1,
        hx.2.keep (Nat.le_refl _) (Nat.le_refl _) fun r _ h2 h3 => hg.ko r _ h2 h3 (fun _ _ _ e => by cases e) (fun _ e => by cases e) (fun _ _ e => by cases e)⟩
      have hlt : ∀ (i b : Nat) (E : Blk), st.heap[i]? = some E → β[i]? = some b → ¬ E.nil → b ≠ l := by
        intro i b E h1 h2 h3
        have := hH.lt h1 h2 h3; omega
      have hHl : HR n0 wl (β ++ [l]) (st.heap ++ [.lp .ready none]) W1 := by
        refine HR.pushLp (hH1.rebase (w1 := wl) ?_ (Nat.le_refl _) ⟨hH1.ext, hD1⟩ hstl) hn0l ?_ hlt
        · intro i s pe hi
          have := (List.getElem?_eq_some_iff.1 hi).1
          show (if i = st.heap.length then r else w0.R i) = w0.R i
          rw [if_neg (by omega)]
        · show W1.heap[l]? = some (.loop { (if st.heap.length = st.heap.length then r else w0.R st.heap.length) with state := _, pending := _ })
          rw [if_pos rfl]; exact hl1
      refine ⟨l, mark, W1, { target := .fn (.func f) (bs.map fun b => Value.pointer (some ⟨b, 0, none⟩)).toArray, args := #[.func (.yield l) #[] #[]] }, W1, f, #[.func (.yield l) #[] #[]] ++ (bs.map fun b => Value.pointer (some ⟨b, 0, none⟩)).toArray, W1, henter, ?_, fun _ _ => trivial, ?_, fun hd => by simp [Wd, Fence.wide] at hd, ?_⟩
      · simp [resolve, hv, Deferred.ofValue]; rfl
      · obtain ⟨fn', g1, g2, g3⟩ := hf
        show (callFunc f _).run P W1 = _
        simp only [callFunc, Sem.run_bind, run_program, Result.andThen_ok, g1, g2, g3, Bool.false_eq_true, if_false, Sem.run_pure]
      · have hargs : TmR (β ++ [l]) (.a (.c (.yld st.heap.length)) :: caps.map fun i => .a (.c (.ptr i 0))) (#[Value.func (.yield l) #[] #[]] ++ (bs.map fun b => Value.pointer (some ⟨b, 0, none⟩)).toArray).toList := by
          refine ⟨.func (.yield l) #[] #[], (bs.map fun b => Value.pointer (some ⟨b, 0, none⟩)), by simp, ⟨l, by rw [← hH.len]; simp, rfl⟩, ?_⟩
          exact (TmR_caps hbs).mono
        -- the rounds
        have hYl : YOk P n0 wl (β ++ [l]) (fun j args H K' => if j = st.heap.length then
            (if isReady (lpOf H st.heap.length) = true then match putLs st.tmps ps.toList args with
              | some ts => forceT ts fun ts => ex o T I C Λ assign Y ⟨ts, H⟩ fun e st1 => match e with
                | .normal => if isReady (lpOf st1.heap st.heap.length) = true then forceH (setLp st1.heap st.heap.length .busy none) fun H1 => ex o T I C Λ body Y ⟨st1.tmps, H1⟩ fun e st2 =>
                    if isBusy (lpOf st2.heap st.heap.length) = true then match e with
                      | .normal => forceH (setLp st2.heap st.heap.length .ready none) fun H2 => K' (.a (.c .tt)) H2
                      | .panic _ => Stuck "panic"
                      | e => forceH (setLp st2.heap st.heap.length .done (some e.code)) fun H2 => K' (.a (.c .ff)) H2
                    else Stuck "busy"
                  else Stuck "assign"
                | _ => Stuck "assign"
              | none => Stuck "yield"
            else Stuck "round")
          else Y j args H K') := by
          intro w1 hx j args H K' hj β1 W2 vals lj hpre hH2 hA hlj
          have hlenB : (β ++ [l]).length = st.heap.length + 1 := by simp [hH.len]
          split at hj
          · rename_i hjid
            subst hjid
            have hll : lj = l := by
              obtain ⟨γ, rfl⟩ := hpre
              rw [List.append_assoc, List.getElem?_append_right (by rw [hH.len]; exact Nat.le_refl _), hH.len, Nat.sub_self] at hlj
              simp at hlj; exact hlj.symm
            subst hll
            have hRr : w1.R st.heap.length = r := by
              rw [hx.r _ (by omega)]
              show (if st.heap.length = st.heap.length then r else w0.R st.heap.length) = r
              rw [if_pos rfl]
            split at hj
            · rename_i hrd
              have hg2 := isReady_get hrd
              split at hj
              · rename_i ts hts
                rw [forceT_eq] at hj
                obtain ⟨hl2, _, _⟩ := hH2.putLp .busy none hg2 hlj
                rw [hRr] at hl2
                obtain ⟨hsz, htm2⟩ := putLs_sound (by have := TmR.pre ((List.prefix_append β [lj]).trans hpre) hM; rw [← htm] at this; exact this) hA hts
                have hy := run_yield (P := P) (args := vals) hl2 (by rw [hpa]; exact hsz)
                refine ⟨_, _, _, _, hy, fun r' n' => ?_⟩
                simp only [hpa, hasg, hbd]
                refine roundIn_of_wpIn (F := Wd r') trivial ?_
                show assign.wpIn (Wd (some lj)) n' P _ _ W2
                -- the base of the round
                have hm1 : w1.m ≤ W2.heap.size := hH2.ms
                have hYst : ∀ u v : World, Grow n0 w1.m u v → (∃ q, u.heap[lj]? = some (.loop q)) → ∃ q, v.heap[lj]? = some (.loop q) := fun u v hg ⟨q, hq⟩ => hg.lo _ _ hq
                have hHa := hH2.and (Y := fun u => ∃ q, u.heap[lj]? = some (.loop q)) (s := w1.m) (Nat.le_refl _) hm1 ⟨_, hl2⟩ hYst
                have hea : Ext B.length w0 (w1.and (fun u => ∃ q, u.heap[lj]? = some (.loop q)) w1.m) := (hel.trans (hx.le (by have := hB.length_le; simp; omega))).trans (Ext.and _ _ _ _)
                have hpreB : B <+: β1 := (hB.trans (List.prefix_append _ _)).trans hpre
                refine iha Y (some lj) n' _ B _ _ β1 _ W2 _ (hG.ext hea) (hY.ext hea) hpreB (fun l0 e u hu => by cases e; exact hu.2) hj hHa htm2 trivial ?_
                intro e st1 γ1 a1 u1 k1 hH1' hM1 hD1'
                cases e with
                | exit id => exact k1.elim
                | ret => exact k1.elim
                | panic x => exact k1.elim
                | normal =>
                  simp only at k1
                  split at k1
                  · rename_i hrd1
                    have hg3 := isReady_get hrd1
                    rw [forceH_eq] at k1
                    have hlj1 : (β1 ++ γ1)[st.heap.length]? = some lj := getElem?_prefix hlj
                    obtain ⟨hl3, _, hH3⟩ := hH1'.putLp .busy none hg3 hlj1
                    have hR3 : (w1.and (fun u => ∃ q, u.heap[lj]? = some (.loop q)) w1.m).R st.heap.length = r := hRr
                    rw [hR3] at hl3 hH3
                    refine ⟨_, run_beginRound hl3 rfl, ?_⟩
                    show body.wpIn (Wd (some lj)) n' P _ _ _
                    refine ihb Y (some lj) n' _ B _ _ (β1 ++ γ1) _ _ _ (hG.ext hea) (hY.ext hea) (pre_append hpreB) (fun l0 e u hu => by cases e; exact hu.2) k1 hH3 hM1 ?_ ?_
                    · refine hD1'.keep (Nat.le_refl _) (by simp) ?_
                      intro r1 h1 h2 h3
                      rw [World.putObj_heap_other]
                      · exact h3
                      · intro e; subst e; rw [hl3] at h3; cases h3
                    · intro e2 st2 γ2 a2 u3 k2 hH4 hM4 _
                      split at k2
                      · rename_i hbz
                        have hg4 := isBusy_get hbz
                        have hlj2 : (β1 ++ γ1 ++ γ2)[st.heap.length]? = some lj := getElem?_prefix hlj1
                        have fin : ∀ (jump : Option Code) (K2 : LV → List Blk → Prop) (lv : LV), (K2 lv (setLp st2.heap st.heap.length (if jump.isNone then .ready else .done) jump)) → LVR (β1 ++ γ1 ++ γ2) lv (.bool jump.isNone) →
                            ∃ v w', (Instr.endRound lj jump).run P u3 = .ok v w' ∧ ∃ v0 γ lv H', Ending.returned v = .returned v0 ∧ K2 lv H' ∧ HR n0 w1 (β1 ++ γ) H' w' ∧ LVR (β1 ++ γ) lv v0 := by
                          intro jump K2 lv hk hlv
                          obtain ⟨hl4, _, hH5⟩ := hH4.putLp (if jump.isNone then .ready else .done) jump hg4 hlj2
                          rw [hR3] at hl4 hH5
                          refine ⟨_, _, run_endRound (P := P) jump hl4, _, γ1 ++ γ2, lv, _, rfl, hk, ?_, by simpa using hlv⟩
                          have := hH5.left (Nat.le_refl _) hH2.st
                          simpa using this
                        cases e2 with
                        | normal =>
                          simp only at k2
                          rw [forceH_eq] at k2
                          exact fin none K' _ k2 rfl
                        | ret =>
                          simp only at k2
                          rw [forceH_eq] at k2
                          exact fin (some Ex.ret.code) K' _ k2 rfl
                        | exit id =>
                          simp only at k2
                          rw [forceH_eq] at k2
                          exact fin (some (Ex.exit id).code) K' _ k2 rfl
                        | panic x => exact k2.elim
                      · exact k2.elim
                  · exact k1.elim
              · exact hj.elim
            · exact hj.elim
          · exact hY w1 (hel.trans (hx.le (by have := hB.length_le; simp; omega))) j args H K' hj β1 W2 vals lj ((hB.trans (List.prefix_append _ _)).trans hpre) hH2 hA hlj
        refine (calls_wd rd (hcall n0 wl (β ++ [l]) (β ++ [l]) W1 _ (hG.ext hel) hYl (List.prefix_refl _) hHl hargs)).mono ?_
        rintro e W3 ⟨v, γ, lv, H', rfl, hk, hH3, _⟩
        have hlid : (β ++ [l] ++ γ)[st.heap.length]? = some l := by
          rw [List.append_assoc, List.getElem?_append_right (by rw [hH.len]; exact Nat.le_refl _), hH.len, Nat.sub_self]; rfl
        have hRl : wl.R st.heap.length = r := by
          show (if st.heap.length = st.heap.length then r else w0.R st.heap.length) = r
          rw [if_pos rfl]
        have fin : ∀ {s : LoopState} {pe : Option Code}, H'[st.heap.length]? = some (.lp s pe) → s ≠ .busy → ∃ W4, (Instr.endLoop l).run P W3 = .ok pe W4 ∧ HR n0 w0 (β ++ ([l] ++ γ)) (H'.set st.heap.length .dead) W4 ∧ DOk n0 w0.m W4.heap.size (mark ++ a.defers) W4 := by
          intro s pe hs hb
          obtain ⟨h1, _, h2⟩ := hH3.putLp .exhausted pe hs hlid
          rw [hRl] at h1 h2
          have hpk : pe = ({ r with state := s, pending := pe } : Loop).pending := rfl
          have hrun := run_endLoop (P := P) h1 (by simpa using hb)
          have hml : w0.m ≤ W1.heap.size := Nat.le_trans hH.ms hbW.size
          have h3 := h2.kill st.heap.length
          have h4 : (setLp H' st.heap.length .exhausted pe).set st.heap.length .dead = H'.set st.heap.length .dead := by unfold setLp; rw [List.set_set]
          rw [h4] at h3
          refine ⟨_, by rw [hpk]; exact hrun, ?_, ?_⟩
          · have := h3.rebase (w1 := w0) ?_ (Nat.le_trans hml h3.ms) h3.ext.1 hH.st
            · simpa using this
            · intro i s pe hi
              show w0.R i = (if i = st.heap.length then r else w0.R i)
              by_cases he : i = st.heap.length
              · subst he
                rw [List.getElem?_set] at hi
                simp only [if_true] at hi
                split at hi <;> simp at hi
              · rw [if_neg he]
          · exact h3.ext.2.keep (Nat.le_refl _) h3.ms fun _ _ _ h => h
        split at hk
        · rename_i hlp
          rw [forceH_eq] at hk
          obtain ⟨W4, g1, g2, g3⟩ := fin (lpOf_get hlp) (by simp)
          exact ⟨none, W4, g1, hK .normal _ ([l] ++ γ) { a with defers := mark ++ a.defers } W4 hk g2 hM.mono g3⟩
        · rename_i c hlp
          obtain ⟨W4, g1, g2, g3⟩ := fin (lpOf_get hlp) (by simp)
          split at hk
          · rename_i e he
            rw [forceH_eq] at hk
            refine ⟨some c, W4, g1, ?_⟩
            have hq := hK e _ ([l] ++ γ) { a with defers := mark ++ a.defers } W4 hk g2 hM.mono g3
            unfold exOf at he
            split at he <;> simp only [Option.some.injEq, reduceCtorEq] at he <;> subst he
            · exact wpIn_exit hq
            · exact wpIn_ret hq
          · exact hk.elim
        · exact hk.elim
    · exact h.elim
  | _ => intro Y rd n w0 B st K β a w Q hG hY hB hR h; exact h.elim

end

/-! ### Functions -/

def resAv (T : Tab) (st : St) : ResultVar → Option Av
  | .tmp t => match getL st.tmps t with
    | .a av => some av
    | .tup _ => none
  | .cell t ty => match look T ty, getL st.tmps t with
    | some ti, .a (.c (.ptr id off)) => match getB st.heap id with
      | .cells _ _ cs => match loadC cs ti off with
        | some (.a av) => some av
        | _ => none
      | _ => none
    | _, _ => none

def resAvs (T : Tab) (st : St) : List ResultVar → Option (List Av)
  | [] => some []
  | r :: rs => match resAv T st r, resAvs T st rs with
    | some a, some as => some (a :: as)
    | _, _ => none

def resLV (T : Tab) (st : St) (rs : List ResultVar) : Option LV :=
  match rs with
  | [r] => (resAv T st r).map .a
  | rs => (resAvs T st rs).map .tup

theorem resAv_sound {P : Program} {T : Tab} (hT : TabOk P T) {n0 : Nat} {w0 : Base} (hG : GOk T w0) {w : World} {β : List Nat} {st : St} {tmps : Array Value} (hH : HR n0 w0 β st.heap w) (hM : TmR β st.tmps tmps.toList) {r : ResultVar} {av : Av}
    (h : resAv T st r = some av) : ∃ v, (match r with | .tmp t => pure (tmps.getD t undef) | .cell a t => do loadVar t (← asAddr (tmps.getD a undef)) : Sem Value).run P w = .ok v w ∧ AvR β av v := by
  have g : ∀ t, LVR β (getL st.tmps t) (tmps.getD t undef) := fun t => by simpa using getL_sound t hM
  unfold resAv at h
  split at h
  · rename_i t
    split at h
    · rename_i av' he
      simp only [Option.some.injEq] at h; subst h
      have := g t
      rw [he] at this
      exact ⟨_, by simp, this⟩
    · simp at h
  · rename_i t ty
    split at h
    · rename_i ti id off hti hl
      split at h
      · rename_i own te cs hg
        split at h
        · rename_i av' hv
          simp only [Option.some.injEq] at h; subst h
          have hx := g t
          rw [hl] at hx
          have he : evLoad T st.heap ty (.a (.c (.ptr id off))) = some (True, .a av') := by
            simp [evLoad, hti, hg, hv]
          obtain ⟨v, h1, h2⟩ := evLoad_sound hT hG hH hx he trivial
          obtain ⟨b, _, hb⟩ := hx
          refine ⟨v, ?_, h2⟩
          rw [hb] at h1 ⊢
          simpa [Instr.loadAt, Instr.sureAddr, asAddr] using h1
        · simp at h
      · simp at h
    · simp at h

theorem resAvs_sound {P : Program} {T : Tab} (hT : TabOk P T) {n0 : Nat} {w0 : Base} (hG : GOk T w0) {w : World} {β : List Nat} {st : St} {tmps : Array Value} (hH : HR n0 w0 β st.heap w) (hM : TmR β st.tmps tmps.toList) : ∀ {rs : List ResultVar} {as : List Av},
    resAvs T st rs = some as → ∃ vs, (rs.mapM (fun r => match r with | .tmp t => pure (tmps.getD t undef) | .cell a t => do loadVar t (← asAddr (tmps.getD a undef)) : ResultVar → Sem Value)).run P w = .ok vs w ∧ AvsR β as vs
  | [], as, h => by
    simp only [resAvs, Option.some.injEq] at h; subst h
    exact ⟨[], by simp, rfl⟩
  | r :: rs, as, h => by
    simp only [resAvs] at h
    split at h
    · rename_i a as' ha has
      simp only [Option.some.injEq] at h; subst h
      obtain ⟨v, h1, h2⟩ := resAv_sound hT hG hH hM ha
      obtain ⟨vs, h3, h4⟩ := resAvs_sound hT hG hH hM has
      refine ⟨v :: vs, ?_, ⟨v, vs, rfl, h2, h4⟩⟩
      rw [List.mapM_cons, Sem.run_bind, h1, Result.andThen_ok, Sem.run_bind, h3, Result.andThen_ok]; rfl
    · simp at h

theorem AvsR.length {β : List Nat} : ∀ {as : List Av} {vs : List Value}, AvsR β as vs → vs.length = as.length
  | [], _, h => by simp only [AvsR] at h; subst h; rfl
  | _ :: _, _, ⟨v, r, e, _, h⟩ => by subst e; simp [AvsR.length h]

theorem resLV_sound {P : Program} {T : Tab} (hT : TabOk P T) {n0 : Nat} {w0 : Base} (hG : GOk T w0) {w : World} {β : List Nat} {st : St} {tmps : Array Value} (hH : HR n0 w0 β st.heap w) (hM : TmR β st.tmps tmps.toList) {fn : Func} {lv : LV}
    (h : resLV T st fn.results.toList = some lv) : ∃ v, (results fn tmps).run P w = .ok v w ∧ LVR β lv v := by
  have key : ∀ as, resAvs T st fn.results.toList = some as → ∃ vs, (fn.results.mapM (fun r => match r with | .tmp t => pure (tmps.getD t undef) | .cell a t => do loadVar t (← asAddr (tmps.getD a undef)) : ResultVar → Sem Value)).run P w = .ok vs w ∧ AvsR β as vs.toList := by
    intro as has
    obtain ⟨vs, h1, h2⟩ := resAvs_sound hT hG hH hM has
    refine ⟨vs.toArray, ?_, by simpa using h2⟩
    rw [← Array.toArray_toList (xs := fn.results), List.mapM_toArray]
    simp only [Sem.run_map, h1, Result.andThen_ok]
  have e0 : results fn tmps = (do
      let vs ← fn.results.mapM (fun r => match r with | .tmp t => pure (tmps.getD t undef) | .cell a t => do loadVar t (← asAddr (tmps.getD a undef)) : ResultVar → Sem Value)
      pure (if h : vs.size = 1 then vs[0] else .tuple vs)) := by
    unfold results
    congr 1
  unfold resLV at h
  split at h
  · rename_i r hr
    obtain ⟨av, hav, rfl⟩ := Option.map_eq_some_iff.1 h
    obtain ⟨vs, h1, h2⟩ := key [av] (by rw [hr]; simp [resAvs, hav])
    obtain ⟨v, r', e, h3, h4⟩ := h2
    simp only [AvsR] at h4; subst h4
    have hs : vs = #[v] := Array.toList_inj.1 e
    subst hs
    refine ⟨v, ?_, h3⟩
    rw [e0, Sem.run_bind, h1]; rfl
  · rename_i hne
    obtain ⟨as, has, rfl⟩ := Option.map_eq_some_iff.1 h
    obtain ⟨vs, h1, h2⟩ := key as has
    refine ⟨.tuple vs, ?_, ⟨vs, rfl, h2⟩⟩
    have hl := h2.length
    have hla : ∀ (rs : List ResultVar) (as : List Av), resAvs T st rs = some as → as.length = rs.length := by
      intro rs
      induction rs with
      | nil => intro as h; simp only [resAvs, Option.some.injEq] at h; subst h; rfl
      | cons r rs ih =>
        intro as h
        simp only [resAvs] at h
        split at h
        · rename_i a as' _ has'
          simp only [Option.some.injEq] at h; subst h
          simp [ih as' has']
        · simp at h
    have h1' : vs.size ≠ 1 := by
      intro e
      have := hla _ _ has
      rw [Array.length_toList, e] at hl
      rw [← hl] at this
      obtain ⟨r, hr⟩ := List.length_eq_one_iff.1 this.symm
      exact hne r hr
    rw [e0, Sem.run_bind, h1, Result.andThen_ok, dif_neg h1']; rfl

def undefs : Nat → List LV
  | 0 => []
  | n + 1 => .a (.c (.val undef)) :: undefs n

theorem undefs_sound (β : List Nat) : ∀ n, TmR β (undefs n) (List.replicate n undef)
  | 0 => rfl
  | n + 1 => ⟨undef, _, rfl, rfl, undefs_sound β n⟩

/-- A function's blocks seen by what it calls: they may be read, not written. -/
def shut : List Blk → List Blk
  | [] => []
  | .cells _ t cs :: r => .cells false t cs :: shut r
  | .wnd o ks n l :: r => .wnd o ks n l :: shut r
  | .mp _ ks ve L :: r => .mp false ks ve L :: shut r
  | .nst _ t o ks s L :: r => .nst false t o ks s L :: shut r
  | _ :: r => .dead :: shut r

theorem shut_get : ∀ {H : List Blk} {i : Nat} {B : Blk}, (shut H)[i]? = some B → B = .dead ∨ (∃ o t cs, B = .cells false t cs ∧ H[i]? = some (.cells o t cs)) ∨ (∃ o ks n l, B = .wnd o ks n l ∧ H[i]? = some (.wnd o ks n l)) ∨ (∃ o ks ve L, B = .mp false ks ve L ∧ H[i]? = some (.mp o ks ve L)) ∨ ∃ w t o ks s L, B = .nst false t o ks s L ∧ H[i]? = some (.nst w t o ks s L)
  | [], _, _, h => by simp [shut] at h
  | .dead :: r, 0, B, h => by simp [shut] at h; exact .inl h.symm
  | .lp _ _ :: r, 0, B, h => by simp [shut] at h; exact .inl h.symm
  | .wnd o ks n l :: r, 0, B, h => by simp [shut] at h; exact .inr (.inr (.inl ⟨o, ks, n, l, h.symm, rfl⟩))
  | .mp o ks ve L :: r, 0, B, h => by simp [shut] at h; exact .inr (.inr (.inr (.inl ⟨o, ks, ve, L, h.symm, rfl⟩)))
  | .nst w t o ks s L :: r, 0, B, h => by simp [shut] at h; exact .inr (.inr (.inr (.inr ⟨w, t, o, ks, s, L, h.symm, rfl⟩)))
  | .nst _ _ _ _ _ _ :: r, i + 1, B, h => by simp [shut] at h; simpa using shut_get h
  | .cells o t cs :: r, 0, B, h => by simp [shut] at h; exact .inr (.inl ⟨o, t, cs, h.symm, rfl⟩)
  | .dead :: r, i + 1, B, h => by simp [shut] at h; simpa using shut_get h
  | .lp _ _ :: r, i + 1, B, h => by simp [shut] at h; simpa using shut_get h
  | .wnd _ _ _ _ :: r, i + 1, B, h => by simp [shut] at h; simpa using shut_get h
  | .mp _ _ _ _ :: r, i + 1, B, h => by simp [shut] at h; simpa using shut_get h
  | .cells o t cs :: r, i + 1, B, h => by simp [shut] at h; simpa using shut_get h

theorem shut_len : ∀ (H : List Blk), (shut H).length = H.length
  | [] => rfl
  | .dead :: r => by simp [shut, shut_len r]
  | .lp _ _ :: r => by simp [shut, shut_len r]
  | .wnd _ _ _ _ :: r => by simp [shut, shut_len r]
  | .mp _ _ _ _ :: r => by simp [shut, shut_len r]
  | .nst _ _ _ _ _ _ :: r => by simp [shut, shut_len r]
  | .cells _ _ _ :: r => by simp [shut, shut_len r]

/-- The blocks as they are when a call begins. -/
theorem HR.enter {n0 : Nat} {w0 : Base} {w : World} {β : List Nat} {H : List Blk} (h : HR n0 w0 β H w) : HR w.heap.size (Base.pl w) β (shut H) w :=
  ⟨Nat.le_refl _, by rw [shut_len]; exact h.len, fun i j b B C hB ho _ _ _ _ _ => by
    rcases shut_get hB with rfl | ⟨o, t, cs, rfl, _⟩ | ⟨o, ks, n, l, rfl, _⟩ | ⟨o, ks, ve, L, rfl, _⟩ | ⟨_, _, _, _, _, _, rfl, _⟩ <;> simp [Blk.own] at ho, fun _ _ _ _ _ _ _ j c C hC ho => by
    rcases shut_get hC with rfl | ⟨o, t, cs, rfl, _⟩ | ⟨o, ks, n, l, rfl, _⟩ | ⟨o, ks, ve, L, rfl, _⟩ | ⟨_, _, _, _, _, _, rfl, _⟩ <;> simp [Blk.own] at ho, Nat.zero_le _, fun _ _ hg hx => Below.trans hx hg.below, Below.refl _ _, fun i B b hB hb => by
    rcases shut_get hB with rfl | ⟨o, t, cs, rfl, hB'⟩ | ⟨o, ks, n, l, rfl, hB'⟩ | ⟨o, ks, ve, L, rfl, hB'⟩ | ⟨o1, t, o, ks, s, L, rfl, hB'⟩
    · trivial
    · obtain ⟨arr, h1, h2⟩ := h.blk i _ b hB' hb
      exact ⟨arr, h1, fun hz => ⟨fun e => by simp at e, (h2 hz).2⟩⟩
    · exact h.blk i _ b hB' hb
    · have := h.blk i _ b hB' hb
      exact ⟨fun e => by simp at e, this.2⟩
    · have := h.blk i _ b hB' hb
      exact ⟨fun _ e => by simp at e, fun j e he => (this.2 j e he).shut⟩⟩

theorem GOk.pl {T : Tab} {w0 : Base} (h : GOk T w0) {w : World} (hx : w0.X w) : GOk T (Base.pl w) := fun g v hg u hu => by
  obtain ⟨t, fr, cs, ht, hc⟩ := h g v hg w hx
  have hu : Below w.heap.size w u := hu
  exact ⟨t, fr, cs, (hu.block g (Array.getElem?_eq_some_iff.1 ht).1).trans ht, hc⟩

/-- The end of a function: the marks are taken off. -/
theorem leaves_sx {F : Fence} {n : Nat} {P : Program} {fn : Func} {tmps : Array Value} {R : Ending → World → Prop} {n0 hi : Nat} {w0 : Base} {β : List Nat} {H : List Blk} : ∀ (ds : List Deferred) (w : World),
    HR n0 w0 β H w → DOk n0 w0.m hi ds w → (∀ w', HR n0 w0 β H w' → ∃ v, (results fn tmps).run P w' = .ok v w' ∧ R (.returned v) w') → LeavesInM F n P fn tmps R ds .returning w
  | [], w, hH, _, h => h w hH
  | d :: ds, w, hH, ⟨⟨r, e, h1, h2, _, h4, h5⟩, hds⟩, h => by
    refine ⟨by simp, .inl ⟨r, _, by rw [e], run_takeDeferred h4, ?_⟩⟩
    refine leaves_sx (n0 := n0) (hi := hi) (w0 := w0) (β := β) (H := H) ds _ (hH.putO _ h4 (fun _ _ _ e => by cases e) (fun _ e => by cases e) (fun _ _ e => by cases e) h1 h2) ?_ h
    have : ∀ (ds : List Deferred), (∀ d' ∈ ds, d' ≠ d) → DOk n0 w0.m hi ds w → DOk n0 w0.m hi ds (w.putObj r (.deferred none)) := by
      intro ds
      induction ds with
      | nil => intro _ _; trivial
      | cons d1 ds ih =>
        rintro hne ⟨⟨r1, e1, g1, g2, g3, g4, g5⟩, hds⟩
        refine ⟨⟨r1, e1, g1, g2, g3, ?_, g5⟩, ih (fun d' hd' => hne d' (List.mem_cons_of_mem _ hd')) hds⟩
        rw [World.putObj_heap_other]; exact g4
        intro er
        exact hne d1 (by simp) (by rw [e1, e, er])
    exact this ds h5 hds

/-- A function by its execution: what it hands back, and that nothing which lay there has turned. -/
theorem fn_calls {P : Program} {T : Tab} (hT : TabOk P T) {I : CI} (hI : CIOk P T I) {C : Ctr} (hC : CtrOk P T C) (hm : P.follows .mixedOrders = true) {o : Bool} {Λ : Nat → LM} {f : FuncId} {fn : Func} {c : Code} (hf : P.funcs[f]? = some fn) (hb : fn.body = some c)
    {args : List LV} {H : List Blk} {R : LV → List Blk → Prop}
    (h : ex o T I C Λ c Y0 ⟨args ++ undefs (fn.ntmps - args.length), shut H⟩ fun e st => match e with
      | .normal => ∃ lv, resLV T st fn.results.toList = some lv ∧ R lv st.heap
      | .ret => ∃ lv, resLV T st fn.results.toList = some lv ∧ R lv st.heap
      | .exit _ => False
      | .panic _ => False)
    {n0 : Nat} {w0 : Base} (hG : GOk T w0) {w : World} {β : List Nat} {vals : Array Value} (hH : HR n0 w0 β H w) (hA : TmR β args vals.toList) :
    Calls P f vals w fun e w' => ∃ v lv γ H', e = .returned v ∧ R lv H' ∧ Below w.heap.size w w' ∧ HR w.heap.size (Base.pl w) (β ++ γ) H' w' ∧ LVR (β ++ γ) lv v := by
  have hlen : args.length = vals.size := by
    have : ∀ {as : List LV} {vs : List Value}, TmR β as vs → as.length = vs.length := by
      intro as
      induction as with
      | nil => intro vs h; simp only [TmR] at h; subst h; rfl
      | cons a as ih => intro vs ⟨v, r, e, _, h⟩; subst e; simp [ih h]
    simpa using this hA
  rw [← callsIn_wide (n := 0)]
  refine callsIn_of_wp_marks hf hb trivial ?_
  refine ex_sound hT hI hC hm c Y0 none _ (Base.pl w) [] _ _ β _ w _ (hG.pl hH.ext) (YOk.none _ _ _ _) (List.nil_prefix) (fun _ e => by cases e) h hH.enter ?_ trivial ?_
  · simp only [Array.toList_append, Array.toList_replicate]
    rw [← hlen]
    exact hA.append (undefs_sound β _)
  · intro e st' γ a' w' k1 k2 k3 k4
    have fin : (∃ lv, resLV T st' fn.results.toList = some lv ∧ R lv st'.heap) → LeavesInM Fence.wide 0 P fn a'.tmps (fun e w' => ∃ v lv γ H', e = .returned v ∧ R lv H' ∧ Below w.heap.size w w' ∧ HR w.heap.size (Base.pl w) (β ++ γ) H' w' ∧ LVR (β ++ γ) lv v) a'.defers .returning w' := by
      rintro ⟨lv, hlv, hR⟩
      refine leaves_sx _ w' k2 k4 ?_
      intro w'' hH''
      obtain ⟨v, h1, h2⟩ := resLV_sound hT (hG.pl hH.ext) hH'' k3 hlv
      exact ⟨v, h1, v, lv, γ, st'.heap, rfl, hR, hH''.ext, hH'', h2⟩
    cases e with
    | normal => exact fin k1
    | ret => exact fin k1
    | exit id => exact k1.elim
    | panic x => exact k1.elim

/-- A block that no name that says something names may turn. -/
theorem HR.setX {n0 : Nat} {w0 : Base} {w : World} {β : List Nat} {H : List Blk} (h : HR n0 w0 β H w) {b : Nat} {t : TypeId} {arr : Array Value} (arr' : Array Value) (hb : w.heap[b]? = some (.cells arr t (0, 0))) (hn : n0 ≤ b) (hne : ∀ (i : Nat) (B : Blk), H[i]? = some B → β[i]? = some b → B.nil) (hnx : ∀ (i c : Nat) (B : Blk) (x : Nat), H[i]? = some B → β[i]? = some c → B.inn w c x → x ≠ b) : HR n0 w0 β H (w.setRow b arr') := by
  have hgr : Grow n0 w0.m w (w.setRow b arr') := ⟨below_setRow (Below.refl n0 w) hn _, fun k o _ ho hno _ _ => by
    by_cases hk : k = b
    · subst hk; rw [hb] at ho; simp only [Option.some.injEq] at ho; exact absurd ho.symm (hno _ _ _)
    · rw [setRow_other w b k arr' hk]; exact ho, fun k r ho => ⟨r, by
    by_cases hk : k = b
    · subst hk; rw [hb] at ho; simp only [Option.some.injEq, reduceCtorEq] at ho
    · rw [setRow_other w b k arr' hk]; exact ho⟩⟩
  refine ⟨by simpa using h.base, h.len, h.nd, h.niStep (fun i c B x hB hc hx => ⟨i, B, hB, hc, Blk.inn_keep (setRow_other w b c arr' fun e => Blk.inn_nil hx (hne i B hB (e ▸ hc))) hx⟩) (fun j c C hC ho hn hc => .inr ⟨j, C, hC, ho, hn, hc⟩), by simpa using h.ms, h.st, h.st _ _ hgr h.ext, ?_⟩
  intro i B c hB hc
  by_cases hk : c = b
  · subst hk
    exact (h.blk i B c hB hc).any (hne i B hB hc)
  · exact (h.blk i B c hB hc).keep (setRow_other w b c arr' hk) fun x hx => setRow_other w b x arr' (hnx i c B x hB hc hx)

/-- The end of a function by a panic: the marks are taken off. -/
theorem leaves_sxP {F : Fence} {n : Nat} {P : Program} {fn : Func} {tmps : Array Value} {R : Ending → World → Prop} {n0 hi : Nat} {w0 : Base} {β : List Nat} {H : List Blk} {chain : List PanicEntry} : ∀ (ds : List Deferred) (w : World),
    HR n0 w0 β H w → DOk n0 w0.m hi ds w → (∀ w', HR n0 w0 β H w' → R (.panicked chain) w') → LeavesInM F n P fn tmps R ds (.panicking chain) w
  | [], w, hH, _, h => h w hH
  | d :: ds, w, hH, ⟨⟨r, e, h1, h2, _, h4, h5⟩, hds⟩, h => by
    refine ⟨by simp, .inl ⟨r, _, by rw [e], run_takeDeferred h4, ?_⟩⟩
    refine leaves_sxP (n0 := n0) (hi := hi) (w0 := w0) (β := β) (H := H) ds _ (hH.putO _ h4 (fun _ _ _ e => by cases e) (fun _ e => by cases e) (fun _ _ e => by cases e) h1 h2) ?_ h
    have : ∀ (ds : List Deferred), (∀ d' ∈ ds, d' ≠ d) → DOk n0 w0.m hi ds w → DOk n0 w0.m hi ds (w.putObj r (.deferred none)) := by
      intro ds
      induction ds with
      | nil => intro _ _; trivial
      | cons d1 ds ih =>
        rintro hne ⟨⟨r1, e1, g1, g2, g3, g4, g5⟩, hds⟩
        refine ⟨⟨r1, e1, g1, g2, g3, ?_, g5⟩, ih (fun d' hd' => hne d' (List.mem_cons_of_mem _ hd')) hds⟩
        rw [World.putObj_heap_other]; exact g4
        intro er
        exact hne d1 (by simp) (by rw [e1, e, er])
    exact this ds h5 hds

/-- A function by its execution, which may end in a panic. -/
theorem fn_callsP {P : Program} {T : Tab} (hT : TabOk P T) {I : CI} (hI : CIOk P T I) {C : Ctr} (hC : CtrOk P T C) (hm : P.follows .mixedOrders = true) {o : Bool} {Λ : Nat → LM} {f : FuncId} {fn : Func} {c : Code} (hf : P.funcs[f]? = some fn) (hb : fn.body = some c)
    {args : List LV} {H : List Blk} {R : LV → List Blk → Prop} {RP : LV → Prop}
    (h : ex o T I C Λ c Y0 ⟨args ++ undefs (fn.ntmps - args.length), shut H⟩ fun e st => match e with
      | .normal => ∃ lv, resLV T st fn.results.toList = some lv ∧ R lv st.heap
      | .ret => ∃ lv, resLV T st fn.results.toList = some lv ∧ R lv st.heap
      | .exit _ => False
      | .panic x => RP x)
    {n0 : Nat} {w0 : Base} (hG : GOk T w0) {w : World} {β : List Nat} {vals : Array Value} (hH : HR n0 w0 β H w) (hA : TmR β args vals.toList) :
    Calls P f vals w fun e w' => (∃ v lv γ H', e = .returned v ∧ R lv H' ∧ Below w.heap.size w w' ∧ HR w.heap.size (Base.pl w) (β ++ γ) H' w' ∧ LVR (β ++ γ) lv v) ∨
      ∃ v x γ, e = .panicked [{ v, recovered := false }] ∧ RP x ∧ Below w.heap.size w w' ∧ LVR (β ++ γ) x v := by
  have hlen : args.length = vals.size := by
    have : ∀ {as : List LV} {vs : List Value}, TmR β as vs → as.length = vs.length := by
      intro as
      induction as with
      | nil => intro vs h; simp only [TmR] at h; subst h; rfl
      | cons a as ih => intro vs ⟨v, r, e, _, h⟩; subst e; simp [ih h]
    simpa using this hA
  rw [← callsIn_wide (n := 0)]
  refine callsIn_of_wp_marks hf hb trivial ?_
  refine ex_sound hT hI hC hm c Y0 none _ (Base.pl w) [] _ _ β _ w _ (hG.pl hH.ext) (YOk.none _ _ _ _) (List.nil_prefix) (fun _ e => by cases e) h hH.enter ?_ trivial ?_
  · simp only [Array.toList_append, Array.toList_replicate]
    rw [← hlen]
    exact hA.append (undefs_sound β _)
  · intro e st' γ a' w' k1 k2 k3 k4
    have fin : (∃ lv, resLV T st' fn.results.toList = some lv ∧ R lv st'.heap) → LeavesInM Fence.wide 0 P fn a'.tmps (fun e w' => (∃ v lv γ H', e = .returned v ∧ R lv H' ∧ Below w.heap.size w w' ∧ HR w.heap.size (Base.pl w) (β ++ γ) H' w' ∧ LVR (β ++ γ) lv v) ∨
      ∃ v x γ, e = .panicked [{ v, recovered := false }] ∧ RP x ∧ Below w.heap.size w w' ∧ LVR (β ++ γ) x v) a'.defers .returning w' := by
      rintro ⟨lv, hlv, hR⟩
      refine leaves_sx _ w' k2 k4 ?_
      intro w'' hH''
      obtain ⟨v, h1, h2⟩ := resLV_sound hT (hG.pl hH.ext) hH'' k3 hlv
      exact ⟨v, h1, .inl ⟨v, lv, γ, st'.heap, rfl, hR, hH''.ext, hH'', h2⟩⟩
    cases e with
    | normal => exact fin k1
    | ret => exact fin k1
    | exit id => exact k1.elim
    | panic x =>
      intro v hv
      exact leaves_sxP _ w' k2 k4 fun w'' hH'' => .inr ⟨v, x, γ, rfl, k1, hH''.ext, hv⟩

/-! ### Functions met in place -/

/-- A call: met in place, or by a contract. -/
def inlStep (o : Bool) (T : Tab) (C : Ctr) (inl : FuncId → Option (Func × (Nat → LM))) (I : CI) (Y : YE) (f : FuncId) (args : List LV) (H : List Blk) (K : LV → List Blk → Prop) : Prop :=
  match inl f with
  | some (fn, Λ) => match fn.body with
    | some c => force (args ++ undefs (fn.ntmps - args.length)) fun ts => ex o T I C Λ c Y ⟨ts, H⟩ fun e st => match e with
      | .exit _ => Stuck "exit"
      | .panic _ => Stuck "panic"
      | _ => match resLV T st fn.results.toList with
        | some lv => K lv st.heap
        | none => Stuck "result"
    | none => Stuck "body"
  | none => ciOf C Y f args H K
def inlN (o : Bool) (T : Tab) (C : Ctr) (inl : FuncId → Option (Func × (Nat → LM))) : Nat → CI
  | 0 => ciOf C
  | n + 1 => inlStep o T C inl (inlN o T C inl n)

def InlOk (P : Program) (inl : FuncId → Option (Func × (Nat → LM))) : Prop := ∀ f fn Λ, inl f = some (fn, Λ) → P.funcs[f]? = some fn ∧ (fn.name == "runtime.NumGoroutine") = false

theorem TmR.length {β : List Nat} : ∀ {as : List LV} {vs : List Value}, TmR β as vs → as.length = vs.length
  | [], _, h => by simp only [TmR] at h; subst h; rfl
  | _ :: _, _, ⟨v, r, e, _, h⟩ => by subst e; simp [TmR.length h]

theorem inlN_ok {P : Program} {T : Tab} (hT : TabOk P T) {C : Ctr} (hC : CtrOk P T C) (hm : P.follows .mixedOrders = true) {o : Bool} {inl : FuncId → Option (Func × (Nat → LM))} (hi : InlOk P inl) : ∀ n, CIOk P T (inlN o T C inl n)
  | 0 => ciOf_ok hC
  | n + 1 => by
    intro Y f args H K h
    unfold inlN inlStep at h
    split at h
    · rename_i fn Λ hfn
      obtain ⟨hf, hnm⟩ := hi f fn Λ hfn
      split at h
      · rename_i c hb
        rw [force_eq] at h
        refine ⟨⟨fn, hf, hnm, by simp [hb]⟩, fun n0 w0 B β w vals hG hY hB hH hA => ?_⟩
        rw [← callsIn_wide (n := 0)]
        refine callsIn_of_wp_marks hf hb trivial ?_
        refine ex_sound hT (inlN_ok hT hC hm hi n) hC hm c Y none _ w0 B _ _ β _ w _ hG hY hB (fun _ e => by cases e) h hH ?_ trivial ?_
        · simp only [Array.toList_append, Array.toList_replicate]
          have hlen : args.length = vals.size := by rw [hA.length]; simp
          rw [← hlen]
          exact hA.append (undefs_sound β _)
        · intro e st' γ a' w' k1 k2 k3 k4
          have fin : (match resLV T st' fn.results.toList with | some lv => K lv st'.heap | none => Stuck "result") → LeavesInM Fence.wide 0 P fn a'.tmps (fun e w' => ∃ v γ lv H', e = .returned v ∧ K lv H' ∧ HR n0 w0 (β ++ γ) H' w' ∧ LVR (β ++ γ) lv v) a'.defers .returning w' := by
            intro k1
            split at k1
            · rename_i lv hlv
              refine leaves_sx _ w' k2 k4 ?_
              intro w'' hH''
              obtain ⟨v, h1, h2⟩ := resLV_sound hT hG hH'' k3 hlv
              exact ⟨v, h1, v, γ, lv, st'.heap, rfl, k1, hH'', h2⟩
            · exact k1.elim
          cases e with
          | normal => exact fin k1
          | ret => exact fin k1
          | exit id => exact k1.elim
          | panic x => exact k1.elim
      · exact h.elim
    · exact ciOf_ok hC Y f args H K h



/-! ### Canonical forms: what is known is said as what is not -/

def canC : Cel → Cel
  | .lit k n => .int k n
  | .tt => .bool true
  | .ff => .bool false
  | x => x
def canA : Av → Av
  | .c x => .c (canC x)
  | .agg l => .agg (l.map canC)
def canL : LV → LV
  | .a x => .a (canA x)
  | .tup l => .tup l
def canB : Blk → Blk
  | .dead => .dead
  | .lp s pe => .lp s pe
  | .wnd o ks n l => .wnd o ks n l
  | .mp o ks ve L => .mp o ks ve L
  | .nst w t o ks s L => .nst w t o ks s L
  | .cells o t cs => .cells o t (cs.map canC)

theorem canC1_sound {β : List Nat} {c : Cel} {vs : List Value} (h : Cel1 β c vs) : Cel1 β (canC c) vs := by
  cases c <;> exact h

theorem canCs_sound {β : List Nat} : ∀ {cs : List Cel} {vs : List Value}, CelsR β cs vs → CelsR β (cs.map canC) vs
  | [], _, h => h
  | _ :: _, _, ⟨p, r, e, h1, h2⟩ => ⟨p, r, e, canC1_sound h1, canCs_sound h2⟩

theorem canL_sound {β : List Nat} {x : LV} {v : Value} (h : LVR β x v) : LVR β (canL x) v := by
  cases x with
  | tup l => exact h
  | a x =>
    cases x with
    | c x => cases x <;> exact h
    | agg l => obtain ⟨arr, e, h⟩ := h; exact ⟨arr, e, canCs_sound h⟩

theorem canT_sound {β : List Nat} : ∀ {ts : List LV} {vs : List Value}, TmR β ts vs → TmR β (ts.map canL) vs
  | [], _, h => h
  | _ :: _, _, ⟨v, r, e, h1, h2⟩ => ⟨v, r, e, canL_sound h1, canT_sound h2⟩

theorem width_can : ∀ cs : List Cel, width (cs.map canC) = width cs
  | [] => rfl
  | c :: cs => by
    simp only [List.map_cons, width, width_can cs]
    congr 1
    cases c <;> rfl

theorem canB_nil {B : Blk} : (canB B).nil ↔ B.nil := by
  cases B with
  | dead => exact Iff.rfl
  | lp s pe => exact Iff.rfl
  | wnd _ _ _ _ => exact Iff.rfl
  | mp _ _ _ _ => exact Iff.rfl
  | nst _ _ _ _ _ _ => exact Iff.rfl
  | cells o t cs => show width (cs.map canC) = 0 ↔ width cs = 0; rw [width_can]

theorem canB_own {B : Blk} : (canB B).own = B.own := by cases B <;> rfl

theorem canB_inn {w : World} {b x : Nat} {B : Blk} (h : (canB B).inn w b x) : B.inn w b x := by cases B <;> exact h

theorem canH_sound {n0 : Nat} {w0 : Base} {w : World} {β : List Nat} {H : List Blk} (h : HR n0 w0 β H w) : HR n0 w0 β (H.map canB) w :=
  ⟨h.base, by simp [h.len], fun i j b B C hB ho hn hb hb' hne hC => by
    rw [List.getElem?_map] at hB hC
    obtain ⟨A, hA, rfl⟩ := Option.map_eq_some_iff.1 hB
    obtain ⟨D, hD, rfl⟩ := Option.map_eq_some_iff.1 hC
    rw [canB_own] at ho
    rw [canB_nil] at hn ⊢
    exact h.nd i j b A D hA ho hn hb hb' hne hD, h.niStep (fun i b B x hB hb hx => by
    rw [List.getElem?_map] at hB
    obtain ⟨A, hA, rfl⟩ := Option.map_eq_some_iff.1 hB
    exact ⟨i, A, hA, hb, canB_inn hx⟩) (fun j c C hC ho hn hc => by
    rw [List.getElem?_map] at hC
    obtain ⟨A, hA, rfl⟩ := Option.map_eq_some_iff.1 hC
    rw [canB_own] at ho
    rw [canB_nil] at hn
    exact .inr ⟨j, A, hA, ho, hn, hc⟩), h.ms, h.st, h.ext, fun i B b hB hb => by
    rw [List.getElem?_map] at hB
    obtain ⟨A, hA, rfl⟩ := Option.map_eq_some_iff.1 hB
    have := h.blk i A b hA hb
    cases A with
    | dead => trivial
    | lp s pe => exact this
    | wnd _ _ _ _ => exact this
    | mp _ _ _ _ => exact this
    | nst _ _ _ _ _ _ => exact this
    | cells o t cs =>
      obtain ⟨arr, h1, h2⟩ := this
      exact ⟨arr, canCs_sound h1, h2⟩⟩

/-! ### Tables of contracts -/

abbrev Entry := List LV → List Blk → Option (Prop × LV)

def lookE : List (FuncId × Entry) → FuncId → Option Entry
  | [], _ => none
  | (f, g) :: r, u => if f = u then some g else lookE r u

/-- A table of plain contracts: the callee leaves what lay there as it was. -/
def ctrFn (L : List (FuncId × Entry)) : FuncId → List LV → List Blk → Option (Prop × LV) := fun f args H =>
  match lookE L f with
  | some g => match g (args.map canL) (H.map canB) with
    | some (p, r) => if inL H.length r = true then some (p, r) else none
    | none => none
  | none => none

/-- A contract of which the result may lie in new blocks. -/
abbrev EntryC := List LV → List Blk → (LV → List Blk → Prop) → Prop

def lookM : List (FuncId × EntryC) → FuncId → Option EntryC
  | [], _ => none
  | (f, g) :: r, u => if f = u then some g else lookM r u

def ctrCp (M : List (FuncId × EntryC)) : FuncId → List LV → List Blk → (LV → List Blk → Prop) → Prop := fun f args H K =>
  match lookM M f with
  | some g => g (args.map canL) H K
  | none => Stuck "call"

def ctrOfM (L : List (FuncId × Entry)) (M : List (FuncId × EntryC)) : Ctr := ⟨ctrFn L, ctrCp M, []⟩
/-- With functions that panic if what they are given does not hold. -/
def ctrOfN (L : List (FuncId × Entry)) (M : List (FuncId × EntryC)) (N : List (FuncId × Value)) : Ctr := ⟨ctrFn L, ctrCp M, N⟩
def ctrOf (L : List (FuncId × Entry)) : Ctr := ctrOfM L []

def EntryOk (P : Program) (T : Tab) (f : FuncId) (g : Entry) : Prop :=
  FnOk P f ∧ ∀ args H p r, g args H = some (p, r) → p → ∀ n0 w0 β w (vals : Array Value), GOk T w0 → HR n0 w0 β H w → TmR β args vals.toList →
    Calls P f vals w fun e w' => ∃ v, e = .returned v ∧ Below w.heap.size w w' ∧ LVR β r v

def EntriesOk (P : Program) (T : Tab) : List (FuncId × Entry) → Prop
  | [] => True
  | (f, g) :: r => EntryOk P T f g ∧ EntriesOk P T r

theorem EntriesOk.look {P : Program} {T : Tab} : ∀ {L : List (FuncId × Entry)} {f : FuncId} {g : Entry}, EntriesOk P T L → lookE L f = some g → EntryOk P T f g
  | [], _, _, _, h => by simp [lookE] at h
  | (u, ui) :: r, t, ti, h, hl => by
    unfold lookE at hl
    split at hl
    · rename_i e; simp only [Option.some.injEq] at hl; subst hl; subst e; exact h.1
    · exact EntriesOk.look h.2 hl

def EntryCOk (P : Program) (T : Tab) (f : FuncId) (g : EntryC) : Prop :=
  FnOk P f ∧ ∀ args H K, g args H K → ∀ n0 w0 β w (vals : Array Value), GOk T w0 → HR n0 w0 β H w → TmR β args vals.toList →
    Calls P f vals w fun e w' => ∃ v γ lv H', e = .returned v ∧ K lv H' ∧ HR n0 w0 (β ++ γ) H' w' ∧ LVR (β ++ γ) lv v

def EntriesCOk (P : Program) (T : Tab) : List (FuncId × EntryC) → Prop
  | [] => True
  | (f, g) :: r => EntryCOk P T f g ∧ EntriesCOk P T r

theorem EntriesCOk.look {P : Program} {T : Tab} : ∀ {L : List (FuncId × EntryC)} {f : FuncId} {g : EntryC}, EntriesCOk P T L → lookM L f = some g → EntryCOk P T f g
  | [], _, _, _, h => by simp [lookM] at h
  | (u, ui) :: r, t, ti, h, hl => by
    unfold lookM at hl
    split at hl
    · rename_i e; simp only [Option.some.injEq] at hl; subst hl; subst e; exact h.1
    · exact EntriesCOk.look h.2 hl

theorem ctrOfM_ok {P : Program} {T : Tab} {L : List (FuncId × Entry)} {M : List (FuncId × EntryC)} (h : EntriesOk P T L) (hM : EntriesCOk P T M) : CtrOk P T (ctrOfM L M) := by
  refine ⟨?_, ?_, trivial⟩
  · intro f args H p r he hp
    simp only [ctrOfM, ctrFn] at he
    split at he
    · rename_i g hl
      obtain ⟨hf, hcall⟩ := h.look hl
      split at he
      · rename_i p' r' hg
        split at he
        · simp only [Option.some.injEq, Prod.mk.injEq] at he
          obtain ⟨rfl, rfl⟩ := he
          refine ⟨hf, fun n0 w0 β w vals hG hH hA => ?_⟩
          refine (hcall _ _ _ _ hg hp n0 w0 β w vals hG (canH_sound hH) (canT_sound hA)).mono ?_
          rintro e w' ⟨v, h1, h2, h3⟩
          exact ⟨v, h1, h3, h2⟩
        · simp at he
      · simp at he
    · simp at he
  · intro f args H K hk
    simp only [ctrOfM, ctrCp] at hk
    split at hk
    · rename_i g hl
      obtain ⟨hf, hcall⟩ := hM.look hl
      exact ⟨hf, fun n0 w0 β w vals hG hH hA => hcall _ _ _ hk n0 w0 β w vals hG hH (canT_sound hA)⟩
    · exact hk.elim

theorem ctrOfN_ok {P : Program} {T : Tab} {L : List (FuncId × Entry)} {M : List (FuncId × EntryC)} {N : List (FuncId × Value)} (h : EntriesOk P T L) (hM : EntriesCOk P T M) (hN : NdOk P N) : CtrOk P T (ctrOfN L M N) := ⟨(ctrOfM_ok h hM).1, (ctrOfM_ok h hM).2.1, hN⟩
theorem ctrOf_ok {P : Program} {T : Tab} {L : List (FuncId × Entry)} (h : EntriesOk P T L) : CtrOk P T (ctrOf L) := ctrOfM_ok h trivial

/-! ### A function's execution as a proposition -/

def Fex (o : Bool) (T : Tab) (I : CI) (C : Ctr) (Λ : Nat → LM) (fn : Func) (args : List LV) (H : List Blk) (R : LV → List Blk → Prop) : Prop :=
  match fn.body with
  | some c => force (args ++ undefs (fn.ntmps - args.length)) fun ts => forceH (shut H) fun H => ex o T I C Λ c Y0 ⟨ts, H⟩ fun e st => match e with
    | .exit _ => Stuck "exit"
    | .panic _ => Stuck "panic"
    | _ => match resLV T st fn.results.toList with
      | some lv => R lv st.heap
      | none => Stuck "result"
  | none => Stuck "body"

/-- The same where it may end in a panic. -/
def FexP (o : Bool) (T : Tab) (I : CI) (C : Ctr) (Λ : Nat → LM) (fn : Func) (args : List LV) (H : List Blk) (R : LV → List Blk → Prop) (RP : LV → Prop) : Prop :=
  match fn.body with
  | some c => force (args ++ undefs (fn.ntmps - args.length)) fun ts => forceH (shut H) fun H => ex o T I C Λ c Y0 ⟨ts, H⟩ fun e st => match e with
    | .exit _ => Stuck "exit"
    | .panic x => RP x
    | _ => match resLV T st fn.results.toList with
      | some lv => R lv st.heap
      | none => Stuck "result"
  | none => Stuck "body"

theorem ex_mono (o : Bool) (T : Tab) (I : CI) (C : Ctr) (Λ : Nat → LM) (c : Code) (Y : YE) (st : St) {K K' : Ex → St → Prop} (hK : K = K') (h : ex o T I C Λ c Y st K) : ex o T I C Λ c Y st K' := hK ▸ h

theorem map_self {α : Type} {g : α → α} : ∀ (l : List α), (∀ c ∈ l, g c = c) → l.map g = l
  | [], _ => rfl
  | c :: l, h => by rw [List.map_cons, h c (by simp), map_self l fun d hd => h d (List.mem_cons_of_mem _ hd)]

theorem rnC_in0 (f : Nat → Nat) (c : Cel) (h : inC 0 c = true) : rnC f c = c := by
  cases c <;> simp only [inC, rnC, decide_eq_true_eq, Nat.not_lt_zero] at *
  rename_i g caps
  cases caps with
  | nil => rfl
  | cons x xs => simp at h

theorem rnA_in0 (f : Nat → Nat) (a : Av) (h : inA 0 a = true) : rnA f a = a := by
  cases a with
  | c x => simp only [rnA]; rw [rnC_in0 f x h]
  | agg l => simp only [rnA]; rw [map_self l fun c hc => rnC_in0 f c (List.all_eq_true.1 h c hc)]

theorem rnL_in0 (f : Nat → Nat) (l : LV) (h : inL 0 l = true) : rnL f l = l := by
  cases l with
  | a x => simp only [rnL]; rw [rnA_in0 f x h]
  | tup l => simp only [rnL]; rw [map_self l fun c hc => rnA_in0 f c (List.all_eq_true.1 h c hc)]

theorem rnC_self (c : Cel) : rnC (fun i => i) c = c := by
  cases c <;> simp [rnC]
theorem rnA_self (a : Av) : rnA (fun i => i) a = a := by
  cases a with
  | c x => simp only [rnA]; rw [rnC_self]
  | agg l => simp only [rnA]; rw [map_self l fun c _ => rnC_self c]
theorem rnL_self (l : LV) : rnL (fun i => i) l = l := by
  cases l with
  | a x => simp only [rnL]; rw [rnA_self]
  | tup l => simp only [rnL]; rw [map_self l fun c _ => rnA_self c]

theorem inC_le {m n : Nat} (hmn : m ≤ n) (c : Cel) (h : inC m c = true) : inC n c = true := by
  cases c <;> simp only [inC, decide_eq_true_eq, List.all_eq_true] at * <;> first | omega | exact fun x hx => by have := h x hx; omega

theorem inA_le {m n : Nat} (hmn : m ≤ n) (a : Av) (h : inA m a = true) : inA n a = true := by
  cases a with
  | c x => exact inC_le hmn x h
  | agg l => simp only [inA, List.all_eq_true] at h ⊢; exact fun c hc => inC_le hmn c (h c hc)

theorem inL_le {m n : Nat} (hmn : m ≤ n) (l : LV) (h : inL m l = true) : inL n l = true := by
  cases l with
  | a x => exact inA_le hmn x h
  | tup l => simp only [inL, List.all_eq_true] at h ⊢; exact fun c hc => inA_le hmn c (h c hc)

/-! #### Names carried over -/

section
variable {β β' : List Nat} {f : Nat → Nat} (hf : ∀ (id b : Nat), β[id]? = some b → β'[f id]? = some b)
include hf

theorem mapM_fw : ∀ {caps bs : List Nat}, caps.mapM (fun i => β[i]?) = some bs → (caps.map f).mapM (fun i => β'[i]?) = some bs
  | [], bs, h => by simpa using h
  | c :: cs, bs, h => by
    simp only [List.map_cons, List.mapM_cons, Option.bind_eq_bind, Option.bind_eq_some_iff, Option.pure_def] at h ⊢
    obtain ⟨x, hx, y, hy, e⟩ := h
    exact ⟨x, hf _ _ hx, y, mapM_fw hy, e⟩

theorem SlcR.fw {id base : Nat} {i : Int} {stride : Nat} {len cap : Int} {v : Value} (h : SlcR β id base i stride len cap v) : SlcR β' (f id) base i stride len cap v := by
  obtain ⟨h1, h2, h3, ⟨b, h4, h5⟩ | h4⟩ := h
  · exact ⟨h1, h2, h3, .inl ⟨b, hf _ _ h4, h5⟩⟩
  · exact ⟨h1, h2, h3, .inr h4⟩

theorem CelR.fw {c : Cel} {v : Value} (h : CelR β c v) : CelR β' (rnC f c) v := by
  cases c <;> simp only [CelR, rnC] at * <;>
    first
      | exact h
      | (obtain ⟨b, h1, h2⟩ := h; exact ⟨b, hf _ _ h1, h2⟩)
      | (obtain ⟨h1, h2, h3, ⟨b, h4, h5⟩ | h4⟩ := h; exact ⟨h1, h2, h3, .inl ⟨b, hf _ _ h4, h5⟩⟩; exact ⟨h1, h2, h3, .inr h4⟩)
      | (obtain ⟨bs, h1, h2⟩ := h; exact ⟨bs, mapM_fw hf h1, h2⟩)
      | (obtain ⟨x, h1, h2⟩ := h; exact ⟨x, SlcR.fw hf h1, h2⟩)
      | (rcases h with h | ⟨b, h1, h2⟩; exact .inl h; exact .inr ⟨b, hf _ _ h1, h2⟩)

theorem Cel1.fw {c : Cel} {vs : List Value} (h : Cel1 β c vs) : Cel1 β' (rnC f c) vs := by
  cases c <;> simp only [Cel1, rnC] at * <;>
    first
      | exact h
      | (obtain ⟨v, h1, h2⟩ := h; exact ⟨v, h1, by simpa only [rnC] using CelR.fw hf h2⟩)

theorem CelsR.fw : ∀ {cs : List Cel} {vs : List Value}, CelsR β cs vs → CelsR β' (cs.map (rnC f)) vs
  | [], _, h => h
  | c :: cs, _, ⟨p, r, e, h1, h2⟩ => ⟨p, r, e, Cel1.fw hf h1, CelsR.fw h2⟩

theorem AvR.fw {a : Av} {v : Value} (h : AvR β a v) : AvR β' (rnA f a) v := by
  cases a with
  | c x => exact CelR.fw hf h
  | agg l => obtain ⟨arr, e, h⟩ := h; exact ⟨arr, e, CelsR.fw hf h⟩

theorem AvsR.fw : ∀ {cs : List Av} {vs : List Value}, AvsR β cs vs → AvsR β' (cs.map (rnA f)) vs
  | [], _, h => h
  | c :: cs, _, ⟨p, r, e, h1, h2⟩ => ⟨p, r, e, AvR.fw hf h1, AvsR.fw h2⟩

theorem LVR.fw {a : LV} {v : Value} (h : LVR β a v) : LVR β' (rnL f a) v := by
  cases a with
  | a x => exact AvR.fw hf h
  | tup l => obtain ⟨arr, e, h⟩ := h; exact ⟨arr, e, AvsR.fw hf h⟩
end

section
variable {P : Program} {T : Tab} (hT : TabOk P T) {I : CI} (hI : CIOk P T I) {C : Ctr} (hC : CtrOk P T C) (hm : P.follows .mixedOrders = true) {o : Bool} {Λ : Nat → LM} {f : FuncId} {fn : Func} (hf : P.funcs[f]? = some fn)
include hT hI hC hm hf

theorem Fex.calls {args : List LV} {H : List Blk} {R : LV → List Blk → Prop} (h : Fex o T I C Λ fn args H R)
    {n0 : Nat} {w0 : Base} (hG : GOk T w0) {w : World} {β : List Nat} {vals : Array Value} (hH : HR n0 w0 β H w) (hA : TmR β args vals.toList) :
    Calls P f vals w fun e w' => ∃ v lv γ H', e = .returned v ∧ R lv H' ∧ Below w.heap.size w w' ∧ HR w.heap.size (Base.pl w) (β ++ γ) H' w' ∧ LVR (β ++ γ) lv v := by
  unfold Fex at h
  split at h
  · rename_i c hb
    rw [force_eq, forceH_eq] at h
    refine fn_calls hT hI hC hm hf hb (o := o) (Λ := Λ) (R := R) (ex_mono _ _ _ _ _ _ _ _ ?_ h) hG hH hA
    funext e st
    cases e with
    | exit _ => rfl
    | panic _ => rfl
    | _ =>
      simp only
      cases resLV T st fn.results.toList with
      | none => simp [Stuck]
      | some lv => simp
  · exact h.elim

theorem FexP.calls {args : List LV} {H : List Blk} {R : LV → List Blk → Prop} {RP : LV → Prop} (h : FexP o T I C Λ fn args H R RP)
    {n0 : Nat} {w0 : Base} (hG : GOk T w0) {w : World} {β : List Nat} {vals : Array Value} (hH : HR n0 w0 β H w) (hA : TmR β args vals.toList) :
    Calls P f vals w fun e w' => (∃ v lv γ H', e = .returned v ∧ R lv H' ∧ Below w.heap.size w w' ∧ HR w.heap.size (Base.pl w) (β ++ γ) H' w' ∧ LVR (β ++ γ) lv v) ∨
      ∃ v x γ, e = .panicked [{ v, recovered := false }] ∧ RP x ∧ Below w.heap.size w w' ∧ LVR (β ++ γ) x v := by
  unfold FexP at h
  split at h
  · rename_i c hb
    rw [force_eq, forceH_eq] at h
    refine fn_callsP hT hI hC hm hf hb (o := o) (Λ := Λ) (R := R) (RP := RP) (ex_mono _ _ _ _ _ _ _ _ ?_ h) hG hH hA
    funext e st
    cases e with
    | exit _ => rfl
    | panic _ => rfl
    | _ =>
      simp only
      cases resLV T st fn.results.toList with
      | none => simp [Stuck]
      | some lv => simp
  · exact h.elim

theorem Fex.plain {args : List LV} {H : List Blk} {res : LV} (h : Fex o T I C Λ fn args H fun lv _ => leL lv res) (hin : inL 0 res = true)
    {n0 : Nat} {w0 : Base} (hG : GOk T w0) {w : World} {β β1 : List Nat} {vals : Array Value} (hH : HR n0 w0 β H w) (hA : TmR β args vals.toList) :
    Calls P f vals w fun e w' => ∃ v, e = .returned v ∧ Below w.heap.size w w' ∧ LVR β1 res v := by
  refine (h.calls hT hI hC hm hf hG hH hA).mono ?_
  rintro e w' ⟨v, lv, γ, H', rfl, hR, hb, _, hv⟩
  refine ⟨v, rfl, hb, ?_⟩
  exact LVR.rn (f := fun i => i) (β := β ++ γ) (M := 0) (fun id h => by omega) (by rw [rnL_in0 _ _ hin]; exact leL_sound hR hv) hin
end

theorem HR.nil (w : World) : HR w.heap.size (Base.pl w) [] [] w := ⟨Nat.le_refl _, rfl, fun _ _ _ _ _ h => by simp at h, fun _ _ _ _ h => by simp at h, Nat.zero_le _, fun _ _ hg hx => Below.trans hx hg.below, Below.refl _ _, by simp⟩

/-- The blocks of the caller's that a callee sees. -/
def viewB : Blk → Option Blk
  | .cells _ t cs => if cs.all (inC 0) = true then some (.cells false t cs) else none
  | .wnd o ks n l => some (.wnd o ks n l)
  | .mp _ ks ve L => some (.mp false ks ve L)
  | .nst _ t o ks s L => some (.nst false t o ks s L)
  | _ => none

def View (H : List Blk) : List Nat → List Blk → Prop
  | [], [] => True
  | i :: r, B :: s => (B = .dead ∨ viewB (getB H i) = some B) ∧ View H r s
  | _, _ => False

theorem View.get {H : List Blk} : ∀ {is : List Nat} {Hs : List Blk} {j : Nat} {B : Blk}, View H is Hs → Hs[j]? = some B → ∃ i, is[j]? = some i ∧ (B = .dead ∨ viewB (getB H i) = some B)
  | [], [], j, B, _, h => by simp at h
  | [], _ :: _, _, _, h, _ => h.elim
  | _ :: _, [], _, _, h, _ => h.elim
  | i :: r, C :: s, 0, B, ⟨h1, _⟩, h => by simp at h; subst h; exact ⟨i, rfl, h1⟩
  | i :: r, C :: s, j + 1, B, ⟨_, h2⟩, h => by simpa using View.get h2 (by simpa using h)

theorem View.len {H : List Blk} : ∀ {is : List Nat} {Hs : List Blk}, View H is Hs → Hs.length = is.length
  | [], [], _ => rfl
  | [], _ :: _, h => h.elim
  | _ :: _, [], h => h.elim
  | i :: r, C :: s, ⟨_, h2⟩ => by simp [View.len h2]

theorem CelsR.bare {β γ : List Nat} {cs : List Cel} {vs : List Value} (h : CelsR β cs vs) (hi : cs.all (inC 0) = true) : CelsR γ cs vs := by
  refine CelsR.rn (f := fun i => i) (β := β) (M := 0) (fun id h => by omega) ?_ hi
  rw [map_self cs fun c hc => rnC_in0 _ c (List.all_eq_true.1 hi c hc)]; exact h

theorem HR.view {n0 : Nat} {w0 : Base} {w : World} {β : List Nat} {H : List Blk} (h : HR n0 w0 β H w) {is : List Nat} {Hs : List Blk} (hv : View H is Hs) : HR w.heap.size (Base.pl w) (is.map fun i => β.getD i 0) Hs w := by
  have own : ∀ {B C : Blk}, viewB B = some C → C.own = false := by
    intro B C h
    cases B <;> simp only [viewB, reduceCtorEq, Option.some.injEq] at h
    · split at h <;> simp at h; subst h; rfl
    · subst h; rfl
    · subst h; rfl
    · subst h; rfl
  refine ⟨Nat.le_refl _, by simp [hv.len], fun i j b B C hB ho => ?_, fun _ _ _ _ _ _ _ j c C hC ho => ?_, Nat.zero_le _, fun _ _ hg hx => Below.trans hx hg.below, Below.refl _ _, ?_⟩
  · obtain ⟨k, _, h2⟩ := hv.get hB
    rcases h2 with rfl | h2
    · simp [Blk.own] at ho
    · rw [own h2] at ho; cases ho
  · obtain ⟨k, _, h2⟩ := hv.get hC
    rcases h2 with rfl | h2
    · simp [Blk.own] at ho
    · rw [own h2] at ho; cases ho
  · intro j B b hB hb
    obtain ⟨i, h1, h2⟩ := hv.get hB
    rcases h2 with rfl | h2
    · trivial
    rw [List.getElem?_map, h1] at hb
    simp only [Option.map_some, Option.some.injEq] at hb
    cases hg : getB H i with
    | dead => rw [hg] at h2; simp [viewB] at h2
    | lp s pe => rw [hg] at h2; simp [viewB] at h2
    | wnd o ks n l =>
      rw [hg] at h2
      simp only [viewB, Option.some.injEq] at h2
      subst h2
      obtain ⟨b', hb', h3⟩ := h.getW hg
      rw [List.getD_eq_getElem?_getD, hb'] at hb
      simp only [Option.getD_some] at hb
      subst hb
      exact h3
    | mp o ks ve L =>
      rw [hg] at h2
      simp only [viewB, Option.some.injEq] at h2
      subst h2
      obtain ⟨b', hb', _, h3⟩ := h.getM hg
      rw [List.getD_eq_getElem?_getD, hb'] at hb
      simp only [Option.getD_some] at hb
      subst hb
      exact ⟨fun e => by simp at e, h3⟩
    | nst ow t o ks s L =>
      rw [hg] at h2
      simp only [viewB, Option.some.injEq] at h2
      subst h2
      obtain ⟨b', hb', h3⟩ := h.getN hg
      rw [List.getD_eq_getElem?_getD, hb'] at hb
      simp only [Option.getD_some] at hb
      subst hb
      exact ⟨fun _ e => by simp at e, fun j e he => (h3.2 j e he).shut⟩
    | cells o t cs =>
      rw [hg] at h2
      simp only [viewB] at h2
      split at h2
      · rename_i hc
        simp only [Option.some.injEq] at h2
        subst h2
        obtain ⟨b', arr, hb', h3, h4⟩ := h.get hg
        rw [List.getD_eq_getElem?_getD, hb'] at hb
        simp only [Option.getD_some] at hb
        subst hb
        exact ⟨arr, h4.bare hc, fun hz => ⟨fun e => by simp at e, (h3 hz).2⟩⟩
      · simp at h2

theorem TmR.view {β : List Nat} {is : List Nat} {args : List LV} {vs : List Value} (h : TmR β (args.map (rnL fun j => is.getD j 0)) vs) (hi : args.all (inL is.length) = true) : TmR (is.map fun i => β.getD i 0) args vs := by
  refine TmR.rn (f := fun j => is.getD j 0) (fun id hid b hb => ?_) h hi
  have h1 : is[id]? = some is[id] := List.getElem?_eq_getElem hid
  rw [List.getD_eq_getElem?_getD, h1] at hb
  simp only [Option.getD_some] at hb
  rw [List.getElem?_map, h1]
  simp [hb]

section
variable {P : Program} {T : Tab} (hT : TabOk P T) {I : CI} (hI : CIOk P T I) {C : Ctr} (hC : CtrOk P T C) (hm : P.follows .mixedOrders = true) {o : Bool} {Λ : Nat → LM} {f : FuncId} {fn : Func} (hf : P.funcs[f]? = some fn)
include hT hI hC hm hf

/-- A function of arguments that name some blocks, with a bare result: a contract by its execution. -/
theorem entry_view (is : List Nat) {args : List LV} {Hs : List Blk} {res : LV} (h : Fex o T I C Λ fn args Hs fun lv _ => leL lv res) (hin : inL 0 res = true) (hai : args.all (inL is.length) = true)
    {n0 : Nat} {w0 : Base} {β : List Nat} {H : List Blk} {w : World} {vals : Array Value} (hv : View H is Hs) (hG : GOk T w0) (hH : HR n0 w0 β H w) (hA : TmR β (args.map (rnL fun j => is.getD j 0)) vals.toList) :
    Calls P f vals w fun e w' => ∃ v, e = .returned v ∧ Below w.heap.size w w' ∧ LVR β res v :=
  h.plain hT hI hC hm hf hin (hG.pl hH.ext) (hH.view hv) (hA.view hai)

/-- The same, of a result that names blocks of the caller's. -/
theorem entry_viewB (is : List Nat) {args : List LV} {Hs : List Blk} {res : LV} {R : LV → List Blk → Prop} (h : Fex o T I C Λ fn args Hs R) (hR : ∀ lv H', R lv H' → leL lv res) (hin : inL is.length res = true) (hai : args.all (inL is.length) = true)
    {n0 : Nat} {w0 : Base} {β : List Nat} {H : List Blk} {w : World} {vals : Array Value} (hv : View H is Hs) (hlt : ∀ i ∈ is, i < H.length) (hG : GOk T w0) (hH : HR n0 w0 β H w) (hA : TmR β (args.map (rnL fun j => is.getD j 0)) vals.toList) :
    Calls P f vals w fun e w' => ∃ v, e = .returned v ∧ Below w.heap.size w w' ∧ LVR β (rnL (fun j => is.getD j 0) res) v := by
  refine (h.calls hT hI hC hm hf (hG.pl hH.ext) (hH.view hv) (hA.view hai)).mono ?_
  rintro e w' ⟨v, lv, γ, H', rfl, hr, hb, _, hlv⟩
  refine ⟨v, rfl, hb, ?_⟩
  have h1 := leL_sound (hR _ _ hr) hlv
  have h2 : LVR (is.map fun i => β.getD i 0) res v := by
    refine LVR.rn (f := fun i => i) (β := (is.map fun i => β.getD i 0) ++ γ) (M := is.length) (fun id hid b hb => ?_) (by rw [rnL_self]; exact h1) hin
    rw [List.getElem?_append_left (by simpa using hid)] at hb
    exact hb
  refine LVR.fw (fun id b hb => ?_) h2
  rw [List.getElem?_map] at hb
  obtain ⟨i, hi, hb⟩ := Option.map_eq_some_iff.1 hb
  have hl := hlt i (List.mem_of_getElem? hi)
  have hg : is.getD id 0 = i := by rw [List.getD_eq_getElem?_getD, hi]; rfl
  rw [hg, ← hb, List.getD_eq_getElem?_getD]
  rw [← hH.len] at hl
  rw [List.getElem?_eq_getElem hl]; rfl

theorem entry_bare {args : List LV} {res : LV} (h : Fex o T I C Λ fn args [] fun lv _ => leL lv res) (hin : inL 0 res = true) (hai : args.all (inL 0) = true)
    {n0 : Nat} {w0 : Base} {β : List Nat} {H : List Blk} {w : World} {vals : Array Value} (hG : GOk T w0) (hH : HR n0 w0 β H w) (hA : TmR β args vals.toList) :
    Calls P f vals w fun e w' => ∃ v, e = .returned v ∧ Below w.heap.size w w' ∧ LVR β res v := by
  refine h.plain hT hI hC hm hf hin (hG.pl hH.ext) (HR.nil w) ?_
  refine TmR.rn (f := fun i => i) (β := β) (M := 0) (fun id h => by omega) ?_ hai
  rw [map_self args fun c hc => rnL_in0 _ c (List.all_eq_true.1 hai c hc)]; exact hA

/-- The same with a first argument that points to a block. -/
theorem entry_ptr {args : List LV} {res : LV} {t : TypeId} {cs : List Cel} {off : Nat} (h : Fex o T I C Λ fn (.a (.c (.ptr 0 off)) :: args) [.cells false t cs] fun lv _ => leL lv res) (hin : inL 0 res = true) (hai : args.all (inL 0) = true) (hci : cs.all (inC 0) = true)
    {n0 : Nat} {w0 : Base} {β : List Nat} {w : World} {vals : Array Value} {H : List Blk} {id : Nat} {own : Bool} (hG : GOk T w0) (hH : HR n0 w0 β H w) (hg : getB H id = .cells own t cs) (hA : TmR β (.a (.c (.ptr id off)) :: args) vals.toList) :
    Calls P f vals w fun e w' => ∃ v, e = .returned v ∧ Below w.heap.size w w' ∧ LVR β res v := by
  refine entry_view hT hI hC hm hf [id] h hin ?_ ⟨.inr (by rw [hg]; simp only [viewB]; rw [if_pos hci]), trivial⟩ hG hH ?_
  · simp only [List.all_cons, Bool.and_eq_true, List.all_eq_true]
    exact ⟨by simp [inL, inA, inC], fun x hx => inL_le (Nat.zero_le _) x (List.all_eq_true.1 hai x hx)⟩
  · rw [List.map_cons, map_self args fun c hc => rnL_in0 _ c (List.all_eq_true.1 hai c hc)]
    exact hA

def deadsN : Nat → List Blk
  | 0 => []
  | n + 1 => .dead :: deadsN n

omit hT hI hC hm hf in
theorem deadsN_len : ∀ n, (deadsN n).length = n
  | 0 => rfl
  | n + 1 => by simp [deadsN, deadsN_len n]

omit hT hI hC hm hf in
theorem deadsN_get : ∀ {n i : Nat}, i < n → (deadsN n)[i]? = some .dead
  | 0, _, h => by omega
  | n + 1, 0, _ => rfl
  | n + 1, i + 1, h => by simpa [deadsN] using deadsN_get (n := n) (i := i) (by omega)

/-- New blocks: cells that name no block. -/
def plainB : Blk → Bool
  | .cells o _ cs => o && cs.all (inC 0)
  | .nst o _ _ _ _ _ => o
  | _ => false

omit hT hI hC hm hf in
/-- What a callee has laid is taken up by its caller. -/
theorem fresh_back (is : List Nat) {rs : LV} {frs : List Blk} {mv : List Nat} {lv : LV} {H' : List Blk} {γ : List Nat} {v : Value} {n0 : Nat} {w0 : Base} {β : List Nat} {H : List Blk} {w w' : World}
    (hle : leSt ⟨[lv], H'⟩ ⟨[rnL (is.length + ·) rs], deadsN is.length ++ frs⟩ is.length mv) (hfr : frs.all plainB = true) (hin : inL frs.length rs = true)
    (hH : HR n0 w0 β H w) (hb : Below w.heap.size w w') (hr : HR w.heap.size (Base.pl w) (is.map (fun i => β.getD i 0) ++ γ) H' w') (hlv : LVR (is.map (fun i => β.getD i 0) ++ γ) lv v) :
    ∃ δ, HR n0 w0 (β ++ δ) (H ++ frs) w' ∧ LVR (β ++ δ) (rnL (H.length + ·) rs) v ∧ ∀ {j b : Nat} {B : Blk}, frs[j]? = some B → δ[j]? = some b → ¬ B.nil → w.heap.size ≤ b := by
  unfold leSt at hle
  split at hle
  · rename_i hok
    rw [Bool.and_eq_true, decide_eq_true_eq] at hok
    have hmH : is.length ≤ H'.length := by have := hr.len; simp at this; omega
    have hinL : ∀ (n : Nat), inL (n + frs.length) (rnL (n + ·) rs) = true := by
      intro n
      have hc : ∀ (k : Nat) (c : Cel), inC k c = true → inC (n + k) (rnC (n + ·) c) = true := fun k c h => by
        cases c <;> simp only [inC, rnC, decide_eq_true_eq, List.all_eq_true, List.mem_map] at * <;> first | omega | (rintro y ⟨z, hz, rfl⟩; have := h z hz; omega)
      have ha : ∀ (k : Nat) (a : Av), inA k a = true → inA (n + k) (rnA (n + ·) a) = true := fun k a h => by
        cases a with
        | c c => exact hc k c h
        | agg l =>
          simp only [inA, rnA, List.all_eq_true, List.mem_map] at h ⊢
          rintro y ⟨z, hz, rfl⟩; exact hc k z (h z hz)
      have := hin
      cases hrs : rs with
      | a a => rw [hrs] at this; exact ha _ a this
      | tup l =>
        rw [hrs] at this
        simp only [inL, rnL, List.all_eq_true, List.mem_map] at this ⊢
        rintro y ⟨z, hz, rfl⟩; exact ha _ z (this z hz)
    have hpl : ∀ {j : Nat} {B : Blk}, frs[j]? = some B → (∃ t cs, B = .cells true t cs ∧ cs.all (inC 0) = true) ∨ ∃ t o ks s L, B = .nst true t o ks s L := by
      intro j B hB
      have := List.all_eq_true.1 hfr B (List.mem_of_getElem? hB)
      cases B <;> simp only [plainB, Bool.false_eq_true, Bool.and_eq_true] at this
      · obtain ⟨rfl, h2⟩ := this
        exact .inl ⟨_, _, rfl, h2⟩
      · subst this
        exact .inr ⟨_, _, _, _, _, rfl⟩
    have hinS : inSt ⟨[rnL (is.length + ·) rs], deadsN is.length ++ frs⟩ = true := by
      unfold inSt
      rw [Bool.and_eq_true]
      constructor
      · simp only [List.all_cons, List.all_nil, Bool.and_true, List.length_append, deadsN_len]
        exact hinL is.length
      · rw [List.all_eq_true]
        intro B hB
        rcases List.mem_append.1 hB with hB | hB
        · have : ∀ n, ∀ B ∈ deadsN n, B = .dead := by
            intro n
            induction n with
            | zero => intro B h; simp [deadsN] at h
            | succ n ih => intro B h; rcases List.mem_cons.1 h with rfl | h; rfl; exact ih B h
          rw [this _ B hB]; rfl
        · obtain ⟨j, hj⟩ := List.mem_iff_getElem?.1 hB
          rcases hpl hj with ⟨t, cs, rfl, h2⟩ | ⟨t, o, ks, s, L, rfl⟩
          · simp only [inB, List.all_eq_true] at h2 ⊢
            exact fun c hc => inC_le (Nat.zero_le _) c (h2 c hc)
          · rfl
    obtain ⟨g1, g2⟩ := weakenR (st := ⟨[lv], H'⟩) (st' := ⟨[rnL (is.length + ·) rs], deadsN is.length ++ frs⟩) (a := { tmps := #[v], defers := [] }) hmH hok.2 hle.1 hle.2 hok.1 hinS hr ⟨v, [], rfl, hlv, rfl⟩
    obtain ⟨v', rest, e1, g2, _⟩ := g2
    simp only [List.cons.injEq] at e1
    obtain ⟨rfl, _⟩ := e1
    simp only at g1
    have hlt : ((is.map (fun i => β.getD i 0) ++ γ).take is.length).length = is.length := by rw [List.length_take, List.length_append, List.length_map]; omega
    generalize (is.map (fun i => β.getD i 0) ++ γ).take is.length = βt at *
    generalize hδ : mv.map (fun k => (is.map (fun i => β.getD i 0) ++ γ).getD k 0) = δ at *
    have hδl : δ.length = frs.length := by
      have := g1.len
      rw [List.length_append, List.length_append, deadsN_len, hlt] at this; omega
    have hHw := hH.after hb
    -- the new blocks, in the callee's words
    have new : ∀ {j : Nat} {B : Blk}, frs[j]? = some B → (deadsN is.length ++ frs)[is.length + j]? = some B := fun {j B} h => by
      rw [List.getElem?_append_right (by rw [deadsN_len]; omega), deadsN_len, Nat.add_sub_cancel_left]; exact h
    have newβ : ∀ {j b : Nat}, δ[j]? = some b → (βt ++ δ)[is.length + j]? = some b := fun {j b} h => by
      rw [List.getElem?_append_right (by omega), hlt, Nat.add_sub_cancel_left]; exact h
    have cs2 : ∀ {i c : Nat} {B : Blk}, (H ++ frs)[i]? = some B → (β ++ δ)[i]? = some c → (H[i]? = some B ∧ β[i]? = some c) ∨ ∃ j, i = H.length + j ∧ frs[j]? = some B ∧ δ[j]? = some c := by
      intro i c B hB hc
      by_cases hi : i < H.length
      · rw [List.getElem?_append_left hi] at hB
        rw [List.getElem?_append_left (by rw [hH.len]; exact hi)] at hc
        exact .inl ⟨hB, hc⟩
      · rw [List.getElem?_append_right (by omega)] at hB
        rw [List.getElem?_append_right (by rw [hH.len]; omega), hH.len] at hc
        exact .inr ⟨i - H.length, by omega, hB, hc⟩
    have far : ∀ {j b : Nat} {B : Blk}, frs[j]? = some B → δ[j]? = some b → ¬ B.nil → w.heap.size ≤ b := by
      intro j b B h1 h2 hn
      rcases hpl h1 with ⟨t, cs, rfl, _⟩ | ⟨t, o, ks, s, L, rfl⟩
      · obtain ⟨arr, k1, k2⟩ := g1.blk _ _ b (new h1) (newβ h2)
        have hl := k1.len
        have hn : ¬ width cs = 0 := hn
        exact (k2 (by simp at hl; omega)).1 rfl
      · have hn : ¬ L.length = 0 := hn
        exact ((g1.blk _ _ b (new h1) (newβ h2)).1 (by omega) rfl).1
    have hblk := hb.block
    have farX : ∀ {j b x : Nat} {B : Blk}, frs[j]? = some B → δ[j]? = some b → B.inn w' b x → w.heap.size ≤ x := by
      intro j b x B h1 h2 hx
      rcases hpl h1 with ⟨t, cs, rfl, _⟩ | ⟨t, o, ks, s, L, rfl⟩
      · exact hx.elim
      · obtain ⟨j', e, ao, cap, he, hn, hc⟩ := hx
        obtain ⟨a, cap', h3, h4, h5, h6⟩ := (g1.blk _ _ b (new h1) (newβ h2)).2 j' e he
        rw [hc] at h3
        simp only [Option.some.injEq, Value.slice.injEq] at h3
        obtain ⟨rfl, _, rfl⟩ := h3
        rcases h6 with h6 | ⟨x', ao', h7, h8, _⟩
        · rw [h6.2] at hn; simp at hn
        · simp only [Option.some.injEq, Addr.mk.injEq] at h7
          obtain ⟨rfl, _, _⟩ := h7
          exact h8 rfl hn
    refine ⟨δ, ⟨hHw.base, by rw [List.length_append, List.length_append, hH.len, hδl], ?_, ?_, hHw.ms, hHw.st, hHw.ext, ?_⟩, ?_, far⟩
    rotate_left
    · intro i b B x hB hb hx j c C hC ho hn hc
      rcases cs2 hB hb with ⟨i1, i2⟩ | ⟨i', rfl, i2, i3⟩ <;> rcases cs2 hC hc with ⟨j1, j2⟩ | ⟨j', rfl, j2, j3⟩
      · exact hHw.ni i b B x i1 i2 hx j c C j1 ho hn j2
      · have h1 := far j2 j3 hn
        have h2 := hH.innLt i1 i2 (Blk.inn_keep (hblk b (hH.lt i1 i2 (Blk.inn_nil hx))) hx)
        omega
      · have h1 := farX i2 i3 hx
        have h2 := hH.lt j1 j2 hn
        omega
      · exact g1.ni _ b B x (new i2) (newβ i3) hx _ c C (new j2) ho hn (newβ j3)
    rotate_right
    · intro i j b B C' hB ho hn hb1 hb2 hne hC'
      rcases cs2 hB hb1 with ⟨i1, i2⟩ | ⟨i', rfl, i2, i3⟩ <;> rcases cs2 hC' hb2 with ⟨j1, j2⟩ | ⟨j', rfl, j2, j3⟩
      · exact hHw.nd i j b B C' i1 ho hn i2 j2 hne j1
      · by_cases hcn : C'.nil
        · exact hcn
        · have h1 := hH.lt i1 i2 hn
          have h2 := far j2 j3 hcn
          omega
      · by_cases hcn : C'.nil
        · exact hcn
        · have h1 := hH.lt j1 j2 hcn
          have h2 := far i2 i3 hn
          omega
      · exact g1.nd _ _ b B C' (new i2) ho hn (newβ i3) (newβ j3) (by omega) (new j2)
    · intro i B b hB hb1
      rcases cs2 hB hb1 with ⟨i1, i2⟩ | ⟨i', rfl, i2, i3⟩
      · exact (hHw.blk i B b i1 i2).mono
      · rcases hpl i2 with ⟨t, cs, rfl, hcs⟩ | ⟨t, o, ks, s, L, rfl⟩
        · obtain ⟨arr, k1, k2⟩ := g1.blk _ _ b (new i2) (newβ i3)
          exact ⟨arr, k1.bare hcs, fun hz => ⟨fun _ => Nat.le_trans hH.base ((k2 hz).1 rfl), (k2 hz).2⟩⟩
        · obtain ⟨k1, k2⟩ := g1.blk _ _ b (new i2) (newβ i3)
          exact ⟨fun h0 h1 => ⟨Nat.le_trans hH.base (k1 h0 h1).1, (k1 h0 h1).2⟩, fun j e he => NstAt.low hH.base (k2 j e he)⟩
    · have h1 : LVR δ rs v := LVR.rn (f := (is.length + ·)) (β := βt ++ δ) (M := frs.length) (fun id hid b hb => by
        rw [List.getElem?_append_right (by omega), hlt, Nat.add_sub_cancel_left] at hb; exact hb) g2 (hin)
      exact LVR.fw (f := (H.length + ·)) (fun id b hb => by
        rw [List.getElem?_append_right (by rw [hH.len]; omega), hH.len, Nat.add_sub_cancel_left]; exact hb) h1
  · exact hle.elim

/-- A function of which the result lies in new blocks: what is told of it by its execution is told to the caller. -/
theorem entry_fresh (is : List Nat) {args : List LV} {Hs : List Blk} {ι : Type} {post : ι → Prop} {rs : ι → LV} {frs : ι → List Blk} {mv : LV → List Nat}
    (h : Fex o T I C Λ fn args Hs fun lv H' => ∃ x, post x ∧ leSt ⟨[lv], H'⟩ ⟨[rnL (is.length + ·) (rs x)], deadsN is.length ++ frs x⟩ is.length (mv lv))
    (hai : args.all (inL is.length) = true) (hfr : ∀ x, (frs x).all plainB = true) (hin : ∀ x, inL (frs x).length (rs x) = true)
    {n0 : Nat} {w0 : Base} {β : List Nat} {H : List Blk} {w : World} {vals : Array Value} (hv : View H is Hs) (hG : GOk T w0) (hH : HR n0 w0 β H w) (hA : TmR β (args.map (rnL fun j => is.getD j 0)) vals.toList) :
    Calls P f vals w fun e w' => ∃ v γ x, e = .returned v ∧ post x ∧ HR n0 w0 (β ++ γ) (H ++ frs x) w' ∧ LVR (β ++ γ) (rnL (H.length + ·) (rs x)) v := by
  refine (h.calls hT hI hC hm hf (hG.pl hH.ext) (hH.view hv) (hA.view hai)).mono ?_
  rintro e w' ⟨v, lv, γ, H', rfl, ⟨x, hx, hle⟩, hb, hr, hlv⟩
  obtain ⟨δ, h1, h2, _⟩ := fresh_back is hle (hfr x) (hin x) hH hb hr hlv
  exact ⟨v, δ, x, rfl, hx, h1, h2⟩

/-- The same of a function that may end in a panic. -/
theorem entry_freshP (is : List Nat) {args : List LV} {Hs : List Blk} {ι : Type} {post : ι → Prop} {RP : LV → Prop} {rs : ι → LV} {frs : ι → List Blk} {mv : LV → List Nat}
    (h : FexP o T I C Λ fn args Hs (fun lv H' => ∃ x, post x ∧ leSt ⟨[lv], H'⟩ ⟨[rnL (is.length + ·) (rs x)], deadsN is.length ++ frs x⟩ is.length (mv lv)) RP)
    (hai : args.all (inL is.length) = true) (hfr : ∀ x, (frs x).all plainB = true) (hin : ∀ x, inL (frs x).length (rs x) = true)
    {n0 : Nat} {w0 : Base} {β : List Nat} {H : List Blk} {w : World} {vals : Array Value} (hv : View H is Hs) (hG : GOk T w0) (hH : HR n0 w0 β H w) (hA : TmR β (args.map (rnL fun j => is.getD j 0)) vals.toList) :
    Calls P f vals w fun e w' => (∃ v δ x, e = .returned v ∧ post x ∧ Below w.heap.size w w' ∧ HR n0 w0 (β ++ δ) (H ++ frs x) w' ∧ LVR (β ++ δ) (rnL (H.length + ·) (rs x)) v ∧ ∀ {j b : Nat} {B : Blk}, (frs x)[j]? = some B → δ[j]? = some b → ¬ B.nil → w.heap.size ≤ b) ∨
      ∃ v x β1, e = .panicked [{ v, recovered := false }] ∧ RP x ∧ Below w.heap.size w w' ∧ LVR β1 x v := by
  refine (h.calls hT hI hC hm hf (hG.pl hH.ext) (hH.view hv) (hA.view hai)).mono ?_
  rintro e w' (⟨v, lv, γ, H', rfl, ⟨x, hx, hle⟩, hb, hr, hlv⟩ | ⟨v, x, γ, rfl, hx, hb, hlv⟩)
  · obtain ⟨δ, h1, h2, h3⟩ := fresh_back is hle (hfr x) (hin x) hH hb hr hlv
    exact .inl ⟨v, δ, x, rfl, hx, hb, h1, h2, h3⟩
  · exact .inr ⟨v, x, _, rfl, hx, hb, hlv⟩
end

/-! ### Functions met in place, of which all ways are told as one -/
structure JAnn where
  ι : Type
  inv : ι → Prop
  res : ι → LV
  hp : ι → List Blk

def joinI (ann : FuncId → List LV → List Blk → Option JAnn) (I : CI) : CI := fun Y f args H K =>
  match ann f (args.map canL) H with
  | some a => I Y f args H (fun lv H' => ∃ x, a.inv x ∧ leSt ⟨[lv], H'⟩ ⟨[a.res x], a.hp x⟩ H.length []) ∧ ∀ x, a.inv x → (inSt ⟨[a.res x], a.hp x⟩ = true ∧ K (a.res x) (a.hp x))
  | none => I Y f args H K

theorem joinI_ok {P : Program} {T : Tab} {ann : FuncId → List LV → List Blk → Option JAnn} {I : CI} (hI : CIOk P T I) : CIOk P T (joinI ann I) := by
  intro Y f args H K h
  unfold joinI at h
  split at h
  · rename_i a ha
    obtain ⟨h1, h2⟩ := h
    obtain ⟨hf, hc⟩ := hI Y f args H _ h1
    refine ⟨hf, fun n0 w0 B β w vals hG hY hB hH hA => (hc n0 w0 B β w vals hG hY hB hH hA).mono ?_⟩
    rintro e w' ⟨v, γ, lv, H', rfl, ⟨x, hx, hle⟩, hr, hlv⟩
    obtain ⟨hin, hk⟩ := h2 x hx
    unfold leSt at hle
    split at hle
    · rename_i hok
      rw [Bool.and_eq_true, decide_eq_true_eq] at hok
      have hl := hr.len
      have hl0 := hH.len
      rw [List.length_append] at hl
      have hm : H.length ≤ H'.length := by omega
      obtain ⟨g1, g2⟩ := weakenR (st := ⟨[lv], H'⟩) (st' := ⟨[a.res x], a.hp x⟩) (a := { tmps := #[v], defers := [] }) hm hok.2 hle.1 hle.2 hok.1 hin hr ⟨v, [], rfl, hlv, rfl⟩
      have et : (β ++ γ).take H.length = β := by rw [← hl0, List.take_left]
      simp only [et, List.map_nil, List.append_nil] at g1 g2
      obtain ⟨v', rest, e1, g2, _⟩ := g2
      simp only [List.cons.injEq] at e1
      obtain ⟨rfl, _⟩ := e1
      exact ⟨v, [], a.res x, a.hp x, rfl, hk, by simpa using g1, by simpa using g2⟩
    · exact hle.elim
  · exact hI Y f args H K h

theorem inlStep_ok {P : Program} {T : Tab} (hT : TabOk P T) {C : Ctr} (hC : CtrOk P T C) (hm : P.follows .mixedOrders = true) {o : Bool} {inl : FuncId → Option (Func × (Nat → LM))} (hi : InlOk P inl) {I : CI} (hI : CIOk P T I) : CIOk P T (inlStep o T C inl I) := by
  intro Y f args H K h
  unfold inlStep at h
  split at h
  · rename_i fn Λ hfn
    obtain ⟨hf, hnm⟩ := hi f fn Λ hfn
    split at h
    · rename_i c hb
      rw [force_eq] at h
      refine ⟨⟨fn, hf, hnm, by simp [hb]⟩, fun n0 w0 B β w vals hG hY hB hH hA => ?_⟩
      rw [← callsIn_wide (n := 0)]
      refine callsIn_of_wp_marks hf hb trivial ?_
      refine ex_sound hT hI hC hm c Y none _ w0 B _ _ β _ w _ hG hY hB (fun _ e => by cases e) h hH ?_ trivial ?_
      · simp only [Array.toList_append, Array.toList_replicate]
        have hlen : args.length = vals.size := by rw [hA.length]; simp
        rw [← hlen]
        exact hA.append (undefs_sound β _)
      · intro e st' γ a' w' k1 k2 k3 k4
        have fin : (match resLV T st' fn.results.toList with | some lv => K lv st'.heap | none => Stuck "result") → LeavesInM Fence.wide 0 P fn a'.tmps (fun e w' => ∃ v γ lv H', e = .returned v ∧ K lv H' ∧ HR n0 w0 (β ++ γ) H' w' ∧ LVR (β ++ γ) lv v) a'.defers .returning w' := by
          intro k1
          split at k1
          · rename_i lv hlv
            refine leaves_sx _ w' k2 k4 ?_
            intro w'' hH''
            obtain ⟨v, h1, h2⟩ := resLV_sound hT hG hH'' k3 hlv
            exact ⟨v, h1, v, γ, lv, st'.heap, rfl, k1, hH'', h2⟩
          · exact k1.elim
        cases e with
        | normal => exact fin k1
        | ret => exact fin k1
        | exit id => exact k1.elim
        | panic x => exact k1.elim
    · exact h.elim
  · exact ciOf_ok hC Y f args H K h

/-- Calls met in place, by a contract, or in place with all ways told as one. -/
def inlJ (ann : FuncId → List LV → List Blk → Option JAnn) (o : Bool) (T : Tab) (C : Ctr) (inl : FuncId → Option (Func × (Nat → LM))) : Nat → CI
  | 0 => ciOf C
  | n + 1 => joinI ann (inlStep o T C inl (inlJ ann o T C inl n))
theorem inlJ_ok {P : Program} {T : Tab} (hT : TabOk P T) {C : Ctr} (hC : CtrOk P T C) (hm : P.follows .mixedOrders = true) {o : Bool} {inl : FuncId → Option (Func × (Nat → LM))} (hi : InlOk P inl) (ann : FuncId → List LV → List Blk → Option JAnn) : ∀ n, CIOk P T (inlJ ann o T C inl n)
  | 0 => ciOf_ok hC
  | n + 1 => joinI_ok (inlStep_ok hT hC hm hi (inlJ_ok hT hC hm hi ann n))

theorem by_eq {p q : Prop} (h : p = q) (hq : q) : p := h ▸ hq



/-- The kind of the i-th cell of a type made of integers, arrays and structs. -/
def kindAt (P : Program) : Nat → TypeId → Nat → Option IntKind
  | 0, _, _ => none
  | n + 1, t, i => match P.underlying t with
    | some (.int k) => if i = 0 then some k else none
    | some (.array m e) => if i / P.cellsOf e < m then (if i % P.cellsOf e < P.cellsOf e then kindAt P n e (i % P.cellsOf e) else none) else none
    | some (.struct fs) => match fs.toList.find? (fun f => decide (f.offset ≤ i) && decide (i < f.offset + P.cellsOf f.type)) with
      | some f => kindAt P n f.type (i - f.offset)
      | none => none
    | _ => none

section
variable {H : Type} {enc : TypeId × Value → H} {P : Program} {w : World} {base : Nat} {spare : Nat → Bool} {held : Bool}

theorem kindAt_sound : ∀ (n : Nat) (t : TypeId) (i : Nat) (k : IntKind) (fuel : Nat) (cs : List Value) (x : DataW H × List MemPlace),
    kindAt P n t i = some k → DataW.trod enc P w base spare held fuel t cs = some x → ∃ m, cs[i]? = some (.int k m) ∧ (Lit.int k m).wf = true := by
  intro n
  induction n with
  | zero => intro t i k fuel cs x h; simp [kindAt] at h
  | succ n ih =>
    intro t i k fuel cs x h hx
    unfold kindAt at h
    split at h
    · rename_i k' hu
      split at h
      · simp only [Option.some.injEq] at h; subst h
        rename_i h0; subst h0
        obtain ⟨m, rfl, _, hw⟩ := DataW.trod_int hu hx
        exact ⟨m, rfl, hw⟩
      · simp at h
    · rename_i m e hu
      split at h
      · rename_i h1
        split at h
        · rename_i h2
          obtain ⟨xs, f, _, _, hl, hlen, hf⟩ := DataW.trod_array hu hx
          have h3 := hf _ h1
          have h4 : xs[i / P.cellsOf e]? = some xs[i / P.cellsOf e] := List.getElem?_eq_getElem (by omega)
          rw [h4] at h3
          obtain ⟨z, hz, hw⟩ := ih _ _ _ _ _ _ h h3
          refine ⟨z, ?_, hw⟩
          rw [List.getElem?_take_of_lt h2, List.getElem?_drop, Nat.mul_comm, Nat.div_add_mod] at hz
          exact hz
        · simp at h
      · simp at h
    · rename_i fs hu
      split at h
      · rename_i f hfd
        have hp := List.find?_some hfd
        simp only [Bool.and_eq_true, decide_eq_true_eq] at hp
        obtain ⟨j, hj, hjf⟩ := List.getElem_of_mem (List.mem_of_find?_eq_some hfd)
        obtain ⟨xs, m, _, _, hl, hlen, hf⟩ := DataW.trod_struct hu hx
        have hjf' : fs[j]? = some f := by
          rw [← hjf]; simp at hj ⊢
        have h3 := hf j f hjf'
        have h4 : xs[j]? = some (xs[j]'(by simp at hj; omega)) := List.getElem?_eq_getElem _
        rw [h4] at h3
        obtain ⟨z, hz, hw⟩ := ih _ _ _ _ _ _ h h3
        refine ⟨z, ?_, hw⟩
        rw [List.getElem?_take_of_lt (by omega), List.getElem?_drop, Nat.add_sub_cancel' hp.1] at hz
        exact hz
      · simp at h
    · simp at h

end

/-- How the numbers of a value are put into cells. -/
inductive ShI where
  | one (k : IntKind)
  | many (ks : List IntKind) (n : Nat)

def shKinds : List ShI → List IntKind
  | [] => []
  | .one k :: r => k :: shKinds r
  | .many ks n :: r => (List.range n).map (fun j => ks.getD (j % ks.length) .i64) ++ shKinds r

def shCels : List ShI → List Int → List Cel
  | [], _ => []
  | .one k :: r, ns => .int k (ns.headD 0) :: shCels r ns.tail
  | .many ks n :: r, ns => .run (ks.map EK.of) n (ns.take n) :: shCels r (ns.drop n)

theorem getD_of (ks : List IntKind) (i : Nat) : (ks.map EK.of).getD i .i64 = EK.of (ks.getD i .i64) := by
  rw [List.getD_eq_getElem?_getD, List.getD_eq_getElem?_getD, List.getElem?_map]
  cases ks[i]? <;> rfl

theorem shCels_ok (β : List Nat) : ∀ (sh : List ShI) (ns : List Int), ns.length = (shKinds sh).length → CelsR β (shCels sh ns) (List.zipWith Value.int (shKinds sh) ns)
  | [], ns, _ => by simp [shCels, shKinds, CelsR]
  | .one k :: r, [], h => by simp [shKinds] at h
  | .one k :: r, a :: ns, h => ⟨[.int k a], _, rfl, ⟨_, rfl, rfl⟩, shCels_ok β r ns (by simpa [shKinds] using h)⟩
  | .many ks n :: r, ns, h => by
    simp only [shKinds, List.length_append, List.length_map, List.length_range] at h
    have h1 : (ns.take n).length = n := by simp; omega
    refine ⟨runV (ks.map EK.of) (ns.take n), List.zipWith Value.int (shKinds r) (ns.drop n), ?_, ⟨h1, rfl⟩, shCels_ok β r (ns.drop n) (by simp; omega)⟩
    conv => lhs; rw [← List.take_append_drop n ns]
    simp only [shKinds]
    rw [List.zipWith_append (by simp; omega)]
    congr 1
    apply List.ext_getElem?
    intro j
    by_cases hj : j < n
    · rw [runV_get _ _ _ (by omega), getD_of, EK.of_val, List.length_map]
      simp [List.getElem?_zipWith, hj, List.getD]
      have : ns[j]? = some (ns[j]'(by omega)) := List.getElem?_eq_getElem (by omega)
      simp [this]
    · rw [List.getElem?_eq_none (by simp only [List.length_zipWith, List.length_map, List.length_range]; omega), List.getElem?_eq_none (by simp [runV]; omega)]

def getI : Value → Int
  | .int _ m => m
  | _ => 0

/-- Numbers by value, opened: each fits its kind. -/
theorem open_agg {H : Type} {enc : TypeId × Value → H} {P : Program} {w : World} {base : Nat} {spare : Nat → Bool} {held : Bool} {t : TypeId} {v : Value} {d : DataW H} {ps : List MemPlace}
    (hv : ∃ cs, v = .agg cs ∧ cs.size = P.cellsOf t) (hd : DataW.Trod enc P w base spare held t v d ps) (sh : List ShI)
    (hk : ((P.cellsOf t == (shKinds sh).length) && ((List.range (P.cellsOf t)).map (kindAt P 8 t) == (shKinds sh).map some)) = true) :
    ∃ ns : List Int, ns.length = (shKinds sh).length ∧ (∀ (i : Nat) (k : IntKind) (n : Int), (shKinds sh)[i]? = some k → ns[i]? = some n → (Lit.int k n).wf = true) ∧ ∀ β, LVR β (.a (.agg (shCels sh ns))) v := by
  obtain ⟨cs, rfl, hsz⟩ := hv
  obtain ⟨fuel, hf⟩ := hd
  simp only [Bool.and_eq_true, beq_iff_eq] at hk
  obtain ⟨hk1, hk2⟩ := hk
  have key : ∀ i, i < (shKinds sh).length → ∃ k m, (shKinds sh)[i]? = some k ∧ cs.toList[i]? = some (.int k m) ∧ (Lit.int k m).wf = true := by
    intro i hi
    have h1 : (shKinds sh)[i]? = some (shKinds sh)[i] := List.getElem?_eq_getElem hi
    have h2 : ((shKinds sh).map some)[i]? = some (some (shKinds sh)[i]) := by simp [hi]
    rw [← hk2, List.getElem?_map, List.getElem?_range (by omega)] at h2
    simp only [Option.map_some, Option.some.injEq] at h2
    obtain ⟨m, hm, hw⟩ := kindAt_sound _ _ _ _ _ _ _ h2 hf
    exact ⟨_, m, h1, by simpa [Value.cells] using hm, hw⟩
  have hlen : cs.toList.length = (shKinds sh).length := by simp; omega
  have hcs : cs.toList = List.zipWith Value.int (shKinds sh) (cs.toList.map getI) := by
    apply List.ext_getElem?
    intro i
    by_cases hi : i < (shKinds sh).length
    · obtain ⟨k, m, h1, h2, _⟩ := key i hi
      rw [h2, List.getElem?_zipWith, h1, List.getElem?_map, h2]
      rfl
    · rw [List.getElem?_eq_none (by omega), List.getElem?_eq_none (by simp at hlen ⊢; omega)]
  refine ⟨cs.toList.map getI, by simpa using hlen, ?_, fun β => ⟨cs, rfl, ?_⟩⟩
  · intro i k n h1 h2
    have hi : i < (shKinds sh).length := (List.getElem?_eq_some_iff.1 h1).1
    obtain ⟨k', m, h1', h3, hw⟩ := key i hi
    rw [h1] at h1'; simp only [Option.some.injEq] at h1'; subst h1'
    rw [List.getElem?_map, h3] at h2
    simp only [Option.map_some, Option.some.injEq, getI] at h2
    subst h2; exact hw
  · have := shCels_ok β sh (cs.toList.map getI) (by simpa using hlen)
    rw [← hcs] at this
    exact this

/-- A struct by value, opened. -/
theorem open_flat {H : Type} {enc : TypeId × Value → H} {P : Program} {w : World} {base : Nat} {spare : Nat → Bool} {held : Bool} {r : Reach} {b0 : Nat} {t : TypeId} {fs : Array Field} {v : Value} {d : DataW H} {ps : List MemPlace}
    (ht : P.underlying t = some (.struct fs)) (hval : Value.okWide P w r b0 t v) (hd : DataW.Trod enc P w base spare held t v d ps) (sh : List ShI)
    (hk : ((P.cellsOf t == (shKinds sh).length) && ((List.range (P.cellsOf t)).map (kindAt P 8 t) == (shKinds sh).map some)) = true) :
    ∃ ns : List Int, ns.length = (shKinds sh).length ∧ (∀ (i : Nat) (k : IntKind) (n : Int), (shKinds sh)[i]? = some k → ns[i]? = some n → (Lit.int k n).wf = true) ∧ ∀ β, LVR β (.a (.agg (shCels sh ns))) v :=
  open_agg (WideShapes.okWide_struct ht hval) hd sh hk

/-- An array by value, opened. -/
theorem open_arr {H : Type} {enc : TypeId × Value → H} {P : Program} {w : World} {base : Nat} {spare : Nat → Bool} {held : Bool} {r : Reach} {b0 : Nat} {t : TypeId} {n : Nat} {e : TypeId} {v : Value} {d : DataW H} {ps : List MemPlace}
    (ht : P.underlying t = some (.array n e)) (hval : Value.okWide P w r b0 t v) (hd : DataW.Trod enc P w base spare held t v d ps) (sh : List ShI)
    (hk : ((P.cellsOf t == (shKinds sh).length) && ((List.range (P.cellsOf t)).map (kindAt P 8 t) == (shKinds sh).map some)) = true) :
    ∃ ns : List Int, ns.length = (shKinds sh).length ∧ (∀ (i : Nat) (k : IntKind) (n : Int), (shKinds sh)[i]? = some k → ns[i]? = some n → (Lit.int k n).wf = true) ∧ ∀ β, LVR β (.a (.agg (shCels sh ns))) v := by
  refine open_agg ?_ hd sh hk
  simp only [Value.okWide, ht] at hval
  obtain ⟨cs, h1, h2, _⟩ := hval
  exact ⟨cs, h1, h2⟩

/-- A slice of numbers that is one cell of memory. -/
theorem sl_trod {H : Type} {enc : TypeId × Value → H} {P : Program} {w : World} {base : Nat} {held : Bool} {fuel : Nat} {t e : TypeId} {cs : List Value} {dp : DataW H × List MemPlace} (ht : P.underlying t = some (.slice e))
    (hf : DataW.trod enc P w base (fun _ => true) held fuel t cs = some dp) (ks : List IntKind) (s : Nat)
    (hk : (decide (0 < s) && decide (0 < ks.length) && decide (s % ks.length = 0) && (P.cellsOf e == s) && ((List.range s).map (kindAt P 8 e) == (List.range s).map fun j => some (ks.getD (j % ks.length) .i64))) = true) :
    ∃ (a0 : Option Addr) (len0 cap0 b off : Nat) (l : List Int), cs = [.slice a0 len0 cap0] ∧ len0 ≤ cap0 ∧ cap0 ≤ maxLen ∧ l.length = cap0 * s ∧ (∀ j, j < cap0 * s → (Lit.int (ks.getD (j % ks.length) .i64) (l.getD j 0)).wf = true) ∧
      LVR [b] (.a (.c (.slc 0 off 0 s len0 cap0))) (.slice a0 len0 cap0) ∧ BlkR w.heap.size (Base.pl w) [b] w 0 b (.wnd off (ks.map EK.of) (cap0 * s) l) := by
  simp only [Bool.and_eq_true, beq_iff_eq, decide_eq_true_eq] at hk
  obtain ⟨⟨⟨⟨hs, hks⟩, hsk⟩, hk1⟩, hk2⟩ := hk
  rcases DataW.trod_slice ht hf with ⟨h0, _⟩ | ⟨a, len0, cap0, elems, rest, n, _, hc, _, hb, hl, hm, hlen, hel, hsp, _⟩
  · subst h0
    exact ⟨none, 0, 0, 0, 0, [], rfl, Nat.le_refl _, Nat.zero_le _, by simp, fun j hj => by simp at hj, ⟨by omega, by omega, by omega, .inr ⟨rfl, _, rfl⟩⟩, ⟨by simp, fun j hj => by simp at hj⟩⟩
  · subst hc
    rcases Nat.eq_zero_or_pos cap0 with h0 | h0
    · subst h0
      have : len0 = 0 := by omega
      subst this
      exact ⟨_, _, _, 0, 0, [], rfl, Nat.le_refl _, Nat.zero_le _, by simp, fun j hj => by simp at hj, ⟨by omega, by omega, by omega, .inr ⟨rfl, _, rfl⟩⟩, ⟨by simp, fun j hj => by simp at hj⟩⟩
    · obtain ⟨hrl, hrs⟩ := hsp rfl
      have each : ∀ i, i < cap0 → ∃ y, (w.cells? base (a.add (i * s)) s).bind (DataW.trod enc P w base (fun _ => true) held n e) = some y := by
        intro i hi
        rw [hk1] at hel hrs
        by_cases h1 : i < len0
        · have := hel i h1
          rw [List.getElem?_eq_getElem (by omega)] at this
          exact ⟨_, this⟩
        · have := hrs (i - len0) (by omega)
          rw [show len0 + (i - len0) = i by omega, List.getElem?_eq_getElem (by omega)] at this
          exact ⟨_, this⟩
      have cell : ∀ j, j < cap0 * s → ∃ m, w.cell? (a.add j) = some (.int (ks.getD (j % ks.length) .i64) m) ∧ (Lit.int (ks.getD (j % ks.length) .i64) m).wf = true := by
        intro j hj
        have h1 : j / s < cap0 := (Nat.div_lt_iff_lt_mul hs).2 hj
        have h2 : j % s < s := Nat.mod_lt _ hs
        obtain ⟨y, hy⟩ := each _ h1
        simp only [Option.bind_eq_some_iff] at hy
        obtain ⟨cs, hc1, hc2⟩ := hy
        have hkk : kindAt P 8 e (j % s) = some (ks.getD (j % s % ks.length) .i64) := by
          have := congrArg (fun l => l[j % s]?) hk2
          simp only [List.getElem?_map, List.getElem?_range h2, Option.map_some, Option.some.injEq] at this
          exact this
        obtain ⟨m, hm1, hm2⟩ := kindAt_sound _ _ _ _ _ _ _ hkk hc2
        have e1 : j % s % ks.length = j % ks.length := by
          conv => rhs; rw [← Nat.div_add_mod j s]
          rw [Nat.add_mod, Nat.mul_mod, hsk, Nat.zero_mul, Nat.zero_mod, Nat.zero_add, Nat.mod_mod]
        rw [e1] at hm1 hm2
        obtain ⟨g1, g2, g3⟩ := World.cells?_some hc1
        have := g3 (j % s) h2
        refine ⟨m, ?_, hm2⟩
        have hadd : (a.add (j / s * s)).add (j % s) = a.add j := by
          have : j / s * s + j % s = j := by rw [Nat.mul_comm]; exact Nat.div_add_mod j s
          rw [Addr.add_add, this]
        rw [hadd] at this
        rw [this]; exact hm1
      have hspot : a.spot = none := by
        obtain ⟨m, h1, _⟩ := cell 0 (Nat.mul_pos h0 hs)
        cases ha : a.spot with
        | none => rfl
        | some x =>
          exfalso
          have e0 : a.add 0 = a := by simp [Addr.add]
          rw [e0] at h1
          unfold World.cell? at h1
          split at h1
          · simp [ha] at h1
          · simp at h1
      obtain ⟨ab, ao, asp⟩ := a
      simp only at hspot
      subst hspot
      refine ⟨_, _, _, ab, ao, (List.range (cap0 * s)).map fun j => getI ((w.cell? ((⟨ab, ao, none⟩ : Addr).add j)).getD (.int .i64 0)), rfl, hl, hm, by simp, ?_, ⟨by omega, by omega, by omega, .inl ⟨ab, rfl, by simp⟩⟩, ⟨by simp, ?_⟩⟩
      · intro j hj
        obtain ⟨m, h1, h2⟩ := cell j hj
        have : ((List.range (cap0 * s)).map fun j => getI ((w.cell? ((⟨ab, ao, none⟩ : Addr).add j)).getD (.int .i64 0))).getD j 0 = m := by
          rw [List.getD_eq_getElem?_getD, List.getElem?_map, List.getElem?_range hj]
          simp [h1, getI]
        rw [this]; exact h2
      · intro j hj
        obtain ⟨m, h1, h2⟩ := cell j hj
        have : ((List.range (cap0 * s)).map fun j => getI ((w.cell? ((⟨ab, ao, none⟩ : Addr).add j)).getD (.int .i64 0))).getD j 0 = m := by
          rw [List.getD_eq_getElem?_getD, List.getElem?_map, List.getElem?_range hj]
          simp [h1, getI]
        rw [this, List.length_map, getD_of, EK.of_val, ← addr_add, h1]

/-- A slice of numbers, opened: a window on its cells. -/
theorem open_sl {H : Type} {enc : TypeId × Value → H} {P : Program} {w : World} {base base' : Nat} {held : Bool} {t e : TypeId} {v : Value} {d : DataW H} {ps : List MemPlace} (ht : P.underlying t = some (.slice e))
    (hval : Value.okWide P w .any base' t v) (hd : DataW.Trod enc P w base (fun _ => true) held t v d ps) (ks : List IntKind) (s : Nat)
    (hk : (decide (0 < s) && decide (0 < ks.length) && decide (s % ks.length = 0) && (P.cellsOf e == s) && ((List.range s).map (kindAt P 8 e) == (List.range s).map fun j => some (ks.getD (j % ks.length) .i64))) = true) :
    ∃ (b off len cap : Nat) (l : List Int), len ≤ cap ∧ cap ≤ maxLen ∧ l.length = cap * s ∧ (∀ j, j < cap * s → (Lit.int (ks.getD (j % ks.length) .i64) (l.getD j 0)).wf = true) ∧
      LVR [b] (.a (.c (.slc 0 off 0 s len cap))) v ∧ BlkR w.heap.size (Base.pl w) [b] w 0 b (.wnd off (ks.map EK.of) (cap * s) l) := by
  obtain ⟨fuel, hf⟩ := hd
  have hv : ∃ a len cap, v = .slice a len cap := WideShapes.okWide_slice ht hval
  obtain ⟨a1, len1, cap1, rfl⟩ := hv
  have hcs : (Value.slice a1 len1 cap1).cells.toList = [.slice a1 len1 cap1] := rfl
  rw [hcs] at hf
  obtain ⟨a0, len0, cap0, b, off, l, e1, h1, h2, h3, h4, h5, h6⟩ := sl_trod ht hf ks s hk
  simp only [List.cons.injEq, and_true] at e1
  rw [e1]
  exact ⟨b, off, len0, cap0, l, h1, h2, h3, h4, h5, h6⟩

/-- A slice of slices of numbers, opened: a nest. -/
theorem open_nst {H : Type} {enc : TypeId × Value → H} {P : Program} {w : World} {base base' : Nat} {held : Bool} {t e1 e : TypeId} {v : Value} {d : DataW H} {ps : List MemPlace} (ht : P.underlying t = some (.slice e1)) (ht1 : P.underlying e1 = some (.slice e))
    (hval : Value.okWide P w .any base' t v) (hd : DataW.Trod enc P w base (fun _ => true) held t v d ps) (ks : List IntKind) (s : Nat)
    (hk : (decide (0 < s) && decide (0 < ks.length) && decide (s % ks.length = 0) && (P.cellsOf e == s) && ((List.range s).map (kindAt P 8 e) == (List.range s).map fun j => some (ks.getD (j % ks.length) .i64))) = true) (hk1 : (P.cellsOf e1 == 1) = true) :
    ∃ (b off len cap : Nat) (L : List (Nat × List Int)), len ≤ cap ∧ cap ≤ maxLen ∧ L.length = len ∧ (∀ (j : Nat) (x : Nat × List Int), L[j]? = some x → x.1 * s ≤ x.2.length ∧ x.1 ≤ maxLen ∧ ∀ k, k < x.2.length → (Lit.int (ks.getD (k % ks.length) .i64) (x.2.getD k 0)).wf = true) ∧
      LVR [b] (.a (.c (.slc 0 off 0 1 len cap))) v ∧ BlkR w.heap.size (Base.pl w) [b] w 0 b (.nst false (0, none) off (ks.map EK.of) s L) := by
  obtain ⟨fuel, hf⟩ := hd
  have hv : ∃ a len cap, v = .slice a len cap := WideShapes.okWide_slice ht hval
  obtain ⟨a0, len0, cap0, rfl⟩ := hv
  have hcs : (Value.slice a0 len0 cap0).cells.toList = [.slice a0 len0 cap0] := rfl
  rw [hcs] at hf
  simp only [beq_iff_eq] at hk1
  rcases DataW.trod_slice ht hf with ⟨h0, _⟩ | ⟨a, len, cap, elems, rest, n, _, hc, _, hb, hl, hm, hlen, hel, hsp, _⟩
  · simp only [List.cons.injEq, Value.slice.injEq, and_true] at h0
    obtain ⟨rfl, rfl, rfl⟩ := h0
    exact ⟨0, 0, 0, 0, [], Nat.le_refl _, Nat.zero_le _, rfl, fun j x hj => by simp at hj, ⟨by omega, by omega, by omega, .inr ⟨rfl, _, rfl⟩⟩, ⟨fun h => by simp at h, fun j x hj => by simp at hj⟩⟩
  · simp only [List.cons.injEq, Value.slice.injEq, and_true] at hc
    obtain ⟨rfl, rfl, rfl⟩ := hc
    obtain ⟨hrl, hrs⟩ := hsp rfl
    have each : ∀ i, i < cap0 → ∃ (a1 : Option Addr) (len1 cap1 b off : Nat) (l : List Int), w.cell? (a.add i) = some (.slice a1 len1 cap1) ∧ len1 ≤ cap1 ∧ cap1 ≤ maxLen ∧ l.length = cap1 * s ∧ (∀ j, j < cap1 * s → (Lit.int (ks.getD (j % ks.length) .i64) (l.getD j 0)).wf = true) ∧
        LVR [b] (.a (.c (.slc 0 off 0 s len1 cap1))) (.slice a1 len1 cap1) ∧ BlkR w.heap.size (Base.pl w) [b] w 0 b (.wnd off (ks.map EK.of) (cap1 * s) l) := by
      intro i hi
      have h1 : ∃ y, (w.cells? base (a.add i) 1).bind (DataW.trod enc P w base (fun _ => true) held n e1) = some y := by
        rw [hk1] at hel hrs
        by_cases h1 : i < len0
        · have := hel i h1
          rw [List.getElem?_eq_getElem (by omega), Nat.mul_one] at this
          exact ⟨_, this⟩
        · have := hrs (i - len0) (by omega)
          rw [show len0 + (i - len0) = i by omega, List.getElem?_eq_getElem (by omega), Nat.mul_one] at this
          exact ⟨_, this⟩
      obtain ⟨y, h1⟩ := h1
      simp only [Option.bind_eq_some_iff] at h1
      obtain ⟨cs, hc1, hc2⟩ := h1
      obtain ⟨a1, len1, cap1, b1, off1, l1, e1, q1, q2, q3, q4, q5, q6⟩ := sl_trod ht1 hc2 ks s hk
      obtain ⟨g1, g2, g3⟩ := World.cells?_some hc1
      have := g3 0 (by omega)
      rw [e1] at this
      refine ⟨a1, len1, cap1, b1, off1, l1, ?_, q1, q2, q3, q4, q5, q6⟩
      have ha0 : (a.add i).add 0 = a.add i := by simp [Addr.add]
      rw [ha0] at this
      simpa using this
    rcases Nat.eq_zero_or_pos cap0 with h0 | h0
    · subst h0
      have : len0 = 0 := by omega
      subst this
      exact ⟨0, 0, 0, 0, [], Nat.le_refl _, Nat.zero_le _, rfl, fun j x hj => by simp at hj, ⟨by omega, by omega, by omega, .inr ⟨rfl, _, rfl⟩⟩, ⟨fun h => by simp at h, fun j x hj => by simp at hj⟩⟩
    · have hspot : a.spot = none := by
        obtain ⟨a1, len1, cap1, b1, off1, l1, h1, _⟩ := each 0 h0
        cases ha : a.spot with
        | none => rfl
        | some x =>
          exfalso
          have e0 : a.add 0 = a := by simp [Addr.add]
          rw [e0] at h1
          unfold World.cell? at h1
          split at h1
          · simp [ha] at h1
          · simp at h1
      obtain ⟨ab, ao, asp⟩ := a
      simp only at hspot
      subst hspot
      have hch : ∀ i : Fin len0, ∃ x : Nat × List Int, NstAt w false w.heap.size ab none ao (ks.map EK.of) s i x.1 x.2 ∧ x.1 * s ≤ x.2.length ∧ x.1 ≤ maxLen ∧ ∀ k, k < x.2.length → (Lit.int (ks.getD (k % ks.length) .i64) (x.2.getD k 0)).wf = true := by
        intro i
        obtain ⟨a1, len1, cap1, b1, off1, l1, h1, q1, q2, q3, q4, q5, q6⟩ := each i (Nat.lt_of_lt_of_le i.isLt hl)
        rw [addr_add] at h1
        have hle : len1 * s ≤ l1.length := by rw [q3]; exact Nat.mul_le_mul_right _ q1
        refine ⟨(len1, l1), ⟨a1, cap1, h1, q1, hle, ?_⟩, hle, Nat.le_trans q1 q2, fun k hk => q4 k (by rw [← q3]; exact hk)⟩
        obtain ⟨_, _, _, ⟨b2, e2, e3⟩ | ⟨e2, ao2, e3⟩⟩ := q5
        · simp only [Value.slice.injEq] at e3
          obtain ⟨rfl, _, _⟩ := e3
          have e2 : b1 = b2 := by simpa using e2
          subst e2
          refine .inr ⟨b1, off1, by simp, fun e => by simp at e, fun k hk => q6.2 k (by rw [← q3]; exact hk), fun u hu => by simp at hu⟩
        · have e4 : cap1 = 0 := by omega
          subst e4
          exact .inl ⟨rfl, List.length_eq_zero_iff.1 (by rw [q3]; simp)⟩
      obtain ⟨F, hF⟩ := Classical.skolem.1 hch
      have hLg : ∀ (j : Nat) (x : Nat × List Int), (List.ofFn F)[j]? = some x → ∃ h : j < len0, x = F ⟨j, h⟩ := by
        intro j x hj
        have hlt : j < len0 := by have := (List.getElem?_eq_some_iff.1 hj).1; simpa using this
        refine ⟨hlt, ?_⟩
        rw [List.getElem?_ofFn, dif_pos hlt] at hj
        simpa using hj.symm
      refine ⟨ab, ao, len0, cap0, List.ofFn F, hl, hm, by simp, fun j x hj => ?_, ⟨by omega, by omega, by omega, .inl ⟨ab, rfl, by simp⟩⟩, ⟨fun _ e => by simp at e, fun j x hj => ?_⟩⟩
      · obtain ⟨hlt, rfl⟩ := hLg j x hj
        exact (hF ⟨j, hlt⟩).2
      · obtain ⟨hlt, rfl⟩ := hLg j x hj
        exact (hF ⟨j, hlt⟩).1

/-- The world as it is when the call begins, with what may be read. -/
theorem HR.reads {w : World} {bs : List Nat} {Bs : List Blk} (hl : bs.length = Bs.length) (h : ∀ (i b : Nat) (B : Blk), Bs[i]? = some B → bs[i]? = some b → B.own = false ∧ BlkR w.heap.size (Base.pl w) bs w i b B) : HR w.heap.size (Base.pl w) bs Bs w := by
  have own : ∀ {i b : Nat} {B : Blk}, Bs[i]? = some B → bs[i]? = some b → B.own = true → False := fun hB hb ho => by rw [(h _ _ _ hB hb).1] at ho; cases ho
  exact ⟨Nat.le_refl _, hl, fun i j c B C hB ho _ hb => (own hB hb ho).elim, fun i c B x _ _ _ j d C hC ho _ hd => (own hC hd ho).elim, Nat.zero_le _, fun _ _ hg hx => Below.trans hx hg.below, Below.refl _ _, fun i B c hB hc => (h i c B hB hc).2⟩

/-- The world as it is when the call begins, with one window. -/
theorem HR.wnd1 {w : World} {b off n : Nat} {ks : List EK} {l : List Int} (h : BlkR w.heap.size (Base.pl w) [b] w 0 b (.wnd off ks n l)) : HR w.heap.size (Base.pl w) [b] [.wnd off ks n l] w :=
  ⟨Nat.le_refl _, rfl, fun i j c B C hB ho => by
    cases i with
    | zero => simp at hB; subst hB; simp [Blk.own] at ho
    | succ i => simp at hB, fun i c B x hB _ hx => by
    cases i with
    | zero => simp at hB; subst hB; exact hx.elim
    | succ i => simp at hB, Nat.zero_le _, fun _ _ hg hx => Below.trans hx hg.below, Below.refl _ _, fun i B c hB hc => by
    cases i with
    | zero => simp at hB hc; subst hB; subst hc; exact h
    | succ i => simp at hB⟩

theorem HR.wnd2 {w : World} {b off n b' off' n' : Nat} {ks ks' : List EK} {l l' : List Int} (h : BlkR w.heap.size (Base.pl w) [b] w 0 b (.wnd off ks n l)) (h' : BlkR w.heap.size (Base.pl w) [b'] w 0 b' (.wnd off' ks' n' l')) :
    HR w.heap.size (Base.pl w) [b, b'] [.wnd off ks n l, .wnd off' ks' n' l'] w :=
  ⟨Nat.le_refl _, rfl, fun i j c B C hB ho => by
    match i with
    | 0 => simp at hB; subst hB; simp [Blk.own] at ho
    | 1 => simp at hB; subst hB; simp [Blk.own] at ho
    | i + 2 => simp at hB, fun i c B x hB _ hx => by
    match i with
    | 0 => simp at hB; subst hB; exact hx.elim
    | 1 => simp at hB; subst hB; exact hx.elim
    | i + 2 => simp at hB, Nat.zero_le _, fun _ _ hg hx => Below.trans hx hg.below, Below.refl _ _, fun i B c hB hc => by
    match i with
    | 0 => simp at hB hc; subst hB; subst hc; exact h
    | 1 => simp at hB hc; subst hB; subst hc; exact h'
    | i + 2 => simp at hB⟩


end Go.Sx
