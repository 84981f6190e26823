/- Cuts of plates: mathematics. -/
import Derived.Test.YtchnopgjnpgjaaaKnd1
import Derived.Test.YtchnopgjnpgjaaaGqs
set_option linter.unusedSimpArgs false
set_option linter.unusedVariables false
namespace Go.Proofs.Ytchnopgjnpgjaaa
open Go.Sx Go.RowKit

def cw (c : List Int) (i : Nat) : Int := c.getD (i * 4) 0
def ca (c : List Int) (i : Nat) : Int := c.getD (i * 4 + 1) 0
def cA (c : List Int) (i : Nat) : Int := c.getD (i * 4 + 2) 0
def cB (c : List Int) (i : Nat) : Int := c.getD (i * 4 + 3) 0
/-- The sizes behind an entry, of those before it. -/
def stC (c : List Int) (i : Nat) (σ : Nat → Int) (j : Nat) : Int :=
  if cw c i = 2 ∨ cw c i = 3 then
    (if j = (cA c i).toNat * 2 then (if cw c i = 2 then ca c i else σ (i * 2))
    else if j = (cA c i).toNat * 2 + 1 then (if cw c i = 2 then σ (i * 2 + 1) else ca c i)
    else if j = (cB c i).toNat * 2 then (if cw c i = 2 then σ (i * 2) - ca c i else σ (i * 2))
    else if j = (cB c i).toNat * 2 + 1 then (if cw c i = 2 then σ (i * 2 + 1) else σ (i * 2 + 1) - ca c i)
    else σ j)
  else σ j
def szC (c : List Int) (w h : Int) : Nat → Nat → Int
  | 0 => fun j => if j = 0 then w else if j = 1 then h else 0
  | i + 1 => stC c i (szC c w h i)
/-- Whether an entry is as it should be. -/
structure okC (kn : Nat) (kl : List Int) (cn : Nat) (c : List Int) (σ : Nat → Int) (i : Nat) : Prop where
  p : σ (i * 2) ≠ 0 ∧
  ((cw c i = 0 ∧ ca c i = 0 ∧ cA c i = 0 ∧ cB c i = 0) ∨
   (cw c i = 1 ∧ ca c i = 0 ∧ cB c i = 0 ∧ (0 ≤ cA c i ∧ cA c i < kn) ∧ σ (i * 2) = kl.getD ((cA c i).toNat * 3) 0 ∧ σ (i * 2 + 1) = kl.getD ((cA c i).toNat * 3 + 1) 0) ∨
   ((cw c i = 2 ∨ cw c i = 3) ∧ ((i < cA c i ∧ cA c i < cn) ∧ (i < cB c i ∧ cB c i < cn)) ∧ (cA c i ≠ cB c i ∧ σ ((cA c i).toNat * 2) = 0 ∧ σ ((cB c i).toNat * 2) = 0) ∧
     (1 ≤ ca c i ∧ (cw c i = 2 → ca c i < σ (i * 2)) ∧ (cw c i = 3 → ca c i < σ (i * 2 + 1)))))
structure CtP (w h : Int) (kn : Nat) (kl : List Int) (cn : Nat) (c : List Int) : Prop where
  pw : 1 ≤ w ∧ w ≤ 24
  ph : 1 ≤ h ∧ h ≤ 24
  kd : KdP kn kl
  n : 1 ≤ cn ∧ cn ≤ 60
  ok : ∀ i, i < cn → okC kn kl cn c (szC c w h i) i
open Classical in
noncomputable def ctB (w h : Int) (kn : Nat) (kl : List Int) (cn : Nat) (c : List Int) : Bool := decide (CtP w h kn kl cn c)
theorem ctB_t {w h : Int} {kn cn : Nat} {kl c : List Int} : ctB w h kn kl cn c = true ↔ CtP w h kn kl cn c := by simp [ctB]
theorem ctB_f {w h : Int} {kn cn : Nat} {kl c : List Int} : ctB w h kn kl cn c = false ↔ ¬ CtP w h kn kl cn c := by simp [ctB]
/-- A part's size: both numbers are 0, or both are sides. -/
def zsC (σ : Nat → Int) (j : Nat) : Prop := (σ (j * 2) = 0 ∧ σ (j * 2 + 1) = 0) ∨ ((1 ≤ σ (j * 2) ∧ σ (j * 2) ≤ 24) ∧ 1 ≤ σ (j * 2 + 1) ∧ σ (j * 2 + 1) ≤ 24)
theorem stC_n {c : List Int} {i : Nat} {σ : Nat → Int} (h : ¬ (cw c i = 2 ∨ cw c i = 3)) : stC c i σ = σ := by funext j; rw [stC, if_neg h]
theorem stC_A0 {c : List Int} {i : Nat} {σ : Nat → Int} (h : cw c i = 2 ∨ cw c i = 3) : stC c i σ ((cA c i).toNat * 2) = if cw c i = 2 then ca c i else σ (i * 2) := by rw [stC, if_pos h, if_pos rfl]
theorem stC_A1 {c : List Int} {i : Nat} {σ : Nat → Int} (h : cw c i = 2 ∨ cw c i = 3) : stC c i σ ((cA c i).toNat * 2 + 1) = if cw c i = 2 then σ (i * 2 + 1) else ca c i := by
  rw [stC, if_pos h, if_neg (show ¬ (cA c i).toNat * 2 + 1 = (cA c i).toNat * 2 by omega), if_pos rfl]
theorem stC_B0 {c : List Int} {i : Nat} {σ : Nat → Int} (h : cw c i = 2 ∨ cw c i = 3) (hn : (cA c i).toNat ≠ (cB c i).toNat) : stC c i σ ((cB c i).toNat * 2) = if cw c i = 2 then σ (i * 2) - ca c i else σ (i * 2) := by
  rw [stC, if_pos h, if_neg (show ¬ (cB c i).toNat * 2 = (cA c i).toNat * 2 by omega), if_neg (show ¬ (cB c i).toNat * 2 = (cA c i).toNat * 2 + 1 by omega), if_pos rfl]
theorem stC_B1 {c : List Int} {i : Nat} {σ : Nat → Int} (h : cw c i = 2 ∨ cw c i = 3) (hn : (cA c i).toNat ≠ (cB c i).toNat) : stC c i σ ((cB c i).toNat * 2 + 1) = if cw c i = 2 then σ (i * 2 + 1) else σ (i * 2 + 1) - ca c i := by
  rw [stC, if_pos h, if_neg (show ¬ (cB c i).toNat * 2 + 1 = (cA c i).toNat * 2 by omega), if_neg (show ¬ (cB c i).toNat * 2 + 1 = (cA c i).toNat * 2 + 1 by omega), if_neg (show ¬ (cB c i).toNat * 2 + 1 = (cB c i).toNat * 2 by omega), if_pos rfl]
theorem stC_o {c : List Int} {i j : Nat} {σ : Nat → Int} (h1 : j ≠ (cA c i).toNat * 2) (h2 : j ≠ (cA c i).toNat * 2 + 1) (h3 : j ≠ (cB c i).toNat * 2) (h4 : j ≠ (cB c i).toNat * 2 + 1) : stC c i σ j = σ j := by
  rw [stC, if_neg h1, if_neg h2, if_neg h3, if_neg h4, ite_self]
theorem zs_step {kn cn i : Nat} {kl c : List Int} {σ : Nat → Int} (ho : okC kn kl cn c σ i) (hz : ∀ j, zsC σ j) : ∀ j, zsC (stC c i σ) j := by
  intro j
  obtain ⟨h0, h | h | ⟨hw, ⟨hA, hB⟩, ⟨hne, _, _⟩, h1, h2, h3⟩⟩ := ho.p
  · rw [stC_n (by omega)]; exact hz j
  · rw [stC_n (by omega)]; exact hz j
  · have hi := hz i
    have hj := hz j
    have n32 : ¬ ((3 : Int) = 2) := by decide
    have hn : (cA c i).toNat ≠ (cB c i).toNat := by omega
    unfold zsC at *
    by_cases e1 : j = (cA c i).toNat
    · subst e1
      rw [stC_A0 hw, stC_A1 hw]
      rcases hw with hw | hw <;> simp only [hw, n32, if_true, if_false] <;> omega
    · by_cases e2 : j = (cB c i).toNat
      · subst e2
        rw [stC_B0 hw hn, stC_B1 hw hn]
        rcases hw with hw | hw <;> simp only [hw, n32, if_true, if_false] <;> omega
      · rw [stC_o (by omega) (by omega) (by omega) (by omega), stC_o (by omega) (by omega) (by omega) (by omega)]
        exact hj
theorem zs_all {w h : Int} {kn cn : Nat} {kl c : List Int} (hw : 1 ≤ w ∧ w ≤ 24) (hh : 1 ≤ h ∧ h ≤ 24) : ∀ i, (∀ j, j < i → okC kn kl cn c (szC c w h j) j) → ∀ j, zsC (szC c w h i) j
  | 0, _ => fun j => by
    unfold zsC szC
    by_cases e : j = 0
    · subst e; right; simp; omega
    · left; rw [if_neg (by omega), if_neg (by omega), if_neg (by omega), if_neg (by omega)]; exact ⟨rfl, rfl⟩
  | i + 1, hp => zs_step (hp i (by omega)) (zs_all hw hh i fun j hj => hp j (by omega))

/-! ### What there is in all entries -/
def pcC (c : List Int) : Nat → Nat → Int
  | 0, _ => 0
  | i + 1, k => if cw c i = 1 ∧ cA c i = k then pcC c i k + 1 else pcC c i k
theorem pcC_b {c : List Int} {k : Nat} : ∀ i, 0 ≤ pcC c i k ∧ pcC c i k ≤ i
  | 0 => ⟨by simp [pcC], by simp [pcC]⟩
  | i + 1 => by
    have := pcC_b (c := c) (k := k) i
    rw [pcC]; split <;> omega
def waC (c : List Int) (σ : Nat → Int) : Nat → Int
  | 0 => 0
  | i + 1 => if cw c i = 0 then waC c σ i + σ (i * 2) * σ (i * 2 + 1) else waC c σ i
def cuC (c : List Int) (σ : Nat → Int) : Nat → Int
  | 0 => 0
  | i + 1 => if cw c i = 2 then cuC c σ i + σ (i * 2 + 1) else if cw c i = 3 then cuC c σ i + σ (i * 2) else cuC c σ i
theorem mul24 {a b : Int} (ha : 0 ≤ a ∧ a ≤ 24) (hb : 0 ≤ b ∧ b ≤ 24) : 0 ≤ a * b ∧ a * b ≤ 576 :=
  ⟨Int.mul_nonneg ha.1 hb.1, Int.le_trans (Int.mul_le_mul_of_nonneg_right ha.2 hb.1) (by omega)⟩
theorem zs_in {σ : Nat → Int} {j : Nat} (h : zsC σ j) : (0 ≤ σ (j * 2) ∧ σ (j * 2) ≤ 24) ∧ 0 ≤ σ (j * 2 + 1) ∧ σ (j * 2 + 1) ≤ 24 := by unfold zsC at h; omega
theorem waC_b {c : List Int} {σ : Nat → Int} (hz : ∀ j, zsC σ j) : ∀ i : Nat, 0 ≤ waC c σ i ∧ waC c σ i ≤ 576 * i
  | 0 => ⟨by simp [waC], by simp [waC]⟩
  | i + 1 => by
    have := waC_b (c := c) hz i
    have := mul24 (zs_in (hz i)).1 (zs_in (hz i)).2
    rw [waC]; split <;> omega
theorem cuC_b {c : List Int} {σ : Nat → Int} (hz : ∀ j, zsC σ j) : ∀ i : Nat, 0 ≤ cuC c σ i ∧ cuC c σ i ≤ 24 * i
  | 0 => ⟨by simp [cuC], by simp [cuC]⟩
  | i + 1 => by
    have := cuC_b (c := c) hz i
    have := zs_in (hz i)
    rw [cuC]; split
    · omega
    · split <;> omega
def vaC (kl : List Int) (f : Nat → Int) : Nat → Int
  | 0 => 0
  | k + 1 => vaC kl f k + f k * kl.getD (k * 3 + 2) 0
theorem vaC_b {kn : Nat} {kl : List Int} {f : Nat → Int} (kd : KdP kn kl) (hf : ∀ k, 0 ≤ f k ∧ f k ≤ 60) : ∀ k : Nat, k ≤ kn → 0 ≤ vaC kl f k ∧ vaC kl f k ≤ 60000 * k
  | 0, _ => ⟨by simp [vaC], by simp [vaC]⟩
  | k + 1, hk => by
    have := vaC_b kd hf k (by omega)
    obtain ⟨_, _, o1, o2⟩ := kd.ok k (by omega)
    have h0 := hf k
    have p1 : 0 ≤ f k * kl.getD (k * 3 + 2) 0 := Int.mul_nonneg h0.1 o1
    have p2 : f k * kl.getD (k * 3 + 2) 0 ≤ 60 * 1000 := Int.le_trans (Int.mul_le_mul_of_nonneg_right h0.2 o1) (by omega)
    rw [vaC]; omega

/-! ### What comes back -/
noncomputable def slK (w h : Int) (kn : Nat) (kl : List Int) (cn : Nat) (c : List Int) : Nat := if ctB w h kn kl cn c = true then cn else 0
noncomputable def slF (w h : Int) (kn : Nat) (kl : List Int) (cn : Nat) (c : List Int) : List Int := if ctB w h kn kl cn c = true then mkN (cn * 2) (szC c w h cn) else []
noncomputable def ctE (w h : Int) (kn : Nat) (kl : List Int) (cn : Nat) (c : List Int) : Int := if ctB w h kn kl cn c = true then 0 else 1
theorem ct_n {w h : Int} {kn cn : Nat} {kl c : List Int} (hb : ctB w h kn kl cn c = false) : slK w h kn kl cn c = 0 ∧ slF w h kn kl cn c = [] ∧ ctE w h kn kl cn c = 1 := by
  rw [slK, slF, ctE, hb]; exact ⟨rfl, rfl, rfl⟩
theorem ct_y {w h : Int} {kn cn : Nat} {kl c : List Int} (hb : ctB w h kn kl cn c = true) : slK w h kn kl cn c = cn ∧ slF w h kn kl cn c = mkN (cn * 2) (szC c w h cn) ∧ ctE w h kn kl cn c = 0 := by
  rw [slK, slF, ctE, if_pos hb, if_pos hb, if_pos hb]; exact ⟨rfl, rfl, rfl⟩
theorem slK_le {w h : Int} {kn cn : Nat} {kl c : List Int} : slK w h kn kl cn c ≤ 60 := by
  cases hb : ctB w h kn kl cn c
  · rw [(ct_n hb).1]; omega
  · rw [(ct_y hb).1]; exact (ctB_t.1 hb).n.2

end Go.Proofs.Ytchnopgjnpgjaaa
