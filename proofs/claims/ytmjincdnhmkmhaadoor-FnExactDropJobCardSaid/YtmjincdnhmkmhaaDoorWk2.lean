/- workOf: jobs that are valid, or a refusal; what panics is recovered. No conditions beyond the ranges of the kinds. -/
import Derived.Test.YtmjincdnhmkmhaaDoorJb3
import Derived.Test.YtmjincdnhmkmhaaDoorWk1
set_option linter.unusedSimpArgs false
set_option linter.unusedVariables false
namespace Go.Proofs.YtmjincdnhmkmhaaDoor
open Go.Sx Go.RowKit Go.Extern.Stop Go.Stop Go.Extern

theorem clo_calls {b : Nat} {v : Value} {w : World} (hc : w.cell? ⟨b, 0, none⟩ = some v) {R : Ending → World → Prop}
    (h : Calls Tryd.prog 26 #[v] w fun e w' => (∃ u, e = .returned u ∧ R e w') ∨ ∃ ch, e = .panicked ch ∧ R e w') :
    Calls Tryd.prog 25 #[.pointer (some ⟨b, 0, none⟩)] w R := by
  go_enter Tryd.func25, Tryd.ntmps25
  go_wp2_with (go_at_call 26; refine h.mono ?_; rintro e w' (⟨u, rfl, h⟩ | ⟨ch, rfl, h⟩))
  · exact h
  · exact ⟨rfl, h⟩

abbrev cCell (n : Int) : Obj := .cells #[.int .i64 n] 2
theorem unless_calls {b0 : Nat} {w : World} {RO : Value → World → Prop} {RP : Array Value → World → Prop}
    (h : Calls Tryd.prog 25 #[.pointer (some ⟨b0, 0, none⟩)] (w.alloc (cCell 1)) fun e w' => Below (w.heap.size + 1) (w.alloc (cCell 1)) w' ∧ ((∃ u, e = .returned u ∧ RO u w') ∨ ∃ arr, e = .panicked [{ v := .iface 72 (.agg arr), recovered := false }] ∧ RP arr w')) :
    Calls Tryd.prog 24 #[.func (.func 25) #[] #[.pointer (some ⟨b0, 0, none⟩)]] w fun e w' =>
      (∃ u w1, e = .returned (.tuple #[u, .int .i64 0]) ∧ RO u w1 ∧ Below (w.heap.size + 1) (w.alloc (cCell 1)) w1 ∧ w' = w1.setCell ⟨w.heap.size, 0, none⟩ (.int .i64 0)) ∨
      ∃ arr w1, e = .returned (.tuple #[.slice none 0 0, .int .i64 1]) ∧ RP arr w1 ∧ Below (w.heap.size + 1) (w.alloc (cCell 1)) w1 ∧ w' = (w1.alloc (.cells arr 72)).setCell ⟨w.heap.size, 0, none⟩ (.int .i64 1) := by
  have hmf : ∀ (fn : Fn) (first cap : Array Value) (w : World), (Instr.makeFunc fn first cap).run Tryd.prog w = .ok (.func fn first cap) w := fun _ _ _ _ => rfl
  go_enter_defers Tryd.func24, Tryd.ntmps24
  go_wp2_with (go_at_call 25; refine h.mono ?_; rintro e w' ⟨hb, h⟩; have hc := hb.cell (p := ⟨w.heap.size, 0, none⟩) (by simp); have hf := hb.frozen (p := ⟨w.heap.size, 0, none⟩) (by simp); rcases h with ⟨u, rfl, h⟩ | ⟨arr, rfl, h⟩)
  · have hc' : w'.cell? ⟨w.heap.size, 0, none⟩ = some (.int .i64 1) := by rw [hc]; simp
    have hf' : w'.frozen? ⟨w.heap.size, 0, none⟩ = false := by rw [hf]; simp
    refine leaves_cons (f := 31) (args := #[.pointer (some ⟨w.heap.size, 0, none⟩)]) (by simp) (by simp [go_sem]) ?_
    refine (catch_idle ⟨w.heap.size, 0, none⟩ _).mono ?_
    rintro e u' w'' ⟨rfl, rfl, rfl⟩
    have hs : (w'.setCell ⟨w.heap.size, 0, none⟩ (.int .i64 0)).cell? ⟨w.heap.size, 0, none⟩ = some (.int .i64 0) := World.cell?_setCell_same _ _ _ hc'
    refine ⟨.tuple #[u, .int .i64 0], ?_, .inl ⟨u, w', rfl, h, hb, rfl⟩⟩
    simp [results, Tryd.results24, go_sem, hs]
  · have hc' : w'.cell? ⟨w.heap.size, 0, none⟩ = some (.int .i64 1) := by rw [hc]; simp
    have hf' : w'.frozen? ⟨w.heap.size, 0, none⟩ = false := by rw [hf]; simp
    refine leaves_cons (f := 31) (args := #[.pointer (some ⟨w.heap.size, 0, none⟩)]) (by simp) (by simp [go_sem]) ?_
    refine (catch_panicking ⟨w.heap.size, 0, none⟩ 1 arr [] _ hc' hf').mono ?_
    rintro e u' w'' ⟨rfl, rfl, rfl⟩
    have hlt : w.heap.size < w'.heap.size := by have := hb.size; simp at this; omega
    have hcA : (w'.alloc (.cells arr 72)).cell? ⟨w.heap.size, 0, none⟩ = some (.int .i64 1) := by rw [World.cell?_alloc_lt _ _ ⟨w.heap.size, 0, none⟩ hlt]; exact hc'
    have hs : ((w'.alloc (.cells arr 72)).setCell ⟨w.heap.size, 0, none⟩ (.int .i64 1)).cell? ⟨w.heap.size, 0, none⟩ = some (.int .i64 1) := World.cell?_setCell_same _ _ _ hcA
    refine ⟨.tuple #[.slice none 0 0, .int .i64 1], ?_, .inr ⟨arr, w', rfl, h, hb, rfl⟩⟩
    simp [results, Tryd.results24, go_sem, hs]

theorem work_calls {ao : Option Addr} {sa sb : Nat} {w : World} {RO : Value → World → Prop} {RP : World → Prop}
    (h : Calls Tryd.prog 24 #[.func (.func 25) #[] #[.pointer (some ⟨w.heap.size, 0, none⟩)]] (w.alloc (.cells #[.slice ao sa sb] 24)) fun e w' =>
      (∃ u, e = .returned (.tuple #[u, .int .i64 0]) ∧ RO u w') ∨ (e = .returned (.tuple #[.slice none 0 0, .int .i64 1]) ∧ RP w')) :
    Calls Tryd.prog 14 #[.slice ao sa sb] w fun e w' => (∃ u, e = .returned (.tuple #[u, .nilIface]) ∧ RO u w') ∨ (e = .returned (.tuple #[.slice none 0 0, .iface 62 (.int .i64 1)]) ∧ RP w') := by
  have hmf : ∀ (fn : Fn) (first cap : Array Value) (w : World), (Instr.makeFunc fn first cap).run Tryd.prog w = .ok (.func fn first cap) w := fun _ _ _ _ => rfl
  go_enter Tryd.func14, Tryd.ntmps14
  go_wp2_with (go_at_call 24; refine h.mono ?_; rintro e w' (⟨u, rfl, h⟩ | ⟨rfl, h⟩))
  · go_ret2
    exact .inl ⟨u, rfl, h⟩
  · go_ret2
    exact .inr ⟨rfl, h⟩

/-! ### The contract -/
noncomputable def gWork : EntryC := fun args H K => match args with
  | [.a (.c (.slc id b z s len _))] => match getB H id with
    | .cells _ t [.run ks m l] => ((t = 35 ∧ b = 0 ∧ z = 0 ∧ s = 2 ∧ ks = [.i8, .u16]) ∧ 0 ≤ len ∧ Jx len.toNat m l) ∧ withLenP H fun h =>
        (vjB len.toNat l = true → K (.tup [.c (.slc h 0 0 2 len len), .c (.val .nilIface)]) (H ++ [.cells true 53 [.run [.i64, .u16] (len.toNat * 2) (l.take (len.toNat * 2))]])) ∧
        (vjB len.toNat l = false → K (.tup [.c (.val (.slice none 0 0)), .c (.val (.iface 62 (.int .i64 1)))]) H)
    | _ => Stuck "work"
  | _ => Stuck "work"

theorem slc_val {β : List Nat} {id base : Nat} {i : Int} {st : Nat} {len cap : Int} {v : Value} (h : LVR β (.a (.c (.slc id base i st len cap))) v) : ∃ ao a b, v = .slice ao a b := by
  obtain ⟨_, _, _, ⟨b, _, rfl⟩ | ⟨_, ao, rfl⟩⟩ := h
  · exact ⟨_, _, _, rfl⟩
  · exact ⟨_, _, _, rfl⟩

theorem e_workOf : EntryCOk Tryd.prog TT 14 gWork := by
  refine ⟨fnOk Tryd.func14 (by kernel_rfl) rfl, ?_⟩
  intro args H K h n0 w0 β w vals hG hH hA
  unfold gWork at h
  split at h
  · split at h
    · rename_i id b z s len cap _ o t ks m l hg
      obtain ⟨⟨⟨rfl, rfl, rfl, rfl, rfl⟩, h0, q⟩, hk⟩ := h
      have hk := withLenP_sound hk
      obtain ⟨n, rfl⟩ := Int.eq_ofNat_of_zero_le h0
      rw [Int.toNat_natCast] at q hk
      have hA0 := hA
      obtain ⟨v, rest, e1, hv, hr⟩ := hA0
      have hr : rest = [] := hr
      subst hr
      obtain ⟨ao, sa, sb, rfl⟩ := slc_val hv
      have hvals : vals = #[.slice ao sa sb] := by
        cases vals; simp only [] at e1; rw [e1]
      subst hvals
      -- the two variables
      obtain ⟨w1, ew1⟩ : ∃ w1, w1 = w.alloc (.cells #[.slice ao sa sb] 24) := ⟨_, rfl⟩
      obtain ⟨w2, ew2⟩ : ∃ w2, w2 = w1.alloc (cCell 1) := ⟨_, rfl⟩
      have s1 : w1.heap.size = w.heap.size + 1 := by rw [ew1]; simp
      have s2 : w2.heap.size = w.heap.size + 2 := by rw [ew2]; simp [s1]
      have hb1 : Below w.heap.size w w1 := by rw [ew1]; exact (Below.refl _ w).alloc (Nat.le_refl _) _
      have hb2 : Below w.heap.size w w2 := by rw [ew2]; exact hb1.alloc (by omega) _
      have hH2 := hH.after hb2
      have hcB : w2.cell? ⟨w.heap.size, 0, none⟩ = some (.slice ao sa sb) := by
        rw [ew2, World.cell?_alloc_lt _ _ ⟨w.heap.size, 0, none⟩ (by simp only; omega), ew1]; simp
      have hX : w2.heap[w.heap.size + 1]? = some (cCell 1) := by
        have : (w1.alloc (cCell 1)).heap[w1.heap.size]? = some (cCell 1) := by
          show (w1.heap.push (cCell 1))[w1.heap.size]? = _
          exact Array.getElem?_push_size
        rw [ew2, ← s1]; exact this
      have ht := entry_freshP tt_ok (inlN_ok tt_ok Cj3_ok mixed ILz_ok.ok 6) Cj3_ok mixed Tryd.func26 [id] (x_tasksOf m n l cap q) rfl (fun _ => rfl) (fun _ => rfl) ⟨.inr (by rw [hg]; rfl), trivial⟩ hG hH2 hA
      have hold : ∀ (i : Nat) (B : Blk), H[i]? = some B → β[i]? = some (w.heap.size + 1) → B.nil := by
        intro i B hB hβ
        by_cases hn : B.nil
        · exact hn
        · have := hH.lt hB hβ hn; omega
      have hin : ∀ {w' : World}, (∀ k, k < w.heap.size → w'.heap[k]? = w.heap[k]?) → ∀ (i c : Nat) (B : Blk) (x : Nat), H[i]? = some B → β[i]? = some c → B.inn w' c x → x ≠ w.heap.size + 1 := by
        intro w' hk i c B x hB hc hx
        have h1 := hH.innLt hB hc (Blk.inn_keep (hk c (hH.lt hB hc (Blk.inn_nil hx))) hx)
        omega
      have setX : ∀ {β' : List Nat} {H' : List Blk} {w' : World} {ob : Int} (x : Int), HR n0 w0 β' H' w' → w'.heap[w.heap.size + 1]? = some (cCell ob) → (∀ (i : Nat) (B : Blk), H'[i]? = some B → β'[i]? = some (w.heap.size + 1) → B.nil) → (∀ (i c : Nat) (B : Blk) (x : Nat), H'[i]? = some B → β'[i]? = some c → B.inn w' c x → x ≠ w.heap.size + 1) → HR n0 w0 β' H' (w'.setCell ⟨w.heap.size + 1, 0, none⟩ (.int .i64 x)) := by
        intro β' H' w' ob x g1 g2 g3 g4
        rw [setCell_eq_setRow w' (w.heap.size + 1) 0 _ _ (0, 0) _ g2]
        exact g1.setX _ g2 (by have := hH.base; omega) g3 g4
      have hu : Calls Tryd.prog 25 #[.pointer (some ⟨w.heap.size, 0, none⟩)] w2 fun e w' => Below (w1.heap.size + 1) w2 w' ∧ ((∃ u, e = .returned u ∧ (VJ n l ∧ ∃ δ, HR n0 w0 (β ++ δ) (H ++ [.cells true 53 [.run [.i64, .u16] (n * 2) (l.take (n * 2))]]) w' ∧ LVR (β ++ δ) (.a (.c (.slc H.length 0 0 2 n n))) u ∧ ∀ b, δ = [b] → 0 < n → w2.heap.size ≤ b)) ∨ ∃ arr, e = .panicked [{ v := .iface 72 (.agg arr), recovered := false }] ∧ (¬ VJ n l ∧ HR n0 w0 β H w')) := by
        refine clo_calls hcB (ht.mono ?_)
        rintro e w' (⟨u, δ, x, rfl, hp, hb, h1, h2, h3⟩ | ⟨u, x, β1, rfl, ⟨hp, ks, xs, rfl⟩, hb, hx⟩)
        · refine .inl ⟨u, rfl, by rw [s1, ← s2]; exact hb, .inl ⟨u, rfl, hp, δ, h1, h2, fun b hb hn => ?_⟩⟩
          subst hb
          exact h3 (j := 0) rfl rfl (by simp [Blk.nil, width, Cel.w]; omega)
        · have hx : u = .iface 72 (keyV ks xs) := by first | exact hx | exact hx.2
          subst hx
          exact .inr ⟨_, rfl, by rw [s1, ← s2]; exact hb, .inr ⟨_, rfl, hp, hH2.after hb⟩⟩
      have hun := unless_calls (b0 := w.heap.size) (w := w1) (RO := fun u w' => VJ n l ∧ ∃ δ, HR n0 w0 (β ++ δ) (H ++ [.cells true 53 [.run [.i64, .u16] (n * 2) (l.take (n * 2))]]) w' ∧ LVR (β ++ δ) (.a (.c (.slc H.length 0 0 2 n n))) u ∧ ∀ b, δ = [b] → 0 < n → w2.heap.size ≤ b) (RP := fun arr w' => ¬ VJ n l ∧ HR n0 w0 β H w') (by rw [← ew2]; exact hu)
      refine (work_calls (w := w) (RO := fun u w' => VJ n l ∧ ∃ δ, HR n0 w0 (β ++ δ) (H ++ [.cells true 53 [.run [.i64, .u16] (n * 2) (l.take (n * 2))]]) w' ∧ LVR (β ++ δ) (.a (.c (.slc H.length 0 0 2 n n))) u) (RP := fun w' => ¬ VJ n l ∧ HR n0 w0 β H w') (by
        rw [← ew1]
        refine hun.mono ?_
        rintro e w' (⟨u, w3, rfl, ⟨hv, δ, g1, g2, g3⟩, hb, rfl⟩ | ⟨arr, w3, rfl, ⟨hv, g1⟩, hb, rfl⟩)
        · refine .inl ⟨u, rfl, hv, δ, ?_, g2⟩
          rw [s1]
          have hX3 : w3.heap[w.heap.size + 1]? = some (cCell 1) := by
            rw [hb.block _ (by omega), ← ew2]; exact hX
          have hδ : δ.length = 1 := by
            have := g1.len
            rw [List.length_append, List.length_append, hH.len] at this
            simpa using this
          have hk3 : ∀ k, k < w.heap.size → w3.heap[k]? = w.heap[k]? := fun k hk => (hb.block k (by omega)).trans (by rw [← ew2]; exact hb2.block k hk)
          refine setX 0 g1 hX3 (fun i B hB hβ => ?_) fun i c B x hB hc hx => ?_
          case refine_2 =>
            by_cases hi : i < H.length
            · rw [List.getElem?_append_left hi] at hB
              rw [List.getElem?_append_left (by rw [hH.len]; exact hi)] at hc
              exact hin hk3 i c B x hB hc hx
            · rw [List.getElem?_append_right (by omega)] at hB
              have hi' : i - H.length = 0 := by
                have := (List.getElem?_eq_some_iff.1 hB).1
                simp at this; omega
              rw [hi'] at hB
              simp only [List.getElem?_cons_zero, Option.some.injEq] at hB
              subst hB
              exact hx.elim
          match δ, hδ with
          | [b], _ =>
            by_cases hi : i < H.length
            · rw [List.getElem?_append_left hi] at hB
              rw [List.getElem?_append_left (by rw [hH.len]; exact hi)] at hβ
              exact hold i B hB hβ
            · have hi' : i = H.length := by
                have := (List.getElem?_eq_some_iff.1 hB).1
                simp at this; omega
              subst hi'
              rw [← hH.len, List.getElem?_append_right (Nat.le_refl _), Nat.sub_self] at hβ
              rw [List.getElem?_append_right (Nat.le_refl _), Nat.sub_self] at hB
              simp only [List.getElem?_cons_zero, Option.some.injEq] at hβ hB
              subst hB
              rcases Nat.eq_zero_or_pos n with hn | hn
              · simp [Blk.nil, width, Cel.w, hn]
              · have := g3 b rfl hn
                omega
        · refine .inr ⟨rfl, hv, ?_⟩
          rw [s1]
          have hlt : w.heap.size + 1 < w3.heap.size := by have := hb.size; rw [← ew2] at this; omega
          have hX3 : w3.heap[w.heap.size + 1]? = some (cCell 1) := by
            rw [hb.block _ (by omega), ← ew2]; exact hX
          have hk3 : ∀ k, k < w.heap.size → w3.heap[k]? = w.heap[k]? := fun k hk => (hb.block k (by omega)).trans (by rw [← ew2]; exact hb2.block k hk)
          exact setX 1 (g1.alloc _) (by rw [Below.heap_alloc _ _ _ hlt]; exact hX3) hold (hin fun k hk => (Below.heap_alloc _ _ _ (by omega)).trans (hk3 k hk)))).mono ?_
      rintro e w' (⟨u, rfl, hv, δ, g1, g2⟩ | ⟨rfl, hv, g1⟩)
      · exact ⟨_, δ, _, _, rfl, hk.1 (vjB_t.2 hv), g1, ⟨_, rfl, _, _, rfl, g2, _, _, rfl, rfl, rfl⟩⟩
      · exact ⟨_, [], _, _, rfl, hk.2 (vjB_f.2 hv), by simpa using g1, ⟨_, rfl, _, _, rfl, rfl, _, _, rfl, rfl, rfl⟩⟩
    · exact h.elim
  · exact h.elim

end Go.Proofs.YtmjincdnhmkmhaaDoor
