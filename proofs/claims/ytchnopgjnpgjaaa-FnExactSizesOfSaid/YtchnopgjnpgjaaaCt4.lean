/- SizesOf: the sizes, or the code with which cuts are refused; what panics is recovered. No conditions beyond the ranges of the kinds. -/
import Derived.Test.YtchnopgjnpgjaaaCt3b
import Derived.WalkKit
import Derived.Stop.Asserts
import Derived.Defers
import Derived.Recover
set_option linter.unusedSimpArgs false
set_option linter.unusedVariables false
namespace Go.Proofs.Ytchnopgjnpgjaaa
open Go.Sx Go.RowKit Go.Extern.Stop Go.Stop Go.Extern

theorem hasCode (v : Value) (xT : TypeId) (w : World) : (Instr.typeAssert (.iface 182 v) xT 149 true).run Try.prog w = .ok (.tuple #[.iface 182 v, .bool true]) w := run_typeAssert_hasB Try.underlying149 (by kernel_rfl) v xT w
theorem nilCode (xT : TypeId) (w : World) : (Instr.typeAssert .nilIface xT 149 true).run Try.prog w = .ok (.tuple #[.nilIface, .bool false]) w := by kernel_rfl
theorem methodCode (v : Value) (w : World) : (Go.method 332 182 v "loop.example/g01322/impl.code").run Try.prog w = .ok (178, v) w := by kernel_rfl

theorem noCuts_code (w : World) : Calls Try.prog 178 #[.int .i64 1] w fun e w' => e = .returned (.int .i64 1) ∧ w' = w := by
  go_enter Try.func178, Try.ntmps178
  go_wp2
  go_ret
  exact ⟨rfl, rfl⟩

theorem catch_idle (p : Addr) (w : World) :
    CallsD Try.prog 107 #[.pointer (some p)] .returning w fun e u' w' => e = .returned (.tuple #[]) ∧ u' = .returning ∧ w' = w := by
  refine callsD_of_wpS Try.func107 rfl fun c₀ cs hu => ?_
  have hn := nilCode
  apply wpS_seq
  apply wpS_region
  simp [wpOpsS, go_sem, recoverD, hu, Try.ntmps107, Exit.thenS, hn]
  apply wpS_seq
  apply wpS_region
  simp [wpOpsS, go_sem, Exit.thenS]
  refine wpS_cond (t := false) (by simp [Act.eval, Array.replicate]) ?_
  simp only [Bool.false_eq_true, if_false]
  refine wpS_of_wp (wp_skip ?_)
  cases c₀
  simp_all [bodyPostS, results, Try.results107]

theorem catch_panicking (p : Addr) (x : Int) (older : List PanicEntry) (w : World) (hc : w.cell? p = some (.int .i64 x)) (hz : w.frozen? p = false) :
    CallsD Try.prog 107 #[.pointer (some p)] (.panicking ({ v := .iface 182 (.int .i64 1), recovered := false } :: older)) w fun e u' w' =>
      e = .returned (.tuple #[]) ∧ u' = .panicking ({ v := .iface 182 (.int .i64 1), recovered := true } :: older) ∧ w' = w.setCell p (.int .i64 1) := by
  refine callsD_of_wpS Try.func107 rfl fun c₀ cs hu => ?_
  have hn := hasCode
  have hlt : p.block < w.heap.size := by
    rcases Nat.lt_or_ge p.block w.heap.size with h | h
    · exact h
    · simp [World.cell?, Array.getElem?_eq_none h] at hc
  apply wpS_seq
  apply wpS_region
  simp [wpOpsS, go_sem, recoverD, hu, Try.ntmps107, Exit.thenS, hn]
  apply wpS_seq
  apply wpS_region
  simp [wpOpsS, go_sem, Exit.thenS]
  refine wpS_cond (t := true) (by simp [Act.eval, Array.replicate]) ?_
  simp only [if_true]
  refine wpS_of_wp ?_
  have mC := methodCode
  go_wp2_with (go_at_call 178; refine (noCuts_code _).mono ?_; rintro e w' ⟨rfl, rfl⟩)
  simp [bodyPostS, results, Try.results107]


theorem clo_calls {b0 b1 b2 b3 : Nat} {x0 x1 : Int} {v2 v3 : Value} {w : World} (h0 : w.cell? ⟨b0, 0, none⟩ = some (.int .i64 x0)) (h1 : w.cell? ⟨b1, 0, none⟩ = some (.int .i64 x1)) (h2 : w.cell? ⟨b2, 0, none⟩ = some v2) (h3 : w.cell? ⟨b3, 0, none⟩ = some v3) {R : Ending → World → Prop}
    (h : Calls Try.prog 68 #[.agg #[.int .i64 x0, .int .i64 x1], v2, v3] w fun e w' => (∃ u, e = .returned u ∧ R e w') ∨ ∃ ch, e = .panicked ch ∧ R e w') :
    Calls Try.prog 67 #[.pointer (some ⟨b0, 0, none⟩), .pointer (some ⟨b1, 0, none⟩), .pointer (some ⟨b2, 0, none⟩), .pointer (some ⟨b3, 0, none⟩)] w R := by
  go_enter Try.func67, Try.ntmps67
  go_wp2_with (go_at_call 68; refine h.mono ?_; rintro e w' (⟨u, rfl, h⟩ | ⟨ch, rfl, h⟩))
  · exact h
  · exact ⟨rfl, h⟩

abbrev cCell (n : Int) : Obj := .cells #[.int .i64 n] 2
theorem unless_calls {caps : Array Value} {w : World} {RO : Value → World → Prop} {RP : World → Prop}
    (h : Calls Try.prog 67 caps (w.alloc (cCell 1)) fun e w' => Below (w.heap.size + 1) (w.alloc (cCell 1)) w' ∧ ((∃ u, e = .returned u ∧ RO u w') ∨ e = .panicked [{ v := .iface 182 (.int .i64 1), recovered := false }] ∧ RP w')) :
    Calls Try.prog 66 #[.func (.func 67) #[] caps] w fun e w' =>
      (∃ u w1, e = .returned (.tuple #[u, .int .i64 0]) ∧ RO u w1 ∧ Below (w.heap.size + 1) (w.alloc (cCell 1)) w1 ∧ w' = w1.setCell ⟨w.heap.size, 0, none⟩ (.int .i64 0)) ∨
      ∃ w1, e = .returned (.tuple #[.slice none 0 0, .int .i64 1]) ∧ RP w1 ∧ Below (w.heap.size + 1) (w.alloc (cCell 1)) w1 ∧ w' = w1.setCell ⟨w.heap.size, 0, none⟩ (.int .i64 1) := by
  have hmf : ∀ (fn : Fn) (first cap : Array Value) (w : World), (Instr.makeFunc fn first cap).run Try.prog w = .ok (.func fn first cap) w := fun _ _ _ _ => rfl
  go_enter_defers Try.func66, Try.ntmps66
  go_wp2_with (go_at_call 67; refine h.mono ?_; rintro e w' ⟨hb, h⟩; have hc := hb.cell (p := ⟨w.heap.size, 0, none⟩) (by simp); have hf := hb.frozen (p := ⟨w.heap.size, 0, none⟩) (by simp); rcases h with ⟨u, rfl, h⟩ | ⟨rfl, h⟩)
  · have hc' : w'.cell? ⟨w.heap.size, 0, none⟩ = some (.int .i64 1) := by rw [hc]; simp
    have hf' : w'.frozen? ⟨w.heap.size, 0, none⟩ = false := by rw [hf]; simp
    refine leaves_cons (f := 107) (args := #[.pointer (some ⟨w.heap.size, 0, none⟩)]) (by simp) (by simp [go_sem]) ?_
    refine (catch_idle ⟨w.heap.size, 0, none⟩ _).mono ?_
    rintro e u' w'' ⟨rfl, rfl, rfl⟩
    have hs : (w'.setCell ⟨w.heap.size, 0, none⟩ (.int .i64 0)).cell? ⟨w.heap.size, 0, none⟩ = some (.int .i64 0) := World.cell?_setCell_same _ _ _ hc'
    refine ⟨.tuple #[u, .int .i64 0], ?_, .inl ⟨u, w', rfl, h, hb, rfl⟩⟩
    simp [results, Try.results66, go_sem, hs]
  · have hc' : w'.cell? ⟨w.heap.size, 0, none⟩ = some (.int .i64 1) := by rw [hc]; simp
    have hf' : w'.frozen? ⟨w.heap.size, 0, none⟩ = false := by rw [hf]; simp
    refine leaves_cons (f := 107) (args := #[.pointer (some ⟨w.heap.size, 0, none⟩)]) (by simp) (by simp [go_sem]) ?_
    refine (catch_panicking ⟨w.heap.size, 0, none⟩ 1 [] _ hc' hf').mono ?_
    rintro e u' w'' ⟨rfl, rfl, rfl⟩
    have hs : (w'.setCell ⟨w.heap.size, 0, none⟩ (.int .i64 1)).cell? ⟨w.heap.size, 0, none⟩ = some (.int .i64 1) := World.cell?_setCell_same _ _ _ hc'
    refine ⟨.tuple #[.slice none 0 0, .int .i64 1], ?_, .inr ⟨w', rfl, h, hb, rfl⟩⟩
    simp [results, Try.results66, go_sem, hs]

/-- The variables that the closure takes. -/
abbrev boxes (w : World) (v0 v1 v2 v3 : Value) : World := (((w.alloc (.cells #[v0] 2)).alloc (.cells #[v1] 2)).alloc (.cells #[v2] 27)).alloc (.cells #[v3] 29)
theorem sizes_calls {x0 x1 : Int} {a2 a3 : Option Addr} {n2 m2 n3 m3 : Nat} {w : World} {R : Value → World → Prop}
    (h : Calls Try.prog 66 #[.func (.func 67) #[] #[.pointer (some ⟨w.heap.size, 0, none⟩), .pointer (some ⟨w.heap.size + 1, 0, none⟩), .pointer (some ⟨w.heap.size + 1 + 1, 0, none⟩), .pointer (some ⟨w.heap.size + 1 + 1 + 1, 0, none⟩)]] (boxes w (.int .i64 x0) (.int .i64 x1) (.slice a2 n2 m2) (.slice a3 n3 m3)) fun e w' =>
      ∃ u c, e = .returned (.tuple #[u, .int .i64 c]) ∧ R (.tuple #[u, .int .i64 c]) w') :
    Calls Try.prog 24 #[.int .i64 x0, .int .i64 x1, .slice a2 n2 m2, .slice a3 n3 m3] w fun e w' => ∃ v, e = .returned v ∧ R v w' := by
  have hmf : ∀ (fn : Fn) (first cap : Array Value) (w : World), (Instr.makeFunc fn first cap).run Try.prog w = .ok (.func fn first cap) w := fun _ _ _ _ => rfl
  go_enter Try.func24, Try.ntmps24
  go_wp2_with (go_at_call 66; refine h.mono ?_; rintro e w' ⟨u, c, rfl, h⟩)
  go_ret2
  exact ⟨_, rfl, h⟩

theorem hr_pushNil {n0 : Nat} {w0 : Base} {β : List Nat} {H : List Blk} {w : World} (h : HR n0 w0 β H w) (t : TypeId) (ks : List EK) : HR n0 w0 (β ++ [w.heap.size]) (H ++ [.cells true t [.run ks 0 []]]) w := by
  refine ⟨h.base, by simp [h.len], push_dist h.len h.nd (fun i b B h1 h2 h3 => by have := h.lt h1 h2 h3; omega), h.ms, h.st, h.ext, ?_⟩
  intro i B c hB hc
  rcases push_cases h.len hB hc with ⟨_, i2, i3⟩ | ⟨rfl, rfl, rfl⟩
  · exact (h.blk i B c i2 i3).mono
  · exact ⟨#[], ⟨[], [], rfl, ⟨rfl, by simp [runV]⟩, rfl⟩, fun hz => by simp at hz⟩
theorem slc_val {β : List Nat} {id base : Nat} {i : Int} {st : Nat} {len cap : Int} {v : Value} (h : LVR β (.a (.c (.slc id base i st len cap))) v) : ∃ ao a b, v = .slice ao a b := by
  obtain ⟨_, _, _, ⟨b, _, rfl⟩ | ⟨_, ao, rfl⟩⟩ := h
  · exact ⟨_, _, _, rfl⟩
  · exact ⟨_, _, _, rfl⟩

theorem e_SizesOfI : EntryCOk Try.prog TT 24 gSzO := by
  refine ⟨fnOk Try.func24 (by kernel_rfl) rfl, ?_⟩
  intro args H K h n0 w0 β w vals hG hH hA
  unfold gSzO at h
  split at h
  · split at h
    · rename_i ww hh id b z st len cap id2 b2 z2 st2 len2 cap2 _ _ o t1 ks m kl o2 t2 ks2 m2 c hg hg2
      obtain ⟨⟨⟨⟨rfl, rfl, rfl, rfl, rfl⟩, rfl, rfl, rfl, rfl, rfl⟩, h0, q, h4, q2⟩, hk⟩ := h
      have hk := withLenP_sound hk
      obtain ⟨kn, rfl⟩ := Int.eq_ofNat_of_zero_le h0
      obtain ⟨cn, rfl⟩ := Int.eq_ofNat_of_zero_le h4
      simp only [Int.ofNat_eq_natCast, Int.toNat_natCast] at q q2 hk
      obtain ⟨v0, r0, e0, hv0, v1, r1, e1, hv1, v2, r2, e2, hv2, v3, r3, e3, hv3, hr⟩ := hA
      have hv0 : v0 = .int .i64 ww := hv0
      have hv1 : v1 = .int .i64 hh := hv1
      have hr : r3 = [] := hr
      obtain ⟨a2, n2, p2, rfl⟩ := slc_val hv2
      obtain ⟨a3, n3, p3, rfl⟩ := slc_val hv3
      subst hv0; subst hv1; subst hr; subst e3; subst e2; subst e1
      have hvals : vals = #[.int .i64 ww, .int .i64 hh, .slice a2 n2 p2, .slice a3 n3 p3] := Array.toList_inj.1 e0
      subst hvals
      obtain ⟨w4, ew4⟩ : ∃ w4, w4 = boxes w (.int .i64 ww) (.int .i64 hh) (.slice a2 n2 p2) (.slice a3 n3 p3) := ⟨_, rfl⟩
      obtain ⟨w5, ew5⟩ : ∃ w5, w5 = w4.alloc (cCell 1) := ⟨_, rfl⟩
      have s4 : w4.heap.size = w.heap.size + 1 + 1 + 1 + 1 := by rw [ew4]; simp
      have s5 : w5.heap.size = w4.heap.size + 1 := by rw [ew5]; simp
      have hb4 : Below w.heap.size w w4 := by rw [ew4]; exact ((((Below.refl _ w).alloc (Nat.le_refl _) _).alloc (by simp) _).alloc (by first | (simp; done) | (simp; omega)) _).alloc (by first | (simp; done) | (simp; omega)) _
      have hb5 : Below w.heap.size w w5 := by rw [ew5]; exact hb4.alloc (by omega) _
      have hH5 := hH.after hb5
      have c0 : w5.cell? ⟨w.heap.size, 0, none⟩ = some (.int .i64 ww) := by
        rw [ew5, World.cell?_alloc_lt _ _ ⟨w.heap.size, 0, none⟩ (by simp only; omega), ew4, World.cell?_alloc_lt _ _ ⟨w.heap.size, 0, none⟩ (by first | (simp; done) | (simp; omega)), World.cell?_alloc_lt _ _ ⟨w.heap.size, 0, none⟩ (by first | (simp; done) | (simp; omega)), World.cell?_alloc_lt _ _ ⟨w.heap.size, 0, none⟩ (by simp)]; simp
      have c1 : w5.cell? ⟨w.heap.size + 1, 0, none⟩ = some (.int .i64 hh) := by
        rw [ew5, World.cell?_alloc_lt _ _ ⟨w.heap.size + 1, 0, none⟩ (by simp only; omega), ew4, World.cell?_alloc_lt _ _ ⟨w.heap.size + 1, 0, none⟩ (by first | (simp; done) | (simp; omega)), World.cell?_alloc_lt _ _ ⟨w.heap.size + 1, 0, none⟩ (by simp), World.cell?_alloc_at _ _ _ _ (by simp)]; rfl
      have c2 : w5.cell? ⟨w.heap.size + 1 + 1, 0, none⟩ = some (.slice a2 n2 p2) := by
        rw [ew5, World.cell?_alloc_lt _ _ ⟨w.heap.size + 1 + 1, 0, none⟩ (by simp only; omega), ew4, World.cell?_alloc_lt _ _ ⟨w.heap.size + 1 + 1, 0, none⟩ (by simp), World.cell?_alloc_at _ _ _ _ (by simp)]; rfl
      have c3 : w5.cell? ⟨w.heap.size + 1 + 1 + 1, 0, none⟩ = some (.slice a3 n3 p3) := by
        rw [ew5, World.cell?_alloc_lt _ _ ⟨w.heap.size + 1 + 1 + 1, 0, none⟩ (by simp only; omega), ew4, World.cell?_alloc_at _ _ _ _ (by simp)]; rfl
      have hX : w5.heap[w4.heap.size]? = some (cCell 1) := by
        rw [ew5]
        show (w4.heap.push (cCell 1))[w4.heap.size]? = _
        exact Array.getElem?_push_size
      have hA' : TmR β [.a (.agg [.run [.i64] 2 [ww, hh]]), .a (.c (.slc id 0 0 3 kn cap)), .a (.c (.slc id2 0 0 4 cn cap2))] (#[.agg #[.int .i64 ww, .int .i64 hh], .slice a2 n2 p2, .slice a3 n3 p3] : Array Value).toList :=
        ⟨_, _, rfl, ⟨_, rfl, _, [], (List.append_nil _).symm, ⟨rfl, by simp [runV, List.range_succ, EK.val]⟩, rfl⟩, _, _, rfl, hv2, _, _, rfl, hv3, rfl⟩
      have ht := entry_freshP tt_ok (inlN_ok tt_ok Cn2_ok mixed ILsi_ok.ok 6) Cn2_ok mixed Try.func68 [id, id2] (x_sizesIn ww hh m kn kl cap m2 cn c cap2 q q2) rfl (fun _ => rfl) (fun _ => rfl) ⟨.inr (by rw [hg]; rfl), .inr (by rw [hg2]; rfl), trivial⟩ hG hH5 hA'
      have hold : ∀ (i : Nat) (B : Blk), H[i]? = some B → β[i]? = some w4.heap.size → B.nil := by
        intro i B hB hβ
        by_cases hn : B.nil
        · exact hn
        · have := hH.lt hB hβ hn; omega
      have setX : ∀ {β' : List Nat} {H' : List Blk} {w' : World} {ob : Int} (x : Int), HR n0 w0 β' H' w' → w'.heap[w4.heap.size]? = some (cCell ob) → (∀ (i : Nat) (B : Blk), H'[i]? = some B → β'[i]? = some w4.heap.size → B.nil) → HR n0 w0 β' H' (w'.setCell ⟨w4.heap.size, 0, none⟩ (.int .i64 x)) := by
        intro β' H' w' ob x g1 g2 g3
        rw [setCell_eq_setRow w' w4.heap.size 0 _ _ (0, 0) _ g2]
        exact g1.setX _ g2 (by have := hH.base; omega) g3
      have hu : Calls Try.prog 67 #[.pointer (some ⟨w.heap.size, 0, none⟩), .pointer (some ⟨w.heap.size + 1, 0, none⟩), .pointer (some ⟨w.heap.size + 1 + 1, 0, none⟩), .pointer (some ⟨w.heap.size + 1 + 1 + 1, 0, none⟩)] w5 fun e w' => Below (w4.heap.size + 1) w5 w' ∧ ((∃ u, e = .returned u ∧ (CtP ww hh kn kl cn c ∧ ∃ δ, HR n0 w0 (β ++ δ) (H ++ [.cells true 102 [.run [.i64] (cn * 2) (mkN (cn * 2) (szC c ww hh cn))]]) w' ∧ LVR (β ++ δ) (.a (.c (.slc H.length 0 0 2 cn cn))) u ∧ ∀ b, δ = [b] → 0 < cn → w5.heap.size ≤ b)) ∨ e = .panicked [{ v := .iface 182 (.int .i64 1), recovered := false }] ∧ (¬ CtP ww hh kn kl cn c ∧ HR n0 w0 β H w')) := by
        refine clo_calls c0 c1 c2 c3 (ht.mono ?_)
        rintro e w' (⟨u, δ, x, rfl, hp, hb, h1, h2, h3⟩ | ⟨u, x, β1, rfl, ⟨hp, rfl⟩, hb, hx⟩)
        · refine .inl ⟨u, rfl, by rw [← s5]; exact hb, .inl ⟨u, rfl, hp, δ, h1, h2, fun b hb hn => ?_⟩⟩
          subst hb
          exact h3 (j := 0) rfl rfl (by simp [Blk.nil, width, Cel.w]; omega)
        · have hx : u = .iface 182 (.int .i64 1) := hx
          subst hx
          exact .inr ⟨_, rfl, by rw [← s5]; exact hb, .inr ⟨rfl, hp, hH5.after hb⟩⟩
      have hun := unless_calls (w := w4) (RO := fun u w' => CtP ww hh kn kl cn c ∧ ∃ δ, HR n0 w0 (β ++ δ) (H ++ [.cells true 102 [.run [.i64] (cn * 2) (mkN (cn * 2) (szC c ww hh cn))]]) w' ∧ LVR (β ++ δ) (.a (.c (.slc H.length 0 0 2 cn cn))) u ∧ ∀ b, δ = [b] → 0 < cn → w5.heap.size ≤ b) (RP := fun w' => ¬ CtP ww hh kn kl cn c ∧ HR n0 w0 β H w') (by rw [← ew5]; exact hu)
      refine (sizes_calls (R := fun v w' => ∃ γ lv H', K lv H' ∧ HR n0 w0 (β ++ γ) H' w' ∧ LVR (β ++ γ) lv v) (by
        rw [← ew4]
        refine hun.mono ?_
        rintro e w' (⟨u, w3, rfl, ⟨hv, δ, g1, g2, g3⟩, hb, rfl⟩ | ⟨w3, rfl, ⟨hv, g1⟩, hb, rfl⟩)
        · obtain ⟨k1, k2, k3⟩ := ct_y (ctB_t.2 hv)
          refine ⟨u, 0, rfl, δ, _, _, hk (cn * 2) (mkN (cn * 2) (szC c ww hh cn)) cn ⟨by rw [k1]; exact Int.le_refl _, by simp, mkN_len _ _, by rw [k1, k2]; exact List.take_of_length_le (by rw [mkN_len]; exact Nat.le_refl _)⟩, ?_, ⟨_, rfl, _, _, rfl, by rw [k1]; exact g2, _, _, rfl, by rw [k3]; rfl, rfl⟩⟩
          have hX3 : w3.heap[w4.heap.size]? = some (cCell 1) := by
            rw [hb.block _ (by omega), ← ew5]; exact hX
          refine setX 0 g1 hX3 fun i B hB hβ => ?_
          have hδ : δ.length = 1 := by
            have := g1.len
            rw [List.length_append, List.length_append, hH.len] at this
            simpa using this
          match δ, hδ with
          | [b], _ =>
            by_cases hi : i < H.length
            · rw [List.getElem?_append_left hi] at hB
              rw [List.getElem?_append_left (by rw [hH.len]; exact hi)] at hβ
              exact hold i B hB hβ
            · have hi' : i = H.length := by
                have := (List.getElem?_eq_some_iff.1 hB).1
                simp at this; omega
              subst hi'
              rw [← hH.len, List.getElem?_append_right (Nat.le_refl _), Nat.sub_self] at hβ
              rw [List.getElem?_append_right (Nat.le_refl _), Nat.sub_self] at hB
              simp only [List.getElem?_cons_zero, Option.some.injEq] at hβ hB
              subst hB
              rcases Nat.eq_zero_or_pos cn with hn | hn
              · simp [Blk.nil, width, Cel.w, hn]
              · have := g3 b rfl hn
                omega
        · obtain ⟨k1, k2, k3⟩ := ct_n (ctB_f.2 hv)
          have hX3 : w3.heap[w4.heap.size]? = some (cCell 1) := by
            rw [hb.block _ (by omega), ← ew5]; exact hX
          have gs := hr_pushNil (setX 1 g1 hX3 hold) 102 [.i64]
          exact ⟨_, 1, rfl, [_], _, _, hk 0 [] 0 ⟨by rw [k1]; exact Int.le_refl _, by simp, rfl, by rw [k1, k2]; rfl⟩, gs, ⟨_, rfl, _, _, rfl, by rw [k1]; exact ⟨by omega, by simp, by simp, .inr ⟨rfl, none, rfl⟩⟩, _, _, rfl, by rw [k3]; rfl, rfl⟩⟩)).mono ?_
      rintro e w' ⟨v, rfl, γ, lv, H', g1, g2, g3⟩
      exact ⟨v, γ, lv, H', rfl, g1, g2, g3⟩
    · exact h.elim
  · exact h.elim

end Go.Proofs.Ytchnopgjnpgjaaa
