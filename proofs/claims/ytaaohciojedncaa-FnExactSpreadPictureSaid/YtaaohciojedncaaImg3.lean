/- PictureOf: both sides. No conditions beyond the ranges of the kinds. -/
import Derived.Test.YtaaohciojedncaaImg2
set_option linter.unusedSimpArgs false
set_option linter.unusedVariables false
namespace Go.Proofs.Ytaaohciojedncaa
open Go.Sx Go.RowKit

def gVI : Entry := fun args _ => match args with
  | [.a (.agg [.int .i8 w, .int .i8 h, .run [.u8] 432 l])] => some (RgI w h l, .a (.c (.bool (okI w h l))))
  | _ => none
def gVS : Entry := fun args H => match args with
  | [.a (.c (.ptr id 0))] => match getB H id with
    | .cells _ 37 [.int .i8 w, .int .i8 h, .run [.u8] 432 l] => some (RgI w h l, .a (.c (.bool (okI w h l))))
    | _ => none
  | _ => none
theorem e_ValidImageI : EntryOk Try.prog TT 20 gVI := by
  refine ⟨fnOk Try.func20 (by kernel_rfl) rfl, ?_⟩
  intro args H p r he hp n0 w0 β w vals hG hH hA
  unfold gVI at he
  split at he
  · simp only [Option.some.injEq, Prod.mk.injEq] at he
    obtain ⟨rfl, rfl⟩ := he
    exact entry_bare tt_ok (inlN_ok tt_ok C0_ok mixed (ILvi_ok).ok 4) C0_ok mixed Try.func20 (x_ValidImageI _ _ _ hp) rfl rfl hG hH hA
  · simp at he

theorem e_l02Image : EntryOk Try.prog TT 35 gVS := by
  refine ⟨fnOk Try.func35 (by kernel_rfl) rfl, ?_⟩
  intro args H p r he hp n0 w0 β w vals hG hH hA
  unfold gVS at he
  split at he
  · rename_i id
    split at he
    · rename_i own wd hg l hb
      simp only [Option.some.injEq, Prod.mk.injEq] at he
      obtain ⟨rfl, rfl⟩ := he
      exact entry_ptr tt_ok (inlN_ok tt_ok C0_ok mixed ILim_ok.ok 4) C0_ok mixed Try.func35 (x_l02Image wd hg l hp) rfl rfl rfl hG hH hb hA
    · simp at he
  · simp at he

noncomputable def Eip : List (FuncId × Entry) := Ep4
theorem Eip_ok : EntriesOk Try.prog TT Eip := Ep4_ok
noncomputable def Ei3 : List (FuncId × Entry) := (20, gVI) :: (35, gVS) :: (6, gToImage) :: (9, gSame) :: Eip
theorem Ei3_ok : EntriesOk Try.prog TT Ei3 := ⟨e_ValidImageI, e_l02Image, e_toImage, e_eqPicture, Eip_ok⟩
noncomputable abbrev Ci3 : Ctr := ctrOfM Ei3 Mp3
theorem Ci3_ok : CtrOk Try.prog TT Ci3 := ctrOfM_ok Ei3_ok Mp3_ok

set_option maxRecDepth 100000 in
/-- An image by value, opened. -/
theorem open_img {H : Type} {enc : TypeId × Value → H} {w : World} {base : Nat} {spare : Nat → Bool} {held : Bool} {r : Reach} {b0 : Nat} {v : Value} {d : DataW H} {ps : List MemPlace}
    (hval : Value.okWide Try.prog w r b0 26 v) (hd : DataW.Trod enc Try.prog w base spare held 26 v d ps) : ∃ wd hg l, RgI wd hg l ∧ ∀ β, LVR β (img wd hg l) v := by
  obtain ⟨ns, h1, h2, h3⟩ := open_flat Try.underlying26 hval hd [.one .i8, .one .i8, .many [.u8] 432] (by kernel_rfl)
  have h1 : ns.length = 434 := h1
  match ns, h1 with
  | wd :: hg :: l, h1 =>
    have hl : l.length = 432 := by simpa using h1
    have b1 := bounds_i8 (h2 0 .i8 wd rfl rfl)
    have b2 := bounds_i8 (h2 1 .i8 hg rfl rfl)
    refine ⟨wd, hg, l, ⟨b1.1, b1.2, b2.1, b2.2, hl, fun i hi => ?_⟩, fun β => ?_⟩
    · have hi' : i < l.length := by omega
      have := bounds_u8 (h2 (i + 2) .u8 l[i] (by
          show ((List.range 432).map (fun j => [IntKind.u8].getD (j % [IntKind.u8].length) .i64) ++ [])[i]? = _
          simp [hi, Nat.mod_one]) (by simp [hi']))
      simpa [List.getD, hi'] using this
    · have := h3 β
      simpa [shCels, img, EK.of, List.take_of_length_le (Nat.le_of_eq hl)] using this

end Go.Proofs.Ytaaohciojedncaa
