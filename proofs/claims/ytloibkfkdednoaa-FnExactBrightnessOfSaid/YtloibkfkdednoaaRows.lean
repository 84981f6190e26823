/-
  No cell of these rows narrows 'for every input' (looked for: loops, veiled, ifaces, maps, wideKeys, modest, calm, conditions, laid).
  DERIVED. THE GIVEN ROWS OF THIS SEAT. 12 by the template 'for every input the law returns true; each argument reads behind the call as it read before'; 0 by the template 'total and deterministic' (their statements: YtloibkfkdednoaaTotals.lean).
  GIVEN WITH THE SEED: the statements are not yours to turn. If you find one false, say at which input.
  Laid BY PROGRAM, IN A SANDBOX (cutbox-rows.mjs): the forced cells as the released guide's own fill.sh prints them over the translation 33d4d290f7b76911… (all of the seat's roots in one cut). By AI agents, Wed Nov 11 2026. No macro, syntax, notation, axiom, sorry.
-/
import Derived.Test.YtloibkfkdednoaaChecked
import GoSem.Claim
import GoSem.ClaimJoined
import GoSem.ClaimMapViews
import Derived.JoinedTies
import Derived.KernelRfl
namespace Go.Proofs.Ytloibkfkdednoaa
/- THE CELL 'sum', in the pinned program and in every row, IS THE sha256 OF THE DUMP (.gsa) THAT YtloibkfkdednoaaProg.lean LOADS. Nothing in Lean hashes anything: it is a label: what it is worth is what the hold of that sum in a sandbox is worth. -/
noncomputable def Try.pinned : Pinned := { name := "ytloibkfkdednoaa", sum := "33d4d290f7b76911a127f1e59b41ccd04d9ca06566135409b9726b4b52bf317b", checked := Try.checked }
namespace Rows
def none {H : Type} : Left H := { results := [], args := [] }

/-- 'laws.FnExactFarOf': WHATEVER THE INPUT: true; the input reads as it did. -/
def fnExactFarOfSpec : ChangeSpec := { name := "fnExactFarOf", fn := fun _ => fun
  | [d1, d2] => { results := [.lit (.bool true)], args := [d1, d2] }
  | _ => none }
def fnExactFarOfRow : OpenClaim := { program := "ytloibkfkdednoaa", sum := "33d4d290f7b76911a127f1e59b41ccd04d9ca06566135409b9726b4b52bf317b", func := "loop.example/g01322/laws.FnExactFarOf", spec := "fnExactFarOf", apart := false }
def FnExactFarOfSaid : Prop := fnExactFarOfRow.holds Try.pinned (OpenSpec.ofChange fnExactFarOfSpec)

/-- ITS FALSE NEIGHBOUR: 'it returns false'. Refute it at one input. -/
def fnExactFarOfWrong : ChangeSpec := { name := "fnExactFarOf", fn := fun _ => fun
  | [d1, d2] => { results := [.lit (.bool false)], args := [d1, d2] }
  | _ => none }
def FnExactFarOfWrongFalsely : Prop := fnExactFarOfRow.holds Try.pinned (OpenSpec.ofChange fnExactFarOfWrong)

/-- 'laws.FnExactBrightnessOf': WHATEVER THE INPUT: true; the input reads as it did. -/
def fnExactBrightnessOfSpec : ChangeSpec := { name := "fnExactBrightnessOf", fn := fun _ => fun
  | [d] => { results := [.lit (.bool true)], args := [d] }
  | _ => none }
def fnExactBrightnessOfRow : OpenClaim := { program := "ytloibkfkdednoaa", sum := "33d4d290f7b76911a127f1e59b41ccd04d9ca06566135409b9726b4b52bf317b", func := "loop.example/g01322/laws.FnExactBrightnessOf", spec := "fnExactBrightnessOf", apart := false }
def FnExactBrightnessOfSaid : Prop := fnExactBrightnessOfRow.holds Try.pinned (OpenSpec.ofChange fnExactBrightnessOfSpec)

/-- ITS FALSE NEIGHBOUR: 'it returns false'. Refute it at one input. -/
def fnExactBrightnessOfWrong : ChangeSpec := { name := "fnExactBrightnessOf", fn := fun _ => fun
  | [d] => { results := [.lit (.bool false)], args := [d] }
  | _ => none }
def FnExactBrightnessOfWrongFalsely : Prop := fnExactBrightnessOfRow.holds Try.pinned (OpenSpec.ofChange fnExactBrightnessOfWrong)

/-- 'laws.FnExactCodeName': WHATEVER THE INPUT: true; the input reads as it did. -/
def fnExactCodeNameSpec : ChangeSpec := { name := "fnExactCodeName", fn := fun _ => fun
  | [d] => { results := [.lit (.bool true)], args := [d] }
  | _ => none }
def fnExactCodeNameRow : OpenClaim := { program := "ytloibkfkdednoaa", sum := "33d4d290f7b76911a127f1e59b41ccd04d9ca06566135409b9726b4b52bf317b", func := "loop.example/g01322/laws.FnExactCodeName", spec := "fnExactCodeName", apart := false }
def FnExactCodeNameSaid : Prop := fnExactCodeNameRow.holds Try.pinned (OpenSpec.ofChange fnExactCodeNameSpec)

/-- ITS FALSE NEIGHBOUR: 'it returns false'. Refute it at one input. -/
def fnExactCodeNameWrong : ChangeSpec := { name := "fnExactCodeName", fn := fun _ => fun
  | [d] => { results := [.lit (.bool false)], args := [d] }
  | _ => none }
def FnExactCodeNameWrongFalsely : Prop := fnExactCodeNameRow.holds Try.pinned (OpenSpec.ofChange fnExactCodeNameWrong)

/-- 'laws.FnExactPlainPicture': WHATEVER THE INPUT: true; the input reads as it did. -/
def fnExactPlainPictureSpec : ChangeSpec := { name := "fnExactPlainPicture", fn := fun _ => fun
  | [d1, d2, d3] => { results := [.lit (.bool true)], args := [d1, d2, d3] }
  | _ => none }
def fnExactPlainPictureRow : OpenClaim := { program := "ytloibkfkdednoaa", sum := "33d4d290f7b76911a127f1e59b41ccd04d9ca06566135409b9726b4b52bf317b", func := "loop.example/g01322/laws.FnExactPlainPicture", spec := "fnExactPlainPicture", unfollowed := true, recurses := true, apart := false }
def FnExactPlainPictureSaid : Prop := fnExactPlainPictureRow.holds Try.pinned (OpenSpec.ofChange fnExactPlainPictureSpec)

/-- ITS FALSE NEIGHBOUR: 'it returns false'. Refute it at one input. -/
def fnExactPlainPictureWrong : ChangeSpec := { name := "fnExactPlainPicture", fn := fun _ => fun
  | [d1, d2, d3] => { results := [.lit (.bool false)], args := [d1, d2, d3] }
  | _ => none }
def FnExactPlainPictureWrongFalsely : Prop := fnExactPlainPictureRow.holds Try.pinned (OpenSpec.ofChange fnExactPlainPictureWrong)

/-- 'laws.FnExactCountColours': WHATEVER THE INPUT: true; the input reads as it did. -/
def fnExactCountColoursSpec : ChangeSpec := { name := "fnExactCountColours", fn := fun _ => fun
  | [d] => { results := [.lit (.bool true)], args := [d] }
  | _ => none }
def fnExactCountColoursRow : OpenClaim := { program := "ytloibkfkdednoaa", sum := "33d4d290f7b76911a127f1e59b41ccd04d9ca06566135409b9726b4b52bf317b", func := "loop.example/g01322/laws.FnExactCountColours", spec := "fnExactCountColours", unfollowed := true, recurses := true, apart := false }
def FnExactCountColoursSaid : Prop := fnExactCountColoursRow.holds Try.pinned (OpenSpec.ofChange fnExactCountColoursSpec)

/-- ITS FALSE NEIGHBOUR: 'it returns false'. Refute it at one input. -/
def fnExactCountColoursWrong : ChangeSpec := { name := "fnExactCountColours", fn := fun _ => fun
  | [d] => { results := [.lit (.bool false)], args := [d] }
  | _ => none }
def FnExactCountColoursWrongFalsely : Prop := fnExactCountColoursRow.holds Try.pinned (OpenSpec.ofChange fnExactCountColoursWrong)

/-- 'laws.FnExactMirrorPicture': WHATEVER THE INPUT: true; the input reads as it did. -/
def fnExactMirrorPictureSpec : ChangeSpec := { name := "fnExactMirrorPicture", fn := fun _ => fun
  | [d] => { results := [.lit (.bool true)], args := [d] }
  | _ => none }
def fnExactMirrorPictureRow : OpenClaim := { program := "ytloibkfkdednoaa", sum := "33d4d290f7b76911a127f1e59b41ccd04d9ca06566135409b9726b4b52bf317b", func := "loop.example/g01322/laws.FnExactMirrorPicture", spec := "fnExactMirrorPicture", unfollowed := true, recurses := true, apart := false }
def FnExactMirrorPictureSaid : Prop := fnExactMirrorPictureRow.holds Try.pinned (OpenSpec.ofChange fnExactMirrorPictureSpec)

/-- ITS FALSE NEIGHBOUR: 'it returns false'. Refute it at one input. -/
def fnExactMirrorPictureWrong : ChangeSpec := { name := "fnExactMirrorPicture", fn := fun _ => fun
  | [d] => { results := [.lit (.bool false)], args := [d] }
  | _ => none }
def FnExactMirrorPictureWrongFalsely : Prop := fnExactMirrorPictureRow.holds Try.pinned (OpenSpec.ofChange fnExactMirrorPictureWrong)

/-- 'laws.FnExactFlipPicture': WHATEVER THE INPUT: true; the input reads as it did. -/
def fnExactFlipPictureSpec : ChangeSpec := { name := "fnExactFlipPicture", fn := fun _ => fun
  | [d] => { results := [.lit (.bool true)], args := [d] }
  | _ => none }
def fnExactFlipPictureRow : OpenClaim := { program := "ytloibkfkdednoaa", sum := "33d4d290f7b76911a127f1e59b41ccd04d9ca06566135409b9726b4b52bf317b", func := "loop.example/g01322/laws.FnExactFlipPicture", spec := "fnExactFlipPicture", unfollowed := true, recurses := true, apart := false }
def FnExactFlipPictureSaid : Prop := fnExactFlipPictureRow.holds Try.pinned (OpenSpec.ofChange fnExactFlipPictureSpec)

/-- ITS FALSE NEIGHBOUR: 'it returns false'. Refute it at one input. -/
def fnExactFlipPictureWrong : ChangeSpec := { name := "fnExactFlipPicture", fn := fun _ => fun
  | [d] => { results := [.lit (.bool false)], args := [d] }
  | _ => none }
def FnExactFlipPictureWrongFalsely : Prop := fnExactFlipPictureRow.holds Try.pinned (OpenSpec.ofChange fnExactFlipPictureWrong)

/-- 'laws.FnExactTurnPicture': WHATEVER THE INPUT: true; the input reads as it did. -/
def fnExactTurnPictureSpec : ChangeSpec := { name := "fnExactTurnPicture", fn := fun _ => fun
  | [d] => { results := [.lit (.bool true)], args := [d] }
  | _ => none }
def fnExactTurnPictureRow : OpenClaim := { program := "ytloibkfkdednoaa", sum := "33d4d290f7b76911a127f1e59b41ccd04d9ca06566135409b9726b4b52bf317b", func := "loop.example/g01322/laws.FnExactTurnPicture", spec := "fnExactTurnPicture", unfollowed := true, recurses := true, apart := false }
def FnExactTurnPictureSaid : Prop := fnExactTurnPictureRow.holds Try.pinned (OpenSpec.ofChange fnExactTurnPictureSpec)

/-- ITS FALSE NEIGHBOUR: 'it returns false'. Refute it at one input. -/
def fnExactTurnPictureWrong : ChangeSpec := { name := "fnExactTurnPicture", fn := fun _ => fun
  | [d] => { results := [.lit (.bool false)], args := [d] }
  | _ => none }
def FnExactTurnPictureWrongFalsely : Prop := fnExactTurnPictureRow.holds Try.pinned (OpenSpec.ofChange fnExactTurnPictureWrong)

/-- 'laws.FnExactCutPicture': WHATEVER THE INPUT: true; the input reads as it did. -/
def fnExactCutPictureSpec : ChangeSpec := { name := "fnExactCutPicture", fn := fun _ => fun
  | [d1, d2, d3, d4, d5] => { results := [.lit (.bool true)], args := [d1, d2, d3, d4, d5] }
  | _ => none }
def fnExactCutPictureRow : OpenClaim := { program := "ytloibkfkdednoaa", sum := "33d4d290f7b76911a127f1e59b41ccd04d9ca06566135409b9726b4b52bf317b", func := "loop.example/g01322/laws.FnExactCutPicture", spec := "fnExactCutPicture", apart := false }
def FnExactCutPictureSaid : Prop := fnExactCutPictureRow.holds Try.pinned (OpenSpec.ofChange fnExactCutPictureSpec)

/-- ITS FALSE NEIGHBOUR: 'it returns false'. Refute it at one input. -/
def fnExactCutPictureWrong : ChangeSpec := { name := "fnExactCutPicture", fn := fun _ => fun
  | [d1, d2, d3, d4, d5] => { results := [.lit (.bool false)], args := [d1, d2, d3, d4, d5] }
  | _ => none }
def FnExactCutPictureWrongFalsely : Prop := fnExactCutPictureRow.holds Try.pinned (OpenSpec.ofChange fnExactCutPictureWrong)

/-- 'laws.FnExactPastePicture': WHATEVER THE INPUT: true; the input reads as it did. -/
def fnExactPastePictureSpec : ChangeSpec := { name := "fnExactPastePicture", fn := fun _ => fun
  | [d1, d2, d3, d4] => { results := [.lit (.bool true)], args := [d1, d2, d3, d4] }
  | _ => none }
def fnExactPastePictureRow : OpenClaim := { program := "ytloibkfkdednoaa", sum := "33d4d290f7b76911a127f1e59b41ccd04d9ca06566135409b9726b4b52bf317b", func := "loop.example/g01322/laws.FnExactPastePicture", spec := "fnExactPastePicture", unfollowed := true, recurses := true, apart := false }
def FnExactPastePictureSaid : Prop := fnExactPastePictureRow.holds Try.pinned (OpenSpec.ofChange fnExactPastePictureSpec)

/-- ITS FALSE NEIGHBOUR: 'it returns false'. Refute it at one input. -/
def fnExactPastePictureWrong : ChangeSpec := { name := "fnExactPastePicture", fn := fun _ => fun
  | [d1, d2, d3, d4] => { results := [.lit (.bool false)], args := [d1, d2, d3, d4] }
  | _ => none }
def FnExactPastePictureWrongFalsely : Prop := fnExactPastePictureRow.holds Try.pinned (OpenSpec.ofChange fnExactPastePictureWrong)

/-- 'laws.FnExactRecolourPicture': WHATEVER THE INPUT: true; the input reads as it did. -/
def fnExactRecolourPictureSpec : ChangeSpec := { name := "fnExactRecolourPicture", fn := fun _ => fun
  | [d1, d2, d3] => { results := [.lit (.bool true)], args := [d1, d2, d3] }
  | _ => none }
def fnExactRecolourPictureRow : OpenClaim := { program := "ytloibkfkdednoaa", sum := "33d4d290f7b76911a127f1e59b41ccd04d9ca06566135409b9726b4b52bf317b", func := "loop.example/g01322/laws.FnExactRecolourPicture", spec := "fnExactRecolourPicture", unfollowed := true, recurses := true, apart := false }
def FnExactRecolourPictureSaid : Prop := fnExactRecolourPictureRow.holds Try.pinned (OpenSpec.ofChange fnExactRecolourPictureSpec)

/-- ITS FALSE NEIGHBOUR: 'it returns false'. Refute it at one input. -/
def fnExactRecolourPictureWrong : ChangeSpec := { name := "fnExactRecolourPicture", fn := fun _ => fun
  | [d1, d2, d3] => { results := [.lit (.bool false)], args := [d1, d2, d3] }
  | _ => none }
def FnExactRecolourPictureWrongFalsely : Prop := fnExactRecolourPictureRow.holds Try.pinned (OpenSpec.ofChange fnExactRecolourPictureWrong)

/-- 'laws.FnExactValidImage': WHATEVER THE INPUT: true; the input reads as it did. -/
def fnExactValidImageSpec : ChangeSpec := { name := "fnExactValidImage", fn := fun _ => fun
  | [d] => { results := [.lit (.bool true)], args := [d] }
  | _ => none }
def fnExactValidImageRow : OpenClaim := { program := "ytloibkfkdednoaa", sum := "33d4d290f7b76911a127f1e59b41ccd04d9ca06566135409b9726b4b52bf317b", func := "loop.example/g01322/laws.FnExactValidImage", spec := "fnExactValidImage", unfollowed := true, recurses := true, apart := false }
def FnExactValidImageSaid : Prop := fnExactValidImageRow.holds Try.pinned (OpenSpec.ofChange fnExactValidImageSpec)

/-- ITS FALSE NEIGHBOUR: 'it returns false'. Refute it at one input. -/
def fnExactValidImageWrong : ChangeSpec := { name := "fnExactValidImage", fn := fun _ => fun
  | [d] => { results := [.lit (.bool false)], args := [d] }
  | _ => none }
def FnExactValidImageWrongFalsely : Prop := fnExactValidImageRow.holds Try.pinned (OpenSpec.ofChange fnExactValidImageWrong)

/- THE SECOND FORM. 'bulk': how many values and letters a reading holds, each counted each time it is reached (what is shared counts as often as it is met; a slice's spare places count too). A statement '..UptoSaid' is the law's where the arguments, and the package variables that the reading takes, are together of bulk at most 1048576: NARROWER than '..Said'. Prove '..Said' where nothing that the law and all that it calls make is longer than what came in: it says more and counts as full. Else prove '..UptoSaid'. A law counts once. -/
mutual
def uptoBulk {H : Type} : DataW H → Nat
  | .lit (.string bytes) => bytes.length + 1
  | .lit _ => 1
  | .nil => 1
  | .ptr d => uptoBulk d + 1
  | .slice elems spare => uptoBulkAll elems + uptoBulkAll spare + 1
  | .agg parts => uptoBulkAll parts + 1
  | .iface _ d => uptoBulk d + 1
  | .map entries => uptoBulkEntries entries + 1
  | .held _ => 1
def uptoBulkAll {H : Type} : List (DataW H) → Nat
  | [] => 0
  | d :: r => uptoBulk d + uptoBulkAll r
def uptoBulkEntries {H : Type} : List (Lit × DataW H) → Nat
  | [] => 0
  | x :: r => uptoBulkEntry x + uptoBulkEntries r
def uptoBulkEntry {H : Type} : Lit × DataW H → Nat
  | (.string bytes, d) => bytes.length + uptoBulk d + 1
  | (_, d) => uptoBulk d + 1
 end
def uptoSmall : (H : Type) → List (DataW H) → Bool := fun _ ds => decide (uptoBulkAll ds ≤ 1048576)
def OpenSpec.upto (s : _root_.Go.ChangeSpec) : _root_.Go.OpenSpec := { _root_.Go.OpenSpec.ofChange s with cond := some uptoSmall }

/-- 'laws.FnExactFarOf', WHERE WHAT IT READS IS OF BULK AT MOST 1048576: true; the input reads as it did. -/
def fnExactFarOfUptoRow : OpenClaim := { program := "ytloibkfkdednoaa", sum := "33d4d290f7b76911a127f1e59b41ccd04d9ca06566135409b9726b4b52bf317b", func := "loop.example/g01322/laws.FnExactFarOf", spec := "fnExactFarOf", apart := false, narrowed := true }
def FnExactFarOfUptoSaid : Prop := fnExactFarOfUptoRow.holds Try.pinned (OpenSpec.upto fnExactFarOfSpec)

/-- 'laws.FnExactBrightnessOf', WHERE WHAT IT READS IS OF BULK AT MOST 1048576: true; the input reads as it did. -/
def fnExactBrightnessOfUptoRow : OpenClaim := { program := "ytloibkfkdednoaa", sum := "33d4d290f7b76911a127f1e59b41ccd04d9ca06566135409b9726b4b52bf317b", func := "loop.example/g01322/laws.FnExactBrightnessOf", spec := "fnExactBrightnessOf", apart := false, narrowed := true }
def FnExactBrightnessOfUptoSaid : Prop := fnExactBrightnessOfUptoRow.holds Try.pinned (OpenSpec.upto fnExactBrightnessOfSpec)

/-- 'laws.FnExactCodeName', WHERE WHAT IT READS IS OF BULK AT MOST 1048576: true; the input reads as it did. -/
def fnExactCodeNameUptoRow : OpenClaim := { program := "ytloibkfkdednoaa", sum := "33d4d290f7b76911a127f1e59b41ccd04d9ca06566135409b9726b4b52bf317b", func := "loop.example/g01322/laws.FnExactCodeName", spec := "fnExactCodeName", apart := false, narrowed := true }
def FnExactCodeNameUptoSaid : Prop := fnExactCodeNameUptoRow.holds Try.pinned (OpenSpec.upto fnExactCodeNameSpec)

/-- 'laws.FnExactPlainPicture', WHERE WHAT IT READS IS OF BULK AT MOST 1048576: true; the input reads as it did. -/
def fnExactPlainPictureUptoRow : OpenClaim := { program := "ytloibkfkdednoaa", sum := "33d4d290f7b76911a127f1e59b41ccd04d9ca06566135409b9726b4b52bf317b", func := "loop.example/g01322/laws.FnExactPlainPicture", spec := "fnExactPlainPicture", unfollowed := true, recurses := true, apart := false, narrowed := true }
def FnExactPlainPictureUptoSaid : Prop := fnExactPlainPictureUptoRow.holds Try.pinned (OpenSpec.upto fnExactPlainPictureSpec)

/-- 'laws.FnExactCountColours', WHERE WHAT IT READS IS OF BULK AT MOST 1048576: true; the input reads as it did. -/
def fnExactCountColoursUptoRow : OpenClaim := { program := "ytloibkfkdednoaa", sum := "33d4d290f7b76911a127f1e59b41ccd04d9ca06566135409b9726b4b52bf317b", func := "loop.example/g01322/laws.FnExactCountColours", spec := "fnExactCountColours", unfollowed := true, recurses := true, apart := false, narrowed := true }
def FnExactCountColoursUptoSaid : Prop := fnExactCountColoursUptoRow.holds Try.pinned (OpenSpec.upto fnExactCountColoursSpec)

/-- 'laws.FnExactMirrorPicture', WHERE WHAT IT READS IS OF BULK AT MOST 1048576: true; the input reads as it did. -/
def fnExactMirrorPictureUptoRow : OpenClaim := { program := "ytloibkfkdednoaa", sum := "33d4d290f7b76911a127f1e59b41ccd04d9ca06566135409b9726b4b52bf317b", func := "loop.example/g01322/laws.FnExactMirrorPicture", spec := "fnExactMirrorPicture", unfollowed := true, recurses := true, apart := false, narrowed := true }
def FnExactMirrorPictureUptoSaid : Prop := fnExactMirrorPictureUptoRow.holds Try.pinned (OpenSpec.upto fnExactMirrorPictureSpec)

/-- 'laws.FnExactFlipPicture', WHERE WHAT IT READS IS OF BULK AT MOST 1048576: true; the input reads as it did. -/
def fnExactFlipPictureUptoRow : OpenClaim := { program := "ytloibkfkdednoaa", sum := "33d4d290f7b76911a127f1e59b41ccd04d9ca06566135409b9726b4b52bf317b", func := "loop.example/g01322/laws.FnExactFlipPicture", spec := "fnExactFlipPicture", unfollowed := true, recurses := true, apart := false, narrowed := true }
def FnExactFlipPictureUptoSaid : Prop := fnExactFlipPictureUptoRow.holds Try.pinned (OpenSpec.upto fnExactFlipPictureSpec)

/-- 'laws.FnExactTurnPicture', WHERE WHAT IT READS IS OF BULK AT MOST 1048576: true; the input reads as it did. -/
def fnExactTurnPictureUptoRow : OpenClaim := { program := "ytloibkfkdednoaa", sum := "33d4d290f7b76911a127f1e59b41ccd04d9ca06566135409b9726b4b52bf317b", func := "loop.example/g01322/laws.FnExactTurnPicture", spec := "fnExactTurnPicture", unfollowed := true, recurses := true, apart := false, narrowed := true }
def FnExactTurnPictureUptoSaid : Prop := fnExactTurnPictureUptoRow.holds Try.pinned (OpenSpec.upto fnExactTurnPictureSpec)

/-- 'laws.FnExactCutPicture', WHERE WHAT IT READS IS OF BULK AT MOST 1048576: true; the input reads as it did. -/
def fnExactCutPictureUptoRow : OpenClaim := { program := "ytloibkfkdednoaa", sum := "33d4d290f7b76911a127f1e59b41ccd04d9ca06566135409b9726b4b52bf317b", func := "loop.example/g01322/laws.FnExactCutPicture", spec := "fnExactCutPicture", apart := false, narrowed := true }
def FnExactCutPictureUptoSaid : Prop := fnExactCutPictureUptoRow.holds Try.pinned (OpenSpec.upto fnExactCutPictureSpec)

/-- 'laws.FnExactPastePicture', WHERE WHAT IT READS IS OF BULK AT MOST 1048576: true; the input reads as it did. -/
def fnExactPastePictureUptoRow : OpenClaim := { program := "ytloibkfkdednoaa", sum := "33d4d290f7b76911a127f1e59b41ccd04d9ca06566135409b9726b4b52bf317b", func := "loop.example/g01322/laws.FnExactPastePicture", spec := "fnExactPastePicture", unfollowed := true, recurses := true, apart := false, narrowed := true }
def FnExactPastePictureUptoSaid : Prop := fnExactPastePictureUptoRow.holds Try.pinned (OpenSpec.upto fnExactPastePictureSpec)

/-- 'laws.FnExactRecolourPicture', WHERE WHAT IT READS IS OF BULK AT MOST 1048576: true; the input reads as it did. -/
def fnExactRecolourPictureUptoRow : OpenClaim := { program := "ytloibkfkdednoaa", sum := "33d4d290f7b76911a127f1e59b41ccd04d9ca06566135409b9726b4b52bf317b", func := "loop.example/g01322/laws.FnExactRecolourPicture", spec := "fnExactRecolourPicture", unfollowed := true, recurses := true, apart := false, narrowed := true }
def FnExactRecolourPictureUptoSaid : Prop := fnExactRecolourPictureUptoRow.holds Try.pinned (OpenSpec.upto fnExactRecolourPictureSpec)

/-- 'laws.FnExactValidImage', WHERE WHAT IT READS IS OF BULK AT MOST 1048576: true; the input reads as it did. -/
def fnExactValidImageUptoRow : OpenClaim := { program := "ytloibkfkdednoaa", sum := "33d4d290f7b76911a127f1e59b41ccd04d9ca06566135409b9726b4b52bf317b", func := "loop.example/g01322/laws.FnExactValidImage", spec := "fnExactValidImage", unfollowed := true, recurses := true, apart := false, narrowed := true }
def FnExactValidImageUptoSaid : Prop := fnExactValidImageUptoRow.holds Try.pinned (OpenSpec.upto fnExactValidImageSpec)

end Rows
end Go.Proofs.Ytloibkfkdednoaa
