/- Two changes, sorted: slices.SortStableFunc, stamp.Sorted. -/
import Derived.Test.YtbdonjapcpfgiaaStm5
import Derived.Deep.DeepCutAuto
import Derived.Maps.AppendAt
import Derived.Test.YtbdonjapcpfgiaaRow
import Derived.Test.YtbdonjapcpfgiaaOps
import Derived.RegionTactic
import Derived.BigRegion
import Derived.ChangeAlike
namespace Go.Proofs.Ytbdonjapcpfgiaa
set_option linter.unusedVariables false
set_option linter.unusedSimpArgs false
open Go.ChangeShapes Go.WideShapes Go.ChangeAt Go.RowKit
theorem stable2 (X Y S : List Value) (g c : Nat) (k : Int) (w : World) (A : Hid (Blk w g (X ++ (Y ++ S)) 25)) (lx : X.length = 9) (ly : Y.length = 9) (hX : Hid (∀ u ∈ X, u.oneCell' = true)) (hY : Hid (∀ u ∈ Y, u.oneCell' = true))
    (C : Hid (∀ w', Calls Try.prog 20 #[.agg Y.toArray, .agg X.toArray] w' fun e w2 => e = .returned (.int .i64 k) ∧ Below w'.heap.size w' w2)) (hk : k < 0) :
    Calls Try.prog 32 #[.slice (some ⟨g, 0, none⟩) 2 c, .int .i64 2, .func (.func 20) #[] #[]] w fun e w' => e = .returned (.tuple #[]) ∧ Blk w' g (Y ++ (X ++ S)) 25 ∧ Only (fun k => k = g) w w' := by
  have I := Lib.hid (isort2 X Y S g c k w A lx ly hX hY C hk)
  clear lx ly hk C A hX hY
  go_enter Try.func32, Try.ntmps32
  go_upto_region 2 with fail
  go_loopg [7, 8] 0 (fun q s7 s8 wr => q = 0 ∧ s7 = .int .i64 0 ∧ s8 = .int .i64 20 ∧ w = wr)
  case atStart => exact ⟨rfl, rfl, rfl, rfl⟩
  case round =>
    obtain ⟨hq, rfl, rfl, rfl⟩ := hrel
    go_wp2_with fail
    refine I.out.mono ?_
    rintro e w2 ⟨rfl, hA, hO⟩
    have HA := Lib.hid hA
    have HO := Lib.hid hO
    clear hA hO I
    go_wp2_with fail
    go_loopg [6] 0 (fun q s6 wr => q = 0 ∧ s6 = .int .i64 20 ∧ w2 = wr)
    case atStart => exact ⟨rfl, rfl, rfl⟩
    case round =>
      obtain ⟨hq, rfl, rfl⟩ := hrel
      go_wp2_with fail
      go_end0
      exact ⟨rfl, HA.out, HO.out⟩
theorem sortst2 (X Y S : List Value) (g c : Nat) (k : Int) (w : World) (A : Hid (Blk w g (X ++ (Y ++ S)) 25)) (lx : X.length = 9) (ly : Y.length = 9) (hX : Hid (∀ u ∈ X, u.oneCell' = true)) (hY : Hid (∀ u ∈ Y, u.oneCell' = true))
    (C : Hid (∀ w', Calls Try.prog 20 #[.agg Y.toArray, .agg X.toArray] w' fun e w2 => e = .returned (.int .i64 k) ∧ Below w'.heap.size w' w2)) (hk : k < 0) :
    Calls Try.prog 27 #[.slice (some ⟨g, 0, none⟩) 2 c, .func (.func 20) #[] #[]] w fun e w' => e = .returned (.tuple #[]) ∧ Blk w' g (Y ++ (X ++ S)) 25 ∧ Only (fun k => k = g) w w' := by
  have I := Lib.hid (stable2 X Y S g c k w A lx ly hX hY C hk)
  clear lx ly hk C A hX hY
  go_enter Try.func27, Try.ntmps27
  go_wp2_with fail
  refine I.out.mono ?_
  rintro e w2 ⟨rfl, hA, hO⟩
  have HA := Lib.hid hA
  have HO := Lib.hid hO
  clear hA hO I
  go_wp2_with fail
  go_end0
  exact ⟨rfl, HA.out, HO.out⟩
end Go.Proofs.Ytbdonjapcpfgiaa
