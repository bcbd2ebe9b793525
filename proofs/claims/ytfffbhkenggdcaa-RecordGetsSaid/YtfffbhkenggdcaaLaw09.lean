/- The statements of changes: their octets. -/
import Derived.Test.YtfffbhkenggdcaaChg8
import Derived.Test.YtfffbhkenggdcaaChg6
import Derived.Test.YtfffbhkenggdcaaChg4
import Derived.Test.YtfffbhkenggdcaaMath9
import Derived.Test.YtfffbhkenggdcaaChgEq
import Derived.Test.YtfffbhkenggdcaaLaw02
import Derived.Test.YtfffbhkenggdcaaHeld
import Derived.Test.YtfffbhkenggdcaaRd
import Derived.Test.YtfffbhkenggdcaaOct
import Derived.Test.YtfffbhkenggdcaaApp
import Derived.Test.YtfffbhkenggdcaaRow
import Derived.Test.YtfffbhkenggdcaaOps
import Derived.RegionTactic
import Derived.BigRegion
import Derived.ChangeAlike
namespace Go.Proofs.Ytfffbhkenggdcaa
set_option linter.unusedVariables false
set_option linter.unusedSimpArgs false
open Go.ChangeShapes Go.WideShapes Go.ChangeAt Go.RowKit
theorem get_enc {r s t k a b n p q : Int} (hm : mayChg r s t k a b p q = true) (hn : fits n = true) (a' : Option Addr) (c' : Nat) (w : World) (h : Sl w a' 22 1 (bcells (encOf r s t k a b n p q))) :
    Calls Try.prog 30 #[.slice a' 22 c'] w fun e w' => e = .returned (.tuple #[.agg (ints [r, s, t, k, a, b, n, p, q]).toArray, .int .i64 0]) ∧ Below w.heap.size w w' := by
  have E := dec_enc hm hn
  have E2 := E
  simp only [List.cons.injEq, and_true] at E2
  obtain ⟨e0, e1, e2, e3, e4, e5, e6, e7, e8⟩ := E2
  have := get_ok a' c' (encOf r s t k a b n p q) w h (enc_last r s t k a b n p q) (by rw [e0, e1, e2, e3, e4, e5, e7, e8]; exact hm)
  rwa [E] at this
end Go.Proofs.Ytfffbhkenggdcaa
