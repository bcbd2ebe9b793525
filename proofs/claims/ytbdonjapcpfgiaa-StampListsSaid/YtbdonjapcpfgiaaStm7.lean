/- Two changes, sorted: stamp.Sorted. -/
import Derived.Test.YtbdonjapcpfgiaaStm6
import Derived.Deep.DeepCutAuto
import Derived.Maps.AppendAt
import Derived.Test.YtbdonjapcpfgiaaRow
import Derived.Test.YtbdonjapcpfgiaaOps
import Derived.RegionTactic
import Derived.BigRegion
import Derived.ChangeAlike
namespace Go.Proofs.Ytbdonjapcpfgiaa
set_option linter.unusedVariables false
set_option linter.unusedSimpArgs false
open Go.ChangeShapes Go.WideShapes Go.ChangeAt Go.RowKit
theorem own_blkS {w : World} {B n sz : Nat} {e : TypeId} {v : Value} {xs : List Value} (h : w.ownsRow B e sz v n xs) : ∃ a c, v = .slice a n c ∧ n ≤ c ∧ c ≤ maxLen ∧ xs.length = n * sz ∧ (n = 0 ∧ a = none ∨ ∃ g spare, a = some ⟨g, 0, none⟩ ∧ B ≤ g ∧ Blk w g (xs ++ spare) e ∧ (xs ++ spare).length = c * sz) := by
  obtain ⟨h1, h2⟩ := h
  rcases h2 with ⟨rfl, rfl⟩ | ⟨g, cap, cur, rfl, hB, hh, hn, hc, hcs_, hx⟩
  · exact ⟨none, 0, rfl, Nat.le_refl _, Nat.zero_le _, h1, Or.inl ⟨rfl, rfl⟩⟩
  · refine ⟨_, cap, rfl, hn, hc, h1, Or.inr ⟨g, cur.toList.drop (n * sz), rfl, hB, ?_, by rw [← hx, List.take_append_drop, Array.length_toList, hcs_]⟩⟩
    unfold Blk
    rw [hh, ← hx, List.take_append_drop, Array.toArray_toList]
theorem sorted2 (x y : List Int) (a : Option Addr) (c : Nat) (k : Int) (w : World) (HS : Hid (Sl w a 2 9 (ints (x ++ y)))) (hnil : a = none → c = 0) (lx : x.length = 9) (ly : y.length = 9)
    (C : Hid (∀ w', Calls Try.prog 20 #[.agg (ints y).toArray, .agg (ints x).toArray] w' fun e w2 => e = .returned (.int .i64 k) ∧ Below w'.heap.size w' w2)) (hk : k < 0) :
    Calls Try.prog 18 #[.slice a 2 c] w fun e w' => ∃ g c2 S, e = .returned (.slice (some ⟨g, 0, none⟩) 2 c2) ∧ 2 ≤ c2 ∧ c2 ≤ maxLen ∧ w.heap.size ≤ g ∧ 18 + S.length = c2 * 9 ∧ Blk w' g (ints y ++ (ints x ++ S)) 25 ∧ Below w.heap.size w w' := by
  have CL := Lib.hid (cclone_any a 2 c (x ++ y) w HS.out hnil (by decide))
  have I := Lib.hid (fun g S c2 (w2 : World) (A : Hid (Blk w2 g (ints x ++ (ints y ++ S)) 25)) => sortst2 (ints x) (ints y) S g c2 k w2 A (by rw [ints_len, lx]) (by rw [ints_len, ly]) (Lib.hid fun u hu => ints_one hu) (Lib.hid fun u hu => ints_one hu) C hk)
  have EA : Hid (ints (x ++ y) = ints x ++ ints y) := Lib.hid (ints_appG x y)
  clear lx ly hk C HS hnil
  go_enter Try.func18, Try.ntmps18
  go_wp2_with fail
  refine CL.out.mono ?_
  rintro e w2 ⟨v, rfl, hown, hb⟩
  have HB := Lib.hid hb
  obtain ⟨a2, c2, rfl, h2, h3, h4, h5⟩ := own_blkS hown
  rcases h5 with ⟨h5, _⟩ | ⟨g, S, rfl, hg, hA, hlS⟩
  · exact absurd h5 (by decide)
  rw [EA.out, List.append_assoc] at hA
  have HA := Lib.hid hA
  have HLS : Hid (18 + S.length = c2 * 9) := Lib.hid (by have := h4; rw [List.length_append] at hlS; omega)
  clear hlS
  have I2 := Lib.hid (I.out g S c2 w2 HA)
  have H2 := Lib.hid h2
  have H3 := Lib.hid h3
  have HG := Lib.hid hg
  clear hA hb hown h4 CL I
  go_wp2_with fail
  refine I2.out.mono ?_
  rintro e w3 ⟨rfl, hA, hO⟩
  have HA3 := Lib.hid hA
  have HB3 := Lib.hid (HB.out.trans (hO.toBelow (fun k hk => hk ▸ HG.out) HB.out.size))
  clear hA hO I2
  go_wp2_with fail
  go_ret
  exact ⟨g, c2, S, rfl, H2.out, H3.out, HG.out, HLS.out, HA3.out, HB3.out⟩
end Go.Proofs.Ytbdonjapcpfgiaa
