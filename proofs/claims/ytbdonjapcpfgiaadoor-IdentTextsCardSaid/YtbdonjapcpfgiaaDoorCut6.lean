/- strings.Cut at one octet. -/
import Derived.Test.YtbdonjapcpfgiaaDoorCalls
import Derived.Test.YtbdonjapcpfgiaaDoorOct
import Derived.Lib.IndexLaws
import Derived.Deep.QuietTactic
import Derived.BigQuiet
import Derived.Deep.DeepCutAuto
import Derived.Maps.AppendAt
import Derived.Test.YtbdonjapcpfgiaaDoorRow
import Derived.Test.YtbdonjapcpfgiaaDoorOps
import Derived.RegionTactic
import Derived.BigRegion
import Derived.ChangeAlike
namespace Go.Proofs.YtbdonjapcpfgiaaDoor
set_option linter.unusedVariables false
set_option linter.unusedSimpArgs false
open Go.ChangeShapes Go.WideShapes Go.ChangeAt Go.RowKit
theorem ret_tmp3c {P : Program} {fn : Func} {R : Ending → World → Prop} {a : Act} {w : World} {p q r : Nat} {x y z : Value} (h : fn.results = #[.tmp p, .tmp q, .tmp r]) (hp : a.tmps.getD p undef = x) (hq : a.tmps.getD q undef = y) (hr : a.tmps.getD r undef = z) (hdf : a.defers = []) (hR : R (.returned (.tuple #[x, y, z])) w) : bodyPost P fn R .ret a w := by
  have hp' : a.tmps[p]?.getD undef = x := by simpa using hp
  have hq' : a.tmps[q]?.getD undef = y := by simpa using hq
  have hr' : a.tmps[r]?.getD undef = z := by simpa using hr
  refine bodyPost_ret ?_ hdf hR
  simp [results, h, hp', hq', hr']
theorem below_drewN (w : World) (n : Nat) : Below w.heap.size w (w.drewN n) := ⟨rfl, rfl, rfl, Nat.le_refl _, fun _ _ => rfl⟩
set_option maxHeartbeats 2000000 in
theorem cut2_yes (s : ByteArray) (c : UInt8) (i : Nat) (h : Lib.indexByte s.data.toList c = i) (hi : i < s.size) (hs : s.size ≤ 9223372036854775806) (w : World) : Calls Tryd.prog 32 #[.string s, .string ⟨#[c]⟩] w fun e w' => e = .returned (.tuple #[.string (s.extract 0 i), .string (s.extract (i + 1) s.size), .bool true]) ∧ Below w.heap.size w w' := by
  have C := Lib.hid (fun w => stringslite_Index_one s c w)
  rw [h] at C
  have h0 : (0 : Int) ≤ i := by omega
  have h1 : (i : Int) < s.size := by omega
  have h2 : (i : Int) + 1 ≤ s.size := by omega
  have h3 : (s.size : Int) ≤ 9223372036854775806 := by omega
  clear h hi
  go_enter Tryd.func32, Tryd.ntmps32
  go_wp2_with fail
  refine (C.out _).mono ?_
  rintro e w2 ⟨rfl, rfl⟩
  go_upto_region 3 with fail
  go_quiet (fail)
  go_wp2_with fail
  exact ret_tmp3c (p := 4) (q := 5) (r := 6) rfl rfl rfl rfl rfl ⟨rfl, below_drewN _ _⟩
theorem cut2_no (s : ByteArray) (c : UInt8) (h : Lib.indexByte s.data.toList c = -1) (w : World) : Calls Tryd.prog 32 #[.string s, .string ⟨#[c]⟩] w fun e w' => e = .returned (.tuple #[.string s, .string ⟨#[]⟩, .bool false]) ∧ Below w.heap.size w w' := by
  have C := Lib.hid (fun w => stringslite_Index_one s c w)
  rw [h] at C
  clear h
  go_enter Tryd.func32, Tryd.ntmps32
  go_wp2_with fail
  refine (C.out _).mono ?_
  rintro e w2 ⟨rfl, rfl⟩
  go_wp2_with fail
  exact ret_tmp3c (p := 4) (q := 5) (r := 6) rfl rfl rfl rfl rfl ⟨rfl, Below.refl _ _⟩
theorem cut_yes (s : ByteArray) (c : UInt8) (i : Nat) (h : Lib.indexByte s.data.toList c = i) (hi : i < s.size) (hs : s.size ≤ 9223372036854775806) (w : World) : Calls Tryd.prog 26 #[.string s, .string ⟨#[c]⟩] w fun e w' => e = .returned (.tuple #[.string (s.extract 0 i), .string (s.extract (i + 1) s.size), .bool true]) ∧ Below w.heap.size w w' := by
  have C := Lib.hid (fun w => cut2_yes s c i h hi hs w)
  generalize s.extract 0 i = s1 at *
  generalize s.extract (i + 1) s.size = s2 at *
  clear h hi hs
  go_enter Tryd.func26, Tryd.ntmps26
  go_wp2_with fail
  refine (C.out _).mono ?_
  rintro e w2 ⟨rfl, hb⟩
  go_wp2_with fail
  exact ret_tmp3c (p := 4) (q := 5) (r := 6) rfl rfl rfl rfl rfl ⟨rfl, hb⟩
theorem cut_no (s : ByteArray) (c : UInt8) (h : Lib.indexByte s.data.toList c = -1) (w : World) : Calls Tryd.prog 26 #[.string s, .string ⟨#[c]⟩] w fun e w' => e = .returned (.tuple #[.string s, .string ⟨#[]⟩, .bool false]) ∧ Below w.heap.size w w' := by
  have C := Lib.hid (fun w => cut2_no s c h w)
  clear h
  go_enter Tryd.func26, Tryd.ntmps26
  go_wp2_with fail
  refine (C.out _).mono ?_
  rintro e w2 ⟨rfl, hb⟩
  go_wp2_with fail
  exact ret_tmp3c (p := 4) (q := 5) (r := 6) rfl rfl rfl rfl rfl ⟨rfl, hb⟩
end Go.Proofs.YtbdonjapcpfgiaaDoor
