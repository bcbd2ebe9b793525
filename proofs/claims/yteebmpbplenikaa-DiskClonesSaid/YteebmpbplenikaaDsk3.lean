/- A disk: sectors written. -/
import Derived.Test.YteebmpbplenikaaDsk2
import Derived.RegionTactic
import Derived.BigRegion
import Derived.ChangeAlike
import Derived.Laws.IdiomCopy
namespace Go.Proofs.Yteebmpbplenikaa
set_option linter.unusedVariables false
set_option linter.unusedSimpArgs false
open Go.ChangeShapes Go.WideShapes Go.ChangeAt Go.RowKit
theorem Sl.frontD {w : World} {a : Option Addr} {n k : Nat} {bs : List UInt8} (h : Sl w a n 1 (bcells bs)) (hk : k ≤ n) : Sl w a k 1 (bcells (bs.take k)) := by
  have hbl : bs.length = n := by have := h.1; rw [bcells_len] at this; omega
  refine ⟨by rw [bcells_len, List.length_take]; omega, ?_⟩
  rcases h.2 with h0 | ⟨b, off, ha, hb, hc⟩
  · exact Or.inl (by omega)
  · refine Or.inr ⟨b, off, ha, hb, fun j hj => ?_⟩
    rw [hc j (by omega)]
    unfold bcells
    rw [List.getD_eq_getElem?_getD, List.getD_eq_getElem?_getD, List.getElem?_map, List.getElem?_map, List.getElem?_take_of_lt (by omega)]
theorem write_no {g n c : Nat} {a : Option Addr} {bs : List UInt8} {left wr : Int} {dead : Bool} {w : World} (h : Dsk w g a n c bs left dead wr) (i : Int) (ab : Option Addr) (nb cb : Nat) (xs : List UInt8) (hx : Sl w ab nb 1 (bcells xs)) (hno : hasS n dead i = false ∨ nb ≠ 32) :
    Calls Try.prog 17 #[.pointer (some ⟨g, 0, none⟩), .int .i64 i, .slice ab nb cb] w fun e w' => e = .returned (.bool false) ∧ w = w' := by
  have C := Lib.hid (has_any h i)
  clear h hx
  rcases hv : hasS n dead i with _ | _
  · rw [hv] at C
    clear hv hno
    go_enter Try.func17, Try.ntmps17
    go_wp2_with (go_at_call 25; refine C.out.mono ?_; rintro e w1 ⟨rfl, rfl⟩)
    go_ret
    exact ⟨rfl, rfl⟩
  · have hn : ¬ (nb : Int) = 32 := by rcases hno with h | h; (· rw [hv] at h; cases h); (· omega)
    rw [hv] at C
    clear hv hno
    go_enter Try.func17, Try.ntmps17
    go_wp2_with (go_at_call 25; refine C.out.mono ?_; rintro e w1 ⟨rfl, rfl⟩)
    go_ret
    exact ⟨rfl, rfl⟩
theorem write_full {g n c : Nat} {a : Option Addr} {bs : List UInt8} {wr : Int} {w : World} (h : Dsk w g a n c bs (-1) false wr) (i : Nat) (hi : i < n) (ab : Option Addr) (cb : Nat) (xs : List UInt8) (hx : Sl w ab 32 1 (bcells xs)) :
    Calls Try.prog 17 #[.pointer (some ⟨g, 0, none⟩), .int .i64 i, .slice ab 32 cb] w fun e w' => e = .returned (.bool true) ∧ Dsk w' g a n c (setSeg bs (32 * i) xs) (-1) false (wrap64 (wr + 32)) ∧ Only (dkp g a) w w' := by
  have C := Lib.hid (has_any h (i : Int))
  rw [show hasS n false (i : Int) = true by unfold hasS; simp; omega] at C
  have PU := Lib.hid (put_any h i hi ab 32 cb xs hx (by decide))
  obtain ⟨h0, h1, h2, h3, h4⟩ := h.cells
  clear h hx
  go_enter Try.func17, Try.ntmps17
  go_wp2_with (go_at_call 25; refine C.out.mono ?_; rintro e w1 ⟨rfl, rfl⟩)
  refine PU.out.mono ?_
  rintro e w2 ⟨rfl, hd, ho⟩
  have R := Lib.hid (And.intro hd ho)
  clear hd ho
  go_wp2_with fail
  go_ret
  exact ⟨rfl, R.out⟩
theorem write_more {g n c : Nat} {a : Option Addr} {bs : List UInt8} {left wr : Int} {w : World} (h : Dsk w g a n c bs left false wr) (hl : 32 ≤ left) (i : Nat) (hi : i < n) (ab : Option Addr) (cb : Nat) (xs : List UInt8) (hx : Sl w ab 32 1 (bcells xs)) :
    Calls Try.prog 17 #[.pointer (some ⟨g, 0, none⟩), .int .i64 i, .slice ab 32 cb] w fun e w' => e = .returned (.bool true) ∧ Dsk w' g a n c (setSeg bs (32 * i) xs) (left - 32) false (wrap64 (wr + 32)) ∧ Only (dkp g a) w w' := by
  have C := Lib.hid (has_any h (i : Int))
  rw [show hasS n false (i : Int) = true by unfold hasS; simp; omega] at C
  have PU := Lib.hid (put_any h i hi ab 32 cb xs hx (by decide))
  obtain ⟨h0, h1, h2, h3, h4⟩ := h.cells
  have hl2 := h.hi
  have n1 : ¬ left = -1 := by omega
  have n2 : ¬ left < 32 := by omega
  clear h hx
  go_enter Try.func17, Try.ntmps17
  go_wp2_with (go_at_call 25; refine C.out.mono ?_; rintro e w1 ⟨rfl, rfl⟩)
  refine PU.out.mono ?_
  rintro e w2 ⟨rfl, hd, ho⟩
  have q2 := hd.cells.2.2.1
  have f2 := hd.head.froz 2
  have R := Lib.hid (And.intro (hd.set_left (left - 32) (by omega) (by omega)) (ho.setCell (g := g) (Or.inl rfl) 2 (.int .i64 (left - 32))))
  clear hd ho h0 h1 h2 h3 h4
  go_wp2_with fail
  go_ret
  exact ⟨rfl, R.out⟩
theorem write_cut {g n c : Nat} {a : Option Addr} {bs : List UInt8} {wr : Int} {w : World} (k : Nat) (h : Dsk w g a n c bs (k : Int) false wr) (hk : k < 32) (i : Nat) (hi : i < n) (ab : Option Addr) (cb : Nat) (hcb : 32 ≤ cb) (xs : List UInt8) (hx : Sl w ab 32 1 (bcells xs)) :
    Calls Try.prog 17 #[.pointer (some ⟨g, 0, none⟩), .int .i64 i, .slice ab 32 cb] w fun e w' => e = .returned (.bool false) ∧ Dsk w' g a n c (setSeg bs (32 * i) (xs.take k)) (-1) true (wrap64 (wr + k)) ∧ Only (dkp g a) w w' := by
  have C := Lib.hid (has_any h (i : Int))
  rw [show hasS n false (i : Int) = true by unfold hasS; simp; omega] at C
  have PU := Lib.hid (put_any h i hi ab k cb (xs.take k) (hx.frontD (by omega)) (by omega))
  obtain ⟨h0, h1, h2, h3, h4⟩ := h.cells
  have hl2 := h.hi
  have n1 : ¬ (k : Int) = -1 := by omega
  have n2 : (k : Int) < 32 := by omega
  have n3 : (k : Int) ≤ cb := by omega
  clear h hx hk hcb
  go_enter Try.func17, Try.ntmps17
  go_wp2_with (go_at_call 25; refine C.out.mono ?_; rintro e w1 ⟨rfl, rfl⟩)
  refine PU.out.mono ?_
  rintro e w2 ⟨rfl, hd, ho⟩
  have q2 := hd.cells.2.2.1
  have f2 := hd.head.froz 2
  have q3 := hd.cells.2.2.2.1
  have f3 := hd.head.froz 3
  have R := Lib.hid (And.intro ((hd.set_dead true).set_left (-1) (by decide) (by decide)) ((ho.setCell (g := g) (Or.inl rfl) 3 (.bool true)).setCell (g := g) (Or.inl rfl) 2 (.int .i64 (-1))))
  clear hd ho h0 h1 h2 h3 h4
  go_wp2_with fail
  go_ret
  exact ⟨rfl, R.out⟩
end Go.Proofs.Yteebmpbplenikaa
