/- A disk, as it lies in a world; what is asked of it. -/
import Derived.Test.YteebmpbplenikaaOnly
import Derived.Test.YteebmpbplenikaaLd
import Derived.Test.YteebmpbplenikaaNum
import Derived.RegionTactic
import Derived.BigRegion
import Derived.ChangeAlike
import Derived.Laws.IdiomCopy
namespace Go.Proofs.Yteebmpbplenikaa
set_option linter.unusedVariables false
set_option linter.unusedSimpArgs false
open Go.ChangeShapes Go.WideShapes Go.ChangeAt Go.RowKit
/-- the cells of a disk. -/
def dkc (a : Option Addr) (n c : Nat) (left : Int) (dead : Bool) (wr : Int) : List Value := [.bool true, .slice a n c, .int .i64 left, .bool dead, .int .i64 wr]
/-- a disk that New or Clone made: its block g, its n sectors at a, which hold the octets bs. -/
structure Dsk (w : World) (g : Nat) (a : Option Addr) (n c : Nat) (bs : List UInt8) (left : Int) (dead : Bool) (wr : Int) : Prop where
  head : Blk w g (dkc a n c left dead wr) 39
  len : bs.length = 32 * n
  cap : n ≤ c
  few : n ≤ 256
  lo : -1 ≤ left
  hi : left ≤ 9223372036854775807
  sec : n = 0 ∨ ∃ s spare, a = some ⟨s, 0, none⟩ ∧ Blk w s (bcells bs ++ spare) 52 ∧ s ≠ g
/-- the blocks of a disk. -/
def dkp (g : Nat) (a : Option Addr) (k : Nat) : Prop := k = g ∨ ∃ s, a = some s ∧ k = s.block
theorem Dsk.only {g n c : Nat} {a : Option Addr} {bs : List UInt8} {left wr : Int} {dead : Bool} {w w' : World} {p : Nat → Prop} (h : Dsk w g a n c bs left dead wr) (ho : Only p w w') (hp : ∀ k, dkp g a k → ¬ p k) : Dsk w' g a n c bs left dead wr :=
  ⟨h.head.only ho (hp g (Or.inl rfl)), h.len, h.cap, h.few, h.lo, h.hi, h.sec.imp id fun ⟨s, sp, ha, hb, hn⟩ => ⟨s, sp, ha, hb.only ho (hp s (Or.inr ⟨_, ha, rfl⟩)), hn⟩⟩
theorem Dsk.keep {g n c : Nat} {a : Option Addr} {bs : List UInt8} {left wr : Int} {dead : Bool} {w w' : World} (h : Dsk w g a n c bs left dead wr) (hb : Below w.heap.size w w') : Dsk w' g a n c bs left dead wr :=
  h.only (p := fun _ => False) (Only.ofBelow' hb) fun _ _ => id
theorem unmade_nil (w : World) : Calls Try.prog 23 #[.pointer none] w fun e w' => e = .returned (.bool true) ∧ w = w' := by
  go_enter Try.func23, Try.ntmps23
  go_wp2_with fail
  go_ret
  exact ⟨rfl, rfl⟩
theorem unmade_odd (g : Nat) (w : World) (h : w.cell? ⟨g, 0, none⟩ = some (.bool false)) : Calls Try.prog 23 #[.pointer (some ⟨g, 0, none⟩)] w fun e w' => e = .returned (.bool true) ∧ w = w' := by
  go_enter Try.func23, Try.ntmps23
  go_wp2_with fail
  go_ret
  exact ⟨rfl, rfl⟩
theorem unmade_no (g : Nat) (w : World) (h : w.cell? ⟨g, 0, none⟩ = some (.bool true)) : Calls Try.prog 23 #[.pointer (some ⟨g, 0, none⟩)] w fun e w' => e = .returned (.bool false) ∧ w = w' := by
  go_enter Try.func23, Try.ntmps23
  go_wp2_with fail
  go_ret
  exact ⟨rfl, rfl⟩
theorem Dsk.cells {g n c : Nat} {a : Option Addr} {bs : List UInt8} {left wr : Int} {dead : Bool} {w : World} (h : Dsk w g a n c bs left dead wr) : w.cell? ⟨g, 0, none⟩ = some (.bool true) ∧ w.cell? ⟨g, 1, none⟩ = some (.slice a n c) ∧ w.cell? ⟨g, 2, none⟩ = some (.int .i64 left) ∧ w.cell? ⟨g, 3, none⟩ = some (.bool dead) ∧ w.cell? ⟨g, 4, none⟩ = some (.int .i64 wr) :=
  ⟨h.head.cell 0, h.head.cell 1, h.head.cell 2, h.head.cell 3, h.head.cell 4⟩
/-- is there a sector i that can be had? -/
def hasS (n : Nat) (dead : Bool) (i : Int) : Bool := !dead && decide (0 ≤ i) && decide (i < n)
theorem has_any {g n c : Nat} {a : Option Addr} {bs : List UInt8} {left wr : Int} {dead : Bool} {w : World} (h : Dsk w g a n c bs left dead wr) (i : Int) : Calls Try.prog 25 #[.pointer (some ⟨g, 0, none⟩), .int .i64 i] w fun e w' => e = .returned (.bool (hasS n dead i)) ∧ w = w' := by
  obtain ⟨h0, h1, h2, h3, h4⟩ := h.cells
  have C := Lib.hid (unmade_no g w h0)
  have EQ := Lib.hid (show hasS n dead i = (!dead && decide (0 ≤ i) && decide (i < n)) from rfl)
  generalize hasS n dead i = v at *
  clear h
  go_enter Try.func25, Try.ntmps25
  cases dead
  · by_cases hi : 0 ≤ i
    · by_cases hn : i < n
      · go_wp2_with (go_at_call 23; refine C.out.mono ?_; rintro e w' ⟨rfl, rfl⟩)
        go_ret
        exact ⟨by rw [EQ.out, decide_eq_true hi, decide_eq_true hn]; rfl, rfl⟩
      · go_wp2_with (go_at_call 23; refine C.out.mono ?_; rintro e w' ⟨rfl, rfl⟩)
        go_ret
        exact ⟨by rw [EQ.out, decide_eq_true hi, decide_eq_false (by omega)]; rfl, rfl⟩
    · go_wp2_with (go_at_call 23; refine C.out.mono ?_; rintro e w' ⟨rfl, rfl⟩)
      go_ret
      exact ⟨by rw [EQ.out, decide_eq_false (by omega)]; rfl, rfl⟩
  · go_wp2_with (go_at_call 23; refine C.out.mono ?_; rintro e w' ⟨rfl, rfl⟩)
    go_ret
    exact ⟨by rw [EQ.out]; rfl, rfl⟩
theorem dlen_any {g n c : Nat} {a : Option Addr} {bs : List UInt8} {left wr : Int} {dead : Bool} {w : World} (h : Dsk w g a n c bs left dead wr) : Calls Try.prog 18 #[.pointer (some ⟨g, 0, none⟩)] w fun e w' => e = .returned (.int .i64 n) ∧ w = w' := by
  obtain ⟨h0, h1, h2, h3, h4⟩ := h.cells
  have C := Lib.hid (unmade_no g w h0)
  clear h
  go_enter Try.func18, Try.ntmps18
  go_wp2_with (go_at_call 23; refine C.out.mono ?_; rintro e w' ⟨rfl, rfl⟩)
  go_ret
  exact ⟨rfl, rfl⟩
theorem ddead_any {g n c : Nat} {a : Option Addr} {bs : List UInt8} {left wr : Int} {dead : Bool} {w : World} (h : Dsk w g a n c bs left dead wr) : Calls Try.prog 19 #[.pointer (some ⟨g, 0, none⟩)] w fun e w' => e = .returned (.bool dead) ∧ w = w' := by
  obtain ⟨h0, h1, h2, h3, h4⟩ := h.cells
  have C := Lib.hid (unmade_no g w h0)
  clear h
  go_enter Try.func19, Try.ntmps19
  go_wp2_with (go_at_call 23; refine C.out.mono ?_; rintro e w' ⟨rfl, rfl⟩)
  go_ret
  exact ⟨rfl, rfl⟩
theorem dwritten_any {g n c : Nat} {a : Option Addr} {bs : List UInt8} {left wr : Int} {dead : Bool} {w : World} (h : Dsk w g a n c bs left dead wr) : Calls Try.prog 20 #[.pointer (some ⟨g, 0, none⟩)] w fun e w' => e = .returned (.int .i64 wr) ∧ w = w' := by
  obtain ⟨h0, h1, h2, h3, h4⟩ := h.cells
  have C := Lib.hid (unmade_no g w h0)
  clear h
  go_enter Try.func20, Try.ntmps20
  go_wp2_with (go_at_call 23; refine C.out.mono ?_; rintro e w' ⟨rfl, rfl⟩)
  go_ret
  exact ⟨rfl, rfl⟩
theorem Dsk.set_left {g n c : Nat} {a : Option Addr} {bs : List UInt8} {left wr : Int} {dead : Bool} {w : World} (h : Dsk w g a n c bs left dead wr) (z : Int) (hz : -1 ≤ z) (hz2 : z ≤ 9223372036854775807) : Dsk (w.setCell ⟨g, 2, none⟩ (.int .i64 z)) g a n c bs z dead wr :=
  ⟨h.head.set 2 _, h.len, h.cap, h.few, hz, hz2, h.sec.imp id fun ⟨s, sp, ha, hb, hn⟩ => ⟨s, sp, ha, hb.set_other hn 2 _, hn⟩⟩
theorem Dsk.set_dead {g n c : Nat} {a : Option Addr} {bs : List UInt8} {left wr : Int} {dead : Bool} {w : World} (h : Dsk w g a n c bs left dead wr) (z : Bool) : Dsk (w.setCell ⟨g, 3, none⟩ (.bool z)) g a n c bs left z wr :=
  ⟨h.head.set 3 _, h.len, h.cap, h.few, h.lo, h.hi, h.sec.imp id fun ⟨s, sp, ha, hb, hn⟩ => ⟨s, sp, ha, hb.set_other hn 3 _, hn⟩⟩
theorem Dsk.set_wr {g n c : Nat} {a : Option Addr} {bs : List UInt8} {left wr : Int} {dead : Bool} {w : World} (h : Dsk w g a n c bs left dead wr) (z : Int) : Dsk (w.setCell ⟨g, 4, none⟩ (.int .i64 z)) g a n c bs left dead z :=
  ⟨h.head.set 4 _, h.len, h.cap, h.few, h.lo, h.hi, h.sec.imp id fun ⟨s, sp, ha, hb, hn⟩ => ⟨s, sp, ha, hb.set_other hn 4 _, hn⟩⟩
/-- how many octets will still be written. -/
def armS (dead : Bool) (left z : Int) : Int := if dead then left else if z < -1 then -1 else z
theorem arm_any {g n c : Nat} {a : Option Addr} {bs : List UInt8} {left wr : Int} {dead : Bool} {w : World} (h : Dsk w g a n c bs left dead wr) (z : Int) (hzm : z ≤ 9223372036854775807) : Calls Try.prog 14 #[.pointer (some ⟨g, 0, none⟩), .int .i64 z] w fun e w' => e = .returned (.tuple #[]) ∧ Dsk w' g a n c bs (armS dead left z) dead wr ∧ Only (dkp g a) w w' := by
  obtain ⟨h0, h1, h2, h3, h4⟩ := h.cells
  have C := Lib.hid (unmade_no g w h0)
  have f2 := h.head.froz 2
  have HD := Lib.hid h
  have EQ := Lib.hid (show armS dead left z = if dead then left else if z < -1 then -1 else z from rfl)
  generalize armS dead left z = v at *
  clear h
  go_enter Try.func14, Try.ntmps14
  cases dead
  · by_cases hz : z < -1
    · have hv : v = -1 := by rw [EQ.out]; simp [hz]
      subst hv
      go_wp2_with (go_at_call 23; refine C.out.mono ?_; rintro e w' ⟨rfl, rfl⟩)
      go_end0
      exact ⟨rfl, HD.out.set_left _ (by omega) (by omega), (Only.refl _ _).setCell (Or.inl rfl) _ _⟩
    · have hv : v = z := by rw [EQ.out]; simp [hz]
      subst hv
      go_wp2_with (go_at_call 23; refine C.out.mono ?_; rintro e w' ⟨rfl, rfl⟩)
      go_end0
      exact ⟨rfl, HD.out.set_left _ (by omega) (by omega), (Only.refl _ _).setCell (Or.inl rfl) _ _⟩
  · have hv : v = left := by rw [EQ.out]; simp
    subst hv
    go_wp2_with (go_at_call 23; refine C.out.mono ?_; rintro e w' ⟨rfl, rfl⟩)
    refine bodyPost_ret (results_none rfl _ _ _) rfl ?_
    exact ⟨rfl, HD.out, Only.refl _ _⟩
theorem revive_any {g n c : Nat} {a : Option Addr} {bs : List UInt8} {left wr : Int} {dead : Bool} {w : World} (h : Dsk w g a n c bs left dead wr) : Calls Try.prog 15 #[.pointer (some ⟨g, 0, none⟩)] w fun e w' => e = .returned (.tuple #[]) ∧ Dsk w' g a n c bs (-1) false wr ∧ Only (dkp g a) w w' := by
  obtain ⟨h0, h1, h2, h3, h4⟩ := h.cells
  have C := Lib.hid (unmade_no g w h0)
  have f2 := h.head.froz 2
  have f3 := h.head.froz 3
  have HD := Lib.hid h
  clear h
  go_enter Try.func15, Try.ntmps15
  go_wp2_with (go_at_call 23; refine C.out.mono ?_; rintro e w' ⟨rfl, rfl⟩)
  go_end0
  exact ⟨rfl, (HD.out.set_dead _).set_left _ (by decide) (by decide), ((Only.refl _ _).setCell (Or.inl rfl) _ _).setCell (Or.inl rfl) _ _⟩
end Go.Proofs.Yteebmpbplenikaa
