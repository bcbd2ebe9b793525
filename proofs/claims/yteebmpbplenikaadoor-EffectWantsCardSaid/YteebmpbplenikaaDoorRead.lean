/- Octets read as numbers, one behind the other. -/
import Derived.Test.YteebmpbplenikaaDoorChg2
import Derived.Test.YteebmpbplenikaaDoorOct
import Derived.Deep.RegionHeld
import Derived.Test.YteebmpbplenikaaDoorApp
import Derived.Test.YteebmpbplenikaaDoorRow
import Derived.Test.YteebmpbplenikaaDoorOps
import Derived.RegionTactic
import Derived.BigRegion
import Derived.ChangeAlike
namespace Go.Proofs.YteebmpbplenikaaDoor
set_option linter.unusedVariables false
set_option linter.unusedSimpArgs false
open Go.ChangeShapes Go.WideShapes Go.ChangeAt Go.RowKit
/-- what a reader has left. -/
def Rest (w : World) (g : Nat) (bs : List UInt8) : Prop := ∃ a c, Rdr w g (.slice a bs.length c) true ∧ Sl w a bs.length 1 (bcells bs) ∧ bs.length ≤ c ∧ c ≤ 9223372036854775807
theorem take_rest (g k : Nat) (bs : List UInt8) (w : World) (h : Rest w g bs) (hk1 : 1 ≤ k) (hk8 : k ≤ 8) (hk : k ≤ bs.length) :
    Calls Tryd.prog 27 #[.pointer (some ⟨g, 0, none⟩), .int .i64 k] w fun e w' => e = .returned (.tuple #[.int .u64 (numOf (bs.take k)), .bool true]) ∧ Rest w' g (bs.drop k) ∧ w.grownBy w' (some g) ∧ w'.heap.size = w.heap.size := by
  obtain ⟨a, c, h1, h2, h3, h4⟩ := h
  refine (take_ok g bs.length c k a bs w h1 h2 hk1 hk8 hk h3 h4).mono ?_
  rintro e w' ⟨rfl, h5, h6, h7⟩
  refine ⟨rfl, ⟨restOf a c k, c - k, ?_, ?_, by rw [List.length_drop]; omega, by omega⟩, h6, h7⟩
  · rw [List.length_drop]; exact h5
  · rw [List.length_drop]; exact h2.cut_rest h1 hk h3 h6
/-- a number as a signed one. -/
def s64 (m : Nat) : Int := wrap64 m
theorem s64_small {m : Nat} (h : m < 9223372036854775808) : s64 m = m := by
  unfold s64 wrap64; omega
theorem Blk.grown {w w' : World} {g g0 : Nat} {cs : List Value} {t : TypeId} (h : Blk w g0 cs t) (hg : w.grownBy w' (some g)) (hne : g0 ≠ g) : Blk w' g0 cs t := by
  unfold Blk
  rw [hg.block g0 h.lt (fun e => hne (Option.some.inj e))]
  exact h
/-- a reader, what it has left in blocks below B, and a variable g0 that points to it. -/
structure Rds (w0 : World) (B0 g0 g B : Nat) (bs : List UInt8) (wr : World) : Prop where
  rest : ∃ a c, (∀ x, a = some x → x.block < B) ∧ Rdr wr g (.slice a bs.length c) true ∧ Sl wr a bs.length 1 (bcells bs) ∧ bs.length ≤ c ∧ c ≤ 9223372036854775807
  var : Blk wr g0 [.pointer (some ⟨g, 0, none⟩)] 54
  lo : B0 ≤ g
  gB : g < B
  hi : B ≤ g0
  sz : B0 ≤ wr.heap.size
  be : Below B0 w0 wr
theorem Rds.start {w0 w2 : World} {B0 g c : Nat} {a : Option Addr} {bs : List UInt8} (h1 : Rdr w2 g (.slice a bs.length c) true) (h2 : Sl w2 a bs.length 1 (bcells bs)) (hn : 0 < bs.length) (h3 : bs.length ≤ c) (h4 : c ≤ 9223372036854775807) (hlo : B0 ≤ g) (be : Below B0 w0 w2) :
    Rds w0 B0 w2.heap.size g w2.heap.size bs (w2.alloc (.cells #[.pointer (some ⟨g, 0, none⟩)] 54)) := by
  have hlt := h1.lt
  refine ⟨⟨a, c, ?_, ?_, h2.keep ((Below.refl _ _).alloc (Nat.le_refl _) _), h3, h4⟩, Blk.new _ _ _, hlo, hlt, Nat.le_refl _, by simp; omega, be.alloc (by omega) _⟩
  · intro x hx
    rcases h2.2 with h0 | ⟨b, off, ha, hb, _⟩
    · omega
    · rw [ha] at hx; injection hx with hx; subst hx; exact hb
  · have := Blk.alloc (w := w2) (g := g) (cs := [.slice a bs.length c, .bool true]) (t := 64) h1 (.cells #[.pointer (some ⟨g, 0, none⟩)] 54)
    exact this
theorem Rds.left {w0 : World} {B0 g0 g B : Nat} {bs : List UInt8} {wr : World} (h : Rds w0 B0 g0 g B bs wr) : Rest wr g bs := by
  obtain ⟨a, c, _, h1⟩ := h.rest
  exact ⟨a, c, h1⟩
theorem Rds.take {w0 : World} {B0 g0 g B k : Nat} {bs : List UInt8} {wr : World} (h : Rds w0 B0 g0 g B bs wr) (hk1 : 1 ≤ k) (hk8 : k ≤ 8) (hk : k ≤ bs.length) :
    Calls Tryd.prog 27 #[.pointer (some ⟨g, 0, none⟩), .int .i64 k] wr fun e w' => e = .returned (.tuple #[.int .u64 (numOf (bs.take k)), .bool true]) ∧ Rds w0 B0 g0 g B (bs.drop k) w' ∧ wr.grownBy w' (some g) := by
  obtain ⟨a, c, h0, h1, h2, h3, h4⟩ := h.rest
  refine (take_ok g bs.length c k a bs wr h1 h2 hk1 hk8 hk h3 h4).mono ?_
  rintro e w' ⟨rfl, h5, h6, h7⟩
  refine ⟨rfl, ⟨⟨restOf a c k, c - k, ?_, ?_, ?_, by rw [List.length_drop]; omega, by omega⟩, h.var.grown h6 (by have := h.gB; have := h.hi; omega), h.lo, h.gB, h.hi, by rw [h7]; exact h.sz, Below.grown h.be h6 h.sz fun q hq => by injection hq with hq; subst hq; exact h.lo⟩, h6⟩
  · intro x hx
    unfold restOf at hx
    split at hx
    · exact h0 x hx
    · cases a with
      | none => cases hx
      | some y =>
        simp only [Option.map_some, Option.some.injEq] at hx
        subst hx
        obtain ⟨yb, yo, ys⟩ := y
        have := h0 _ rfl
        unfold Addr.add; split <;> exact this
  · rw [List.length_drop]; exact h5
  · rw [List.length_drop]; exact h2.cut_rest h1 hk h3 h6
theorem Sl.set_far {w : World} {a : Option Addr} {n sz B g j : Nat} {xs : List Value} (h : Sl w a n sz xs) (hB : ∀ x, a = some x → x.block < B) (hg : B ≤ g) (v : Value) : Sl (w.setCell ⟨g, j, none⟩ v) a n sz xs := by
  refine ⟨h.1, h.2.imp id ?_⟩
  rintro ⟨b, off, rfl, hb, hc⟩
  have := hB _ rfl
  exact ⟨b, off, rfl, by rw [size_set]; exact hb, fun i hi => (World.cell?_setCell_far _ _ _ _ (by show g ≠ b; simp only at this; omega)).trans (hc i hi)⟩
theorem Rds.set {w0 : World} {B0 g0 g B gc j : Nat} {bs : List UInt8} {wr : World} (h : Rds w0 B0 g0 g B bs wr) (hc : g0 < gc) (v : Value) : Rds w0 B0 g0 g B bs (wr.setCell ⟨gc, j, none⟩ v) := by
  obtain ⟨a, c, h0, h1, h2, h3, h4⟩ := h.rest
  have i1 := h.lo
  have i2 := h.gB
  have i3 := h.hi
  refine ⟨⟨a, c, h0, ?_, h2.set_far h0 (by omega) v, h3, h4⟩, h.var.set_other (by omega) _ _, h.lo, h.gB, h.hi, by rw [size_set]; exact h.sz, below_set h.be (by omega) _ _⟩
  have := Blk.set_other (w := wr) (g := g) (cs := [.slice a bs.length c, .bool true]) (t := 64) h1 (g' := gc) (by omega) j v
  exact this
theorem Rds.alloc {w0 : World} {B0 g0 g B : Nat} {bs : List UInt8} {wr : World} (h : Rds w0 B0 g0 g B bs wr) (o : Obj) : Rds w0 B0 g0 g B bs (wr.alloc o) := by
  obtain ⟨a, c, h0, h1, h2, h3, h4⟩ := h.rest
  have i3 := h.hi
  refine ⟨⟨a, c, h0, ?_, h2.keep ((Below.refl _ _).alloc (Nat.le_refl _) _), h3, h4⟩, h.var.alloc _, h.lo, h.gB, h.hi, by simp; have := h.sz; omega, h.be.alloc h.sz _⟩
  have := Blk.alloc (w := wr) (g := g) (cs := [.slice a bs.length c, .bool true]) (t := 64) h1 o
  exact this
end Go.Proofs.YteebmpbplenikaaDoor
