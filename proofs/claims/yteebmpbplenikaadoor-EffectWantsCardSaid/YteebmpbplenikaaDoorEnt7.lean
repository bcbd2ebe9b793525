/- An entry out of its octets. -/
import Derived.Test.YteebmpbplenikaaDoorEnt6
import Derived.Test.YteebmpbplenikaaDoorRow
import Derived.Test.YteebmpbplenikaaDoorOps
import Derived.RegionTactic
import Derived.BigRegion
import Derived.ChangeAlike
namespace Go.Proofs.YteebmpbplenikaaDoor
set_option linter.unusedVariables false
set_option linter.unusedSimpArgs false
open Go.ChangeShapes Go.WideShapes Go.ChangeAt Go.RowKit
def actB (f : Int) : Bool := bits .and .i64 f 1 != 0
def gonB (f : Int) : Bool := bits .and .i64 f 2 != 0
/-- what entry.Get answers. -/
def getN (ok : Bool) (o k a n p q s l : Int) (ak gn : Bool) (b bl : Int) : List Value := if ok then enc12 o k a n p q s l ak gn b bl else [.int .i64 0, .int .i64 0, .int .i64 0, .int .i64 0, .int .i64 0, .int .i64 0, .int .i64 0, .int .i64 0, .bool false, .bool false, .int .i64 0, .int .i64 0]
theorem eget_ex (a : Option Addr) (c : Nat) (bs : List UInt8) (w : World) (h : Sl w a 13 1 (bcells bs)) :
    Calls Tryd.prog 11 #[.slice a 13 c] w fun e w' => ∃ code, e = .returned (.tuple #[.agg (ints (effOf bs)).toArray, .int .i64 code]) ∧ Below w.heap.size w w' :=
  (eget_any a c bs w h).mono fun e w' hh => ⟨_, hh⟩
theorem Rds.keep {w0 : World} {B0 g0 g B : Nat} {bs : List UInt8} {wr w2 : World} (h : Rds w0 B0 g0 g B bs wr) (hb : Below wr.heap.size wr w2) : Rds w0 B0 g0 g B bs w2 := by
  obtain ⟨a, c, h0, h1, h2, h3, h4⟩ := h.rest
  exact ⟨⟨a, c, h0, (hb.block g h1.lt).trans h1, h2.keep hb, h3, h4⟩, h.var.keep hb h.var.lt, h.lo, h.gB, h.hi, Nat.le_trans h.sz hb.size, h.be.trans (hb.mono h.sz)⟩
theorem Rds.sets {w0 : World} {B0 g0 g B gc : Nat} {bs : List UInt8} (hc : g0 < gc) (vs : List Value) : ∀ (j : Nat) {wr : World}, Rds w0 B0 g0 g B bs wr → Rds w0 B0 g0 g B bs (wr.setCells gc j vs) := by
  induction vs with
  | nil => intro j wr h; exact h
  | cons v r ih => intro j wr h; exact ih _ (h.set hc v)
end Go.Proofs.YteebmpbplenikaaDoor
