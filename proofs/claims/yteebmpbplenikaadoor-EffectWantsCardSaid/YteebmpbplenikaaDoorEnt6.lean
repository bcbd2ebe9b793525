/- Requests that were tried: their cells whole; what their octets are read by. -/
import Derived.Test.YteebmpbplenikaaDoorEnt4
import Derived.Test.YteebmpbplenikaaDoorChg5
import Derived.Test.YteebmpbplenikaaDoorLaw02c
import Derived.Deep.QuietTactic
import Derived.BigQuiet
import Derived.Test.YteebmpbplenikaaDoorRow
import Derived.Test.YteebmpbplenikaaDoorOps
import Derived.RegionTactic
import Derived.BigRegion
import Derived.ChangeAlike
namespace Go.Proofs.YteebmpbplenikaaDoor
set_option linter.unusedVariables false
set_option linter.unusedSimpArgs false
open Go.ChangeShapes Go.WideShapes Go.ChangeAt Go.RowKit
/-- an entry's cells. -/
def enc12 (o k a n p q s l : Int) (ak gn : Bool) (b bl : Int) : List Value := [.int .i64 o, .int .i64 k, .int .i64 a, .int .i64 n, .int .i64 p, .int .i64 q, .int .i64 s, .int .i64 l, .bool ak, .bool gn, .int .i64 b, .int .i64 bl]
theorem enc12_ok (o k a n p q s l : Int) (ak gn : Bool) (b bl : Int) : Hid ((enc12 o k a n p q s l ak gn b bl).length = 12 ∧ ∀ u ∈ enc12 o k a n p q s l ak gn b bl, u.oneCell' = true) := Lib.hid (by
  refine ⟨rfl, ?_⟩
  intro u hu
  simp only [enc12, List.mem_cons, List.not_mem_nil, or_false] at hu
  rcases hu with h | h | h | h | h | h | h | h | h | h | h | h <;> subst h <;> rfl)
theorem ef_store_at {t t' g T o : Nat} {ty : TypeId} {ps : String} {af : Array Edge} {a : Act} {w : World} {ops : Array Oper} {rest : List Oper} {Q : Exit → Act → World → Prop} {x : List Int} {old : List Value}
    (hx : a.eval (.tmp t) = .pointer (some ⟨g, o, none⟩)) (hy : a.eval (.tmp t') = .agg (ints x).toArray) (hb : Blk w g old T) (hl : o + 5 ≤ old.length) (hv : Hid (x.length = 5)) (h : wpList Tryd.prog ops Q rest (a.put none undef) (w.setCells g o (ints x))) :
    wpList Tryd.prog ops Q (⟨none, .store 25 (.tmp t) (.tmp t'), ty, ps, af, none⟩ :: rest) a w :=
  wpList_store_mid rfl 25 (.tmp t) (.tmp t') rfl g o _ hx hy (hb.there o _ (by rw [List.size_toArray, ints_len, hv.out]; exact hl)) (by rw [ef_size, List.size_toArray, ints_len, hv.out]) (all_oneCell_toArray (fun u hu => ints_one hu)) (by rw [List.toList_toArray]; exact h)
/-- the effect of thirteen octets: the zero one where there is none. -/
def effOf (bs : List UInt8) : List Int := if effCode (fld bs 0 1) (fld bs 1 1) (fld bs 10 1) (fld bs 11 2) = 0 then [fld bs 0 1, fld bs 1 1, fld bs 2 8, fld bs 10 1, fld bs 11 2] else [0, 0, 0, 0, 0]
theorem effOf_len (bs : List UInt8) : (effOf bs).length = 5 := by unfold effOf; split <;> rfl
theorem eget_any (a : Option Addr) (c : Nat) (bs : List UInt8) (w : World) (h : Sl w a 13 1 (bcells bs)) :
    Calls Tryd.prog 11 #[.slice a 13 c] w fun e w' => e = .returned (.tuple #[.agg (ints (effOf bs)).toArray, .int .i64 (if effCode (fld bs 0 1) (fld bs 1 1) (fld bs 10 1) (fld bs 11 2) = 0 then 0 else 16)]) ∧ Below w.heap.size w w' := by
  by_cases hm : effCode (fld bs 0 1) (fld bs 1 1) (fld bs 10 1) (fld bs 11 2) = 0
  · have := eget_ok a c bs w h hm
    unfold effOf
    rw [if_pos hm, if_pos hm]
    exact this
  · have := eget_no a c bs w h hm
    unfold effOf
    rw [if_neg hm, if_neg hm]
    exact this
/-- an entry's octets, none where it may not be. -/
def putN (o k a n p q s l : Int) (ak gn : Bool) (b bl : Int) : List UInt8 := if mayEnt o k a p q s l ak gn b bl = true then encN o k a n p q s l ak gn b bl else []
end Go.Proofs.YteebmpbplenikaaDoor
