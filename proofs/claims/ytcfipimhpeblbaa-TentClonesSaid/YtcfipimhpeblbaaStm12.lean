/- slices.Backward over changes: its contract. -/
import Derived.Test.YtcfipimhpeblbaaStm11
import Derived.RangeFuncNested
import Derived.RangeFuncBound
import Derived.RangeFuncCalls
import Derived.RangeFuncLeaves
import Derived.RangeFuncBox
import Derived.Shelf.Abstract
import Derived.WalkKit
import Derived.OwnWalkIn
import Derived.TacticsInMore
import Derived.LoopNIn
import Derived.LoopIn
import Derived.Deep.DeepCutAuto
import Derived.Maps.AppendAt
import Derived.Test.YtcfipimhpeblbaaRow
import Derived.Test.YtcfipimhpeblbaaOps
import Derived.RegionTactic
import Derived.BigRegion
import Derived.ChangeAlike
namespace Go.Proofs.Ytcfipimhpeblbaa
set_option linter.unusedVariables false
set_option linter.unusedSimpArgs false
open Go.ChangeShapes Go.WideShapes Go.ChangeAt Go.RowKit
attribute [local go_sem] Oper.semAt_some
theorem li_run {F : Fence} {n : Nat} {P : Program} {w w' : World} {ops : Array Oper} {rest : List Oper} {o : Oper} {a : Act} {Q : Exit → Act → World → Prop} {v : Value} (hg : o.guard = none) (hd : ∀ c, o.op ≠ .defer c) (hab : o.about P w a.eval = none)
    (hr : (execOp a.eval o).run P w = .ok (.value v) w') (h : wpListIn F n P ops Q rest (a.put o.dst v) w') : wpListIn F n P ops Q (o :: rest) a w := by
  refine wpListIn_plain hg fun K hK => ?_
  unfold Oper.wpIn
  refine ⟨(fun f hf => by rw [hab] at hf; cases hf), ?_⟩
  rw [Oper.semAt_plain F _ _ hd, hr]
  exact hK _ _ h
theorem li_row {F : Fence} {n : Nat} {w : World} {ops : Array Oper} {rest : List Oper} {a : Act} {Q : Exit → Act → World → Prop} {T g o d t : Nat} {cs : List Value} {ty : TypeId} {ps : String} {af : Array Edge} (hb : w.rangeAt g o cs) (hT : RowT T cs.length)
    (hx : a.eval (.tmp t) = .pointer (some ⟨g, o, none⟩)) (h : wpListIn F n Try.prog ops Q rest (a.put (some d) (.agg cs.toArray)) w) : wpListIn F n Try.prog ops Q (⟨some d, .load T (.tmp t), ty, ps, af, none⟩ :: rest) a w := by
  obtain ⟨⟨td, h1, h2⟩, h3⟩ := hT
  exact li_run rfl (fun c e => by cases e) rfl (run_op_load rfl hx hb h1 h2 h3) h
theorem slKeepB {w w' : World} {a : Option Addr} {n sz n₀ : Nat} {xs : List Value} (h : Sl w a n sz xs) (ha : n = 0 ∨ ∀ ad, a = some ad → ad.block < n₀) (hb : Below n₀ w w') : Sl w' a n sz xs := by
  rcases ha with h0 | ha
  · exact ⟨h.1, Or.inl h0⟩
  refine ⟨h.1, h.2.imp id ?_⟩
  rintro ⟨b, off, rfl, hlt, hc⟩
  have hbn := ha _ rfl
  exact ⟨b, off, rfl, Nat.lt_of_lt_of_le hlt hb.size, fun j hj => (hb.cell (p := ⟨b, off + j, none⟩) hbn).trans (hc j hj)⟩
/-- a row by its place; beyond them all one of noughts. -/
def rw9 (L : List Int) (n j : Nat) : List Int := if j < n then rAt 9 L j else List.replicate 9 0
theorem rw9_len {L : List Int} {n : Nat} (hl : L.length = n * 9) (j : Nat) : (rw9 L n j).length = 9 := by
  unfold rw9
  split
  · rename_i h; exact rAt_len hl h
  · rfl
theorem rw9_at {L : List Int} {n j : Nat} (h : j < n) : rw9 L n j = rAt 9 L j := if_pos h
/-- the places from the last one down: the first k of them. -/
def downs (n k : Nat) : List Nat := (List.range k).map fun j => n - 1 - j
theorem downs_succ (n k : Nat) : downs n (k + 1) = downs n k ++ [n - 1 - k] := by simp [downs, List.range_succ]
theorem downs_len (n k : Nat) : (downs n k).length = k := by simp [downs]
def encB (L : List Int) (n : Nat) (j : Nat) : Array Value := #[.int .i64 (j : Int), .agg (ints (rw9 L n j)).toArray]
set_option maxRecDepth 100000 in
set_option maxHeartbeats 4000000 in
theorem back1_in (F : Fence) (n : Nat) (hf : F.fn 40) (hro : F.round = none) (hn : 1 ≤ n) (l Bs n₀ len cap : Nat) (a : Option Addr) (L : List Int) (hlen : len ≤ 1000) (ha : len = 0 ∨ ∀ ad, a = some ad → ad.block < n₀) (J Jx : List Nat → World → Prop)
    (hY : ∀ pre x W, J pre W → pre.length < len → YieldAt F (n - 1) Try.prog l (encB L len x) W fun e W' =>
      (e = .returned (.bool true) ∧ J (pre ++ [x]) W' ∧ Below n₀ W W') ∨ (e = .returned (.bool false) ∧ Jx (pre ++ [x]) W'))
    (W : World) (hB0 : Bs < n₀) (hBs : W.cell? ⟨Bs, 0, none⟩ = some (.slice a len cap)) (hS : Sl W a len 9 (ints L)) (h0 : J [] W) :
    CallsIn F n Try.prog 40 #[.func (.yield l) #[] #[], .pointer (some ⟨Bs, 0, none⟩)] W fun e W' => (∃ v, e = .returned v) ∧
      ((∃ ys, ys = downs len len ∧ J ys W') ∨ (∃ pre, (∃ k, k ≤ len ∧ pre = downs len k) ∧ Jx pre W')) := by
  have HL : L.length = len * 9 := by have := hS.1; rwa [ints_len] at this
  refine callsIn_of_wp Try.func40 rfl hf ?_ hro
  simp only [Try.ntmps40, List.size_toArray, List.length_cons, List.length_nil, Nat.reduceAdd, Nat.reduceSub, Array.replicate_succ, Array.replicate_zero, List.push_toArray, List.append_toArray, List.nil_append, List.cons_append]
  have hl1 : (len : Int) ≤ 1000 := by omega
  have hl0 : (0 : Int) ≤ len := by omega
  gi_wp2
  gi_loopw [3] (fun i wr => ∃ (m : Nat) (z : Int), Hid (m ≤ len ∧ z = len - 1 - m) ∧ i = .int .i64 z ∧ J (downs len m) wr ∧ Below n₀ W wr)
    (fun i _ => (intOf i + 1).toNat)
  case atStart => exact ⟨0, (len : Int) - 1, Lib.hid ⟨Nat.zero_le _, by omega⟩, by first | rfl | go_num, h0, Below.refl _ _⟩
  case round =>
    obtain ⟨m, z, HM, rfl, hJs, hnx⟩ := hrel
    have hbx := (hnx.cell (p := ⟨Bs, 0, none⟩) hB0).trans hBs
    by_cases hlt : m < len
    · obtain ⟨i, hi⟩ : ∃ i : Nat, i + m + 1 = len := ⟨len - m - 1, by omega⟩
      have hz := HM.out.2
      obtain rfl : z = (i : Int) := by omega
      have hil : i < len := by omega
      have HI := Lib.hid hi
      clear hz hi
      obtain ⟨b, off, rfl, hlc, hra⟩ := rAt_at (slKeepB hS ha hnx) hil
      have TO : RowT 36 (ints (rAt 9 L i)).length := by rw [ints_len, rAt_len HL hil]; exact rowChg
      obtain ⟨fn, tmps, assign, body, hy, hR⟩ := hY _ i wr hJs (by rw [downs_len]; exact hlt)
      dsimp only [encB] at hy
      rw [rw9_at hil] at hy
      have hi0 : (0 : Int) ≤ i := by omega
      have hii : (i : Int) < len := by omega
      have hge : ¬ (i : Int) < 0 := by omega
      gi_wp2_with ((with_reducible refine li_row hra TO ?_ ?_); (· rfl); (simp only [Act.put, List.setIfInBounds_toArray, List.set_cons_zero, List.set_cons_succ]))
      refine hR.mono ?_
      rintro e W3 (⟨rfl, hJ3, hk3⟩ | ⟨rfl, hJx3⟩)
      · gi_wp2
        go_roundw
        case rel => exact ⟨m + 1, (i : Int) - 1, Lib.hid (by have := HI.out; exact ⟨by omega, by omega⟩), by first | rfl | go_num, by rw [downs_succ, show len - 1 - m = i by have := HI.out; omega]; exact hJ3, hnx.trans hk3⟩
        case measure => first | (simp [intOf]; done) | (simp [intOf]; omega)
      · gi_wp2
        refine bodyPost_ret (results_none rfl _ _ _) rfl ?_
        exact ⟨⟨_, rfl⟩, .inr ⟨_, ⟨m + 1, by omega, by rw [downs_succ, show len - 1 - m = i by have := HI.out; omega]⟩, hJx3⟩⟩
    · have hz := HM.out
      obtain rfl : m = len := by omega
      have hzn : ¬ 0 ≤ z := by omega
      clear hz
      gi_wp2
      go_end0
      first
        | exact ⟨⟨_, rfl⟩, .inl ⟨_, rfl, hJs⟩⟩
        | exact ⟨⟨_, rfl⟩, .inl hJs⟩
theorem back_in (F : Fence) (n : Nat) (h5 : F.fn 36) (hro : F.round = none) (a : Option Addr) (len cap : Nat) (w : World) :
    CallsIn F n Try.prog 36 #[.slice a len cap] w fun e w' => e = .returned (.func (.func 40) #[] #[.pointer (some ⟨w.heap.size, 0, none⟩)]) ∧ w' = w.alloc (.cells #[.slice a len cap] 24) := by
  refine callsIn_of_wp Try.func36 rfl h5 ?_ hro
  simp only [Try.ntmps36, List.size_toArray, List.length_cons, List.length_nil, Nat.reduceAdd, Nat.reduceSub, Array.replicate_succ, Array.replicate_zero, List.push_toArray, List.append_toArray, List.nil_append, List.cons_append]
  gi_wp2
  go_ret
  exact ⟨rfl, rfl⟩
theorem back_stops (F : Fence) (n : Nat) (h7 : F.fn 40) (hro : F.round = none) (hn : 1 ≤ n) (Bs n₀ len cap : Nat) (a : Option Addr) (L : List Int) (hlen : len ≤ 1000) (ha : len = 0 ∨ ∀ ad, a = some ad → ad.block < n₀) (w : World) (hB0 : Bs < n₀) (hn₀ : n₀ ≤ w.heap.size)
    (hc : w.cell? ⟨Bs, 0, none⟩ = some (.slice a len cap)) (hS : Sl w a len 9 (ints L)) :
    SeqStopsK F n Try.prog 40 #[.pointer (some ⟨Bs, 0, none⟩)] (encB L len) (Below n₀) (fun ys => ys = downs len len) (fun pre => ∃ k, k ≤ len ∧ pre = downs len k) len w := fun l J Jx W hW _ _ hY h0 => by
  have hW0 := hW.mono hn₀
  exact back1_in F n h7 hro hn l Bs n₀ len cap a L hlen ha J Jx hY W hB0 ((hW0.cell (p := ⟨Bs, 0, none⟩) hB0).trans hc) (slKeepB hS ha hW0) h0
end Go.Proofs.Ytcfipimhpeblbaa
