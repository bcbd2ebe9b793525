/- The sum of all purses. -/
import Derived.Test.YtdphejjiiogikaaPurse
import Derived.Deep.LoopGhost
namespace Go.Proofs.Ytdphejjiiogikaa
set_option linter.unusedVariables false
set_option linter.unusedSimpArgs false
open Go.ChangeShapes Go.WideShapes Go.ChangeAt Go.RowKit
theorem idx8 (u : List Int) (hu : u.length = 8) (k : Nat) (hk : k < 8) (w : World) : (Instr.index 22 (.agg (ints u).toArray) (.int .i64 k)).run Try.prog w = .ok (.int .i64 (u.getD k 0)) w := by
  match u, hu with
  | [a0, a1, a2, a3, a4, a5, a6, a7], _ =>
    match k, hk with
    | 0, _ => rfl
    | 1, _ => rfl
    | 2, _ => rfl
    | 3, _ => rfl
    | 4, _ => rfl
    | 5, _ => rfl
    | 6, _ => rfl
    | 7, _ => rfl
/-- the sum, wrapping around. -/
def tot (l : List Int) : Int := l.foldl (fun t x => wrap64 (t + x)) 0
theorem tot_snoc (l : List Int) (x : Int) : tot (l ++ [x]) = wrap64 (tot l + x) := by simp [tot, List.foldl_append]
theorem tot_take (l : List Int) (k : Nat) (h : k < l.length) : tot (l.take (k + 1)) = wrap64 (tot (l.take k) + l.getD k 0) := by
  rw [take_next l k h, tot_snoc]
theorem bk_load_u {d t : Nat} {ty : TypeId} {ps : String} {af : Array Edge} {a : Act} {w : World} {ops : Array Oper} {rest : List Oper} {Q : Exit → Act → World → Prop} {g T : Nat} {s p u : List Int} {o : Value}
    (hx : a.eval (.tmp t) = .pointer (some ⟨g, 16, none⟩)) (hb : Blk w g (bkc s p u o) T) (h8 : Hid (L8 s p u)) (h : wpList Try.prog ops Q rest (a.put (some d) (.agg (ints u).toArray)) w) :
    wpList Try.prog ops Q (⟨some d, .load 22 (.tmp t), ty, ps, af, none⟩ :: rest) a w :=
  wpList_load_mid rfl 22 (.tmp t) rfl g 16 hx _ _ (hb.range 16 (ints u) (bkc_take_u h8.out o)) Try.underlying22 rfl (by rw [size_arr8, ints_len, h8.out.u8]) h
theorem total_any (s p u : List Int) (o : Value) (w : World) (h8 : Hid (L8 s p u)) :
    Calls Try.prog 22 #[.agg (bkc s p u o).toArray] w fun e w' => e = .returned (.int .i64 (tot u)) ∧ Below w.heap.size w w' := by
  have B1 := Blk.new w (bkc s p u o).toArray 25
  rw [List.toList_toArray] at B1
  go_enter Try.func22, Try.ntmps22
  go_wp2_with ((with_reducible apply bk_load_u); (· rfl); (· assumption); (· assumption); (simp only [Act.put, List.setIfInBounds_toArray, List.set_cons_zero, List.set_cons_succ]))
  have HB := Lib.hid ((Below.refl w.heap.size w).alloc (Nat.le_refl _) (.cells (bkc s p u o).toArray 25))
  generalize w.alloc (.cells (bkc s p u o).toArray 25) = w1 at *
  go_loopg [3, 8] 8 (fun q s3 s8 wr => ∃ k : Nat, q + k = 8 ∧ s3 = .int .i64 (tot (u.take k)) ∧ s8 = .int .i64 k ∧ w1 = wr)
  case atStart => exact ⟨0, rfl, rfl, rfl, rfl⟩
  case round =>
    obtain ⟨k, hqk, rfl, rfl, rfl⟩ := hrel
    by_cases hk : k < 8
    · have hix := fun w => idx8 u h8.out.u8 k hk w
      have ht := Lib.hid (tot_take u k (by rw [h8.out.u8]; exact hk))
      generalize tot (u.take k) = y at *
      generalize u.getD k 0 = z at *
      go_wp2_with fail
      go_roundg (gk - 1)
      case measure => omega
      case rel => exact ⟨k + 1, by omega, by rw [ht.out], by go_num, rfl⟩
    · obtain rfl : k = 8 := by omega
      have hall : tot (u.take 8) = tot u := by rw [List.take_of_length_le (by rw [h8.out.u8]; exact Nat.le_refl _)]
      rw [hall]
      go_wp2_with fail
      go_ret
      exact ⟨rfl, HB.out⟩
end Go.Proofs.Ytdphejjiiogikaa
