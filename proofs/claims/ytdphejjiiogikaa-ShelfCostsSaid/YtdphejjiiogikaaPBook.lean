/- countermandplain.Book at bookings that are alike. -/
import Derived.Test.YtdphejjiiogikaaBkEq
namespace Go.Proofs.Ytdphejjiiogikaa
set_option linter.unusedVariables false
set_option linter.unusedSimpArgs false
open Go.ChangeShapes Go.WideShapes Go.ChangeAt Go.RowKit
set_option maxHeartbeats 1000000 in
theorem pbook_true (s p u : List Int) (a a' : Option Addr) (n c c' : Nat) (xs : List Value) (w : World) (h8 : Hid (L8 s p u)) (hs : Ok8 s) (hp : Ok8 p) (hu : Ok8 u) (HA : Hid (Sl w a n 7 xs)) (HB : Hid (Sl w a' n 7 xs)) (hok : Hid (∀ i, i < n → OkAll orderKinds ((xs.drop (i * 7)).take 7))) (hn : n * 56 ≤ 140737488355328) :
    Calls Try.prog 13 #[.agg (bkc s p u (.slice a n c)).toArray, .agg (bkc s p u (.slice a' n c')).toArray] w fun e w' => e = .returned (.bool true) ∧ Below w.heap.size w w' := by
  have ca := bkc_o h8.out (.slice a n c)
  have cb := bkc_o h8.out (.slice a' n c')
  have A1 := (Blk.new w (bkc s p u (.slice a n c)).toArray 25).alloc (.cells (bkc s p u (.slice a' n c')).toArray 25)
  have B1 := Blk.new (w.alloc (.cells (bkc s p u (.slice a n c)).toArray 25)) (bkc s p u (.slice a' n c')).toArray 25
  rw [List.toList_toArray] at A1 B1
  rw [show (w.alloc (.cells (bkc s p u (.slice a n c)).toArray 25)).heap.size = w.heap.size + 1 by simp] at B1
  have hb1 := ((Below.refl w.heap.size w).alloc (Nat.le_refl _) (.cells (bkc s p u (.slice a n c)).toArray 25)).alloc (by simp) (.cells (bkc s p u (.slice a' n c')).toArray 25)
  go_enter Try.func13, Try.ntmps13
  go_upto_region 1 with fail
  have c1 := (A1.cell 24).trans ca
  have c2 := (B1.cell 24).trans cb
  generalize (w.alloc (.cells (bkc s p u (.slice a n c)).toArray 25)).alloc (.cells (bkc s p u (.slice a' n c')).toArray 25) = W at *
  go_wp2_with (first
    | ((with_reducible apply bk_arr); (· rfl); (· assumption); (· assumption); (· (first | exact Or.inl ⟨rfl, rfl⟩ | exact Or.inr (Or.inl ⟨rfl, rfl⟩) | exact Or.inr (Or.inr ⟨rfl, rfl⟩))); (simp only [Act.put, List.setIfInBounds_toArray, List.set_cons_zero, List.set_cons_succ]))
    | ((with_reducible apply bk_arr_g); (· rfl); (· rfl); (· assumption); (· assumption); (· (first | exact Or.inl ⟨rfl, rfl⟩ | exact Or.inr (Or.inl ⟨rfl, rfl⟩) | exact Or.inr (Or.inr ⟨rfl, rfl⟩))); (simp only [Act.put, List.setIfInBounds_toArray, List.set_cons_zero, List.set_cons_succ]))
    | ((with_reducible apply arr_neq); (· rfl); (· rfl); (· assumption); (· assumption); (· exact same_no _); (simp only [Act.put, List.setIfInBounds_toArray, List.set_cons_zero, List.set_cons_succ]))
    | ((with_reducible apply arr_neq_g); (· rfl); (· rfl); (· rfl); (· assumption); (· assumption); (· exact same_no _); (simp only [Act.put, List.setIfInBounds_toArray, List.set_cons_zero, List.set_cons_succ])))
  have hA := Lib.hid (HA.out.keep hb1)
  have hB := Lib.hid (HB.out.keep hb1)
  have HBW := Lib.hid hb1
  have hlA := A1.lt
  have hlB := B1.lt
  have HA1 := Lib.hid A1
  have HB1 := Lib.hid B1
  clear c1 c2 A1 B1 hb1 HA HB
  go_loopg [5] n (fun q s5 wr => ∃ i : Nat, q + i = n ∧ s5 = .int .i64 i ∧ Hid (Below W.heap.size W wr))
  case atStart => exact ⟨0, rfl, rfl, Lib.hid (Below.refl _ _)⟩
  case round =>
    obtain ⟨i, hqi, rfl, hbr⟩ := hrel
    have c1 := ((HA1.out.keep hbr.out hlA).cell 24).trans ca
    have c2 := ((HB1.out.keep hbr.out hlB).cell 24).trans cb
    by_cases hi : i < n
    · obtain ⟨b, off, rfl, hra, hlc⟩ := (hA.out.keep hbr.out).chunk hi (by decide)
      obtain ⟨b', off', rfl, hrb, _⟩ := (hB.out.keep hbr.out).chunk hi (by decide)
      have hoi := hok.out i hi
      generalize (xs.drop (i * 7)).take 7 = ys at *
      have hi0 : (0 : Int) ≤ i := by omega
      have hin : (i : Int) < n := by omega
      go_upto_region 6 with fail
      refine wp_region_still_lit (by kernel_rfl) (by kernel_rfl) ?_
      have c1' : wr.drew.cell? ⟨w.heap.size, 24, none⟩ = _ := c1
      have c2' : wr.drew.cell? ⟨w.heap.size + 1, 24, none⟩ = _ := c2
      have hra' : wr.drew.rangeAt b (off + i * 7) ys := hra
      have hrb' : wr.drew.rangeAt b' (off' + i * 7) ys := hrb
      have hbr' := Lib.hid hbr.out.drew
      change wpStill _ _ (World.drew wr) (fun a' => Exit.then _ _ _ a' (World.drew wr)) _ _
      clear c1 c2 hra hrb hbr
      generalize wr.drew = wr at *
      have hra := hra'
      have hrb := hrb'
      repeat (first
        | ((with_reducible apply order_load); (· rfl); (· first | exact hra | exact hrb); (· exact hlc); (simp only [Act.put, List.setIfInBounds_toArray, List.set_cons_zero, List.set_cons_succ]))
        | ((with_reducible apply order_neq); (· rfl); (· rfl); (· exact hoi); (· exact hoi); (· exact same_no _); (simp only [Act.put, List.setIfInBounds_toArray, List.set_cons_zero, List.set_cons_succ]))
        | still_step)
      refine wpStill_nil ?_
      go_wp2_with fail
      go_roundg (gk - 1)
      case measure => omega
      case rel => exact ⟨i + 1, by omega, by go_num, hbr'⟩
    · obtain rfl : i = n := by omega
      go_wp2_with fail
      go_ret
      exact ⟨rfl, HBW.out.trans (hbr.out.mono HBW.out.size)⟩
end Go.Proofs.Ytdphejjiiogikaa
