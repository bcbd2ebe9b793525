/- Deals: lists of orders alike. -/
import Derived.Test.YtlhebimfkdcidaaBkEq
import Derived.Test.YtlhebimfkdcidaaLd
import Derived.Test.YtlhebimfkdcidaaBookRd
namespace Go.Proofs.Ytlhebimfkdcidaa
set_option linter.unusedVariables false
set_option linter.unusedSimpArgs false
open Go.ChangeShapes Go.WideShapes Go.ChangeAt Go.RowKit
/-- two slices of orders alike. -/
def eqO (n m : Nat) (xs ys : List Int) : Bool := decide (n = m ∧ xs = ys)
theorem ints_inj : ∀ {l m : List Int}, ints l = ints m → l = m
  | [], [], _ => rfl
  | [], _ :: _, h => by cases h
  | _ :: _, [], h => by cases h
  | x :: l, y :: m, h => by
    simp only [ints, List.map_cons, List.cons.injEq, Value.int.injEq, true_and] at h
    rw [h.1, ints_inj (l := l) (m := m) h.2]
theorem chunks_eq {sz : Nat} (hs : 0 < sz) : ∀ (n : Nat) {xs ys : List Value}, xs.length = n * sz → ys.length = n * sz → (∀ j, j < n → (xs.drop (j * sz)).take sz = (ys.drop (j * sz)).take sz) → xs = ys
  | 0, xs, ys, hx, hy, _ => by
    rw [List.eq_nil_of_length_eq_zero (l := xs) (by omega), List.eq_nil_of_length_eq_zero (l := ys) (by omega)]
  | n + 1, xs, ys, hx, hy, h => by
    have h0 := h 0 (by omega)
    simp only [Nat.zero_mul, List.drop_zero] at h0
    rw [← List.take_append_drop sz xs, ← List.take_append_drop sz ys, h0]
    congr 1
    refine chunks_eq hs n (by rw [List.length_drop, hx, Nat.succ_mul]; omega) (by rw [List.length_drop, hy, Nat.succ_mul]; omega) fun j hj => ?_
    have := h (j + 1) (by omega)
    rw [Nat.succ_mul, Nat.add_comm] at this
    rw [List.drop_drop, List.drop_drop]
    exact this
set_option maxHeartbeats 2000000 in
theorem eqo_any (a a' : Option Addr) (n m c c' : Nat) (xs ys : List Int) (w : World) (HA : Hid (Sl w a n 7 (ints xs))) (HB : Hid (Sl w a' m 7 (ints ys))) (hok : Hid (∀ i, i < n → OkAll orderKinds (((ints xs).drop (i * 7)).take 7))) (hok' : Hid (∀ i, i < m → OkAll orderKinds (((ints ys).drop (i * 7)).take 7))) (hn : n * 56 ≤ 140737488355328) (hm : m * 56 ≤ 140737488355328) :
    Calls Try.prog 24 #[.slice a n c, .slice a' m c'] w fun e w' => e = .returned (.bool (eqO n m xs ys)) ∧ Below w.heap.size w w' := by
  by_cases hnm : n = m
  · subst hnm
    have EY : Hid ((∀ j, j < n → (((ints xs).drop (j * 7)).take 7) = (((ints ys).drop (j * 7)).take 7)) → eqO n n xs ys = true) := Lib.hid fun h => decide_eq_true ⟨rfl, ints_inj (chunks_eq (by decide) n HA.out.1 HB.out.1 h)⟩
    have EN : Hid (∀ j, (((ints xs).drop (j * 7)).take 7) ≠ (((ints ys).drop (j * 7)).take 7) → eqO n n xs ys = false) := Lib.hid fun j h => decide_eq_false (fun hh => h (by rw [hh.2]))
    generalize eqO n n xs ys = r at *
    go_enter Try.func24, Try.ntmps24
    go_upto_region 4 with fail
    go_loopg [13] n (fun q s5 wr => ∃ i : Nat, q + i = n ∧ s5 = .int .i64 i ∧ Hid (Below w.heap.size w wr) ∧ Hid (∀ j, j < i → (((ints xs).drop (j * 7)).take 7) = (((ints ys).drop (j * 7)).take 7)))
    case atStart => exact ⟨0, rfl, rfl, Lib.hid (Below.refl w.heap.size w), Lib.hid (fun j hj => by omega)⟩
    case round =>
      obtain ⟨i, hqi, rfl, hbr, hpre⟩ := hrel
      by_cases hi : i < n
      · obtain ⟨b, off, rfl, hra, hlc⟩ := (HA.out.keep hbr.out).chunk hi (by decide)
        obtain ⟨b', off', rfl, hrb, hld⟩ := (HB.out.keep hbr.out).chunk hi (by decide)
        have hoi := hok.out i hi
        have hoj := hok'.out i hi
        have hne := Lib.hid (EN.out i)
        have hst := Lib.hid (fun (h : (((ints xs).drop (i * 7)).take 7) = (((ints ys).drop (i * 7)).take 7)) j (hj : j < i + 1) => show (((ints xs).drop (j * 7)).take 7) = (((ints ys).drop (j * 7)).take 7) from by
          rcases Nat.lt_or_ge j i with hh | hh
          · exact hpre.out j hh
          · obtain rfl : j = i := by omega
            exact h)
        generalize (((ints xs).drop (i * 7)).take 7) = ys1 at *
        generalize (((ints ys).drop (i * 7)).take 7) = ys2 at *
        have hi0 : (0 : Int) ≤ i := by omega
        have hin : (i : Int) < n := by omega
        go_upto_region 6 with fail
        refine wp_region_still_lit (by kernel_rfl) (by kernel_rfl) ?_
        have hra' : wr.drew.rangeAt b (off + i * 7) ys1 := hra
        have hrb' : wr.drew.rangeAt b' (off' + i * 7) ys2 := hrb
        have hbr' := Lib.hid hbr.out.drew
        change wpStill _ _ (World.drew wr) (fun a' => Exit.then _ _ _ a' (World.drew wr)) _ _
        clear hra hrb hbr
        generalize wr.drew = wr at *
        have hra := hra'
        have hrb := hrb'
        have hiff := sameB_iff hoi hoj
        rcases hs : sameB ys1 ys2 with _ | _
        · have hne2 : ys1 ≠ ys2 := fun h => by rw [hiff.2 h] at hs; cases hs
          have HR := Lib.hid (hne.out hne2)
          have hss : (!sameB ys1 ys2) = true := by rw [hs]; rfl
          clear hs hiff hne hst
          repeat (first
            | ((with_reducible apply order_load); (· rfl); (· first | exact hra | exact hrb); (· first | exact hlc | exact hld); (simp only [Act.put, List.setIfInBounds_toArray, List.set_cons_zero, List.set_cons_succ]))
            | ((with_reducible apply order_neq); (· rfl); (· rfl); (· exact hoi); (· exact hoj); (· exact hss); (simp only [Act.put, List.setIfInBounds_toArray, List.set_cons_zero, List.set_cons_succ]))
            | still_step)
          refine wpStill_nil ?_
          clear hss hne2
          go_wp2_with fail
          go_ret
          exact ⟨by rw [HR.out]; rfl, hbr'.out⟩
        · have heq2 : ys1 = ys2 := hiff.1 hs
          have HP := Lib.hid (hst.out heq2)
          have hss : (!sameB ys1 ys2) = false := by rw [hs]; rfl
          clear hs hiff hne hst heq2
          repeat (first
            | ((with_reducible apply order_load); (· rfl); (· first | exact hra | exact hrb); (· first | exact hlc | exact hld); (simp only [Act.put, List.setIfInBounds_toArray, List.set_cons_zero, List.set_cons_succ]))
            | ((with_reducible apply order_neq); (· rfl); (· rfl); (· exact hoi); (· exact hoj); (· exact hss); (simp only [Act.put, List.setIfInBounds_toArray, List.set_cons_zero, List.set_cons_succ]))
            | still_step)
          refine wpStill_nil ?_
          clear hss
          go_wp2_with fail
          go_roundg (gk - 1)
          case measure => omega
          case rel => exact ⟨i + 1, by omega, by go_num, hbr', HP⟩
      · have hin : ¬ (i : Int) < n := by omega
        have HR := Lib.hid (EY.out fun j hj => hpre.out j (by omega))
        go_wp2_with fail
        go_ret
        exact ⟨by rw [HR.out]; rfl, hbr.out⟩
  · have E : Hid (eqO n m xs ys = false) := Lib.hid (decide_eq_false (fun h => hnm h.1))
    have hnm' : ¬ (n : Int) = m := by omega
    clear hnm
    go_enter Try.func24, Try.ntmps24
    go_wp2_with fail
    go_ret
    exact ⟨by rw [E.out]; rfl, Below.refl _ _⟩
end Go.Proofs.Ytlhebimfkdcidaa
