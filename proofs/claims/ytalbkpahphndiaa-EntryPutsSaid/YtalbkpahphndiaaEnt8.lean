/- Requests that were tried: when they are ready, when they are dead. -/
import Derived.Test.YtalbkpahphndiaaEnt7
import Derived.Test.YtalbkpahphndiaaQt
import Derived.Test.YtalbkpahphndiaaLaw05
import Derived.Test.YtalbkpahphndiaaRow
import Derived.Test.YtalbkpahphndiaaOps
import Derived.RegionTactic
import Derived.BigRegion
import Derived.ChangeAlike
namespace Go.Proofs.Ytalbkpahphndiaa
set_option linter.unusedVariables false
set_option linter.unusedSimpArgs false
open Go.ChangeShapes Go.WideShapes Go.ChangeAt Go.RowKit
def readyE (s l : Int) (ak gn : Bool) (b bl mo ba ca now : Int) : Bool := (!ak || gn) && (decide ((if (ak && gn) = true then b else s) < mo) && readyB ba ca (if (ak && gn) = true then b else s) (if (ak && gn) = true then bl else l) now)
def deadE (s l : Int) (ak gn : Bool) (b bl mo ba ca now : Int) : Bool := (!ak || gn) && (decide (mo ≤ (if (ak && gn) = true then b else s)) && decide (dueI ba ca (if (ak && gn) = true then b else s) (if (ak && gn) = true then bl else l) ≤ now))
set_option maxRecDepth 100000 in
set_option maxHeartbeats 4000000 in
theorem nready_any (o k a n p q s l : Int) (ak gn : Bool) (b bl : Int) (r0 r1 mo ba ca now : Int) (w : World) : Calls Try.prog 28 #[.agg #[.int .i64 o, .int .i64 k, .int .i64 a, .int .i64 n, .int .i64 p, .int .i64 q, .int .i64 s, .int .i64 l, .bool ak, .bool gn, .int .i64 b, .int .i64 bl], .agg #[.int .i64 r0, .int .i64 r1, .int .i64 mo, .int .i64 ba, .int .i64 ca], .int .i64 now] w fun e w' => e = .returned (.bool (readyE s l ak gn b bl mo ba ca now)) ∧ Below w.heap.size w w' := by
  have A1 := Blk.new w #[.int .i64 o, .int .i64 k, .int .i64 a, .int .i64 n, .int .i64 p, .int .i64 q, .int .i64 s, .int .i64 l, .bool ak, .bool gn, .int .i64 b, .int .i64 bl] 49
  have hz1 : (w.alloc (.cells #[.int .i64 o, .int .i64 k, .int .i64 a, .int .i64 n, .int .i64 p, .int .i64 q, .int .i64 s, .int .i64 l, .bool ak, .bool gn, .int .i64 b, .int .i64 bl] 49)).heap.size = w.heap.size + 1 := by simp
  have AC : Blk ((w.alloc (.cells #[.int .i64 o, .int .i64 k, .int .i64 a, .int .i64 n, .int .i64 p, .int .i64 q, .int .i64 s, .int .i64 l, .bool ak, .bool gn, .int .i64 b, .int .i64 bl] 49)).alloc (.cells #[.int .i64 r0, .int .i64 r1, .int .i64 mo, .int .i64 ba, .int .i64 ca] 51)) (w.heap.size + 1) [.int .i64 r0, .int .i64 r1, .int .i64 mo, .int .i64 ba, .int .i64 ca] 51 := hz1 ▸ Blk.new (w.alloc (.cells #[.int .i64 o, .int .i64 k, .int .i64 a, .int .i64 n, .int .i64 p, .int .i64 q, .int .i64 s, .int .i64 l, .bool ak, .bool gn, .int .i64 b, .int .i64 bl] 49)) #[.int .i64 r0, .int .i64 r1, .int .i64 mo, .int .i64 ba, .int .i64 ca] 51
  have HA : Hid (Blk ((w.alloc (.cells #[.int .i64 o, .int .i64 k, .int .i64 a, .int .i64 n, .int .i64 p, .int .i64 q, .int .i64 s, .int .i64 l, .bool ak, .bool gn, .int .i64 b, .int .i64 bl] 49)).alloc (.cells #[.int .i64 r0, .int .i64 r1, .int .i64 mo, .int .i64 ba, .int .i64 ca] 51)) w.heap.size (enc12 o k a n p q s l ak gn b bl) 49) := Lib.hid (A1.alloc _)
  have HC := Lib.hid AC
  have HB := Lib.hid ((((Below.refl w.heap.size w).alloc (Nat.le_refl _) (.cells #[.int .i64 o, .int .i64 k, .int .i64 a, .int .i64 n, .int .i64 p, .int .i64 q, .int .i64 s, .int .i64 l, .bool ak, .bool gn, .int .i64 b, .int .i64 bl] 49)).alloc (by rw [hz1]; omega) (.cells #[.int .i64 r0, .int .i64 r1, .int .i64 mo, .int .i64 ba, .int .i64 ca] 51)))
  have HV := enc12_ok o k a n p q s l ak gn b bl
  clear A1 AC hz1
  have CT := Lib.hid (fun w => show Calls Try.prog 51 #[.agg (enc12 o k a n p q s l ak gn b bl).toArray] w _ from tries_any o k a n p q s l ak gn b bl w)
  have CO := Lib.hid (fun w => show Calls Try.prog 24 #[.agg (enc12 o k a n p q s l ak gn b bl).toArray] w _ from open_any o k a n p q s l ak gn b bl w)
  unfold readyE
  generalize (if (ak && gn) = true then b else s) = tn at *
  generalize (if (ak && gn) = true then bl else l) = tl at *
  go_enter Try.func28, Try.ntmps28
  go_upto_region 1 with fail
  generalize ((w.alloc (.cells #[.int .i64 o, .int .i64 k, .int .i64 a, .int .i64 n, .int .i64 p, .int .i64 q, .int .i64 s, .int .i64 l, .bool ak, .bool gn, .int .i64 b, .int .i64 bl] 49)).alloc (.cells #[.int .i64 r0, .int .i64 r1, .int .i64 mo, .int .i64 ba, .int .i64 ca] 51)) = W at *
  generalize enc12 o k a n p q s l ak gn b bl = X at *
  have rx : W.rangeAt w.heap.size 0 X := HA.out.range 0 _ (by simp)
  have c2 : W.cell? ⟨w.heap.size + 1, 2, none⟩ = some (.int .i64 mo) := HC.out.cell 2
  have c3 : W.cell? ⟨w.heap.size + 1, 3, none⟩ = some (.int .i64 ba) := HC.out.cell 3
  have c4 : W.cell? ⟨w.heap.size + 1, 4, none⟩ = some (.int .i64 ca) := HC.out.cell 4
  have CD := Lib.hid (fun w => ready_any ba ca tn tl now w)
  have hlt : w.heap.size + 1 < W.heap.size := HC.out.lt
  go_wp2_with (first
    | ((with_reducible apply en_load); (· rfl); (· (first | assumption)); (· assumption); (simp only [Act.put, List.setIfInBounds_toArray, List.set_cons_zero, List.set_cons_succ])))
  refine (CT.out _).mono ?_
  rintro e w2 ⟨rfl, hb⟩
  have HB2 := Lib.hid (HB.out.trans (hb.mono HB.out.size))
  have HA2 := Lib.hid (HA.out.keep hb HA.out.lt)
  have HC2 := Lib.hid (HC.out.keep hb HC.out.lt)
  clear hb rx c2 c3 c4 HB HA HC CT hlt
  have rx : w2.rangeAt w.heap.size 0 X := HA2.out.range 0 _ (by simp)
  have c2 : w2.cell? ⟨w.heap.size + 1, 2, none⟩ = some (.int .i64 mo) := HC2.out.cell 2
  have c3 : w2.cell? ⟨w.heap.size + 1, 3, none⟩ = some (.int .i64 ba) := HC2.out.cell 3
  have c4 : w2.cell? ⟨w.heap.size + 1, 4, none⟩ = some (.int .i64 ca) := HC2.out.cell 4
  rcases hop : (!ak || gn) with _ | _
  · rw [hop] at CO
    have HOP := Lib.hid hop
    clear hop
    go_wp2_with (first
      | ((with_reducible apply en_load); (· rfl); (· (first | assumption)); (· assumption); (simp only [Act.put, List.setIfInBounds_toArray, List.set_cons_zero, List.set_cons_succ])))
    refine (CO.out _).mono ?_
    rintro e w3 ⟨rfl, hb⟩
    have HB3 := Lib.hid (HB2.out.trans (hb.mono HB2.out.size))
    have HC3 := Lib.hid (HC2.out.keep hb HC2.out.lt)
    clear hb rx c2 c3 c4 HB2 HA2 HC2
    have c2 : w3.cell? ⟨w.heap.size + 1, 2, none⟩ = some (.int .i64 mo) := HC3.out.cell 2
    have c3 : w3.cell? ⟨w.heap.size + 1, 3, none⟩ = some (.int .i64 ba) := HC3.out.cell 3
    have c4 : w3.cell? ⟨w.heap.size + 1, 4, none⟩ = some (.int .i64 ca) := HC3.out.cell 4
    go_wp2_with fail
    go_ret
    exact ⟨by rw [HOP.out]; rfl, HB3.out⟩
  · by_cases hn : tn < mo
    · have hd : decide (tn < mo) = true := by simpa using hn
      have HD := Lib.hid hd
      clear hd
      rw [hop] at CO
      have HOP := Lib.hid hop
      clear hop
      go_wp2_with (first
        | ((with_reducible apply en_load); (· rfl); (· (first | assumption)); (· assumption); (simp only [Act.put, List.setIfInBounds_toArray, List.set_cons_zero, List.set_cons_succ])))
      refine (CO.out _).mono ?_
      rintro e w3 ⟨rfl, hb⟩
      have HB3 := Lib.hid (HB2.out.trans (hb.mono HB2.out.size))
      have HC3 := Lib.hid (HC2.out.keep hb HC2.out.lt)
      clear hb rx c2 c3 c4 HB2 HA2 HC2
      have c2 : w3.cell? ⟨w.heap.size + 1, 2, none⟩ = some (.int .i64 mo) := HC3.out.cell 2
      have c3 : w3.cell? ⟨w.heap.size + 1, 3, none⟩ = some (.int .i64 ba) := HC3.out.cell 3
      have c4 : w3.cell? ⟨w.heap.size + 1, 4, none⟩ = some (.int .i64 ca) := HC3.out.cell 4
      go_wp2_with fail
      refine (CD.out _).mono ?_
      rintro e w4 ⟨rfl, rfl⟩
      go_wp2_with fail
      go_ret
      exact ⟨by rw [HOP.out, HD.out]; rfl, HB3.out⟩
    · have hd : decide (tn < mo) = false := by simpa using hn
      have HD := Lib.hid hd
      clear hd
      rw [hop] at CO
      have HOP := Lib.hid hop
      clear hop
      go_wp2_with (first
        | ((with_reducible apply en_load); (· rfl); (· (first | assumption)); (· assumption); (simp only [Act.put, List.setIfInBounds_toArray, List.set_cons_zero, List.set_cons_succ])))
      refine (CO.out _).mono ?_
      rintro e w3 ⟨rfl, hb⟩
      have HB3 := Lib.hid (HB2.out.trans (hb.mono HB2.out.size))
      have HC3 := Lib.hid (HC2.out.keep hb HC2.out.lt)
      clear hb rx c2 c3 c4 HB2 HA2 HC2
      have c2 : w3.cell? ⟨w.heap.size + 1, 2, none⟩ = some (.int .i64 mo) := HC3.out.cell 2
      have c3 : w3.cell? ⟨w.heap.size + 1, 3, none⟩ = some (.int .i64 ba) := HC3.out.cell 3
      have c4 : w3.cell? ⟨w.heap.size + 1, 4, none⟩ = some (.int .i64 ca) := HC3.out.cell 4
      go_wp2_with fail
      go_ret
      exact ⟨by rw [HOP.out, HD.out]; rfl, HB3.out⟩
set_option maxRecDepth 100000 in
set_option maxHeartbeats 4000000 in
theorem ndead_any (o k a n p q s l : Int) (ak gn : Bool) (b bl : Int) (r0 r1 mo ba ca now : Int) (w : World) : Calls Try.prog 30 #[.agg #[.int .i64 o, .int .i64 k, .int .i64 a, .int .i64 n, .int .i64 p, .int .i64 q, .int .i64 s, .int .i64 l, .bool ak, .bool gn, .int .i64 b, .int .i64 bl], .agg #[.int .i64 r0, .int .i64 r1, .int .i64 mo, .int .i64 ba, .int .i64 ca], .int .i64 now] w fun e w' => e = .returned (.bool (deadE s l ak gn b bl mo ba ca now)) ∧ Below w.heap.size w w' := by
  have A1 := Blk.new w #[.int .i64 o, .int .i64 k, .int .i64 a, .int .i64 n, .int .i64 p, .int .i64 q, .int .i64 s, .int .i64 l, .bool ak, .bool gn, .int .i64 b, .int .i64 bl] 49
  have hz1 : (w.alloc (.cells #[.int .i64 o, .int .i64 k, .int .i64 a, .int .i64 n, .int .i64 p, .int .i64 q, .int .i64 s, .int .i64 l, .bool ak, .bool gn, .int .i64 b, .int .i64 bl] 49)).heap.size = w.heap.size + 1 := by simp
  have AC : Blk ((w.alloc (.cells #[.int .i64 o, .int .i64 k, .int .i64 a, .int .i64 n, .int .i64 p, .int .i64 q, .int .i64 s, .int .i64 l, .bool ak, .bool gn, .int .i64 b, .int .i64 bl] 49)).alloc (.cells #[.int .i64 r0, .int .i64 r1, .int .i64 mo, .int .i64 ba, .int .i64 ca] 51)) (w.heap.size + 1) [.int .i64 r0, .int .i64 r1, .int .i64 mo, .int .i64 ba, .int .i64 ca] 51 := hz1 ▸ Blk.new (w.alloc (.cells #[.int .i64 o, .int .i64 k, .int .i64 a, .int .i64 n, .int .i64 p, .int .i64 q, .int .i64 s, .int .i64 l, .bool ak, .bool gn, .int .i64 b, .int .i64 bl] 49)) #[.int .i64 r0, .int .i64 r1, .int .i64 mo, .int .i64 ba, .int .i64 ca] 51
  have HA : Hid (Blk ((w.alloc (.cells #[.int .i64 o, .int .i64 k, .int .i64 a, .int .i64 n, .int .i64 p, .int .i64 q, .int .i64 s, .int .i64 l, .bool ak, .bool gn, .int .i64 b, .int .i64 bl] 49)).alloc (.cells #[.int .i64 r0, .int .i64 r1, .int .i64 mo, .int .i64 ba, .int .i64 ca] 51)) w.heap.size (enc12 o k a n p q s l ak gn b bl) 49) := Lib.hid (A1.alloc _)
  have HC := Lib.hid AC
  have HB := Lib.hid ((((Below.refl w.heap.size w).alloc (Nat.le_refl _) (.cells #[.int .i64 o, .int .i64 k, .int .i64 a, .int .i64 n, .int .i64 p, .int .i64 q, .int .i64 s, .int .i64 l, .bool ak, .bool gn, .int .i64 b, .int .i64 bl] 49)).alloc (by rw [hz1]; omega) (.cells #[.int .i64 r0, .int .i64 r1, .int .i64 mo, .int .i64 ba, .int .i64 ca] 51)))
  have HV := enc12_ok o k a n p q s l ak gn b bl
  clear A1 AC hz1
  have CT := Lib.hid (fun w => show Calls Try.prog 51 #[.agg (enc12 o k a n p q s l ak gn b bl).toArray] w _ from tries_any o k a n p q s l ak gn b bl w)
  have CO := Lib.hid (fun w => show Calls Try.prog 24 #[.agg (enc12 o k a n p q s l ak gn b bl).toArray] w _ from open_any o k a n p q s l ak gn b bl w)
  unfold deadE
  generalize (if (ak && gn) = true then b else s) = tn at *
  generalize (if (ak && gn) = true then bl else l) = tl at *
  go_enter Try.func30, Try.ntmps30
  go_upto_region 1 with fail
  generalize ((w.alloc (.cells #[.int .i64 o, .int .i64 k, .int .i64 a, .int .i64 n, .int .i64 p, .int .i64 q, .int .i64 s, .int .i64 l, .bool ak, .bool gn, .int .i64 b, .int .i64 bl] 49)).alloc (.cells #[.int .i64 r0, .int .i64 r1, .int .i64 mo, .int .i64 ba, .int .i64 ca] 51)) = W at *
  generalize enc12 o k a n p q s l ak gn b bl = X at *
  have rx : W.rangeAt w.heap.size 0 X := HA.out.range 0 _ (by simp)
  have c2 : W.cell? ⟨w.heap.size + 1, 2, none⟩ = some (.int .i64 mo) := HC.out.cell 2
  have c3 : W.cell? ⟨w.heap.size + 1, 3, none⟩ = some (.int .i64 ba) := HC.out.cell 3
  have c4 : W.cell? ⟨w.heap.size + 1, 4, none⟩ = some (.int .i64 ca) := HC.out.cell 4
  have CD := Lib.hid (fun w => due_any ba ca tn tl w)
  have hlt : w.heap.size + 1 < W.heap.size := HC.out.lt
  go_wp2_with (first
    | ((with_reducible apply en_load); (· rfl); (· (first | assumption)); (· assumption); (simp only [Act.put, List.setIfInBounds_toArray, List.set_cons_zero, List.set_cons_succ])))
  refine (CT.out _).mono ?_
  rintro e w2 ⟨rfl, hb⟩
  have HB2 := Lib.hid (HB.out.trans (hb.mono HB.out.size))
  have HA2 := Lib.hid (HA.out.keep hb HA.out.lt)
  have HC2 := Lib.hid (HC.out.keep hb HC.out.lt)
  clear hb rx c2 c3 c4 HB HA HC CT hlt
  have rx : w2.rangeAt w.heap.size 0 X := HA2.out.range 0 _ (by simp)
  have c2 : w2.cell? ⟨w.heap.size + 1, 2, none⟩ = some (.int .i64 mo) := HC2.out.cell 2
  have c3 : w2.cell? ⟨w.heap.size + 1, 3, none⟩ = some (.int .i64 ba) := HC2.out.cell 3
  have c4 : w2.cell? ⟨w.heap.size + 1, 4, none⟩ = some (.int .i64 ca) := HC2.out.cell 4
  rcases hop : (!ak || gn) with _ | _
  · rw [hop] at CO
    have HOP := Lib.hid hop
    clear hop
    go_wp2_with (first
      | ((with_reducible apply en_load); (· rfl); (· (first | assumption)); (· assumption); (simp only [Act.put, List.setIfInBounds_toArray, List.set_cons_zero, List.set_cons_succ])))
    refine (CO.out _).mono ?_
    rintro e w3 ⟨rfl, hb⟩
    have HB3 := Lib.hid (HB2.out.trans (hb.mono HB2.out.size))
    have HC3 := Lib.hid (HC2.out.keep hb HC2.out.lt)
    clear hb rx c2 c3 c4 HB2 HA2 HC2
    have c2 : w3.cell? ⟨w.heap.size + 1, 2, none⟩ = some (.int .i64 mo) := HC3.out.cell 2
    have c3 : w3.cell? ⟨w.heap.size + 1, 3, none⟩ = some (.int .i64 ba) := HC3.out.cell 3
    have c4 : w3.cell? ⟨w.heap.size + 1, 4, none⟩ = some (.int .i64 ca) := HC3.out.cell 4
    go_wp2_with fail
    go_ret
    exact ⟨by rw [HOP.out]; rfl, HB3.out⟩
  · by_cases hn : mo ≤ tn
    · have hd : decide (mo ≤ tn) = true := by simpa using hn
      have HD := Lib.hid hd
      clear hd
      rw [hop] at CO
      have HOP := Lib.hid hop
      clear hop
      go_wp2_with (first
        | ((with_reducible apply en_load); (· rfl); (· (first | assumption)); (· assumption); (simp only [Act.put, List.setIfInBounds_toArray, List.set_cons_zero, List.set_cons_succ])))
      refine (CO.out _).mono ?_
      rintro e w3 ⟨rfl, hb⟩
      have HB3 := Lib.hid (HB2.out.trans (hb.mono HB2.out.size))
      have HC3 := Lib.hid (HC2.out.keep hb HC2.out.lt)
      clear hb rx c2 c3 c4 HB2 HA2 HC2
      have c2 : w3.cell? ⟨w.heap.size + 1, 2, none⟩ = some (.int .i64 mo) := HC3.out.cell 2
      have c3 : w3.cell? ⟨w.heap.size + 1, 3, none⟩ = some (.int .i64 ba) := HC3.out.cell 3
      have c4 : w3.cell? ⟨w.heap.size + 1, 4, none⟩ = some (.int .i64 ca) := HC3.out.cell 4
      go_wp2_with fail
      refine (CD.out _).mono ?_
      rintro e w4 ⟨rfl, rfl⟩
      go_wp2_with fail
      go_ret
      exact ⟨by rw [HOP.out, HD.out]; rfl, HB3.out⟩
    · have hd : decide (mo ≤ tn) = false := by simpa using hn
      have HD := Lib.hid hd
      clear hd
      rw [hop] at CO
      have HOP := Lib.hid hop
      clear hop
      go_wp2_with (first
        | ((with_reducible apply en_load); (· rfl); (· (first | assumption)); (· assumption); (simp only [Act.put, List.setIfInBounds_toArray, List.set_cons_zero, List.set_cons_succ])))
      refine (CO.out _).mono ?_
      rintro e w3 ⟨rfl, hb⟩
      have HB3 := Lib.hid (HB2.out.trans (hb.mono HB2.out.size))
      have HC3 := Lib.hid (HC2.out.keep hb HC2.out.lt)
      clear hb rx c2 c3 c4 HB2 HA2 HC2
      have c2 : w3.cell? ⟨w.heap.size + 1, 2, none⟩ = some (.int .i64 mo) := HC3.out.cell 2
      have c3 : w3.cell? ⟨w.heap.size + 1, 3, none⟩ = some (.int .i64 ba) := HC3.out.cell 3
      have c4 : w3.cell? ⟨w.heap.size + 1, 4, none⟩ = some (.int .i64 ca) := HC3.out.cell 4
      go_wp2_with fail
      go_ret
      exact ⟨by rw [HOP.out, HD.out]; rfl, HB3.out⟩
end Go.Proofs.Ytalbkpahphndiaa
