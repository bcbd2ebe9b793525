/- The reference's texts of names and keys. -/
import Derived.Test.YtbdonjapcpfgiaaDoorAlv6
import Derived.Test.YtbdonjapcpfgiaaDoorDec
import Derived.Test.YtbdonjapcpfgiaaDoorLd
import Derived.Deep.DeepCutAuto
import Derived.Maps.AppendAt
import Derived.Test.YtbdonjapcpfgiaaDoorRow
import Derived.Test.YtbdonjapcpfgiaaDoorOps
import Derived.RegionTactic
import Derived.BigRegion
import Derived.ChangeAlike
namespace Go.Proofs.YtbdonjapcpfgiaaDoor
set_option linter.unusedVariables false
set_option linter.unusedSimpArgs false
open Go.ChangeShapes Go.WideShapes Go.ChangeAt Go.RowKit
theorem decB (n : Int) (w : World) (hn : fits n = true) : Calls Tryd.prog 30 #[.int .i64 n] w fun e w' => e = .returned (.string (itB n)) ∧ Below w.heap.size w w' := dec_any n w hn
set_option maxHeartbeats 2000000 in
theorem ridtext_any (p q : Int) (w : World) (hp : fits p = true) (hq : fits q = true) : Calls Tryd.prog 20 #[.agg #[.int .i64 p, .int .i64 q]] w fun e w' => e = .returned (.string (idB p q)) ∧ Below w.heap.size w w' := by
  have HB := Lib.hid ((Below.refl w.heap.size w).alloc (Nat.le_refl _) (.cells #[.int .i64 p, .int .i64 q] 23))
  have A := Lib.hid (Blk.new w #[.int .i64 p, .int .i64 q] 23)
  have hl := Lib.hid (show w.heap.size < (w.alloc (.cells #[.int .i64 p, .int .i64 q] 23)).heap.size by simp)
  have CP := Lib.hid (fun w' (hb : Below (w.alloc (.cells #[.int .i64 p, .int .i64 q] 23)).heap.size (w.alloc (.cells #[.int .i64 p, .int .i64 q] 23)) w') => decB p w' hp)
  have CQ := Lib.hid (fun w' (hb : Below (w.alloc (.cells #[.int .i64 p, .int .i64 q] 23)).heap.size (w.alloc (.cells #[.int .i64 p, .int .i64 q] 23)) w') => decB q w' hq)
  have s1 := itB_small p hp
  have s2 := itB_small q hq
  go_enter Tryd.func20, Tryd.ntmps20
  go_upto_region 1 with fail
  generalize hg : w.heap.size = g at *
  generalize (w.alloc (.cells #[.int .i64 p, .int .i64 q] 23)) = w1 at *
  have HG := Lib.hid hg
  clear hg
  refine q_begin (by kernel_rfl) (by kernel_rfl) ?_
  repeat (first
    | go_big_quiet_skip
    | ((with_reducible apply q_int); (· rfl); (· rfl); (· exact Tryd.underlying3); (· exact A.out); (· exact hl.out); (· rfl); (simp only [Act.put, List.setIfInBounds_toArray, List.set_cons_zero, List.set_cons_succ]))
    | ((with_reducible apply q_call 30 (.string (itB p))); (· rfl); (· exact Nat.le_refl _); (· intro w hw; exact CP.out w hw); (· intro w; go_simp); (simp only [Act.put, List.setIfInBounds_toArray, List.set_cons_zero, List.set_cons_succ]))
    | ((with_reducible apply q_call 30 (.string (itB q))); (· rfl); (· exact Nat.le_refl _); (· intro w hw; exact CQ.out w hw); (· intro w; go_simp); (simp only [Act.put, List.setIfInBounds_toArray, List.set_cons_zero, List.set_cons_succ]))
    | (go_big_quiet_want; go_big_quiet_op; (first | go_big_quiet_on | (apply Exists.intro; refine ⟨fun _ _ => rfl, ?_⟩; go_big_quiet_on))))
  refine q_end ?_
  intro w2 hb
  have hg := HG.out
  subst hg
  have HB2 := HB.out.trans (hb.mono HB.out.size)
  go_wp2_with fail
  go_ret
  exact ⟨rfl, HB2⟩
theorem idB_small (p q : Int) (hp : fits p = true) (hq : fits q = true) : (idB p q).size ≤ 43 := by
  have s1 := itB_small p hp
  have s2 := itB_small q hq
  unfold idB
  rw [ByteArray.size_append, ByteArray.size_append]
  show _ + 1 + _ ≤ _
  omega
theorem id_row : RowT 23 2 := ⟨⟨_, Tryd.underlying23, rfl⟩, by kernel_rfl⟩
set_option maxHeartbeats 4000000 in
theorem rkeytext_any (p q o : Int) (u : Bool) (w : World) (hp : fits p = true) (hq : fits q = true) (ho : fits o = true) : Calls Tryd.prog 22 #[.agg #[.int .i64 p, .int .i64 q, .int .i64 o, .bool u]] w fun e w' => e = .returned (.string (keyB p q o u)) ∧ Below w.heap.size w w' := by
  have HB := Lib.hid ((Below.refl w.heap.size w).alloc (Nat.le_refl _) (.cells #[.int .i64 p, .int .i64 q, .int .i64 o, .bool u] 25))
  have A := Lib.hid (Blk.new w #[.int .i64 p, .int .i64 q, .int .i64 o, .bool u] 25)
  have hl := Lib.hid (show w.heap.size < (w.alloc (.cells #[.int .i64 p, .int .i64 q, .int .i64 o, .bool u] 25)).heap.size by simp)
  skip
  have CI := Lib.hid (fun w' (hb : Below (w.alloc (.cells #[.int .i64 p, .int .i64 q, .int .i64 o, .bool u] 25)).heap.size (w.alloc (.cells #[.int .i64 p, .int .i64 q, .int .i64 o, .bool u] 25)) w') => show Calls Tryd.prog 20 #[.agg (ints [p, q]).toArray] w' _ from ridtext_any p q w' hp hq)
  have CO := Lib.hid (fun w' (hb : Below (w.alloc (.cells #[.int .i64 p, .int .i64 q, .int .i64 o, .bool u] 25)).heap.size (w.alloc (.cells #[.int .i64 p, .int .i64 q, .int .i64 o, .bool u] 25)) w') => decB o w' ho)
  have s1 := itB_small o ho
  have s6 := idB_small p q hp hq
  obtain ⟨RV, hRV⟩ : ∃ RV, RV = keyB p q o u := ⟨_, rfl⟩
  rw [← hRV]
  have HRV : Hid (RV = if u then idB p q ++ ⟨#[47]⟩ ++ itB o ++ ⟨#[45]⟩ else idB p q ++ ⟨#[47]⟩ ++ itB o) := Lib.hid hRV
  clear hp hq ho hRV
  go_enter Tryd.func22, Tryd.ntmps22
  go_upto_region 1 with fail
  generalize hg : w.heap.size = g at *
  have HG := Lib.hid hg
  generalize (w.alloc (.cells #[.int .i64 p, .int .i64 q, .int .i64 o, .bool u] 25)) = w1 at *
  clear hg
  refine q_begin (by kernel_rfl) (by kernel_rfl) ?_
  repeat (first
    | go_big_quiet_skip
    | ((with_reducible apply q_part (xs := ints [p, q])); (· rfl); (· rfl); (· exact Tryd.underlying23); (· rfl); (· exact A.out); (· exact hl.out); (· rfl); (· exact id_row.2); (simp only [Act.put, List.setIfInBounds_toArray, List.set_cons_zero, List.set_cons_succ]))
    | ((with_reducible apply q_int); (· rfl); (· rfl); (· exact Tryd.underlying3); (· exact A.out); (· exact hl.out); (· rfl); (simp only [Act.put, List.setIfInBounds_toArray, List.set_cons_zero, List.set_cons_succ]))
    | ((with_reducible apply q_call 20 (.string (idB p q))); (· rfl); (· exact Nat.le_refl _); (· intro w hw; exact CI.out w hw); (· intro w; go_simp); (simp only [Act.put, List.setIfInBounds_toArray, List.set_cons_zero, List.set_cons_succ]))
    | ((with_reducible apply q_call 30 (.string (itB o))); (· rfl); (· exact Nat.le_refl _); (· intro w hw; exact CO.out w hw); (· intro w; go_simp); (simp only [Act.put, List.setIfInBounds_toArray, List.set_cons_zero, List.set_cons_succ]))
    | (go_big_quiet_want; go_big_quiet_op; (first | go_big_quiet_on | (apply Exists.intro; refine ⟨fun _ _ => rfl, ?_⟩; go_big_quiet_on))))
  refine q_end ?_
  intro w2 hb
  have HB2 := Lib.hid (HB.out.trans (hb.mono (HG.out ▸ HB.out.size)))
  have A2 := A.out.keep hb hl.out
  have ca : w2.cell? ⟨g, 3, none⟩ = some (.bool u) := A2.cell 3
  clear hb A2
  cases u
  · go_wp2_with fail
    go_ret
    have hge := HG.out
    subst hge
    exact ⟨by rw [HRV.out]; rfl, HB2.out⟩
  · go_wp2_with fail
    go_ret
    have hge := HG.out
    subst hge
    exact ⟨by rw [HRV.out]; rfl, HB2.out⟩
end Go.Proofs.YtbdonjapcpfgiaaDoor
