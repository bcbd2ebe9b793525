/- CrcChecks. -/
import Derived.Test.YtmgjbgingjiimaaRef02
import Derived.Deep.QuietTactic
import Derived.BigQuiet
import Derived.Lib.SmallJoins
import Derived.Deep.RegionHeld3
import Derived.Deep.DrawnRows
import Derived.Deep.DeepCutAuto
import Derived.IntWalk
namespace Go.Proofs.Ytmgjbgingjiimaa
set_option linter.unusedVariables false
set_option linter.unusedSimpArgs false
open Go.ChangeShapes Go.WideShapes Go.ChangeAt Go.RowKit
theorem put_take (bs : List UInt8) (n : Nat) (hn : bs.length = n) : (crcPutOf bs).take n = bs := by
  unfold crcPutOf
  rw [List.take_append_of_le_length (by omega), List.take_of_length_le (by omega)]
theorem put_tail (bs : List UInt8) (n : Nat) (hn : bs.length = n) : crcTail n (crcPutOf bs) = crcMore 0 bs := by
  unfold crcTail crcPutOf
  rw [List.drop_append_of_le_length (by omega), List.drop_of_length_le (by omega), List.nil_append, List.take_of_length_le (by rw [beOf_len]; omega), numOf_be4 _ (crcMore_lt _ _)]
attribute [local go_sem ↓] Go.wp_at_zero Go.wp_at_succ
theorem below_step {w w1 w2 : World} {B : Nat} (h : Below B w w1) (hB : B ≤ w1.heap.size) (h2 : Below w1.heap.size w1 w2) : Below B w w2 := h.trans (h2.mono hB)
theorem below_more {w w1 w2 : World} (h : Below w.heap.size w w1) (h2 : Below w1.heap.size w1 w2) : Below w.heap.size w w2 := h.trans (h2.mono h.size)
theorem below_drew (w : World) (B : Nat) : Below B w w.drew := Go.Joins.below_draws B w 1
set_option maxRecDepth 100000 in
set_option maxHeartbeats 4000000 in
theorem checks_walk (v0 : Value) (w : World) (h0 : Arg Try.prog w 24 v0) :
    Calls Try.prog 4 #[v0] w fun e w' => e = .returned (.bool true) ∧ Below w.heap.size w w' := by
  obtain ⟨a, n, c, bs, rfl, hnc, hcm, hnr, hbl, hsl⟩ := h0.bytes
  clear h0
  have hn47 : n + 8 ≤ 140737488355328 := Nat.le_trans (Nat.add_le_add_right hnr 8) (by decide)
  have HS := Lib.hid hsl
  have HL := Lib.hid hbl
  clear hsl hbl hnr
  go_enter Try.func4, Try.ntmps4
  go_wp2_with fail
  refine (alive03 w).mono ?_
  rintro e w1 ⟨rfl, hb1⟩
  have HS1 := Lib.hid (HS.out.keep hb1)
  have HB1 := Lib.hid hb1
  have hsz1 := hb1.size
  clear hb1
  go_wp2_with fail
  refine (cput_any a n c bs w1 HS1.out hn47).mono ?_
  rintro e w2 ⟨v, rfl, ho2, hb2⟩
  obtain ⟨pa, pc, rfl, hpc, hpm, hsp⟩ := Sl.own ho2
  have HB2 := Lib.hid (HB1.out.trans (hb2.mono hsz1))
  have hsz2 := HB2.out.size
  have hpm' : pc ≤ 9223372036854775807 := by simpa [maxLen] using hpm
  have C := Lib.hid (check_long pa n (n + 4) pc _ w2 hsp rfl hpc hpm' (by omega))
  rw [put_take bs n HL.out, put_tail bs n HL.out] at C
  clear ho2 hb2 HS1 HB1 hsp hpm
  go_wp2_with fail
  refine C.out.mono ?_
  rintro e w3 ⟨ht, _, hb3⟩
  obtain ⟨v, rfl, ho3⟩ := ht trivial
  obtain ⟨xa, xc, rfl, _, _, hx3⟩ := Sl.own ho3
  have HX := Lib.hid hx3
  have HB3 := Lib.hid (HB2.out.trans (hb3.mono hsz2))
  have hsz3 := HB3.out.size
  have HS3 := Lib.hid (HS.out.keep HB3.out)
  clear C ho3 hb3 HB2 ht hx3 hsz2 hsz1
  have hlt := crcMore_lt 0 bs
  have HP0 := Lib.hid (show bs ++ beOf (crcMore 0 bs) 4 = crcPutOf bs from rfl)
  have hd0 := below_drew w3 w3.heap.size
  have cx := conv_bytes (HX.out.keep hd0) xc
  have cb := conv_bytes (HS3.out.keep hd0) c
  have hwr : IntKind.u64.wrap ((crcMore 0 bs : Nat) : Int) = ((crcMore 0 bs : Nat) : Int) := IntWalk.u64_in _ (by omega)
  have RP := Lib.hid (fun (w' : World) (h : Below w3.heap.size w3 w') => rput_ok a n c bs (crcMore 0 bs) 4 w' (HS3.out.keep h) hn47 (by omega) (by omega) (by omega))
  rw [show (((4 : Nat) : Int)) = 4 from rfl] at RP
  go_upto_region 4 with fail
  go_cut [36] (fun s wx => s = .bool false ∧ Below w3.heap.size w3 wx)
  case first =>
    go_wp2_with fail
    go_region_with (first
        | (go_at_call 17; ((with_reducible refine (cput_any a n c bs _ (HS3.out.keep (by assumption)) hn47).mono ?_); rintro e w4 ⟨v, rfl, ho, hb⟩; obtain ⟨pa2, pc2, rfl, _, _, hsp⟩ := Sl.own ho; have HP := Lib.hid hsp; have hw4 := below_more hd0 hb; have cp := conv_bytes hsp pc2; clear ho hsp hb))
        | (go_at_call 14; ((with_reducible refine (rsum_any a n c bs _ (HS3.out.keep (by assumption)) (by omega)).mono ?_); rintro e w4 ⟨rfl, rfl⟩))
        | (go_at_call 18; ((with_reducible refine (RP.out _ (by assumption)).mono ?_); rintro e w5 ⟨v, rfl, ho, hb⟩; obtain ⟨ra2, rc2, rfl, _, _, hsp⟩ := Sl.own ho; rw [HP0.out] at hsp; have cr := conv_bytes hsp rc2; have cp5 := conv_bytes (HP.out.keep hb) pc2; have hw5 := below_more hw4 hb; clear ho hsp)))
    all_goals (go_wp2_with fail; go_meet; exact ⟨rfl, by assumption⟩)
  case rest =>
    obtain ⟨rfl, hbx⟩ := hcut
    have HBx := Lib.hid (below_step HB3.out hsz3 hbx)
    have HSx := Lib.hid (HS3.out.keep hbx)
    have hszx := HBx.out.size
    clear cx cb RP hd0 hbx hlt hwr HP0 HX
    clear HS HL
    go_wp2_with fail
    by_cases h4 : n < 4
    · refine (check_short a n c wc h4 hnc hcm).mono ?_
      rintro e w6 ⟨rfl, rfl⟩
      have hneg : decide ((n : Int) - 4 < 0) = true := by rw [decide_eq_true_eq]; omega
      go_wp2_with fail
      go_quiet (fail)
      go_wp2_with fail
      go_ret
      exact ⟨rfl, HBx.out.trans (Go.Joins.below_draws _ _ _)⟩
    · obtain ⟨m, rfl⟩ : ∃ m, n = m + 4 := ⟨n - 4, by omega⟩
      have hneg : decide ((m : Int) < 0) = false := by rw [decide_eq_false_iff_not]; omega
      have hmm : ((m + 4 : Nat) : Int) - 4 = m := by omega
      have hmc : ¬ c = m := by omega
      have hm0 : (0 : Int) ≤ m := by omega
      have hm1 : (m : Int) ≤ (m : Int) + 4 := by omega
      have hm2 : (m : Int) ≤ c := by omega
      have HT := Lib.hid (show Sl wc (Option.map (fun x => x.add m) a) 4 1 (bcells ((bs.drop m).take 4)) from by
        have := HSx.out.sub (i := m) (k := 4) (by omega) hnc
        unfold restOf at this
        rwa [if_neg hmc] at this)
      have HF := Lib.hid (HSx.out.front4 (k := m) (by omega))
      have CK := Lib.hid (check_long a m (m + 4) c bs wc HSx.out rfl hnc hcm (by omega))
      unfold crcTail at CK
      have hlt1 := crcMore_lt 0 (bs.take m)
      generalize (bs.drop m).take 4 = ts at *
      generalize bs.take m = fs at *
      generalize hcs : crcMore 0 fs = cs at CK hlt1
      refine CK.out.mono ?_
      rintro e w6 ⟨hy, hn, hb6⟩
      have HT6 := Lib.hid (HT.out.keep hb6)
      have HF6 := Lib.hid (HF.out.keep hb6)
      have HB6 := Lib.hid (below_step HBx.out hszx hb6)
      clear HT HF CK HBx hb6 hszx HSx
      have GT := Lib.hid (fun w' h => (rget_any (Option.map (fun x => x.add m) a) 4 (c - m) ts w' h (by decide)).mono fun e w'' h => (⟨h.1, h.2.symm⟩ : e = _ ∧ w'' = w'))
      have GS := Lib.hid (fun w' h => (rsum_any a m c fs w' h (by omega)).mono fun e w'' h => (⟨h.1, h.2.symm⟩ : e = _ ∧ w'' = w'))
      rw [hcs] at GS
      clear hcs
      have hwr : IntKind.u64.wrap (cs : Int) = (cs : Int) := IntWalk.u64_in _ (by omega)
      by_cases hq : cs = numOf ts
      · obtain ⟨v, rfl, ho6⟩ := hy hq
        obtain ⟨ya, yc, rfl, _, _, hs6⟩ := Sl.own ho6
        have HY6 := Lib.hid hs6
        have hne : (((numOf ts : Nat) : Int) != (cs : Int)) = false := by rw [bne_eq_false_iff_eq]; omega
        clear hy hn hq ho6 hs6
        go_wp2_with fail
        go_quiet ((first | (go_at_call 19; exact Calls.quiet_of_same (GT.out _ (HT6.out.keep (Go.Joins.below_draws _ _ _)))) | (go_at_call 14; exact Calls.quiet_of_same (GS.out _ (HF6.out.keep (Go.Joins.below_draws _ _ _))))))
        have HY7 := Lib.hid (HY6.out.keep (Go.Joins.below_draws _ w6 nq))
        have HF7 := Lib.hid (HF6.out.keep (Go.Joins.below_draws _ w6 nq))
        have HB7 := Lib.hid (HB6.out.trans (Go.Joins.below_draws _ w6 nq))
        clear HY6 HF6 HB6 HT6 GT GS hne hwr
        generalize w6.drewN nq = w7 at *
        have c1 := fun nq => conv_draws HY7.out yc nq
        have c2 := fun nq => conv_draws HF7.out c nq
        go_wp2_with fail
        go_quiet (fail)
        go_wp2_with fail
        go_ret
        exact ⟨rfl, HB7.out.trans (Go.Joins.below_draws _ _ _)⟩
      · obtain rfl := hn hq
        have hne : (((numOf ts : Nat) : Int) != (cs : Int)) = true := by rw [bne_iff_ne]; omega
        clear hy hn hq
        go_wp2_with fail
        go_quiet ((first | (go_at_call 19; exact Calls.quiet_of_same (GT.out _ (HT6.out.keep (Go.Joins.below_draws _ _ _)))) | (go_at_call 14; exact Calls.quiet_of_same (GS.out _ (HF6.out.keep (Go.Joins.below_draws _ _ _))))))
        go_wp2_with fail
        go_ret
        exact ⟨rfl, HB6.out.trans (Go.Joins.below_draws _ _ _)⟩
end Go.Proofs.Ytmgjbgingjiimaa
