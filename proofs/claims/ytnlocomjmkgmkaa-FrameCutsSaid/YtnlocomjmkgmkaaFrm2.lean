/- Frames: what gets them. -/
import Derived.Test.YtnlocomjmkgmkaaFrm
import Derived.Test.YtnlocomjmkgmkaaLaw02c
import Derived.Test.YtnlocomjmkgmkaaLaw02
import Derived.Test.YtnlocomjmkgmkaaLaw03
import Derived.Test.YtnlocomjmkgmkaaRef02
import Derived.Test.YtnlocomjmkgmkaaOps
import Derived.RegionTactic
import Derived.BigRegion
import Derived.ChangeAlike
namespace Go.Proofs.Ytnlocomjmkgmkaa
set_option linter.unusedVariables false
set_option linter.unusedSimpArgs false
open Go.ChangeShapes Go.WideShapes Go.ChangeAt Go.RowKit
/-- the length of the payload of the frame that octets begin with. -/
def getF (bs : List UInt8) : Option Nat :=
  if 2 ≤ bs.length ∧ 1 ≤ numOf (bs.take 2) ∧ numOf (bs.take 2) ≤ 4096 ∧ numOf (bs.take 2) + 7 ≤ bs.length ∧ (bs.getD (numOf (bs.take 2) + 6) 0).toNat = 90 ∧ crcMore 0 ((bs.drop 2).take (numOf (bs.take 2))) = numOf ((bs.drop (2 + numOf (bs.take 2))).take 4)
  then some (numOf (bs.take 2)) else none
theorem ret_tmp3 {P : Program} {fn : Func} {R : Ending → World → Prop} {a : Act} {w : World} {p q r : Nat} {x y z : Value} (h : fn.results = #[.tmp p, .tmp q, .tmp r]) (hp : a.tmps.getD p undef = x) (hq : a.tmps.getD q undef = y) (hr : a.tmps.getD r undef = z) (hdf : a.defers = []) (hR : R (.returned (.tuple #[x, y, z])) w) : bodyPost P fn R .ret a w := by
  have hp' : a.tmps[p]?.getD undef = x := by simpa using hp
  have hq' : a.tmps[q]?.getD undef = y := by simpa using hq
  have hr' : a.tmps[r]?.getD undef = z := by simpa using hr
  refine bodyPost_ret ?_ hdf hR
  simp [results, h, hp', hq', hr']
theorem own_base' {w : World} {B B' : Nat} {e : TypeId} {sz : Nat} {v : Value} {n : Nat} {xs : List Value} (h : w.ownsRow B e sz v n xs) (hB : B' ≤ B) : w.ownsRow B' e sz v n xs := by
  refine ⟨h.1, h.2.imp id ?_⟩
  rintro ⟨g, cap, cur, h1, h2, h3⟩
  exact ⟨g, cap, cur, h1, Nat.le_trans hB h2, h3⟩
theorem fget_short (a : Option Addr) (n c : Nat) (w : World) (h : n < 2) : Calls Try.prog 9 #[.slice a n c] w fun e w' => e = .returned (.tuple #[.slice none 0 0, .int .i64 0, .bool false]) ∧ w = w' := by
  have hn : (n : Int) < 2 := by omega
  clear h
  go_enter Try.func9, Try.ntmps9
  go_wp2_with fail
  exact ret_tmp3 (p := 2) (q := 3) (r := 4) rfl rfl rfl rfl rfl ⟨rfl, rfl⟩
set_option maxRecDepth 100000 in
set_option maxHeartbeats 4000000 in
theorem fget_core (bb off n c m : Nat) (bs : List UInt8) (w : World) (h : Sl w (some ⟨bb, off, none⟩) n 1 (bcells bs)) (hn2 : 2 ≤ n) (hnc : n ≤ c) (hc : c ≤ 9223372036854775807) (hn47 : n ≤ 140737488355328) (hm : numOf (bs.take 2) = m) (v : Bool)
    (hv : v = (decide (1 ≤ m) && decide (m ≤ 4096) && decide (m + 7 ≤ n) && decide ((bs.getD (m + 6) 0).toNat = 90) && decide (crcMore 0 ((bs.drop 2).take m) = numOf ((bs.drop (2 + m)).take 4)))) :
    Calls Try.prog 9 #[.slice (some ⟨bb, off, none⟩) n c] w fun e w' => (v = true → ∃ a' c', e = .returned (.tuple #[.slice a' m c', .int .i64 (m + 7 : Nat), .bool true]) ∧ w'.ownsRow w.heap.size 5 1 (.slice a' m c') m (bcells ((bs.drop 2).take m))) ∧ (v = false → e = .returned (.tuple #[.slice none 0 0, .int .i64 0, .bool false])) ∧ Below w.heap.size w w' := by
  have hbl : bs.length = n := bsl_one h
  have hml : m < 65536 := by have := numOf_lt (bs.take 2); rw [hm, List.length_take, hbl, Nat.min_eq_left hn2] at this; exact this
  have N := Lib.hid (new_any (some ⟨bb, off, none⟩) 2 c (bs.take 2) w (h.front hn2) (by decide))
  have HS := Lib.hid h
  have HM := Lib.hid hm
  have HV := Lib.hid hv
  have HBL := Lib.hid hbl
  have hcell := (h.byte (by omega)).2
  obtain ⟨b2, o2, e2, hblt, hcell⟩ := hcell
  injection e2 with e2
  injection e2 with e3 e4
  subst e3; subst e4
  have HCE := Lib.hid hcell
  have hn2' : ¬ (n : Int) < 2 := by omega
  have hc2 : (2 : Int) ≤ c := by omega
  clear h hm hv hbl hcell
  go_enter Try.func9, Try.ntmps9
  go_wp2_with fail
  refine N.out.mono ?_
  rintro e w1 ⟨g, a', c', rfl, hg, h1, h2, h3, h4, hb1⟩
  have T := Lib.hid (take_ok g 2 c' 2 a' (bs.take 2) w1 h1 h4 (by decide) (by decide) (by decide) h2 (by simpa [maxLen] using h3))
  have HB1 := Lib.hid hb1
  clear N h1 h2 h3 h4 hb1
  go_wp2_with fail
  refine T.out.mono ?_
  rintro e w2 ⟨rfl, _, hg2, _⟩
  rw [List.take_take, Nat.min_self, HM.out]
  have HB2 := Lib.hid (Below.grown HB1.out hg2 HB1.out.size fun q hq => by injection hq with hq; omega)
  clear hg2 T HB1
  have hml' : (m : Int) < 65536 := by omega
  have hml2 : (0 : Int) ≤ m := by omega
  have FS := Lib.hid (fun w => fsize_any (m : Int) w)
  by_cases k1 : 1 ≤ m ∧ m ≤ 4096
  · obtain ⟨j, hj⟩ : ∃ j, j = m + 6 := ⟨_, rfl⟩
    have hsz : sizeI (m : Int) = (j : Int) + 1 := by unfold sizeI; rw [if_pos (by omega), hj]; omega
    rw [hsz] at FS
    have hne : ¬ (j : Int) + 1 = 0 := by omega
    have K1 := Lib.hid k1
    have HJ := Lib.hid hj
    have hj1 : 7 ≤ j := by omega
    have hj2 : j ≤ 4102 := by omega
    have k2i : m + 7 ≤ n ↔ j + 1 ≤ n := by omega
    clear hml hsz
    by_cases k2 : j + 1 ≤ n
    · have hlt : ¬ (n : Int) < (j : Int) + 1 := by omega
      have c6 : w2.cell? ⟨bb, off + j, none⟩ = some (.int .u8 ((bs.getD j 0).toNat : Int)) := (HB2.out.cell (p := ⟨bb, off + j, none⟩) hblt).trans (HCE.out j (by omega))
      have hjn : (j : Int) < n := by omega
      generalize hz6 : (bs.getD j 0).toNat = z6 at *
      have HZ := Lib.hid hz6
      have hzj : (bs.getD (m + 6) 0).toNat = z6 := by rw [← hj]; exact hz6
      rw [hzj] at HV
      have hkm : (decide (1 ≤ m) && decide (m ≤ 4096) && decide (m + 7 ≤ n)) = true := by rw [decide_eq_true k1.1, decide_eq_true k1.2, decide_eq_true (show m + 7 ≤ n by omega)]; rfl
      rw [hkm] at HV
      have hjm : j - 2 = m + 4 := by omega
      have HJM := Lib.hid hjm
      have HSL := Lib.hid (show Sl w2 (some ⟨bb, off + 2, none⟩) (j - 2) 1 (bcells ((bs.drop 2).take (j - 2))) from by
        have := ((HS.out.sub (i := 2) (k := j - 2) (by omega) hnc).keep HB2.out)
        unfold restOf at this
        rw [if_neg (by omega)] at this
        simpa [add_plain] using this)
      have CK := Lib.hid (check_long (some ⟨bb, off + 2, none⟩) m (j - 2) (c - 2) ((bs.drop 2).take (j - 2)) w2 HSL.out hjm (by omega) (by omega) (by omega))
      have hta : ((bs.drop 2).take (j - 2)).take m = (bs.drop 2).take m := by rw [List.take_take, Nat.min_eq_left (by omega)]
      have htb : crcTail m ((bs.drop 2).take (j - 2)) = numOf ((bs.drop (2 + m)).take 4) := by
        unfold crcTail
        rw [List.drop_take, List.drop_drop, List.take_take, show min 4 (j - 2 - m) = 4 by omega]
      rw [hta, htb] at CK
      clear hta htb hz6 k2i k1 hj hzj hkm hjm HSL
      have hcc2 : ¬ c = 2 := by omega
      have hjc : (j : Int) ≤ c := by omega
      by_cases k3 : (z6 : Int) = 90
      · rw [show decide (z6 = 90) = true from decide_eq_true (by omega), Bool.true_and, Bool.true_and] at HV
        have HZ9 := Lib.hid k3
        have hb3 : ((z6 : Int) != 90) = false := by rw [k3]; rfl
        have hb1 : ((j : Int) + 1 == 0) = false := by simpa using hne
        go_upto_region 4 with fail
        go_wp2_with fail
        refine (FS.out _).mono ?_
        rintro e w3 ⟨rfl, rfl⟩
        clear hml' hml2
        go_wp2_with fail
        refine CK.out.mono ?_
        rintro e w4 ⟨hy, hn, hb⟩
        have HB4 := Lib.hid (HB2.out.trans (hb.mono HB2.out.size))
        by_cases k4 : crcMore 0 ((bs.drop 2).take m) = numOf ((bs.drop (2 + m)).take 4)
        · obtain ⟨v4, rfl, ho⟩ := hy k4
          obtain ⟨a4, c4, rfl, _, _, _⟩ := Sl.own ho
          have HO := Lib.hid ho
          have HT := Lib.hid (show v = true by rw [HV.out, decide_eq_true k4])
          have HJ7 := Lib.hid (show (j : Int) + 1 = ((m + 7 : Nat) : Int) by have := HJM.out; omega)
          clear hy hn hb ho k4 HV CK
          go_wp2_with fail
          refine ret_tmp3 (p := 2) (q := 3) (r := 4) rfl rfl rfl rfl rfl ⟨fun _ => ⟨a4, c4, by rw [← HJ7.out]; rfl, ?_⟩, fun h => absurd h (by rw [HT.out]; decide), HB4.out⟩
          exact own_base' HO.out HB2.out.size
        · obtain rfl := hn k4
          have HF := Lib.hid (show v = false by rw [HV.out, decide_eq_false k4])
          clear hy hn hb k4 HV CK
          go_wp2_with fail
          exact ret_tmp3 (p := 2) (q := 3) (r := 4) rfl rfl rfl rfl rfl ⟨fun h => absurd h (by rw [HF.out]; decide), fun _ => rfl, HB4.out⟩
      · have HF := Lib.hid (show v = false by rw [HV.out, show decide (z6 = 90) = false from decide_eq_false (by omega)]; simp)
        clear HV CK
        have hb3 : ((z6 : Int) != 90) = true := by simpa using k3
        have hb1 : ((j : Int) + 1 == 0) = false := by simpa using hne
        go_upto_region 4 with fail
        go_wp2_with fail
        refine (FS.out _).mono ?_
        rintro e w3 ⟨rfl, rfl⟩
        clear hml' hml2
        go_wp2_with fail
        exact ret_tmp3 (p := 2) (q := 3) (r := 4) rfl rfl rfl rfl rfl ⟨fun h => absurd h (by rw [HF.out]; decide), fun _ => rfl, HB2.out⟩
    · have HF := Lib.hid (show v = false by rw [HV.out, show decide (m + 7 ≤ n) = false from decide_eq_false (by omega)]; simp)
      have hlt : (n : Int) < (j : Int) + 1 := by omega
      clear k2i k1 hj
      go_wp2_with fail
      refine (FS.out _).mono ?_
      rintro e w3 ⟨rfl, rfl⟩
      go_wp2_with fail
      exact ret_tmp3 (p := 2) (q := 3) (r := 4) rfl rfl rfl rfl rfl ⟨fun h => absurd h (by rw [HF.out]; decide), fun _ => rfl, HB2.out⟩
  · have hsz : sizeI (m : Int) = 0 := by unfold sizeI; rw [if_neg (by omega)]
    rw [hsz] at FS
    have HF := Lib.hid (show v = false by
      rw [HV.out]
      rcases (show ¬ 1 ≤ m ∨ ¬ m ≤ 4096 by omega) with h | h
      · rw [decide_eq_false h]; simp
      · rw [show decide (m ≤ 4096) = false from decide_eq_false h]; simp)
    clear k1 hsz
    go_wp2_with fail
    refine (FS.out _).mono ?_
    rintro e w3 ⟨rfl, rfl⟩
    go_wp2_with fail
    exact ret_tmp3 (p := 2) (q := 3) (r := 4) rfl rfl rfl rfl rfl ⟨fun h => absurd h (by rw [HF.out]; decide), fun _ => rfl, HB2.out⟩
end Go.Proofs.Ytnlocomjmkgmkaa
