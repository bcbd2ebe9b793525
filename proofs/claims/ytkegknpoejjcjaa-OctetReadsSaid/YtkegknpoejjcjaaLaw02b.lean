/- The law on readings. -/
import Derived.Test.YtkegknpoejjcjaaLaw02
import Derived.Deep.QuietTactic
import Derived.BigQuiet
import Derived.Lib.SmallJoins
namespace Go.Proofs.Ytkegknpoejjcjaa
set_option linter.unusedVariables false
set_option linter.unusedSimpArgs false
open Go.ChangeShapes Go.WideShapes Go.ChangeAt Go.RowKit
def fineB (bad : Bool) (N left K : Int) : Bool := !bad && (decide (0 ≤ N) && (decide (N ≤ left) && (decide (K = 1) || (decide (1 ≤ N) && decide (N ≤ 8)))))
/-- the reader as the law keeps it. -/
def RS (wr : World) (gr n at_ : Nat) (bs : List UInt8) (bad : Bool) : Prop :=
  (bad = false ∧ ∃ a' c', Rdr wr gr (.slice a' (n - at_) c') true ∧ n - at_ ≤ c' ∧ c' ≤ 9223372036854775807 ∧ Sl wr a' (n - at_) 1 (bcells (bs.drop at_))) ∨ (bad = true ∧ Rdr wr gr (.slice none 0 0) false)
theorem RS.fine {w : World} {gr n at_ k : Nat} {bs : List UInt8} {a : Option Addr} {c : Nat} (h : Rdr w gr (.slice (restOf a c k) (n - at_ - k) (c - k)) true) (hs : Sl w (restOf a c k) (n - at_ - k) 1 (bcells ((bs.drop at_).drop k))) (hc : n - at_ ≤ c) (hcm : c ≤ 9223372036854775807) : RS w gr n (at_ + k) bs false := by
  rw [Nat.sub_sub] at h hs
  rw [List.drop_drop] at hs
  exact Or.inl ⟨rfl, _, _, h, by omega, by omega, hs⟩
set_option maxRecDepth 100000 in
set_option maxHeartbeats 4000000 in
theorem reads_walk (v0 v1 : Value) (w : World) (h0 : Arg Try.prog w 22 v0) (h1 : Arg Try.prog w 23 v1) :
    Calls Try.prog 3 #[v0, v1] w fun e w' => e = .returned (.bool true) ∧ Below w.heap.size w w' := by
  obtain ⟨a, n, c, bs, rfl, hnc, hcm, hnr, hbl, hsl⟩ := h0.bytes
  obtain ⟨la, ln, lc, rfl, hlc, hlm, hops⟩ := h1.ops
  clear h0 h1
  have hn47 : n ≤ 140737488355328 := Nat.le_trans hnr (by decide)
  have HS := Lib.hid hsl
  have HO := Lib.hid hops
  have HL := Lib.hid hbl
  clear hsl hops hbl hnr
  go_enter Try.func3, Try.ntmps3
  go_wp2_with fail
  refine (alive02 w).mono ?_
  rintro e w1 ⟨rfl, hb1⟩
  go_wp2_with fail
  refine (new_any a n c bs w1 (HS.out.keep hb1) hn47).mono ?_
  rintro e w2 ⟨gr, a2, c2, rfl, hg2, hr2, hnc2, hcm2, hs2, hb2⟩
  have HB := Lib.hid (hb1.trans (hb2.mono hb1.size))
  have hgr : w.heap.size ≤ gr := Nat.le_trans hb1.size hg2
  have HR := Lib.hid (show RS w2 gr n 0 bs false from Or.inl ⟨rfl, a2, c2, by simpa using hr2, by simpa using hnc2, by simpa [maxLen] using hcm2, by simpa using hs2⟩)
  clear hb1 hb2 hg2 hr2 hnc2 hcm2 hs2
  go_wp2_with (go_at_call 14; refine (few_any la ln lc _ hlc hlm).mono ?_; rintro e w' ⟨rfl, rfl⟩)
  have hm60 : min ln 60 ≤ 60 := by omega
  have HM := Lib.hid (show min ln 60 ≤ ln by omega)
  generalize min ln 60 = m at *
  go_loopg [6, 7, 8] m (fun k s6 s7 s8 wr => ∃ (i at_ : Nat) (bad : Bool), k + i = m ∧ s8 = .int .i64 i ∧ s6 = .int .i64 at_ ∧ s7 = .bool bad ∧ at_ ≤ n ∧ Hid (RS wr gr n at_ bs bad) ∧ Hid (Below w.heap.size w wr))
  case atStart => exact ⟨0, 0, false, rfl, rfl, rfl, rfl, Nat.zero_le _, HR, HB⟩
  case round =>
    obtain ⟨i, at_, bad, hki, rfl, rfl, rfl, hat, HRS, HBW⟩ := hrel
    by_cases hlt : i < m
    · obtain ⟨lb, lo, rfl, hlb, hcells⟩ : ∃ lb lo, la = some ⟨lb, lo, none⟩ ∧ lb < w.heap.size ∧ ∀ i, i < ln → ∃ K N : Int, w.cell? ⟨lb, lo + i * 2, none⟩ = some (.int .i64 K) ∧ w.cell? ⟨lb, lo + i * 2 + 1, none⟩ = some (.int .i64 N) ∧ -9223372036854775808 ≤ N ∧ N ≤ 9223372036854775807 := by
        rcases HO.out with h | h
        · have := HM.out; omega
        · exact h
      obtain ⟨K, N, hK0, hN0, hN1, hN2⟩ := hcells i (by have := HM.out; omega)
      have hK := (HBW.out.cell (p := ⟨lb, lo + i * 2, none⟩) hlb).trans hK0
      have hN := (HBW.out.cell (p := ⟨lb, lo + i * 2 + 1, none⟩) hlb).trans hN0
      clear hcells hK0 hN0
      go_upto_region 9 with fail
      have hnb : (n : Int) ≤ 140737488355328 := by omega
      have hab : (at_ : Int) ≤ n := by omega
      go_cut [10] (fun s wx => s = .bool (fineB bad N ((n : Int) - at_) K) ∧ wr = wx)
      case first =>
        cases bad with
        | true =>
          have HF := Lib.hid (show false = fineB true N ((n : Int) - at_) K from rfl)
          go_wp2_with fail
          go_meet
          exact ⟨congrArg Value.bool HF.out, rfl⟩
        | false =>
          by_cases p1 : N < 0
          · have HF := Lib.hid (show false = fineB false N ((n : Int) - at_) K by unfold fineB; simp; omega)
            go_wp2_with fail
            go_meet
            exact ⟨congrArg Value.bool HF.out, rfl⟩
          · by_cases p2 : (n : Int) - at_ < N
            · have HF := Lib.hid (show false = fineB false N ((n : Int) - at_) K by unfold fineB; simp; omega)
              go_wp2_with fail
              go_meet
              exact ⟨congrArg Value.bool HF.out, rfl⟩
            · by_cases p3 : K = 1
              · have HF := Lib.hid (show true = fineB false N ((n : Int) - at_) K by unfold fineB; simp; omega)
                have p3' : (K == 1) = true := by simpa using p3
                clear p3
                go_wp2_with fail
                go_meet
                exact ⟨congrArg Value.bool HF.out, rfl⟩
              · have p3' : (K == 1) = false := by simpa using p3
                by_cases p4 : N < 1
                · have HF := Lib.hid (show false = fineB false N ((n : Int) - at_) K by unfold fineB; simp; omega)
                  clear p3
                  go_wp2_with fail
                  go_meet
                  exact ⟨congrArg Value.bool HF.out, rfl⟩
                · by_cases p5 : 8 < N
                  · have HF := Lib.hid (show false = fineB false N ((n : Int) - at_) K by unfold fineB; simp; omega)
                    clear p3
                    go_wp2_with fail
                    go_meet
                    exact ⟨congrArg Value.bool (by rw [← HF.out]; simpa using p5), rfl⟩
                  · have HF := Lib.hid (show true = fineB false N ((n : Int) - at_) K by unfold fineB; simp; omega)
                    clear p3
                    go_wp2_with fail
                    go_meet
                    exact ⟨congrArg Value.bool HF.out, rfl⟩
      case rest =>
        obtain ⟨rfl, rfl⟩ := hcut
        by_cases hf : fineB bad N ((n : Int) - at_) K = true
        · rw [hf]
          obtain ⟨rfl, f1, f2, f3⟩ : bad = false ∧ 0 ≤ N ∧ N ≤ (n : Int) - at_ ∧ (K = 1 ∨ (1 ≤ N ∧ N ≤ 8)) := by
            unfold fineB at hf
            simpa using hf
          obtain ⟨k, rfl⟩ := Int.eq_ofNat_of_zero_le f1
          obtain ⟨a3, c3, hr3, hn3, hc3, hs3⟩ : ∃ a' c', Rdr wr gr (.slice a' (n - at_) c') true ∧ n - at_ ≤ c' ∧ c' ≤ 9223372036854775807 ∧ Sl wr a' (n - at_) 1 (bcells (bs.drop at_)) := by
            rcases HRS.out with ⟨_, h⟩ | ⟨h, _⟩
            · exact h
            · cases h
          have hkn : at_ + k ≤ n := by omega
          clear hf f1 f2
          have hsum : (at_ : Int) + k ≤ n := by omega
          have HSb := Lib.hid ((HS.out.sub (i := at_) (k := k) hkn hnc))
          have HS3 := Lib.hid (fun w' hg => hs3.cut_rest (w' := w') (k := k) hr3 (by omega) hn3 hg)
          by_cases p3 : K = 1
          · have p3' : (K == 1) = true := by simpa using p3
            have B1 := Lib.hid (bytes_ok gr (n - at_) c3 k a3 (bs.drop at_) wr hr3 hs3 (by omega) hn3 hc3 (by omega))
            clear p3 hr3 hs3 f3
            go_wp2_with (go_at_call 15; refine B1.out.mono ?_; rintro e w3 ⟨v, rfl, ho, hr4, hg4⟩)
            obtain ⟨va, vc, rfl, hv1, hv2, hsv⟩ := Sl.own ho
            have HB3 := Lib.hid (HBW.out.grown hg4 HBW.out.size (by rintro g hg; injection hg with hg; omega))
            have cv1 : ∀ nq, (convert 22 9 (.slice va k vc)).run Try.prog (w3.drewN nq) = .ok (.string ⟨((bs.drop at_).take k).toArray⟩) (w3.drewN nq) := fun nq => conv_bytes (hsv.keep (Go.Joins.below_draws _ _ _)) vc
            have cv2 : ∀ nq, (convert 22 9 (.slice (restOf a c at_) k (c - at_))).run Try.prog (w3.drewN nq) = .ok (.string ⟨((bs.drop at_).take k).toArray⟩) (w3.drewN nq) := fun nq => conv_bytes ((HSb.out.keep HB3.out).keep (Go.Joins.below_draws _ _ _)) _
            have HR4 := Lib.hid hr4
            have HS3 := Lib.hid (HS3.out w3 hg4)
            clear hsv ho hr4 B1 HSb
            by_cases hca : c = at_
            · unfold restOf at cv2
              rw [if_pos hca] at cv2
              obtain rfl : at_ = c := hca.symm
              rw [Nat.sub_self] at cv2
              go_quiet (fail)
              clear cv1 cv2
              have HBq := Lib.hid (HB3.out.trans (Go.Joins.below_draws _ w3 nq))
              have HRS2 := Lib.hid (RS.fine (w := w3.drewN nq) (bs := bs) HR4.out (HS3.out.keep (Go.Joins.below_draws _ w3 nq)) hn3 hc3)
              have HRq := Lib.hid (show Rdr (w3.drewN nq) gr (.slice (restOf a3 c3 k) (n - at_ - k) (c3 - k)) true from HR4.out)
              generalize w3.drewN nq = w4 at *
              have CB := Lib.hid (bad_any gr _ _ w4 HRq.out)
              have CD := Lib.hid (done_any gr _ _ _ _ w4 HRq.out)
              have CL := Lib.hid (left_any gr _ _ _ _ w4 HRq.out)
              rw [show ((if true = true then ((n - at_ - k : Nat) : Int) else 0)) = (n : Int) - ((at_ : Int) + k) by simp; omega] at CL
              have hd2 : ((at_ : Int) + k == n) = decide (n - at_ - k = 0) := by rw [Bool.eq_iff_iff]; simp; omega
              rw [Bool.true_and] at CD
              generalize decide (n - at_ - k = 0) = dn at *
              go_wp2_with (first
                | (go_at_call 18; refine CB.out.mono ?_; rintro e w' ⟨rfl, rfl⟩)
                | (go_at_call 19; refine CD.out.mono ?_; rintro e w' ⟨rfl, rfl⟩)
                | (go_at_call 20; refine CL.out.mono ?_; rintro e w' ⟨rfl, rfl⟩))
              go_roundg (gk - 1)
              case measure => omega
              case rel => exact ⟨i + 1, at_ + k, false, by omega, by go_num, by go_num, rfl, by omega, HRS2, HBq⟩
            · unfold restOf at cv2
              rw [if_neg hca] at cv2
              go_quiet (fail)
              clear cv1 cv2
              have HBq := Lib.hid (HB3.out.trans (Go.Joins.below_draws _ w3 nq))
              have HRS2 := Lib.hid (RS.fine (w := w3.drewN nq) (bs := bs) HR4.out (HS3.out.keep (Go.Joins.below_draws _ w3 nq)) hn3 hc3)
              have HRq := Lib.hid (show Rdr (w3.drewN nq) gr (.slice (restOf a3 c3 k) (n - at_ - k) (c3 - k)) true from HR4.out)
              generalize w3.drewN nq = w4 at *
              have CB := Lib.hid (bad_any gr _ _ w4 HRq.out)
              have CD := Lib.hid (done_any gr _ _ _ _ w4 HRq.out)
              have CL := Lib.hid (left_any gr _ _ _ _ w4 HRq.out)
              rw [show ((if true = true then ((n - at_ - k : Nat) : Int) else 0)) = (n : Int) - ((at_ : Int) + k) by simp; omega] at CL
              have hd2 : ((at_ : Int) + k == n) = decide (n - at_ - k = 0) := by rw [Bool.eq_iff_iff]; simp; omega
              rw [Bool.true_and] at CD
              generalize decide (n - at_ - k = 0) = dn at *
              go_wp2_with (first
                | (go_at_call 18; refine CB.out.mono ?_; rintro e w' ⟨rfl, rfl⟩)
                | (go_at_call 19; refine CD.out.mono ?_; rintro e w' ⟨rfl, rfl⟩)
                | (go_at_call 20; refine CL.out.mono ?_; rintro e w' ⟨rfl, rfl⟩))
              go_roundg (gk - 1)
              case measure => omega
              case rel => exact ⟨i + 1, at_ + k, false, by omega, by go_num, by go_num, rfl, by omega, HRS2, HBq⟩
          · have p3' : (K == 1) = false := by simpa using p3
            have hk1 : 1 ≤ k := by rcases f3 with h | h; exact absurd h p3; omega
            have hk8 : k ≤ 8 := by rcases f3 with h | h; exact absurd h p3; omega
            have B1 := Lib.hid (take_ok gr (n - at_) c3 k a3 (bs.drop at_) wr hr3 hs3 hk1 hk8 (by omega) hn3 hc3)
            clear p3 hr3 hs3 f3
            go_wp2_with (go_at_call 16; refine B1.out.mono ?_; rintro e w4 ⟨rfl, hr4, hg4, hz4⟩)
            have HBq := Lib.hid (HBW.out.grown hg4 HBW.out.size (by rintro g hg; injection hg with hg; omega))
            have HRq := Lib.hid hr4
            have HRS2 := Lib.hid (RS.fine (bs := bs) hr4 (HS3.out w4 hg4) hn3 hc3)
            have hca : ¬ c = at_ := by omega
            have hG := Lib.hid (rget_any _ k (c - at_) _ w4 (HSb.out.keep HBq.out) hk8)
            unfold restOf at hG
            rw [if_neg hca] at hG
            clear hr4 B1 HSb HS3
            go_wp2_with fail
            refine hG.out.mono ?_
            rintro e w' ⟨rfl, rfl⟩
            clear hG
            have CB := Lib.hid (bad_any gr _ _ w4 HRq.out)
            have CD := Lib.hid (done_any gr _ _ _ _ w4 HRq.out)
            have CL := Lib.hid (left_any gr _ _ _ _ w4 HRq.out)
            rw [show ((if true = true then ((n - at_ - k : Nat) : Int) else 0)) = (n : Int) - ((at_ : Int) + k) by simp; omega] at CL
            have hd2 : ((at_ : Int) + k == n) = decide (n - at_ - k = 0) := by rw [Bool.eq_iff_iff]; simp; omega
            rw [Bool.true_and] at CD
            generalize decide (n - at_ - k = 0) = dn at *
            go_wp2_with (first
              | (go_at_call 18; refine CB.out.mono ?_; rintro e w' ⟨rfl, rfl⟩)
              | (go_at_call 19; refine CD.out.mono ?_; rintro e w' ⟨rfl, rfl⟩)
              | (go_at_call 20; refine CL.out.mono ?_; rintro e w' ⟨rfl, rfl⟩))
            go_roundg (gk - 1)
            case measure => omega
            case rel => exact ⟨i + 1, at_ + k, false, by omega, by go_num, by go_num, rfl, by omega, HRS2, HBq⟩
        · rw [Bool.not_eq_true] at hf
          rw [hf]
          obtain ⟨a3, c3, n3, hr3, hnf, hn3⟩ : ∃ a' c' n', Rdr wr gr (.slice a' n' c') (!bad) ∧ (bad = true ∨ N < 0 ∨ (n' : Int) < N ∨ (K ≠ 1 ∧ (N < 1 ∨ 8 < N))) ∧ n' ≤ 9223372036854775807 := by
            rcases HRS.out with ⟨rfl, a', c', h1, h2, h3, _⟩ | ⟨rfl, h1⟩
            · refine ⟨a', c', n - at_, h1, ?_, by omega⟩
              have e : ((n - at_ : Nat) : Int) = (n : Int) - at_ := by omega
              rw [e]
              unfold fineB at hf
              simp at hf
              by_cases q1 : N < 0
              · exact Or.inr (Or.inl q1)
              · by_cases q2 : (n : Int) - at_ < N
                · exact Or.inr (Or.inr (Or.inl q2))
                · have := hf (by omega) (by omega)
                  exact Or.inr (Or.inr (Or.inr ⟨this.1, by omega⟩))
            · exact ⟨_, _, 0, h1, Or.inl rfl, by decide⟩
          clear hf
          by_cases p3 : K = 1
          · have p3' : (K == 1) = true := by simpa using p3
            have B1 := Lib.hid (bytes_fail gr n3 c3 N (!bad) a3 wr hr3 (by rcases hnf with h | h | h | h; exact Or.inl (by rw [h]; rfl); exact Or.inr (Or.inl h); exact Or.inr (Or.inr h); exact absurd p3 h.1) hn3)
            clear p3 hr3 hnf
            go_wp2_with (go_at_call 15; refine B1.out.mono ?_; rintro e w3 ⟨rfl, hr4, hg4⟩)
            have HB3 := Lib.hid (HBW.out.grown hg4 HBW.out.size (by rintro g hg; injection hg with hg; omega))
            have HR4 := Lib.hid hr4
            clear hr4 B1
            go_quiet (fail)
            have HB4 := Lib.hid (HB3.out.trans (Go.Joins.below_draws _ w3 nq))
            have HRq := Lib.hid (show Rdr (w3.drewN nq) gr (.slice none 0 0) false from HR4.out)
            generalize w3.drewN nq = w4 at *
            cases bad with
            | true =>
              have HBq := Lib.hid HB4.out
              have CB := Lib.hid (bad_any gr _ _ w4 HRq.out)
              have CD := Lib.hid (done_any gr _ _ _ _ w4 HRq.out)
              have CL := Lib.hid (left_any gr _ _ _ _ w4 HRq.out)
              have HRS2 := Lib.hid (show RS w4 gr n at_ bs true from Or.inr ⟨rfl, HRq.out⟩)
              go_wp2_with (first
                | (go_at_call 18; refine CB.out.mono ?_; rintro e w' ⟨rfl, rfl⟩)
                | (go_at_call 19; refine CD.out.mono ?_; rintro e w' ⟨rfl, rfl⟩)
                | (go_at_call 20; refine CL.out.mono ?_; rintro e w' ⟨rfl, rfl⟩))
              go_roundg (gk - 1)
              case measure => omega
              case rel => exact ⟨i + 1, at_, true, by omega, by go_num, rfl, rfl, hat, HRS2, HBq⟩
            | false =>
              have HBq := Lib.hid HB4.out
              have CB := Lib.hid (bad_any gr _ _ w4 HRq.out)
              have CD := Lib.hid (done_any gr _ _ _ _ w4 HRq.out)
              have CL := Lib.hid (left_any gr _ _ _ _ w4 HRq.out)
              have HRS2 := Lib.hid (show RS w4 gr n at_ bs true from Or.inr ⟨rfl, HRq.out⟩)
              go_wp2_with (first
                | (go_at_call 18; refine CB.out.mono ?_; rintro e w' ⟨rfl, rfl⟩)
                | (go_at_call 19; refine CD.out.mono ?_; rintro e w' ⟨rfl, rfl⟩)
                | (go_at_call 20; refine CL.out.mono ?_; rintro e w' ⟨rfl, rfl⟩))
              go_roundg (gk - 1)
              case measure => omega
              case rel => exact ⟨i + 1, at_, true, by omega, by go_num, rfl, rfl, hat, HRS2, HBq⟩
          · have p3' : (K == 1) = false := by simpa using p3
            have B1 := Lib.hid (take_fail gr n3 c3 N (!bad) a3 wr hr3 (by rcases hnf with h | h | h | h; exact Or.inl (by rw [h]; rfl); exact Or.inr (Or.inl (by omega)); exact Or.inr (Or.inr (Or.inr h)); rcases h.2 with h | h; exact Or.inr (Or.inl h); exact Or.inr (Or.inr (Or.inl h))) hn3)
            clear p3 hr3 hnf
            cases bad with
            | true =>
              go_wp2_with (go_at_call 16; refine B1.out.mono ?_; rintro e w4 ⟨rfl, hr4, hg4⟩)
              have HB4 := Lib.hid (HBW.out.grown hg4 HBW.out.size (by rintro g hg; injection hg with hg; omega))
              have HRq := Lib.hid hr4
              clear hr4 B1
              have HBq := Lib.hid HB4.out
              have CB := Lib.hid (bad_any gr _ _ w4 HRq.out)
              have CD := Lib.hid (done_any gr _ _ _ _ w4 HRq.out)
              have CL := Lib.hid (left_any gr _ _ _ _ w4 HRq.out)
              have HRS2 := Lib.hid (show RS w4 gr n at_ bs true from Or.inr ⟨rfl, HRq.out⟩)
              go_wp2_with (first
                | (go_at_call 18; refine CB.out.mono ?_; rintro e w' ⟨rfl, rfl⟩)
                | (go_at_call 19; refine CD.out.mono ?_; rintro e w' ⟨rfl, rfl⟩)
                | (go_at_call 20; refine CL.out.mono ?_; rintro e w' ⟨rfl, rfl⟩))
              go_roundg (gk - 1)
              case measure => omega
              case rel => exact ⟨i + 1, at_, true, by omega, by go_num, rfl, rfl, hat, HRS2, HBq⟩
            | false =>
              go_wp2_with (go_at_call 16; refine B1.out.mono ?_; rintro e w4 ⟨rfl, hr4, hg4⟩)
              have HB4 := Lib.hid (HBW.out.grown hg4 HBW.out.size (by rintro g hg; injection hg with hg; omega))
              have HRq := Lib.hid hr4
              clear hr4 B1
              have HBq := Lib.hid HB4.out
              have CB := Lib.hid (bad_any gr _ _ w4 HRq.out)
              have CD := Lib.hid (done_any gr _ _ _ _ w4 HRq.out)
              have CL := Lib.hid (left_any gr _ _ _ _ w4 HRq.out)
              have HRS2 := Lib.hid (show RS w4 gr n at_ bs true from Or.inr ⟨rfl, HRq.out⟩)
              go_wp2_with (first
                | (go_at_call 18; refine CB.out.mono ?_; rintro e w' ⟨rfl, rfl⟩)
                | (go_at_call 19; refine CD.out.mono ?_; rintro e w' ⟨rfl, rfl⟩)
                | (go_at_call 20; refine CL.out.mono ?_; rintro e w' ⟨rfl, rfl⟩))
              go_roundg (gk - 1)
              case measure => omega
              case rel => exact ⟨i + 1, at_, true, by omega, by go_num, rfl, rfl, hat, HRS2, HBq⟩
    · go_wp2
      go_ret
      exact ⟨rfl, HBW.out⟩
end Go.Proofs.Ytkegknpoejjcjaa
