/- Requests that may be: the reference's. -/
import Derived.Test.YtalbkpahphndiaaEnt2
import Derived.Test.YtalbkpahphndiaaNum
import Derived.BigQuiet
import Derived.Deep.QuietTactic
import Derived.Lib.SmallJoins
import Derived.Test.YtalbkpahphndiaaRow
import Derived.Test.YtalbkpahphndiaaOps
import Derived.RegionTactic
import Derived.BigRegion
import Derived.ChangeAlike
namespace Go.Proofs.Ytalbkpahphndiaa
set_option linter.unusedVariables false
set_option linter.unusedSimpArgs false
open Go.ChangeShapes Go.WideShapes Go.ChangeAt Go.RowKit
theorem inB_iff (n lo hi : Int) : inB n lo hi = true ↔ lo ≤ n ∧ n ≤ hi := by unfold inB; simp
theorem ment_iff (o k a p q s l : Int) (ak gn : Bool) (b bl : Int) : mayEnt o k a p q s l ak gn b bl = true ↔ effCode k a p q = 0 ∧ 1 ≤ o ∧ o ≤ 255 ∧ 1 ≤ s ∧ s ≤ 8 ∧ 0 ≤ b ∧ b ≤ 8 ∧ (0 < b → (ak && gn) = true) ∧ 0 ≤ l ∧ l ≤ 1073741824 ∧ 0 ≤ bl ∧ bl ≤ 1073741824 ∧ (0 < b ∨ bl = 0) := by
  unfold mayEnt
  rw [decide_eq_true_iff, inB_iff, inB_iff, inB_iff, inB_iff, inB_iff]
  constructor
  · rintro ⟨h1, ⟨h2, h3⟩, ⟨h4, h5⟩, ⟨h6, h7⟩, h8, ⟨h9, g1⟩, ⟨g2, g3⟩, g4⟩
    exact ⟨h1, h2, h3, h4, h5, h6, h7, h8, h9, g1, g2, g3, g4⟩
  · rintro ⟨h1, h2, h3, h4, h5, h6, h7, h8, h9, g1, g2, g3, g4⟩
    exact ⟨h1, ⟨h2, h3⟩, ⟨h4, h5⟩, ⟨h6, h7⟩, h8, ⟨h9, g1⟩, ⟨g2, g3⟩, g4⟩
theorem ment_not {o k a p q s l : Int} {ak gn : Bool} {b bl : Int} (h : ¬ (effCode k a p q = 0 ∧ 1 ≤ o ∧ o ≤ 255 ∧ 1 ≤ s ∧ s ≤ 8 ∧ 0 ≤ b ∧ b ≤ 8 ∧ (0 < b → (ak && gn) = true) ∧ 0 ≤ l ∧ l ≤ 1073741824 ∧ 0 ≤ bl ∧ bl ≤ 1073741824 ∧ (0 < b ∨ bl = 0))) : mayEnt o k a p q s l ak gn b bl = false := by
  rw [Bool.eq_false_iff]
  exact fun hh => h ((ment_iff o k a p q s l ak gn b bl).1 hh)
set_option maxRecDepth 100000 in
set_option maxHeartbeats 8000000 in
theorem rment_any (o k a n p q s l : Int) (ak gn : Bool) (b bl : Int) (w : World) : Calls Try.prog 23 #[.agg #[.int .i64 o, .int .i64 k, .int .i64 a, .int .i64 n, .int .i64 p, .int .i64 q, .int .i64 s, .int .i64 l, .bool ak, .bool gn, .int .i64 b, .int .i64 bl]] w fun e w' => e = .returned (.bool (mayEnt o k a p q s l ak gn b bl)) ∧ Below w.heap.size w w' := by
  have A := Lib.hid (Blk.new w #[.int .i64 o, .int .i64 k, .int .i64 a, .int .i64 n, .int .i64 p, .int .i64 q, .int .i64 s, .int .i64 l, .bool ak, .bool gn, .int .i64 b, .int .i64 bl] 52)
  have HB := Lib.hid ((Below.refl w.heap.size w).alloc (Nat.le_refl _) (.cells #[.int .i64 o, .int .i64 k, .int .i64 a, .int .i64 n, .int .i64 p, .int .i64 q, .int .i64 s, .int .i64 l, .bool ak, .bool gn, .int .i64 b, .int .i64 bl] 52))
  have CE := Lib.hid (fun w => emay_any k a n p q w)
  have CU := Lib.hid (fun w => rundoes_any o k a n p q s l ak gn b bl w)
  go_enter Try.func23, Try.ntmps23
  go_upto_region 1 with fail
  generalize w.alloc (.cells #[.int .i64 o, .int .i64 k, .int .i64 a, .int .i64 n, .int .i64 p, .int .i64 q, .int .i64 s, .int .i64 l, .bool ak, .bool gn, .int .i64 b, .int .i64 bl] 52) = W at *
  have c0 : W.cell? ⟨w.heap.size, 0, none⟩ = some (.int .i64 o) := A.out.cell 0
  have c1 : W.cell? ⟨w.heap.size, 1, none⟩ = some (.int .i64 k) := A.out.cell 1
  have c2 : W.cell? ⟨w.heap.size, 2, none⟩ = some (.int .i64 a) := A.out.cell 2
  have c3 : W.cell? ⟨w.heap.size, 3, none⟩ = some (.int .i64 n) := A.out.cell 3
  have c4 : W.cell? ⟨w.heap.size, 4, none⟩ = some (.int .i64 p) := A.out.cell 4
  have c5 : W.cell? ⟨w.heap.size, 5, none⟩ = some (.int .i64 q) := A.out.cell 5
  have c6 : W.cell? ⟨w.heap.size, 6, none⟩ = some (.int .i64 s) := A.out.cell 6
  have c7 : W.cell? ⟨w.heap.size, 7, none⟩ = some (.int .i64 l) := A.out.cell 7
  have c8 : W.cell? ⟨w.heap.size, 8, none⟩ = some (.bool ak) := A.out.cell 8
  have c9 : W.cell? ⟨w.heap.size, 9, none⟩ = some (.bool gn) := A.out.cell 9
  have c10 : W.cell? ⟨w.heap.size, 10, none⟩ = some (.int .i64 b) := A.out.cell 10
  have c11 : W.cell? ⟨w.heap.size, 11, none⟩ = some (.int .i64 bl) := A.out.cell 11
  by_cases h0 : 1 ≤ o
  · by_cases h1 : o ≤ 255
    · by_cases he : effCode k a p q = 0
      · rw [he] at CE
        have HE0 := Lib.hid he
        clear he
        by_cases h2 : 1 ≤ s
        · by_cases h3 : s ≤ 8
          · by_cases h4 : 0 ≤ l
            · by_cases h5 : l ≤ 1073741824
              · by_cases h6 : 0 ≤ bl
                · by_cases h7 : bl ≤ 1073741824
                  · by_cases h8 : 0 ≤ b
                    · by_cases h9 : b ≤ 8
                      · by_cases hb : b = 0
                        · by_cases hz0 : bl = 0
                          · have E := Lib.hid ((ment_iff o k a p q s l ak gn b bl).2 ⟨HE0.out, h0, h1, h2, h3, h8, h9, fun h => by omega, h4, h5, h6, h7, Or.inr hz0⟩)
                            have HZ := Lib.hid hz0
                            clear hz0
                            go_wp2_with fail
                            refine (CE.out _).mono ?_
                            rintro e u1 ⟨rfl, hb1⟩
                            have HB1 := Lib.hid (HB.out.trans (hb1.mono HB.out.size))
                            have A1 := Lib.hid (A.out.keep hb1 A.out.lt)
                            clear c0 c1 c2 c3 c4 c5 c6 c7 c8 c9 c10 c11
                            have c0 : u1.cell? ⟨w.heap.size, 0, none⟩ = some (.int .i64 o) := A1.out.cell 0
                            have c1 : u1.cell? ⟨w.heap.size, 1, none⟩ = some (.int .i64 k) := A1.out.cell 1
                            have c2 : u1.cell? ⟨w.heap.size, 2, none⟩ = some (.int .i64 a) := A1.out.cell 2
                            have c3 : u1.cell? ⟨w.heap.size, 3, none⟩ = some (.int .i64 n) := A1.out.cell 3
                            have c4 : u1.cell? ⟨w.heap.size, 4, none⟩ = some (.int .i64 p) := A1.out.cell 4
                            have c5 : u1.cell? ⟨w.heap.size, 5, none⟩ = some (.int .i64 q) := A1.out.cell 5
                            have c6 : u1.cell? ⟨w.heap.size, 6, none⟩ = some (.int .i64 s) := A1.out.cell 6
                            have c7 : u1.cell? ⟨w.heap.size, 7, none⟩ = some (.int .i64 l) := A1.out.cell 7
                            have c8 : u1.cell? ⟨w.heap.size, 8, none⟩ = some (.bool ak) := A1.out.cell 8
                            have c9 : u1.cell? ⟨w.heap.size, 9, none⟩ = some (.bool gn) := A1.out.cell 9
                            have c10 : u1.cell? ⟨w.heap.size, 10, none⟩ = some (.int .i64 b) := A1.out.cell 10
                            have c11 : u1.cell? ⟨w.heap.size, 11, none⟩ = some (.int .i64 bl) := A1.out.cell 11
                            clear hb1
                            go_wp2_with fail
                            all_goals (go_ret; exact ⟨by rw [E.out]; have hzz := HZ.out; simp [hzz], HB1.out⟩)
                          · have E := Lib.hid (ment_not (o := o) (k := k) (a := a) (p := p) (q := q) (s := s) (l := l) (ak := ak) (gn := gn) (b := b) (bl := bl) (by intro hh; rcases hh.2.2.2.2.2.2.2.2.2.2.2.2 with h | h; omega; exact hz0 h))
                            go_wp2_with fail
                            refine (CE.out _).mono ?_
                            rintro e u1 ⟨rfl, hb1⟩
                            have HB1 := Lib.hid (HB.out.trans (hb1.mono HB.out.size))
                            have A1 := Lib.hid (A.out.keep hb1 A.out.lt)
                            clear c0 c1 c2 c3 c4 c5 c6 c7 c8 c9 c10 c11
                            have c0 : u1.cell? ⟨w.heap.size, 0, none⟩ = some (.int .i64 o) := A1.out.cell 0
                            have c1 : u1.cell? ⟨w.heap.size, 1, none⟩ = some (.int .i64 k) := A1.out.cell 1
                            have c2 : u1.cell? ⟨w.heap.size, 2, none⟩ = some (.int .i64 a) := A1.out.cell 2
                            have c3 : u1.cell? ⟨w.heap.size, 3, none⟩ = some (.int .i64 n) := A1.out.cell 3
                            have c4 : u1.cell? ⟨w.heap.size, 4, none⟩ = some (.int .i64 p) := A1.out.cell 4
                            have c5 : u1.cell? ⟨w.heap.size, 5, none⟩ = some (.int .i64 q) := A1.out.cell 5
                            have c6 : u1.cell? ⟨w.heap.size, 6, none⟩ = some (.int .i64 s) := A1.out.cell 6
                            have c7 : u1.cell? ⟨w.heap.size, 7, none⟩ = some (.int .i64 l) := A1.out.cell 7
                            have c8 : u1.cell? ⟨w.heap.size, 8, none⟩ = some (.bool ak) := A1.out.cell 8
                            have c9 : u1.cell? ⟨w.heap.size, 9, none⟩ = some (.bool gn) := A1.out.cell 9
                            have c10 : u1.cell? ⟨w.heap.size, 10, none⟩ = some (.int .i64 b) := A1.out.cell 10
                            have c11 : u1.cell? ⟨w.heap.size, 11, none⟩ = some (.int .i64 bl) := A1.out.cell 11
                            clear hb1
                            go_wp2_with fail
                            all_goals (go_ret; exact ⟨by rw [E.out]; first | rfl | simp_all, HB1.out⟩)
                        · have hb0 : 0 < b := by omega
                          rcases hu : (ak && gn) with _ | _
                          · rw [hu] at CU
                            have E := Lib.hid (ment_not (o := o) (k := k) (a := a) (p := p) (q := q) (s := s) (l := l) (ak := ak) (gn := gn) (b := b) (bl := bl) (by intro hh; have := hh.2.2.2.2.2.2.2.1 hb0; rw [hu] at this; cases this))
                            clear hu
                            go_wp2_with fail
                            refine (CE.out _).mono ?_
                            rintro e u1 ⟨rfl, hb1⟩
                            have HB1 := Lib.hid (HB.out.trans (hb1.mono HB.out.size))
                            have A1 := Lib.hid (A.out.keep hb1 A.out.lt)
                            clear c0 c1 c2 c3 c4 c5 c6 c7 c8 c9 c10 c11
                            have c0 : u1.cell? ⟨w.heap.size, 0, none⟩ = some (.int .i64 o) := A1.out.cell 0
                            have c1 : u1.cell? ⟨w.heap.size, 1, none⟩ = some (.int .i64 k) := A1.out.cell 1
                            have c2 : u1.cell? ⟨w.heap.size, 2, none⟩ = some (.int .i64 a) := A1.out.cell 2
                            have c3 : u1.cell? ⟨w.heap.size, 3, none⟩ = some (.int .i64 n) := A1.out.cell 3
                            have c4 : u1.cell? ⟨w.heap.size, 4, none⟩ = some (.int .i64 p) := A1.out.cell 4
                            have c5 : u1.cell? ⟨w.heap.size, 5, none⟩ = some (.int .i64 q) := A1.out.cell 5
                            have c6 : u1.cell? ⟨w.heap.size, 6, none⟩ = some (.int .i64 s) := A1.out.cell 6
                            have c7 : u1.cell? ⟨w.heap.size, 7, none⟩ = some (.int .i64 l) := A1.out.cell 7
                            have c8 : u1.cell? ⟨w.heap.size, 8, none⟩ = some (.bool ak) := A1.out.cell 8
                            have c9 : u1.cell? ⟨w.heap.size, 9, none⟩ = some (.bool gn) := A1.out.cell 9
                            have c10 : u1.cell? ⟨w.heap.size, 10, none⟩ = some (.int .i64 b) := A1.out.cell 10
                            have c11 : u1.cell? ⟨w.heap.size, 11, none⟩ = some (.int .i64 bl) := A1.out.cell 11
                            clear hb1
                            go_wp2_with fail
                            refine (CU.out _).mono ?_
                            rintro e u2 ⟨rfl, hb2⟩
                            have HB2 := Lib.hid (HB1.out.trans (hb2.mono HB1.out.size))
                            have A2 := Lib.hid (A1.out.keep hb2 A1.out.lt)
                            clear c0 c1 c2 c3 c4 c5 c6 c7 c8 c9 c10 c11
                            have c0 : u2.cell? ⟨w.heap.size, 0, none⟩ = some (.int .i64 o) := A2.out.cell 0
                            have c1 : u2.cell? ⟨w.heap.size, 1, none⟩ = some (.int .i64 k) := A2.out.cell 1
                            have c2 : u2.cell? ⟨w.heap.size, 2, none⟩ = some (.int .i64 a) := A2.out.cell 2
                            have c3 : u2.cell? ⟨w.heap.size, 3, none⟩ = some (.int .i64 n) := A2.out.cell 3
                            have c4 : u2.cell? ⟨w.heap.size, 4, none⟩ = some (.int .i64 p) := A2.out.cell 4
                            have c5 : u2.cell? ⟨w.heap.size, 5, none⟩ = some (.int .i64 q) := A2.out.cell 5
                            have c6 : u2.cell? ⟨w.heap.size, 6, none⟩ = some (.int .i64 s) := A2.out.cell 6
                            have c7 : u2.cell? ⟨w.heap.size, 7, none⟩ = some (.int .i64 l) := A2.out.cell 7
                            have c8 : u2.cell? ⟨w.heap.size, 8, none⟩ = some (.bool ak) := A2.out.cell 8
                            have c9 : u2.cell? ⟨w.heap.size, 9, none⟩ = some (.bool gn) := A2.out.cell 9
                            have c10 : u2.cell? ⟨w.heap.size, 10, none⟩ = some (.int .i64 b) := A2.out.cell 10
                            have c11 : u2.cell? ⟨w.heap.size, 11, none⟩ = some (.int .i64 bl) := A2.out.cell 11
                            clear hb2
                            go_wp2_with fail
                            all_goals (go_ret; exact ⟨by rw [E.out]; first | rfl | simp_all, HB2.out⟩)
                          · rw [hu] at CU
                            have E := Lib.hid ((ment_iff o k a p q s l ak gn b bl).2 ⟨HE0.out, h0, h1, h2, h3, h8, h9, fun _ => hu, h4, h5, h6, h7, Or.inl hb0⟩)
                            clear hu
                            go_wp2_with fail
                            refine (CE.out _).mono ?_
                            rintro e u1 ⟨rfl, hb1⟩
                            have HB1 := Lib.hid (HB.out.trans (hb1.mono HB.out.size))
                            have A1 := Lib.hid (A.out.keep hb1 A.out.lt)
                            clear c0 c1 c2 c3 c4 c5 c6 c7 c8 c9 c10 c11
                            have c0 : u1.cell? ⟨w.heap.size, 0, none⟩ = some (.int .i64 o) := A1.out.cell 0
                            have c1 : u1.cell? ⟨w.heap.size, 1, none⟩ = some (.int .i64 k) := A1.out.cell 1
                            have c2 : u1.cell? ⟨w.heap.size, 2, none⟩ = some (.int .i64 a) := A1.out.cell 2
                            have c3 : u1.cell? ⟨w.heap.size, 3, none⟩ = some (.int .i64 n) := A1.out.cell 3
                            have c4 : u1.cell? ⟨w.heap.size, 4, none⟩ = some (.int .i64 p) := A1.out.cell 4
                            have c5 : u1.cell? ⟨w.heap.size, 5, none⟩ = some (.int .i64 q) := A1.out.cell 5
                            have c6 : u1.cell? ⟨w.heap.size, 6, none⟩ = some (.int .i64 s) := A1.out.cell 6
                            have c7 : u1.cell? ⟨w.heap.size, 7, none⟩ = some (.int .i64 l) := A1.out.cell 7
                            have c8 : u1.cell? ⟨w.heap.size, 8, none⟩ = some (.bool ak) := A1.out.cell 8
                            have c9 : u1.cell? ⟨w.heap.size, 9, none⟩ = some (.bool gn) := A1.out.cell 9
                            have c10 : u1.cell? ⟨w.heap.size, 10, none⟩ = some (.int .i64 b) := A1.out.cell 10
                            have c11 : u1.cell? ⟨w.heap.size, 11, none⟩ = some (.int .i64 bl) := A1.out.cell 11
                            clear hb1
                            go_wp2_with fail
                            refine (CU.out _).mono ?_
                            rintro e u2 ⟨rfl, hb2⟩
                            have HB2 := Lib.hid (HB1.out.trans (hb2.mono HB1.out.size))
                            have A2 := Lib.hid (A1.out.keep hb2 A1.out.lt)
                            clear c0 c1 c2 c3 c4 c5 c6 c7 c8 c9 c10 c11
                            have c0 : u2.cell? ⟨w.heap.size, 0, none⟩ = some (.int .i64 o) := A2.out.cell 0
                            have c1 : u2.cell? ⟨w.heap.size, 1, none⟩ = some (.int .i64 k) := A2.out.cell 1
                            have c2 : u2.cell? ⟨w.heap.size, 2, none⟩ = some (.int .i64 a) := A2.out.cell 2
                            have c3 : u2.cell? ⟨w.heap.size, 3, none⟩ = some (.int .i64 n) := A2.out.cell 3
                            have c4 : u2.cell? ⟨w.heap.size, 4, none⟩ = some (.int .i64 p) := A2.out.cell 4
                            have c5 : u2.cell? ⟨w.heap.size, 5, none⟩ = some (.int .i64 q) := A2.out.cell 5
                            have c6 : u2.cell? ⟨w.heap.size, 6, none⟩ = some (.int .i64 s) := A2.out.cell 6
                            have c7 : u2.cell? ⟨w.heap.size, 7, none⟩ = some (.int .i64 l) := A2.out.cell 7
                            have c8 : u2.cell? ⟨w.heap.size, 8, none⟩ = some (.bool ak) := A2.out.cell 8
                            have c9 : u2.cell? ⟨w.heap.size, 9, none⟩ = some (.bool gn) := A2.out.cell 9
                            have c10 : u2.cell? ⟨w.heap.size, 10, none⟩ = some (.int .i64 b) := A2.out.cell 10
                            have c11 : u2.cell? ⟨w.heap.size, 11, none⟩ = some (.int .i64 bl) := A2.out.cell 11
                            clear hb2
                            go_wp2_with fail
                            all_goals (go_ret; exact ⟨by rw [E.out]; first | rfl | simp_all, HB2.out⟩)
                      · have E := Lib.hid (ment_not (o := o) (k := k) (a := a) (p := p) (q := q) (s := s) (l := l) (ak := ak) (gn := gn) (b := b) (bl := bl) (by omega))
                        go_wp2_with fail
                        refine (CE.out _).mono ?_
                        rintro e u1 ⟨rfl, hb1⟩
                        have HB1 := Lib.hid (HB.out.trans (hb1.mono HB.out.size))
                        have A1 := Lib.hid (A.out.keep hb1 A.out.lt)
                        clear c0 c1 c2 c3 c4 c5 c6 c7 c8 c9 c10 c11
                        have c0 : u1.cell? ⟨w.heap.size, 0, none⟩ = some (.int .i64 o) := A1.out.cell 0
                        have c1 : u1.cell? ⟨w.heap.size, 1, none⟩ = some (.int .i64 k) := A1.out.cell 1
                        have c2 : u1.cell? ⟨w.heap.size, 2, none⟩ = some (.int .i64 a) := A1.out.cell 2
                        have c3 : u1.cell? ⟨w.heap.size, 3, none⟩ = some (.int .i64 n) := A1.out.cell 3
                        have c4 : u1.cell? ⟨w.heap.size, 4, none⟩ = some (.int .i64 p) := A1.out.cell 4
                        have c5 : u1.cell? ⟨w.heap.size, 5, none⟩ = some (.int .i64 q) := A1.out.cell 5
                        have c6 : u1.cell? ⟨w.heap.size, 6, none⟩ = some (.int .i64 s) := A1.out.cell 6
                        have c7 : u1.cell? ⟨w.heap.size, 7, none⟩ = some (.int .i64 l) := A1.out.cell 7
                        have c8 : u1.cell? ⟨w.heap.size, 8, none⟩ = some (.bool ak) := A1.out.cell 8
                        have c9 : u1.cell? ⟨w.heap.size, 9, none⟩ = some (.bool gn) := A1.out.cell 9
                        have c10 : u1.cell? ⟨w.heap.size, 10, none⟩ = some (.int .i64 b) := A1.out.cell 10
                        have c11 : u1.cell? ⟨w.heap.size, 11, none⟩ = some (.int .i64 bl) := A1.out.cell 11
                        clear hb1
                        go_wp2_with fail
                        all_goals (go_ret; exact ⟨by rw [E.out]; first | rfl | simp_all, HB1.out⟩)
                    · have E := Lib.hid (ment_not (o := o) (k := k) (a := a) (p := p) (q := q) (s := s) (l := l) (ak := ak) (gn := gn) (b := b) (bl := bl) (by omega))
                      go_wp2_with fail
                      refine (CE.out _).mono ?_
                      rintro e u1 ⟨rfl, hb1⟩
                      have HB1 := Lib.hid (HB.out.trans (hb1.mono HB.out.size))
                      have A1 := Lib.hid (A.out.keep hb1 A.out.lt)
                      clear c0 c1 c2 c3 c4 c5 c6 c7 c8 c9 c10 c11
                      have c0 : u1.cell? ⟨w.heap.size, 0, none⟩ = some (.int .i64 o) := A1.out.cell 0
                      have c1 : u1.cell? ⟨w.heap.size, 1, none⟩ = some (.int .i64 k) := A1.out.cell 1
                      have c2 : u1.cell? ⟨w.heap.size, 2, none⟩ = some (.int .i64 a) := A1.out.cell 2
                      have c3 : u1.cell? ⟨w.heap.size, 3, none⟩ = some (.int .i64 n) := A1.out.cell 3
                      have c4 : u1.cell? ⟨w.heap.size, 4, none⟩ = some (.int .i64 p) := A1.out.cell 4
                      have c5 : u1.cell? ⟨w.heap.size, 5, none⟩ = some (.int .i64 q) := A1.out.cell 5
                      have c6 : u1.cell? ⟨w.heap.size, 6, none⟩ = some (.int .i64 s) := A1.out.cell 6
                      have c7 : u1.cell? ⟨w.heap.size, 7, none⟩ = some (.int .i64 l) := A1.out.cell 7
                      have c8 : u1.cell? ⟨w.heap.size, 8, none⟩ = some (.bool ak) := A1.out.cell 8
                      have c9 : u1.cell? ⟨w.heap.size, 9, none⟩ = some (.bool gn) := A1.out.cell 9
                      have c10 : u1.cell? ⟨w.heap.size, 10, none⟩ = some (.int .i64 b) := A1.out.cell 10
                      have c11 : u1.cell? ⟨w.heap.size, 11, none⟩ = some (.int .i64 bl) := A1.out.cell 11
                      clear hb1
                      go_wp2_with fail
                      all_goals (go_ret; exact ⟨by rw [E.out]; first | rfl | simp_all, HB1.out⟩)
                  · have E := Lib.hid (ment_not (o := o) (k := k) (a := a) (p := p) (q := q) (s := s) (l := l) (ak := ak) (gn := gn) (b := b) (bl := bl) (by omega))
                    go_wp2_with fail
                    refine (CE.out _).mono ?_
                    rintro e u1 ⟨rfl, hb1⟩
                    have HB1 := Lib.hid (HB.out.trans (hb1.mono HB.out.size))
                    have A1 := Lib.hid (A.out.keep hb1 A.out.lt)
                    clear c0 c1 c2 c3 c4 c5 c6 c7 c8 c9 c10 c11
                    have c0 : u1.cell? ⟨w.heap.size, 0, none⟩ = some (.int .i64 o) := A1.out.cell 0
                    have c1 : u1.cell? ⟨w.heap.size, 1, none⟩ = some (.int .i64 k) := A1.out.cell 1
                    have c2 : u1.cell? ⟨w.heap.size, 2, none⟩ = some (.int .i64 a) := A1.out.cell 2
                    have c3 : u1.cell? ⟨w.heap.size, 3, none⟩ = some (.int .i64 n) := A1.out.cell 3
                    have c4 : u1.cell? ⟨w.heap.size, 4, none⟩ = some (.int .i64 p) := A1.out.cell 4
                    have c5 : u1.cell? ⟨w.heap.size, 5, none⟩ = some (.int .i64 q) := A1.out.cell 5
                    have c6 : u1.cell? ⟨w.heap.size, 6, none⟩ = some (.int .i64 s) := A1.out.cell 6
                    have c7 : u1.cell? ⟨w.heap.size, 7, none⟩ = some (.int .i64 l) := A1.out.cell 7
                    have c8 : u1.cell? ⟨w.heap.size, 8, none⟩ = some (.bool ak) := A1.out.cell 8
                    have c9 : u1.cell? ⟨w.heap.size, 9, none⟩ = some (.bool gn) := A1.out.cell 9
                    have c10 : u1.cell? ⟨w.heap.size, 10, none⟩ = some (.int .i64 b) := A1.out.cell 10
                    have c11 : u1.cell? ⟨w.heap.size, 11, none⟩ = some (.int .i64 bl) := A1.out.cell 11
                    clear hb1
                    go_wp2_with fail
                    all_goals (go_ret; exact ⟨by rw [E.out]; first | rfl | simp_all, HB1.out⟩)
                · have E := Lib.hid (ment_not (o := o) (k := k) (a := a) (p := p) (q := q) (s := s) (l := l) (ak := ak) (gn := gn) (b := b) (bl := bl) (by omega))
                  go_wp2_with fail
                  refine (CE.out _).mono ?_
                  rintro e u1 ⟨rfl, hb1⟩
                  have HB1 := Lib.hid (HB.out.trans (hb1.mono HB.out.size))
                  have A1 := Lib.hid (A.out.keep hb1 A.out.lt)
                  clear c0 c1 c2 c3 c4 c5 c6 c7 c8 c9 c10 c11
                  have c0 : u1.cell? ⟨w.heap.size, 0, none⟩ = some (.int .i64 o) := A1.out.cell 0
                  have c1 : u1.cell? ⟨w.heap.size, 1, none⟩ = some (.int .i64 k) := A1.out.cell 1
                  have c2 : u1.cell? ⟨w.heap.size, 2, none⟩ = some (.int .i64 a) := A1.out.cell 2
                  have c3 : u1.cell? ⟨w.heap.size, 3, none⟩ = some (.int .i64 n) := A1.out.cell 3
                  have c4 : u1.cell? ⟨w.heap.size, 4, none⟩ = some (.int .i64 p) := A1.out.cell 4
                  have c5 : u1.cell? ⟨w.heap.size, 5, none⟩ = some (.int .i64 q) := A1.out.cell 5
                  have c6 : u1.cell? ⟨w.heap.size, 6, none⟩ = some (.int .i64 s) := A1.out.cell 6
                  have c7 : u1.cell? ⟨w.heap.size, 7, none⟩ = some (.int .i64 l) := A1.out.cell 7
                  have c8 : u1.cell? ⟨w.heap.size, 8, none⟩ = some (.bool ak) := A1.out.cell 8
                  have c9 : u1.cell? ⟨w.heap.size, 9, none⟩ = some (.bool gn) := A1.out.cell 9
                  have c10 : u1.cell? ⟨w.heap.size, 10, none⟩ = some (.int .i64 b) := A1.out.cell 10
                  have c11 : u1.cell? ⟨w.heap.size, 11, none⟩ = some (.int .i64 bl) := A1.out.cell 11
                  clear hb1
                  go_wp2_with fail
                  all_goals (go_ret; exact ⟨by rw [E.out]; first | rfl | simp_all, HB1.out⟩)
              · have E := Lib.hid (ment_not (o := o) (k := k) (a := a) (p := p) (q := q) (s := s) (l := l) (ak := ak) (gn := gn) (b := b) (bl := bl) (by omega))
                go_wp2_with fail
                refine (CE.out _).mono ?_
                rintro e u1 ⟨rfl, hb1⟩
                have HB1 := Lib.hid (HB.out.trans (hb1.mono HB.out.size))
                have A1 := Lib.hid (A.out.keep hb1 A.out.lt)
                clear c0 c1 c2 c3 c4 c5 c6 c7 c8 c9 c10 c11
                have c0 : u1.cell? ⟨w.heap.size, 0, none⟩ = some (.int .i64 o) := A1.out.cell 0
                have c1 : u1.cell? ⟨w.heap.size, 1, none⟩ = some (.int .i64 k) := A1.out.cell 1
                have c2 : u1.cell? ⟨w.heap.size, 2, none⟩ = some (.int .i64 a) := A1.out.cell 2
                have c3 : u1.cell? ⟨w.heap.size, 3, none⟩ = some (.int .i64 n) := A1.out.cell 3
                have c4 : u1.cell? ⟨w.heap.size, 4, none⟩ = some (.int .i64 p) := A1.out.cell 4
                have c5 : u1.cell? ⟨w.heap.size, 5, none⟩ = some (.int .i64 q) := A1.out.cell 5
                have c6 : u1.cell? ⟨w.heap.size, 6, none⟩ = some (.int .i64 s) := A1.out.cell 6
                have c7 : u1.cell? ⟨w.heap.size, 7, none⟩ = some (.int .i64 l) := A1.out.cell 7
                have c8 : u1.cell? ⟨w.heap.size, 8, none⟩ = some (.bool ak) := A1.out.cell 8
                have c9 : u1.cell? ⟨w.heap.size, 9, none⟩ = some (.bool gn) := A1.out.cell 9
                have c10 : u1.cell? ⟨w.heap.size, 10, none⟩ = some (.int .i64 b) := A1.out.cell 10
                have c11 : u1.cell? ⟨w.heap.size, 11, none⟩ = some (.int .i64 bl) := A1.out.cell 11
                clear hb1
                go_wp2_with fail
                all_goals (go_ret; exact ⟨by rw [E.out]; first | rfl | simp_all, HB1.out⟩)
            · have E := Lib.hid (ment_not (o := o) (k := k) (a := a) (p := p) (q := q) (s := s) (l := l) (ak := ak) (gn := gn) (b := b) (bl := bl) (by omega))
              go_wp2_with fail
              refine (CE.out _).mono ?_
              rintro e u1 ⟨rfl, hb1⟩
              have HB1 := Lib.hid (HB.out.trans (hb1.mono HB.out.size))
              have A1 := Lib.hid (A.out.keep hb1 A.out.lt)
              clear c0 c1 c2 c3 c4 c5 c6 c7 c8 c9 c10 c11
              have c0 : u1.cell? ⟨w.heap.size, 0, none⟩ = some (.int .i64 o) := A1.out.cell 0
              have c1 : u1.cell? ⟨w.heap.size, 1, none⟩ = some (.int .i64 k) := A1.out.cell 1
              have c2 : u1.cell? ⟨w.heap.size, 2, none⟩ = some (.int .i64 a) := A1.out.cell 2
              have c3 : u1.cell? ⟨w.heap.size, 3, none⟩ = some (.int .i64 n) := A1.out.cell 3
              have c4 : u1.cell? ⟨w.heap.size, 4, none⟩ = some (.int .i64 p) := A1.out.cell 4
              have c5 : u1.cell? ⟨w.heap.size, 5, none⟩ = some (.int .i64 q) := A1.out.cell 5
              have c6 : u1.cell? ⟨w.heap.size, 6, none⟩ = some (.int .i64 s) := A1.out.cell 6
              have c7 : u1.cell? ⟨w.heap.size, 7, none⟩ = some (.int .i64 l) := A1.out.cell 7
              have c8 : u1.cell? ⟨w.heap.size, 8, none⟩ = some (.bool ak) := A1.out.cell 8
              have c9 : u1.cell? ⟨w.heap.size, 9, none⟩ = some (.bool gn) := A1.out.cell 9
              have c10 : u1.cell? ⟨w.heap.size, 10, none⟩ = some (.int .i64 b) := A1.out.cell 10
              have c11 : u1.cell? ⟨w.heap.size, 11, none⟩ = some (.int .i64 bl) := A1.out.cell 11
              clear hb1
              go_wp2_with fail
              all_goals (go_ret; exact ⟨by rw [E.out]; first | rfl | simp_all, HB1.out⟩)
          · have E := Lib.hid (ment_not (o := o) (k := k) (a := a) (p := p) (q := q) (s := s) (l := l) (ak := ak) (gn := gn) (b := b) (bl := bl) (by omega))
            go_wp2_with fail
            refine (CE.out _).mono ?_
            rintro e u1 ⟨rfl, hb1⟩
            have HB1 := Lib.hid (HB.out.trans (hb1.mono HB.out.size))
            have A1 := Lib.hid (A.out.keep hb1 A.out.lt)
            clear c0 c1 c2 c3 c4 c5 c6 c7 c8 c9 c10 c11
            have c0 : u1.cell? ⟨w.heap.size, 0, none⟩ = some (.int .i64 o) := A1.out.cell 0
            have c1 : u1.cell? ⟨w.heap.size, 1, none⟩ = some (.int .i64 k) := A1.out.cell 1
            have c2 : u1.cell? ⟨w.heap.size, 2, none⟩ = some (.int .i64 a) := A1.out.cell 2
            have c3 : u1.cell? ⟨w.heap.size, 3, none⟩ = some (.int .i64 n) := A1.out.cell 3
            have c4 : u1.cell? ⟨w.heap.size, 4, none⟩ = some (.int .i64 p) := A1.out.cell 4
            have c5 : u1.cell? ⟨w.heap.size, 5, none⟩ = some (.int .i64 q) := A1.out.cell 5
            have c6 : u1.cell? ⟨w.heap.size, 6, none⟩ = some (.int .i64 s) := A1.out.cell 6
            have c7 : u1.cell? ⟨w.heap.size, 7, none⟩ = some (.int .i64 l) := A1.out.cell 7
            have c8 : u1.cell? ⟨w.heap.size, 8, none⟩ = some (.bool ak) := A1.out.cell 8
            have c9 : u1.cell? ⟨w.heap.size, 9, none⟩ = some (.bool gn) := A1.out.cell 9
            have c10 : u1.cell? ⟨w.heap.size, 10, none⟩ = some (.int .i64 b) := A1.out.cell 10
            have c11 : u1.cell? ⟨w.heap.size, 11, none⟩ = some (.int .i64 bl) := A1.out.cell 11
            clear hb1
            go_wp2_with fail
            all_goals (go_ret; exact ⟨by rw [E.out]; first | rfl | simp_all, HB1.out⟩)
        · have E := Lib.hid (ment_not (o := o) (k := k) (a := a) (p := p) (q := q) (s := s) (l := l) (ak := ak) (gn := gn) (b := b) (bl := bl) (by omega))
          go_wp2_with fail
          refine (CE.out _).mono ?_
          rintro e u1 ⟨rfl, hb1⟩
          have HB1 := Lib.hid (HB.out.trans (hb1.mono HB.out.size))
          have A1 := Lib.hid (A.out.keep hb1 A.out.lt)
          clear c0 c1 c2 c3 c4 c5 c6 c7 c8 c9 c10 c11
          have c0 : u1.cell? ⟨w.heap.size, 0, none⟩ = some (.int .i64 o) := A1.out.cell 0
          have c1 : u1.cell? ⟨w.heap.size, 1, none⟩ = some (.int .i64 k) := A1.out.cell 1
          have c2 : u1.cell? ⟨w.heap.size, 2, none⟩ = some (.int .i64 a) := A1.out.cell 2
          have c3 : u1.cell? ⟨w.heap.size, 3, none⟩ = some (.int .i64 n) := A1.out.cell 3
          have c4 : u1.cell? ⟨w.heap.size, 4, none⟩ = some (.int .i64 p) := A1.out.cell 4
          have c5 : u1.cell? ⟨w.heap.size, 5, none⟩ = some (.int .i64 q) := A1.out.cell 5
          have c6 : u1.cell? ⟨w.heap.size, 6, none⟩ = some (.int .i64 s) := A1.out.cell 6
          have c7 : u1.cell? ⟨w.heap.size, 7, none⟩ = some (.int .i64 l) := A1.out.cell 7
          have c8 : u1.cell? ⟨w.heap.size, 8, none⟩ = some (.bool ak) := A1.out.cell 8
          have c9 : u1.cell? ⟨w.heap.size, 9, none⟩ = some (.bool gn) := A1.out.cell 9
          have c10 : u1.cell? ⟨w.heap.size, 10, none⟩ = some (.int .i64 b) := A1.out.cell 10
          have c11 : u1.cell? ⟨w.heap.size, 11, none⟩ = some (.int .i64 bl) := A1.out.cell 11
          clear hb1
          go_wp2_with fail
          all_goals (go_ret; exact ⟨by rw [E.out]; first | rfl | simp_all, HB1.out⟩)
      · generalize hco : effCode k a p q = code at *
        have HCO := Lib.hid hco
        clear hco
        have E := Lib.hid (ment_not (o := o) (k := k) (a := a) (p := p) (q := q) (s := s) (l := l) (ak := ak) (gn := gn) (b := b) (bl := bl) (by rw [HCO.out]; intro hh; exact he hh.1))
        go_wp2_with fail
        refine (CE.out _).mono ?_
        rintro e u1 ⟨rfl, hb1⟩
        have HB1 := Lib.hid (HB.out.trans (hb1.mono HB.out.size))
        have A1 := Lib.hid (A.out.keep hb1 A.out.lt)
        clear c0 c1 c2 c3 c4 c5 c6 c7 c8 c9 c10 c11
        have c0 : u1.cell? ⟨w.heap.size, 0, none⟩ = some (.int .i64 o) := A1.out.cell 0
        have c1 : u1.cell? ⟨w.heap.size, 1, none⟩ = some (.int .i64 k) := A1.out.cell 1
        have c2 : u1.cell? ⟨w.heap.size, 2, none⟩ = some (.int .i64 a) := A1.out.cell 2
        have c3 : u1.cell? ⟨w.heap.size, 3, none⟩ = some (.int .i64 n) := A1.out.cell 3
        have c4 : u1.cell? ⟨w.heap.size, 4, none⟩ = some (.int .i64 p) := A1.out.cell 4
        have c5 : u1.cell? ⟨w.heap.size, 5, none⟩ = some (.int .i64 q) := A1.out.cell 5
        have c6 : u1.cell? ⟨w.heap.size, 6, none⟩ = some (.int .i64 s) := A1.out.cell 6
        have c7 : u1.cell? ⟨w.heap.size, 7, none⟩ = some (.int .i64 l) := A1.out.cell 7
        have c8 : u1.cell? ⟨w.heap.size, 8, none⟩ = some (.bool ak) := A1.out.cell 8
        have c9 : u1.cell? ⟨w.heap.size, 9, none⟩ = some (.bool gn) := A1.out.cell 9
        have c10 : u1.cell? ⟨w.heap.size, 10, none⟩ = some (.int .i64 b) := A1.out.cell 10
        have c11 : u1.cell? ⟨w.heap.size, 11, none⟩ = some (.int .i64 bl) := A1.out.cell 11
        clear hb1
        go_wp2_with fail
        all_goals (go_ret; exact ⟨by rw [E.out]; first | rfl | simp_all, HB1.out⟩)
    · have E := Lib.hid (ment_not (o := o) (k := k) (a := a) (p := p) (q := q) (s := s) (l := l) (ak := ak) (gn := gn) (b := b) (bl := bl) (by omega))
      go_wp2_with fail
      all_goals (go_ret; exact ⟨by rw [E.out]; first | rfl | simp_all, HB.out⟩)
  · have E := Lib.hid (ment_not (o := o) (k := k) (a := a) (p := p) (q := q) (s := s) (l := l) (ak := ak) (gn := gn) (b := b) (bl := bl) (by omega))
    go_wp2_with fail
    all_goals (go_ret; exact ⟨by rw [E.out]; first | rfl | simp_all, HB.out⟩)
end Go.Proofs.Ytalbkpahphndiaa
