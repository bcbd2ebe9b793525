/- Requests that may be. -/
import Derived.Test.YtalbkpahphndiaaEnt
import Derived.Test.YtalbkpahphndiaaNum
import Derived.BigQuiet
import Derived.Deep.QuietTactic
import Derived.Lib.SmallJoins
import Derived.Test.YtalbkpahphndiaaRow
import Derived.Test.YtalbkpahphndiaaOps
import Derived.RegionTactic
import Derived.BigRegion
import Derived.ChangeAlike
namespace Go.Proofs.Ytalbkpahphndiaa
set_option linter.unusedVariables false
set_option linter.unusedSimpArgs false
open Go.ChangeShapes Go.WideShapes Go.ChangeAt Go.RowKit
def mayEnt (o k a p q s l : Int) (ak gn : Bool) (b bl : Int) : Bool := decide (effCode k a p q = 0 ∧ inB o 1 255 = true ∧ inB s 1 8 = true ∧ inB b 0 8 = true ∧ (0 < b → (ak && gn) = true) ∧ inB l 0 1073741824 = true ∧ inB bl 0 1073741824 = true ∧ (0 < b ∨ bl = 0))
theorem ment_no {o k a p q s l : Int} {ak gn : Bool} {b bl : Int} (h : ¬ (effCode k a p q = 0 ∧ inB o 1 255 = true ∧ inB s 1 8 = true ∧ inB b 0 8 = true ∧ (0 < b → (ak && gn) = true) ∧ inB l 0 1073741824 = true ∧ inB bl 0 1073741824 = true ∧ (0 < b ∨ bl = 0))) : mayEnt o k a p q s l ak gn b bl = false := decide_eq_false h
theorem ment_yes {o k a p q s l : Int} {ak gn : Bool} {b bl : Int} (h : effCode k a p q = 0 ∧ inB o 1 255 = true ∧ inB s 1 8 = true ∧ inB b 0 8 = true ∧ (0 < b → (ak && gn) = true) ∧ inB l 0 1073741824 = true ∧ inB bl 0 1073741824 = true ∧ (0 < b ∨ bl = 0)) : mayEnt o k a p q s l ak gn b bl = true := decide_eq_true h
set_option maxRecDepth 100000 in
set_option maxHeartbeats 8000000 in
theorem ecent_any (o k a n p q s l : Int) (ak gn : Bool) (b bl : Int) (w : World) : Calls Try.prog 22 #[.agg #[.int .i64 o, .int .i64 k, .int .i64 a, .int .i64 n, .int .i64 p, .int .i64 q, .int .i64 s, .int .i64 l, .bool ak, .bool gn, .int .i64 b, .int .i64 bl]] w fun e w' => e = .returned (.bool (mayEnt o k a p q s l ak gn b bl)) ∧ Below w.heap.size w w' := by
  have A := Lib.hid (Blk.new w #[.int .i64 o, .int .i64 k, .int .i64 a, .int .i64 n, .int .i64 p, .int .i64 q, .int .i64 s, .int .i64 l, .bool ak, .bool gn, .int .i64 b, .int .i64 bl] 49)
  have HB := Lib.hid ((Below.refl w.heap.size w).alloc (Nat.le_refl _) (.cells #[.int .i64 o, .int .i64 k, .int .i64 a, .int .i64 n, .int .i64 p, .int .i64 q, .int .i64 s, .int .i64 l, .bool ak, .bool gn, .int .i64 b, .int .i64 bl] 49))
  have CE := Lib.hid (fun w => echk_any k a n p q w)
  have CU := Lib.hid (fun w => undoes_any o k a n p q s l ak gn b bl w)
  go_enter Try.func22, Try.ntmps22
  go_upto_region 1 with fail
  generalize w.alloc (.cells #[.int .i64 o, .int .i64 k, .int .i64 a, .int .i64 n, .int .i64 p, .int .i64 q, .int .i64 s, .int .i64 l, .bool ak, .bool gn, .int .i64 b, .int .i64 bl] 49) = W at *
  have c0 : W.cell? ⟨w.heap.size, 0, none⟩ = some (.int .i64 o) := A.out.cell 0
  have c1 : W.cell? ⟨w.heap.size, 1, none⟩ = some (.int .i64 k) := A.out.cell 1
  have c2 : W.cell? ⟨w.heap.size, 2, none⟩ = some (.int .i64 a) := A.out.cell 2
  have c3 : W.cell? ⟨w.heap.size, 3, none⟩ = some (.int .i64 n) := A.out.cell 3
  have c4 : W.cell? ⟨w.heap.size, 4, none⟩ = some (.int .i64 p) := A.out.cell 4
  have c5 : W.cell? ⟨w.heap.size, 5, none⟩ = some (.int .i64 q) := A.out.cell 5
  have c6 : W.cell? ⟨w.heap.size, 6, none⟩ = some (.int .i64 s) := A.out.cell 6
  have c7 : W.cell? ⟨w.heap.size, 7, none⟩ = some (.int .i64 l) := A.out.cell 7
  have c8 : W.cell? ⟨w.heap.size, 8, none⟩ = some (.bool ak) := A.out.cell 8
  have c9 : W.cell? ⟨w.heap.size, 9, none⟩ = some (.bool gn) := A.out.cell 9
  have c10 : W.cell? ⟨w.heap.size, 10, none⟩ = some (.int .i64 b) := A.out.cell 10
  have c11 : W.cell? ⟨w.heap.size, 11, none⟩ = some (.int .i64 bl) := A.out.cell 11
  by_cases he : effCode k a p q = 0
  · rw [he] at CE
    have HE0 := Lib.hid he
    clear he
    rcases hCo : inB o 1 255 with _ | _
    · have Co := Lib.hid (fun w => ein_any o 1 255 w false hCo)
      have E := Lib.hid (ment_no (o := o) (k := k) (a := a) (p := p) (q := q) (s := s) (l := l) (ak := ak) (gn := gn) (b := b) (bl := bl) (by rw [hCo]; simp))
      clear hCo
      go_wp2_with fail
      refine (CE.out _).mono ?_
      rintro e u1 ⟨rfl, hb1⟩
      have HB1 := Lib.hid (HB.out.trans (hb1.mono HB.out.size))
      have A1 := Lib.hid (A.out.keep hb1 A.out.lt)
      clear c0 c1 c2 c3 c4 c5 c6 c7 c8 c9 c10 c11
      have c0 : u1.cell? ⟨w.heap.size, 0, none⟩ = some (.int .i64 o) := A1.out.cell 0
      have c1 : u1.cell? ⟨w.heap.size, 1, none⟩ = some (.int .i64 k) := A1.out.cell 1
      have c2 : u1.cell? ⟨w.heap.size, 2, none⟩ = some (.int .i64 a) := A1.out.cell 2
      have c3 : u1.cell? ⟨w.heap.size, 3, none⟩ = some (.int .i64 n) := A1.out.cell 3
      have c4 : u1.cell? ⟨w.heap.size, 4, none⟩ = some (.int .i64 p) := A1.out.cell 4
      have c5 : u1.cell? ⟨w.heap.size, 5, none⟩ = some (.int .i64 q) := A1.out.cell 5
      have c6 : u1.cell? ⟨w.heap.size, 6, none⟩ = some (.int .i64 s) := A1.out.cell 6
      have c7 : u1.cell? ⟨w.heap.size, 7, none⟩ = some (.int .i64 l) := A1.out.cell 7
      have c8 : u1.cell? ⟨w.heap.size, 8, none⟩ = some (.bool ak) := A1.out.cell 8
      have c9 : u1.cell? ⟨w.heap.size, 9, none⟩ = some (.bool gn) := A1.out.cell 9
      have c10 : u1.cell? ⟨w.heap.size, 10, none⟩ = some (.int .i64 b) := A1.out.cell 10
      have c11 : u1.cell? ⟨w.heap.size, 11, none⟩ = some (.int .i64 bl) := A1.out.cell 11
      clear hb1
      go_wp2_with fail
      refine (Co.out _).mono ?_
      rintro e u2 ⟨rfl, rfl⟩
      go_wp2_with fail
      go_ret
      exact ⟨by rw [E.out]; first | rfl | simp_all, HB1.out⟩
    · have Co := Lib.hid (fun w => ein_any o 1 255 w true hCo)
      have HCo := Lib.hid hCo
      clear hCo
      rcases hCs : inB s 1 8 with _ | _
      · have Cs := Lib.hid (fun w => ein_any s 1 8 w false hCs)
        have E := Lib.hid (ment_no (o := o) (k := k) (a := a) (p := p) (q := q) (s := s) (l := l) (ak := ak) (gn := gn) (b := b) (bl := bl) (by rw [hCs]; simp))
        clear hCs
        go_wp2_with fail
        refine (CE.out _).mono ?_
        rintro e u1 ⟨rfl, hb1⟩
        have HB1 := Lib.hid (HB.out.trans (hb1.mono HB.out.size))
        have A1 := Lib.hid (A.out.keep hb1 A.out.lt)
        clear c0 c1 c2 c3 c4 c5 c6 c7 c8 c9 c10 c11
        have c0 : u1.cell? ⟨w.heap.size, 0, none⟩ = some (.int .i64 o) := A1.out.cell 0
        have c1 : u1.cell? ⟨w.heap.size, 1, none⟩ = some (.int .i64 k) := A1.out.cell 1
        have c2 : u1.cell? ⟨w.heap.size, 2, none⟩ = some (.int .i64 a) := A1.out.cell 2
        have c3 : u1.cell? ⟨w.heap.size, 3, none⟩ = some (.int .i64 n) := A1.out.cell 3
        have c4 : u1.cell? ⟨w.heap.size, 4, none⟩ = some (.int .i64 p) := A1.out.cell 4
        have c5 : u1.cell? ⟨w.heap.size, 5, none⟩ = some (.int .i64 q) := A1.out.cell 5
        have c6 : u1.cell? ⟨w.heap.size, 6, none⟩ = some (.int .i64 s) := A1.out.cell 6
        have c7 : u1.cell? ⟨w.heap.size, 7, none⟩ = some (.int .i64 l) := A1.out.cell 7
        have c8 : u1.cell? ⟨w.heap.size, 8, none⟩ = some (.bool ak) := A1.out.cell 8
        have c9 : u1.cell? ⟨w.heap.size, 9, none⟩ = some (.bool gn) := A1.out.cell 9
        have c10 : u1.cell? ⟨w.heap.size, 10, none⟩ = some (.int .i64 b) := A1.out.cell 10
        have c11 : u1.cell? ⟨w.heap.size, 11, none⟩ = some (.int .i64 bl) := A1.out.cell 11
        clear hb1
        go_wp2_with fail
        refine (Co.out _).mono ?_
        rintro e u2 ⟨rfl, rfl⟩
        go_wp2_with fail
        refine (Cs.out _).mono ?_
        rintro e u3 ⟨rfl, rfl⟩
        go_wp2_with fail
        go_ret
        exact ⟨by rw [E.out]; first | rfl | simp_all, HB1.out⟩
      · have Cs := Lib.hid (fun w => ein_any s 1 8 w true hCs)
        have HCs := Lib.hid hCs
        clear hCs
        rcases hCb : inB b 0 8 with _ | _
        · have Cb := Lib.hid (fun w => ein_any b 0 8 w false hCb)
          have E := Lib.hid (ment_no (o := o) (k := k) (a := a) (p := p) (q := q) (s := s) (l := l) (ak := ak) (gn := gn) (b := b) (bl := bl) (by rw [hCb]; simp))
          clear hCb
          go_wp2_with fail
          refine (CE.out _).mono ?_
          rintro e u1 ⟨rfl, hb1⟩
          have HB1 := Lib.hid (HB.out.trans (hb1.mono HB.out.size))
          have A1 := Lib.hid (A.out.keep hb1 A.out.lt)
          clear c0 c1 c2 c3 c4 c5 c6 c7 c8 c9 c10 c11
          have c0 : u1.cell? ⟨w.heap.size, 0, none⟩ = some (.int .i64 o) := A1.out.cell 0
          have c1 : u1.cell? ⟨w.heap.size, 1, none⟩ = some (.int .i64 k) := A1.out.cell 1
          have c2 : u1.cell? ⟨w.heap.size, 2, none⟩ = some (.int .i64 a) := A1.out.cell 2
          have c3 : u1.cell? ⟨w.heap.size, 3, none⟩ = some (.int .i64 n) := A1.out.cell 3
          have c4 : u1.cell? ⟨w.heap.size, 4, none⟩ = some (.int .i64 p) := A1.out.cell 4
          have c5 : u1.cell? ⟨w.heap.size, 5, none⟩ = some (.int .i64 q) := A1.out.cell 5
          have c6 : u1.cell? ⟨w.heap.size, 6, none⟩ = some (.int .i64 s) := A1.out.cell 6
          have c7 : u1.cell? ⟨w.heap.size, 7, none⟩ = some (.int .i64 l) := A1.out.cell 7
          have c8 : u1.cell? ⟨w.heap.size, 8, none⟩ = some (.bool ak) := A1.out.cell 8
          have c9 : u1.cell? ⟨w.heap.size, 9, none⟩ = some (.bool gn) := A1.out.cell 9
          have c10 : u1.cell? ⟨w.heap.size, 10, none⟩ = some (.int .i64 b) := A1.out.cell 10
          have c11 : u1.cell? ⟨w.heap.size, 11, none⟩ = some (.int .i64 bl) := A1.out.cell 11
          clear hb1
          go_wp2_with fail
          refine (Co.out _).mono ?_
          rintro e u2 ⟨rfl, rfl⟩
          go_wp2_with fail
          refine (Cs.out _).mono ?_
          rintro e u3 ⟨rfl, rfl⟩
          go_wp2_with fail
          refine (Cb.out _).mono ?_
          rintro e u4 ⟨rfl, rfl⟩
          go_wp2_with fail
          go_ret
          exact ⟨by rw [E.out]; first | rfl | simp_all, HB1.out⟩
        · have Cb := Lib.hid (fun w => ein_any b 0 8 w true hCb)
          have HCb := Lib.hid hCb
          clear hCb
          by_cases hb : 0 < b
          · rcases hu : (ak && gn) with _ | _
            · rw [hu] at CU
              have E := Lib.hid (ment_no (o := o) (k := k) (a := a) (p := p) (q := q) (s := s) (l := l) (ak := ak) (gn := gn) (b := b) (bl := bl) (by intro hh; have := hh.2.2.2.2.1 hb; rw [hu] at this; cases this))
              clear hu
              go_wp2_with fail
              refine (CE.out _).mono ?_
              rintro e u1 ⟨rfl, hb1⟩
              have HB1 := Lib.hid (HB.out.trans (hb1.mono HB.out.size))
              have A1 := Lib.hid (A.out.keep hb1 A.out.lt)
              clear c0 c1 c2 c3 c4 c5 c6 c7 c8 c9 c10 c11
              have c0 : u1.cell? ⟨w.heap.size, 0, none⟩ = some (.int .i64 o) := A1.out.cell 0
              have c1 : u1.cell? ⟨w.heap.size, 1, none⟩ = some (.int .i64 k) := A1.out.cell 1
              have c2 : u1.cell? ⟨w.heap.size, 2, none⟩ = some (.int .i64 a) := A1.out.cell 2
              have c3 : u1.cell? ⟨w.heap.size, 3, none⟩ = some (.int .i64 n) := A1.out.cell 3
              have c4 : u1.cell? ⟨w.heap.size, 4, none⟩ = some (.int .i64 p) := A1.out.cell 4
              have c5 : u1.cell? ⟨w.heap.size, 5, none⟩ = some (.int .i64 q) := A1.out.cell 5
              have c6 : u1.cell? ⟨w.heap.size, 6, none⟩ = some (.int .i64 s) := A1.out.cell 6
              have c7 : u1.cell? ⟨w.heap.size, 7, none⟩ = some (.int .i64 l) := A1.out.cell 7
              have c8 : u1.cell? ⟨w.heap.size, 8, none⟩ = some (.bool ak) := A1.out.cell 8
              have c9 : u1.cell? ⟨w.heap.size, 9, none⟩ = some (.bool gn) := A1.out.cell 9
              have c10 : u1.cell? ⟨w.heap.size, 10, none⟩ = some (.int .i64 b) := A1.out.cell 10
              have c11 : u1.cell? ⟨w.heap.size, 11, none⟩ = some (.int .i64 bl) := A1.out.cell 11
              clear hb1
              go_wp2_with fail
              refine (Co.out _).mono ?_
              rintro e u2 ⟨rfl, rfl⟩
              go_wp2_with fail
              refine (Cs.out _).mono ?_
              rintro e u3 ⟨rfl, rfl⟩
              go_wp2_with fail
              refine (Cb.out _).mono ?_
              rintro e u4 ⟨rfl, rfl⟩
              go_wp2_with fail
              refine (CU.out _).mono ?_
              rintro e u5 ⟨rfl, hb5⟩
              have HB5 := Lib.hid (HB1.out.trans (hb5.mono HB1.out.size))
              have A5 := Lib.hid (A1.out.keep hb5 A1.out.lt)
              clear c0 c1 c2 c3 c4 c5 c6 c7 c8 c9 c10 c11
              have c0 : u5.cell? ⟨w.heap.size, 0, none⟩ = some (.int .i64 o) := A5.out.cell 0
              have c1 : u5.cell? ⟨w.heap.size, 1, none⟩ = some (.int .i64 k) := A5.out.cell 1
              have c2 : u5.cell? ⟨w.heap.size, 2, none⟩ = some (.int .i64 a) := A5.out.cell 2
              have c3 : u5.cell? ⟨w.heap.size, 3, none⟩ = some (.int .i64 n) := A5.out.cell 3
              have c4 : u5.cell? ⟨w.heap.size, 4, none⟩ = some (.int .i64 p) := A5.out.cell 4
              have c5 : u5.cell? ⟨w.heap.size, 5, none⟩ = some (.int .i64 q) := A5.out.cell 5
              have c6 : u5.cell? ⟨w.heap.size, 6, none⟩ = some (.int .i64 s) := A5.out.cell 6
              have c7 : u5.cell? ⟨w.heap.size, 7, none⟩ = some (.int .i64 l) := A5.out.cell 7
              have c8 : u5.cell? ⟨w.heap.size, 8, none⟩ = some (.bool ak) := A5.out.cell 8
              have c9 : u5.cell? ⟨w.heap.size, 9, none⟩ = some (.bool gn) := A5.out.cell 9
              have c10 : u5.cell? ⟨w.heap.size, 10, none⟩ = some (.int .i64 b) := A5.out.cell 10
              have c11 : u5.cell? ⟨w.heap.size, 11, none⟩ = some (.int .i64 bl) := A5.out.cell 11
              clear hb5
              go_wp2_with fail
              go_ret
              exact ⟨by rw [E.out]; first | rfl | simp_all, HB5.out⟩
            · rw [hu] at CU
              have HU := Lib.hid hu
              clear hu
              rcases hCl : inB l 0 1073741824 with _ | _
              · have Cl := Lib.hid (fun w => ein_any l 0 1073741824 w false hCl)
                have E := Lib.hid (ment_no (o := o) (k := k) (a := a) (p := p) (q := q) (s := s) (l := l) (ak := ak) (gn := gn) (b := b) (bl := bl) (by rw [hCl]; simp))
                clear hCl
                go_wp2_with fail
                refine (CE.out _).mono ?_
                rintro e u1 ⟨rfl, hb1⟩
                have HB1 := Lib.hid (HB.out.trans (hb1.mono HB.out.size))
                have A1 := Lib.hid (A.out.keep hb1 A.out.lt)
                clear c0 c1 c2 c3 c4 c5 c6 c7 c8 c9 c10 c11
                have c0 : u1.cell? ⟨w.heap.size, 0, none⟩ = some (.int .i64 o) := A1.out.cell 0
                have c1 : u1.cell? ⟨w.heap.size, 1, none⟩ = some (.int .i64 k) := A1.out.cell 1
                have c2 : u1.cell? ⟨w.heap.size, 2, none⟩ = some (.int .i64 a) := A1.out.cell 2
                have c3 : u1.cell? ⟨w.heap.size, 3, none⟩ = some (.int .i64 n) := A1.out.cell 3
                have c4 : u1.cell? ⟨w.heap.size, 4, none⟩ = some (.int .i64 p) := A1.out.cell 4
                have c5 : u1.cell? ⟨w.heap.size, 5, none⟩ = some (.int .i64 q) := A1.out.cell 5
                have c6 : u1.cell? ⟨w.heap.size, 6, none⟩ = some (.int .i64 s) := A1.out.cell 6
                have c7 : u1.cell? ⟨w.heap.size, 7, none⟩ = some (.int .i64 l) := A1.out.cell 7
                have c8 : u1.cell? ⟨w.heap.size, 8, none⟩ = some (.bool ak) := A1.out.cell 8
                have c9 : u1.cell? ⟨w.heap.size, 9, none⟩ = some (.bool gn) := A1.out.cell 9
                have c10 : u1.cell? ⟨w.heap.size, 10, none⟩ = some (.int .i64 b) := A1.out.cell 10
                have c11 : u1.cell? ⟨w.heap.size, 11, none⟩ = some (.int .i64 bl) := A1.out.cell 11
                clear hb1
                go_wp2_with fail
                refine (Co.out _).mono ?_
                rintro e u2 ⟨rfl, rfl⟩
                go_wp2_with fail
                refine (Cs.out _).mono ?_
                rintro e u3 ⟨rfl, rfl⟩
                go_wp2_with fail
                refine (Cb.out _).mono ?_
                rintro e u4 ⟨rfl, rfl⟩
                go_wp2_with fail
                refine (CU.out _).mono ?_
                rintro e u5 ⟨rfl, hb5⟩
                have HB5 := Lib.hid (HB1.out.trans (hb5.mono HB1.out.size))
                have A5 := Lib.hid (A1.out.keep hb5 A1.out.lt)
                clear c0 c1 c2 c3 c4 c5 c6 c7 c8 c9 c10 c11
                have c0 : u5.cell? ⟨w.heap.size, 0, none⟩ = some (.int .i64 o) := A5.out.cell 0
                have c1 : u5.cell? ⟨w.heap.size, 1, none⟩ = some (.int .i64 k) := A5.out.cell 1
                have c2 : u5.cell? ⟨w.heap.size, 2, none⟩ = some (.int .i64 a) := A5.out.cell 2
                have c3 : u5.cell? ⟨w.heap.size, 3, none⟩ = some (.int .i64 n) := A5.out.cell 3
                have c4 : u5.cell? ⟨w.heap.size, 4, none⟩ = some (.int .i64 p) := A5.out.cell 4
                have c5 : u5.cell? ⟨w.heap.size, 5, none⟩ = some (.int .i64 q) := A5.out.cell 5
                have c6 : u5.cell? ⟨w.heap.size, 6, none⟩ = some (.int .i64 s) := A5.out.cell 6
                have c7 : u5.cell? ⟨w.heap.size, 7, none⟩ = some (.int .i64 l) := A5.out.cell 7
                have c8 : u5.cell? ⟨w.heap.size, 8, none⟩ = some (.bool ak) := A5.out.cell 8
                have c9 : u5.cell? ⟨w.heap.size, 9, none⟩ = some (.bool gn) := A5.out.cell 9
                have c10 : u5.cell? ⟨w.heap.size, 10, none⟩ = some (.int .i64 b) := A5.out.cell 10
                have c11 : u5.cell? ⟨w.heap.size, 11, none⟩ = some (.int .i64 bl) := A5.out.cell 11
                clear hb5
                go_wp2_with fail
                refine (Cl.out _).mono ?_
                rintro e u6 ⟨rfl, rfl⟩
                go_wp2_with fail
                go_ret
                exact ⟨by rw [E.out]; first | rfl | simp_all, HB5.out⟩
              · have Cl := Lib.hid (fun w => ein_any l 0 1073741824 w true hCl)
                have HCl := Lib.hid hCl
                clear hCl
                rcases hCm : inB bl 0 1073741824 with _ | _
                · have Cm := Lib.hid (fun w => ein_any bl 0 1073741824 w false hCm)
                  have E := Lib.hid (ment_no (o := o) (k := k) (a := a) (p := p) (q := q) (s := s) (l := l) (ak := ak) (gn := gn) (b := b) (bl := bl) (by rw [hCm]; simp))
                  clear hCm
                  go_wp2_with fail
                  refine (CE.out _).mono ?_
                  rintro e u1 ⟨rfl, hb1⟩
                  have HB1 := Lib.hid (HB.out.trans (hb1.mono HB.out.size))
                  have A1 := Lib.hid (A.out.keep hb1 A.out.lt)
                  clear c0 c1 c2 c3 c4 c5 c6 c7 c8 c9 c10 c11
                  have c0 : u1.cell? ⟨w.heap.size, 0, none⟩ = some (.int .i64 o) := A1.out.cell 0
                  have c1 : u1.cell? ⟨w.heap.size, 1, none⟩ = some (.int .i64 k) := A1.out.cell 1
                  have c2 : u1.cell? ⟨w.heap.size, 2, none⟩ = some (.int .i64 a) := A1.out.cell 2
                  have c3 : u1.cell? ⟨w.heap.size, 3, none⟩ = some (.int .i64 n) := A1.out.cell 3
                  have c4 : u1.cell? ⟨w.heap.size, 4, none⟩ = some (.int .i64 p) := A1.out.cell 4
                  have c5 : u1.cell? ⟨w.heap.size, 5, none⟩ = some (.int .i64 q) := A1.out.cell 5
                  have c6 : u1.cell? ⟨w.heap.size, 6, none⟩ = some (.int .i64 s) := A1.out.cell 6
                  have c7 : u1.cell? ⟨w.heap.size, 7, none⟩ = some (.int .i64 l) := A1.out.cell 7
                  have c8 : u1.cell? ⟨w.heap.size, 8, none⟩ = some (.bool ak) := A1.out.cell 8
                  have c9 : u1.cell? ⟨w.heap.size, 9, none⟩ = some (.bool gn) := A1.out.cell 9
                  have c10 : u1.cell? ⟨w.heap.size, 10, none⟩ = some (.int .i64 b) := A1.out.cell 10
                  have c11 : u1.cell? ⟨w.heap.size, 11, none⟩ = some (.int .i64 bl) := A1.out.cell 11
                  clear hb1
                  go_wp2_with fail
                  refine (Co.out _).mono ?_
                  rintro e u2 ⟨rfl, rfl⟩
                  go_wp2_with fail
                  refine (Cs.out _).mono ?_
                  rintro e u3 ⟨rfl, rfl⟩
                  go_wp2_with fail
                  refine (Cb.out _).mono ?_
                  rintro e u4 ⟨rfl, rfl⟩
                  go_wp2_with fail
                  refine (CU.out _).mono ?_
                  rintro e u5 ⟨rfl, hb5⟩
                  have HB5 := Lib.hid (HB1.out.trans (hb5.mono HB1.out.size))
                  have A5 := Lib.hid (A1.out.keep hb5 A1.out.lt)
                  clear c0 c1 c2 c3 c4 c5 c6 c7 c8 c9 c10 c11
                  have c0 : u5.cell? ⟨w.heap.size, 0, none⟩ = some (.int .i64 o) := A5.out.cell 0
                  have c1 : u5.cell? ⟨w.heap.size, 1, none⟩ = some (.int .i64 k) := A5.out.cell 1
                  have c2 : u5.cell? ⟨w.heap.size, 2, none⟩ = some (.int .i64 a) := A5.out.cell 2
                  have c3 : u5.cell? ⟨w.heap.size, 3, none⟩ = some (.int .i64 n) := A5.out.cell 3
                  have c4 : u5.cell? ⟨w.heap.size, 4, none⟩ = some (.int .i64 p) := A5.out.cell 4
                  have c5 : u5.cell? ⟨w.heap.size, 5, none⟩ = some (.int .i64 q) := A5.out.cell 5
                  have c6 : u5.cell? ⟨w.heap.size, 6, none⟩ = some (.int .i64 s) := A5.out.cell 6
                  have c7 : u5.cell? ⟨w.heap.size, 7, none⟩ = some (.int .i64 l) := A5.out.cell 7
                  have c8 : u5.cell? ⟨w.heap.size, 8, none⟩ = some (.bool ak) := A5.out.cell 8
                  have c9 : u5.cell? ⟨w.heap.size, 9, none⟩ = some (.bool gn) := A5.out.cell 9
                  have c10 : u5.cell? ⟨w.heap.size, 10, none⟩ = some (.int .i64 b) := A5.out.cell 10
                  have c11 : u5.cell? ⟨w.heap.size, 11, none⟩ = some (.int .i64 bl) := A5.out.cell 11
                  clear hb5
                  go_wp2_with fail
                  refine (Cl.out _).mono ?_
                  rintro e u6 ⟨rfl, rfl⟩
                  go_wp2_with fail
                  refine (Cm.out _).mono ?_
                  rintro e u7 ⟨rfl, rfl⟩
                  go_wp2_with fail
                  go_ret
                  exact ⟨by rw [E.out]; first | rfl | simp_all, HB5.out⟩
                · have Cm := Lib.hid (fun w => ein_any bl 0 1073741824 w true hCm)
                  have HCm := Lib.hid hCm
                  clear hCm
                  have E := Lib.hid (ment_yes (o := o) (k := k) (a := a) (p := p) (q := q) (s := s) (l := l) (ak := ak) (gn := gn) (b := b) (bl := bl) ⟨HE0.out, HCo.out, HCs.out, HCb.out, fun _ => HU.out, HCl.out, HCm.out, Or.inl hb⟩)
                  go_wp2_with fail
                  refine (CE.out _).mono ?_
                  rintro e u1 ⟨rfl, hb1⟩
                  have HB1 := Lib.hid (HB.out.trans (hb1.mono HB.out.size))
                  have A1 := Lib.hid (A.out.keep hb1 A.out.lt)
                  clear c0 c1 c2 c3 c4 c5 c6 c7 c8 c9 c10 c11
                  have c0 : u1.cell? ⟨w.heap.size, 0, none⟩ = some (.int .i64 o) := A1.out.cell 0
                  have c1 : u1.cell? ⟨w.heap.size, 1, none⟩ = some (.int .i64 k) := A1.out.cell 1
                  have c2 : u1.cell? ⟨w.heap.size, 2, none⟩ = some (.int .i64 a) := A1.out.cell 2
                  have c3 : u1.cell? ⟨w.heap.size, 3, none⟩ = some (.int .i64 n) := A1.out.cell 3
                  have c4 : u1.cell? ⟨w.heap.size, 4, none⟩ = some (.int .i64 p) := A1.out.cell 4
                  have c5 : u1.cell? ⟨w.heap.size, 5, none⟩ = some (.int .i64 q) := A1.out.cell 5
                  have c6 : u1.cell? ⟨w.heap.size, 6, none⟩ = some (.int .i64 s) := A1.out.cell 6
                  have c7 : u1.cell? ⟨w.heap.size, 7, none⟩ = some (.int .i64 l) := A1.out.cell 7
                  have c8 : u1.cell? ⟨w.heap.size, 8, none⟩ = some (.bool ak) := A1.out.cell 8
                  have c9 : u1.cell? ⟨w.heap.size, 9, none⟩ = some (.bool gn) := A1.out.cell 9
                  have c10 : u1.cell? ⟨w.heap.size, 10, none⟩ = some (.int .i64 b) := A1.out.cell 10
                  have c11 : u1.cell? ⟨w.heap.size, 11, none⟩ = some (.int .i64 bl) := A1.out.cell 11
                  clear hb1
                  go_wp2_with fail
                  refine (Co.out _).mono ?_
                  rintro e u2 ⟨rfl, rfl⟩
                  go_wp2_with fail
                  refine (Cs.out _).mono ?_
                  rintro e u3 ⟨rfl, rfl⟩
                  go_wp2_with fail
                  refine (Cb.out _).mono ?_
                  rintro e u4 ⟨rfl, rfl⟩
                  go_wp2_with fail
                  refine (CU.out _).mono ?_
                  rintro e u5 ⟨rfl, hb5⟩
                  have HB5 := Lib.hid (HB1.out.trans (hb5.mono HB1.out.size))
                  have A5 := Lib.hid (A1.out.keep hb5 A1.out.lt)
                  clear c0 c1 c2 c3 c4 c5 c6 c7 c8 c9 c10 c11
                  have c0 : u5.cell? ⟨w.heap.size, 0, none⟩ = some (.int .i64 o) := A5.out.cell 0
                  have c1 : u5.cell? ⟨w.heap.size, 1, none⟩ = some (.int .i64 k) := A5.out.cell 1
                  have c2 : u5.cell? ⟨w.heap.size, 2, none⟩ = some (.int .i64 a) := A5.out.cell 2
                  have c3 : u5.cell? ⟨w.heap.size, 3, none⟩ = some (.int .i64 n) := A5.out.cell 3
                  have c4 : u5.cell? ⟨w.heap.size, 4, none⟩ = some (.int .i64 p) := A5.out.cell 4
                  have c5 : u5.cell? ⟨w.heap.size, 5, none⟩ = some (.int .i64 q) := A5.out.cell 5
                  have c6 : u5.cell? ⟨w.heap.size, 6, none⟩ = some (.int .i64 s) := A5.out.cell 6
                  have c7 : u5.cell? ⟨w.heap.size, 7, none⟩ = some (.int .i64 l) := A5.out.cell 7
                  have c8 : u5.cell? ⟨w.heap.size, 8, none⟩ = some (.bool ak) := A5.out.cell 8
                  have c9 : u5.cell? ⟨w.heap.size, 9, none⟩ = some (.bool gn) := A5.out.cell 9
                  have c10 : u5.cell? ⟨w.heap.size, 10, none⟩ = some (.int .i64 b) := A5.out.cell 10
                  have c11 : u5.cell? ⟨w.heap.size, 11, none⟩ = some (.int .i64 bl) := A5.out.cell 11
                  clear hb5
                  go_wp2_with fail
                  refine (Cl.out _).mono ?_
                  rintro e u6 ⟨rfl, rfl⟩
                  go_wp2_with fail
                  refine (Cm.out _).mono ?_
                  rintro e u7 ⟨rfl, rfl⟩
                  go_wp2_with fail
                  go_ret
                  exact ⟨by rw [E.out]; first | rfl | simp_all, HB5.out⟩
          · rcases hCl : inB l 0 1073741824 with _ | _
            · have Cl := Lib.hid (fun w => ein_any l 0 1073741824 w false hCl)
              have E := Lib.hid (ment_no (o := o) (k := k) (a := a) (p := p) (q := q) (s := s) (l := l) (ak := ak) (gn := gn) (b := b) (bl := bl) (by rw [hCl]; simp))
              clear hCl
              go_wp2_with fail
              refine (CE.out _).mono ?_
              rintro e u1 ⟨rfl, hb1⟩
              have HB1 := Lib.hid (HB.out.trans (hb1.mono HB.out.size))
              have A1 := Lib.hid (A.out.keep hb1 A.out.lt)
              clear c0 c1 c2 c3 c4 c5 c6 c7 c8 c9 c10 c11
              have c0 : u1.cell? ⟨w.heap.size, 0, none⟩ = some (.int .i64 o) := A1.out.cell 0
              have c1 : u1.cell? ⟨w.heap.size, 1, none⟩ = some (.int .i64 k) := A1.out.cell 1
              have c2 : u1.cell? ⟨w.heap.size, 2, none⟩ = some (.int .i64 a) := A1.out.cell 2
              have c3 : u1.cell? ⟨w.heap.size, 3, none⟩ = some (.int .i64 n) := A1.out.cell 3
              have c4 : u1.cell? ⟨w.heap.size, 4, none⟩ = some (.int .i64 p) := A1.out.cell 4
              have c5 : u1.cell? ⟨w.heap.size, 5, none⟩ = some (.int .i64 q) := A1.out.cell 5
              have c6 : u1.cell? ⟨w.heap.size, 6, none⟩ = some (.int .i64 s) := A1.out.cell 6
              have c7 : u1.cell? ⟨w.heap.size, 7, none⟩ = some (.int .i64 l) := A1.out.cell 7
              have c8 : u1.cell? ⟨w.heap.size, 8, none⟩ = some (.bool ak) := A1.out.cell 8
              have c9 : u1.cell? ⟨w.heap.size, 9, none⟩ = some (.bool gn) := A1.out.cell 9
              have c10 : u1.cell? ⟨w.heap.size, 10, none⟩ = some (.int .i64 b) := A1.out.cell 10
              have c11 : u1.cell? ⟨w.heap.size, 11, none⟩ = some (.int .i64 bl) := A1.out.cell 11
              clear hb1
              go_wp2_with fail
              refine (Co.out _).mono ?_
              rintro e u2 ⟨rfl, rfl⟩
              go_wp2_with fail
              refine (Cs.out _).mono ?_
              rintro e u3 ⟨rfl, rfl⟩
              go_wp2_with fail
              refine (Cb.out _).mono ?_
              rintro e u4 ⟨rfl, rfl⟩
              go_wp2_with fail
              refine (Cl.out _).mono ?_
              rintro e u5 ⟨rfl, rfl⟩
              go_wp2_with fail
              go_ret
              exact ⟨by rw [E.out]; first | rfl | simp_all, HB1.out⟩
            · have Cl := Lib.hid (fun w => ein_any l 0 1073741824 w true hCl)
              have HCl := Lib.hid hCl
              clear hCl
              rcases hCm : inB bl 0 1073741824 with _ | _
              · have Cm := Lib.hid (fun w => ein_any bl 0 1073741824 w false hCm)
                have E := Lib.hid (ment_no (o := o) (k := k) (a := a) (p := p) (q := q) (s := s) (l := l) (ak := ak) (gn := gn) (b := b) (bl := bl) (by rw [hCm]; simp))
                clear hCm
                go_wp2_with fail
                refine (CE.out _).mono ?_
                rintro e u1 ⟨rfl, hb1⟩
                have HB1 := Lib.hid (HB.out.trans (hb1.mono HB.out.size))
                have A1 := Lib.hid (A.out.keep hb1 A.out.lt)
                clear c0 c1 c2 c3 c4 c5 c6 c7 c8 c9 c10 c11
                have c0 : u1.cell? ⟨w.heap.size, 0, none⟩ = some (.int .i64 o) := A1.out.cell 0
                have c1 : u1.cell? ⟨w.heap.size, 1, none⟩ = some (.int .i64 k) := A1.out.cell 1
                have c2 : u1.cell? ⟨w.heap.size, 2, none⟩ = some (.int .i64 a) := A1.out.cell 2
                have c3 : u1.cell? ⟨w.heap.size, 3, none⟩ = some (.int .i64 n) := A1.out.cell 3
                have c4 : u1.cell? ⟨w.heap.size, 4, none⟩ = some (.int .i64 p) := A1.out.cell 4
                have c5 : u1.cell? ⟨w.heap.size, 5, none⟩ = some (.int .i64 q) := A1.out.cell 5
                have c6 : u1.cell? ⟨w.heap.size, 6, none⟩ = some (.int .i64 s) := A1.out.cell 6
                have c7 : u1.cell? ⟨w.heap.size, 7, none⟩ = some (.int .i64 l) := A1.out.cell 7
                have c8 : u1.cell? ⟨w.heap.size, 8, none⟩ = some (.bool ak) := A1.out.cell 8
                have c9 : u1.cell? ⟨w.heap.size, 9, none⟩ = some (.bool gn) := A1.out.cell 9
                have c10 : u1.cell? ⟨w.heap.size, 10, none⟩ = some (.int .i64 b) := A1.out.cell 10
                have c11 : u1.cell? ⟨w.heap.size, 11, none⟩ = some (.int .i64 bl) := A1.out.cell 11
                clear hb1
                go_wp2_with fail
                refine (Co.out _).mono ?_
                rintro e u2 ⟨rfl, rfl⟩
                go_wp2_with fail
                refine (Cs.out _).mono ?_
                rintro e u3 ⟨rfl, rfl⟩
                go_wp2_with fail
                refine (Cb.out _).mono ?_
                rintro e u4 ⟨rfl, rfl⟩
                go_wp2_with fail
                refine (Cl.out _).mono ?_
                rintro e u5 ⟨rfl, rfl⟩
                go_wp2_with fail
                refine (Cm.out _).mono ?_
                rintro e u6 ⟨rfl, rfl⟩
                go_wp2_with fail
                go_ret
                exact ⟨by rw [E.out]; first | rfl | simp_all, HB1.out⟩
              · have Cm := Lib.hid (fun w => ein_any bl 0 1073741824 w true hCm)
                have HCm := Lib.hid hCm
                clear hCm
                by_cases hz0 : bl = 0
                · have E := Lib.hid (ment_yes (o := o) (k := k) (a := a) (p := p) (q := q) (s := s) (l := l) (ak := ak) (gn := gn) (b := b) (bl := bl) ⟨HE0.out, HCo.out, HCs.out, HCb.out, fun h => absurd h hb, HCl.out, HCm.out, Or.inr hz0⟩)
                  have HZ := Lib.hid hz0
                  clear hz0
                  go_wp2_with fail
                  refine (CE.out _).mono ?_
                  rintro e u1 ⟨rfl, hb1⟩
                  have HB1 := Lib.hid (HB.out.trans (hb1.mono HB.out.size))
                  have A1 := Lib.hid (A.out.keep hb1 A.out.lt)
                  clear c0 c1 c2 c3 c4 c5 c6 c7 c8 c9 c10 c11
                  have c0 : u1.cell? ⟨w.heap.size, 0, none⟩ = some (.int .i64 o) := A1.out.cell 0
                  have c1 : u1.cell? ⟨w.heap.size, 1, none⟩ = some (.int .i64 k) := A1.out.cell 1
                  have c2 : u1.cell? ⟨w.heap.size, 2, none⟩ = some (.int .i64 a) := A1.out.cell 2
                  have c3 : u1.cell? ⟨w.heap.size, 3, none⟩ = some (.int .i64 n) := A1.out.cell 3
                  have c4 : u1.cell? ⟨w.heap.size, 4, none⟩ = some (.int .i64 p) := A1.out.cell 4
                  have c5 : u1.cell? ⟨w.heap.size, 5, none⟩ = some (.int .i64 q) := A1.out.cell 5
                  have c6 : u1.cell? ⟨w.heap.size, 6, none⟩ = some (.int .i64 s) := A1.out.cell 6
                  have c7 : u1.cell? ⟨w.heap.size, 7, none⟩ = some (.int .i64 l) := A1.out.cell 7
                  have c8 : u1.cell? ⟨w.heap.size, 8, none⟩ = some (.bool ak) := A1.out.cell 8
                  have c9 : u1.cell? ⟨w.heap.size, 9, none⟩ = some (.bool gn) := A1.out.cell 9
                  have c10 : u1.cell? ⟨w.heap.size, 10, none⟩ = some (.int .i64 b) := A1.out.cell 10
                  have c11 : u1.cell? ⟨w.heap.size, 11, none⟩ = some (.int .i64 bl) := A1.out.cell 11
                  clear hb1
                  go_wp2_with fail
                  refine (Co.out _).mono ?_
                  rintro e u2 ⟨rfl, rfl⟩
                  go_wp2_with fail
                  refine (Cs.out _).mono ?_
                  rintro e u3 ⟨rfl, rfl⟩
                  go_wp2_with fail
                  refine (Cb.out _).mono ?_
                  rintro e u4 ⟨rfl, rfl⟩
                  go_wp2_with fail
                  refine (Cl.out _).mono ?_
                  rintro e u5 ⟨rfl, rfl⟩
                  go_wp2_with fail
                  refine (Cm.out _).mono ?_
                  rintro e u6 ⟨rfl, rfl⟩
                  go_wp2_with fail
                  go_ret
                  exact ⟨by rw [E.out]; have hzz := HZ.out; simp [hzz], HB1.out⟩
                · have E := Lib.hid (ment_no (o := o) (k := k) (a := a) (p := p) (q := q) (s := s) (l := l) (ak := ak) (gn := gn) (b := b) (bl := bl) (by intro hh; rcases hh.2.2.2.2.2.2.2 with h | h; exact hb h; exact hz0 h))
                  go_wp2_with fail
                  refine (CE.out _).mono ?_
                  rintro e u1 ⟨rfl, hb1⟩
                  have HB1 := Lib.hid (HB.out.trans (hb1.mono HB.out.size))
                  have A1 := Lib.hid (A.out.keep hb1 A.out.lt)
                  clear c0 c1 c2 c3 c4 c5 c6 c7 c8 c9 c10 c11
                  have c0 : u1.cell? ⟨w.heap.size, 0, none⟩ = some (.int .i64 o) := A1.out.cell 0
                  have c1 : u1.cell? ⟨w.heap.size, 1, none⟩ = some (.int .i64 k) := A1.out.cell 1
                  have c2 : u1.cell? ⟨w.heap.size, 2, none⟩ = some (.int .i64 a) := A1.out.cell 2
                  have c3 : u1.cell? ⟨w.heap.size, 3, none⟩ = some (.int .i64 n) := A1.out.cell 3
                  have c4 : u1.cell? ⟨w.heap.size, 4, none⟩ = some (.int .i64 p) := A1.out.cell 4
                  have c5 : u1.cell? ⟨w.heap.size, 5, none⟩ = some (.int .i64 q) := A1.out.cell 5
                  have c6 : u1.cell? ⟨w.heap.size, 6, none⟩ = some (.int .i64 s) := A1.out.cell 6
                  have c7 : u1.cell? ⟨w.heap.size, 7, none⟩ = some (.int .i64 l) := A1.out.cell 7
                  have c8 : u1.cell? ⟨w.heap.size, 8, none⟩ = some (.bool ak) := A1.out.cell 8
                  have c9 : u1.cell? ⟨w.heap.size, 9, none⟩ = some (.bool gn) := A1.out.cell 9
                  have c10 : u1.cell? ⟨w.heap.size, 10, none⟩ = some (.int .i64 b) := A1.out.cell 10
                  have c11 : u1.cell? ⟨w.heap.size, 11, none⟩ = some (.int .i64 bl) := A1.out.cell 11
                  clear hb1
                  go_wp2_with fail
                  refine (Co.out _).mono ?_
                  rintro e u2 ⟨rfl, rfl⟩
                  go_wp2_with fail
                  refine (Cs.out _).mono ?_
                  rintro e u3 ⟨rfl, rfl⟩
                  go_wp2_with fail
                  refine (Cb.out _).mono ?_
                  rintro e u4 ⟨rfl, rfl⟩
                  go_wp2_with fail
                  refine (Cl.out _).mono ?_
                  rintro e u5 ⟨rfl, rfl⟩
                  go_wp2_with fail
                  refine (Cm.out _).mono ?_
                  rintro e u6 ⟨rfl, rfl⟩
                  go_wp2_with fail
                  go_ret
                  exact ⟨by rw [E.out]; first | rfl | simp_all, HB1.out⟩
  · generalize hco : effCode k a p q = code at *
    have HCO := Lib.hid hco
    clear hco
    have E := Lib.hid (ment_no (o := o) (k := k) (a := a) (p := p) (q := q) (s := s) (l := l) (ak := ak) (gn := gn) (b := b) (bl := bl) (by rw [HCO.out]; intro hh; exact he hh.1))
    go_wp2_with fail
    refine (CE.out _).mono ?_
    rintro e u1 ⟨rfl, hb1⟩
    have HB1 := Lib.hid (HB.out.trans (hb1.mono HB.out.size))
    have A1 := Lib.hid (A.out.keep hb1 A.out.lt)
    clear c0 c1 c2 c3 c4 c5 c6 c7 c8 c9 c10 c11
    have c0 : u1.cell? ⟨w.heap.size, 0, none⟩ = some (.int .i64 o) := A1.out.cell 0
    have c1 : u1.cell? ⟨w.heap.size, 1, none⟩ = some (.int .i64 k) := A1.out.cell 1
    have c2 : u1.cell? ⟨w.heap.size, 2, none⟩ = some (.int .i64 a) := A1.out.cell 2
    have c3 : u1.cell? ⟨w.heap.size, 3, none⟩ = some (.int .i64 n) := A1.out.cell 3
    have c4 : u1.cell? ⟨w.heap.size, 4, none⟩ = some (.int .i64 p) := A1.out.cell 4
    have c5 : u1.cell? ⟨w.heap.size, 5, none⟩ = some (.int .i64 q) := A1.out.cell 5
    have c6 : u1.cell? ⟨w.heap.size, 6, none⟩ = some (.int .i64 s) := A1.out.cell 6
    have c7 : u1.cell? ⟨w.heap.size, 7, none⟩ = some (.int .i64 l) := A1.out.cell 7
    have c8 : u1.cell? ⟨w.heap.size, 8, none⟩ = some (.bool ak) := A1.out.cell 8
    have c9 : u1.cell? ⟨w.heap.size, 9, none⟩ = some (.bool gn) := A1.out.cell 9
    have c10 : u1.cell? ⟨w.heap.size, 10, none⟩ = some (.int .i64 b) := A1.out.cell 10
    have c11 : u1.cell? ⟨w.heap.size, 11, none⟩ = some (.int .i64 bl) := A1.out.cell 11
    clear hb1
    go_wp2_with fail
    go_ret
    exact ⟨by rw [E.out]; first | rfl | simp_all, HB1.out⟩
end Go.Proofs.Ytalbkpahphndiaa
