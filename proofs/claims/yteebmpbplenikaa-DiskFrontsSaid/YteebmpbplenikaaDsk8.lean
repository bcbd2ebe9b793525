/- The statements of disks: a call, upon the disk and in the book. -/
import Derived.Test.YteebmpbplenikaaDsk7
import Derived.RegionTactic
import Derived.BigRegion
import Derived.ChangeAlike
import Derived.Laws.IdiomCopy
import Derived.Deep.LoopGhost
import Derived.Deep.DeepCutAuto
namespace Go.Proofs.Yteebmpbplenikaa
set_option linter.unusedVariables false
set_option linter.unusedSimpArgs false
open Go.ChangeShapes Go.WideShapes Go.ChangeAt Go.RowKit
theorem held_turn {P : Program} {ops : Array Oper} {Q : Exit → Act → World → Prop} {md : Region.Mode} {S S' : World → Prop} (hSS : ∀ w, S' w → S w) : ∀ (fuel : Nat) (listed : Array Bool) (a : Act) (w : World), wpAnyH P md ops Q S' fuel listed a w → wpAnyH P md ops Q S fuel listed a w
  | 0, _, _, _, h => h
  | fuel + 1, _, _, _, h => ⟨h.1, fun i hi => wpOp_mono (fun a' w' h' => ⟨hSS w' h'.1, held_turn hSS fuel _ a' w' h'.2⟩) (h.2 i hi)⟩
theorem bwrite_any {B g n c k kc : Nat} {a ka : Option Addr} {bs : List UInt8} {left wr : Int} {dead : Bool} {w : World} (h : Two w B g a n c k ka kc bs left dead wr) (kd ii z : Int) (ab : Option Addr) (nb cb : Nat) (xs : List UInt8) (hx : Sl w ab nb 1 (bcells xs)) (hnc : nb ≤ cb) (hab : nb = 32 → ∀ x, ab = some x → x.block < B) :
    Calls Try.prog 28 #[.pointer (some ⟨k, 0, none⟩), .pointer (some ⟨g, 0, none⟩), .agg #[.int .i64 kd, .int .i64 ii, .int .i64 z, .slice ab nb cb]] w fun e w' => e = .returned (.bool true) ∧ (∃ bs' left' dead' wr', Two w' B g a n c k ka kc bs' left' dead' wr') ∧ Below B w w' ∧ Only (fun j => dkp g a j ∨ bkp k ka j) w w' := by
  by_cases h1 : ii < 0
  · exact bwrite_no_neg h kd ii z ab nb cb xs hx hnc hab h1
  by_cases h2 : (n : Int) ≤ ii
  · exact bwrite_no_far h kd ii z ab nb cb xs hx hnc hab h1 h2
  by_cases h3 : nb = 32
  · rcases hd : dead with _ | _
    · subst hd
      subst h3
      obtain ⟨i, rfl⟩ := Int.eq_ofNat_of_zero_le (show 0 ≤ ii by omega)
      have hlo := h.d.lo
      by_cases hf : left = -1
      · subst hf
        exact bwrite_full h kd z i ab cb xs hx hnc (hab rfl) (by omega)
      · by_cases hm : 32 ≤ left
        · exact bwrite_more h kd z i ab cb xs hx hnc (hab rfl) (by omega) hm
        · obtain ⟨kk, rfl⟩ := Int.eq_ofNat_of_zero_le (show 0 ≤ left by omega)
          exact bwrite_cut h kd z i ab cb xs hx hnc (hab rfl) (by omega) (by omega)
    · exact bwrite_no_dead h kd ii z ab nb cb xs hx hnc hab h1 h2 h3 hd
  · exact bwrite_no_len h kd ii z ab nb cb xs hx hnc hab h1 h2 h3
set_option maxRecDepth 100000 in
set_option maxHeartbeats 4000000 in
theorem bstep_w {B g n c k kc : Nat} {a ka : Option Addr} {bs : List UInt8} {left wr : Int} {dead : Bool} {w : World} (h : Two w B g a n c k ka kc bs left dead wr) (kd ii z : Int) (ab : Option Addr) (nb cb : Nat) (xs : List UInt8) (hx : Sl w ab nb 1 (bcells xs)) (hnc : nb ≤ cb) (hab : nb = 32 → ∀ x, ab = some x → x.block < B) (hfz : z ≤ 9223372036854775807) (hk : kd = 1) :
    Calls Try.prog 21 #[.pointer (some ⟨k, 0, none⟩), .pointer (some ⟨g, 0, none⟩), .agg #[.int .i64 kd, .int .i64 ii, .int .i64 z, .slice ab nb cb]] w fun e w' => e = .returned (.bool true) ∧ (∃ bs' left' dead' wr', Two w' B g a n c k ka kc bs' left' dead' wr') ∧ Below B w w' ∧ Only (fun j => dkp g a j ∨ bkp k ka j) w w' := by
  subst hk
  obtain ⟨m, hm⟩ : ∃ m, m = 32 * n := ⟨_, rfl⟩
  have ew : IntKind.i64.wrap (n : Int) = n := (IntKind.wrap_i64 (n : Int)).trans (by have := h.d.few; omega)
  have et : (m : Int).tdiv 32 = n := by rw [Int.tdiv_eq_ediv_of_nonneg (by omega)]; omega
  have HA : Hid (Blk (w.alloc (.cells #[.int .i64 1, .int .i64 ii, .int .i64 z, .slice ab nb cb] 49)) w.heap.size [.int .i64 1, .int .i64 ii, .int .i64 z, .slice ab nb cb] 49) := Lib.hid (Blk.new w #[.int .i64 1, .int .i64 ii, .int .i64 z, .slice ab nb cb] 49)
  have ho0 : Only (fun _ => False) w (w.alloc (.cells #[.int .i64 1, .int .i64 ii, .int .i64 z, .slice ab nb cb] 49)) := (Only.refl _ w).alloc _
  have D1 := Lib.hid (h.d.only ho0 fun _ _ => id)
  have K1 := Lib.hid (h.b.only ho0 fun _ _ => id)
  have X1 := Lib.hid (hx.only ho0 fun _ _ => id)
  have B1 := Lib.hid (ho0.toBelow (B := B) (fun _ h => h.elim) h.lw)
  have O1 : Hid (Only (fun j => dkp g a j ∨ bkp k ka j) w (w.alloc (.cells #[.int .i64 1, .int .i64 ii, .int .i64 z, .slice ab nb cb] 49))) := Lib.hid ((Only.refl _ w).alloc _)
  have HT := Lib.hid h
  have hlt : w.heap.size < (w.alloc (.cells #[.int .i64 1, .int .i64 ii, .int .i64 z, .slice ab nb cb] 49)).heap.size := by simp
  have hgs : Hid (g ≠ w.heap.size ∧ k ≠ w.heap.size) := Lib.hid ⟨Nat.ne_of_lt h.d.head.lt, Nat.ne_of_lt h.b.head.lt⟩
  have hab' := Lib.hid hab
  rw [← hm] at K1
  have HM := Lib.hid hm
  clear hm h hx hab
  have CW := Lib.hid (fun w' (h' : Two w' B g a n c k ka kc bs left dead wr) (hx' : Sl w' ab nb 1 (bcells xs)) => bwrite_any h' 1 ii z ab nb cb xs hx' hnc hab'.out)
  have HNC := Lib.hid hnc
  have HFZ := Lib.hid hfz
  have K1m : Hid (Bok (w.alloc (.cells #[.int .i64 1, .int .i64 ii, .int .i64 z, .slice ab nb cb] 49)) k ka (32 * n) kc bs left dead wr) := by have := K1; rwa [HM.out] at this
  have T1 : Hid (Two (w.alloc (.cells #[.int .i64 1, .int .i64 ii, .int .i64 z, .slice ab nb cb] 49)) B g a n c k ka kc bs left dead wr) := Lib.hid ⟨D1.out, K1m.out, HT.out.kg, HT.out.ak, HT.out.kag, HT.out.aka, HT.out.lg, HT.out.lk, HT.out.la, HT.out.lka, Nat.le_trans HT.out.lw B1.out.size, fun j hj => Nat.lt_of_lt_of_le (HT.out.top j hj) B1.out.size⟩
  have TO : RowT 49 ([.int .i64 1, .int .i64 ii, .int .i64 z, .slice ab nb cb] : List Value).length := ⟨⟨_, Try.underlying49, rfl⟩, by kernel_rfl⟩
  clear K1m hnc hfz
  go_enter Try.func21, Try.ntmps21
  go_upto_region 1 with fail
  generalize hgx : w.heap.size = gx at *
  have HGX := Lib.hid hgx
  clear hgx ho0
  generalize w.alloc (.cells #[.int .i64 1, .int .i64 ii, .int .i64 z, .slice ab nb cb] 49) = W at *
  have rop : W.rangeAt gx 0 [.int .i64 1, .int .i64 ii, .int .i64 z, .slice ab nb cb] := HA.out.range 0 _ rfl
  have a0 : W.cell? ⟨gx, 0, none⟩ = some (.int .i64 1) := HA.out.cell 0
  have a1 : W.cell? ⟨gx, 1, none⟩ = some (.int .i64 ii) := HA.out.cell 1
  have a2 : W.cell? ⟨gx, 2, none⟩ = some (.int .i64 z) := HA.out.cell 2
  go_wp2_with (first
    | ((with_reducible refine ld_row rop TO ?_ ?_ ?_); (· rfl); (· rfl); (simp only [Act.put, List.setIfInBounds_toArray, List.set_cons_zero, List.set_cons_succ])))
  refine (CW.out W T1.out X1.out).mono ?_
  rintro e w2 ⟨rfl, ht, hb⟩
  have R := Lib.hid (And.intro ht hb)
  clear ht hb
  go_wp2_with fail
  go_ret
  exact ⟨rfl, R.out.1, B1.out.trans R.out.2.1, O1.out.trans R.out.2.2⟩
set_option maxRecDepth 100000 in
set_option maxHeartbeats 4000000 in
theorem bstep_a {B g n c k kc : Nat} {a ka : Option Addr} {bs : List UInt8} {left wr : Int} {dead : Bool} {w : World} (h : Two w B g a n c k ka kc bs left dead wr) (kd ii z : Int) (ab : Option Addr) (nb cb : Nat) (xs : List UInt8) (hx : Sl w ab nb 1 (bcells xs)) (hnc : nb ≤ cb) (hab : nb = 32 → ∀ x, ab = some x → x.block < B) (hfz : z ≤ 9223372036854775807) (hk : kd = 2) :
    Calls Try.prog 21 #[.pointer (some ⟨k, 0, none⟩), .pointer (some ⟨g, 0, none⟩), .agg #[.int .i64 kd, .int .i64 ii, .int .i64 z, .slice ab nb cb]] w fun e w' => e = .returned (.bool true) ∧ (∃ bs' left' dead' wr', Two w' B g a n c k ka kc bs' left' dead' wr') ∧ Below B w w' ∧ Only (fun j => dkp g a j ∨ bkp k ka j) w w' := by
  subst hk
  obtain ⟨m, hm⟩ : ∃ m, m = 32 * n := ⟨_, rfl⟩
  have ew : IntKind.i64.wrap (n : Int) = n := (IntKind.wrap_i64 (n : Int)).trans (by have := h.d.few; omega)
  have et : (m : Int).tdiv 32 = n := by rw [Int.tdiv_eq_ediv_of_nonneg (by omega)]; omega
  have HA : Hid (Blk (w.alloc (.cells #[.int .i64 2, .int .i64 ii, .int .i64 z, .slice ab nb cb] 49)) w.heap.size [.int .i64 2, .int .i64 ii, .int .i64 z, .slice ab nb cb] 49) := Lib.hid (Blk.new w #[.int .i64 2, .int .i64 ii, .int .i64 z, .slice ab nb cb] 49)
  have ho0 : Only (fun _ => False) w (w.alloc (.cells #[.int .i64 2, .int .i64 ii, .int .i64 z, .slice ab nb cb] 49)) := (Only.refl _ w).alloc _
  have D1 := Lib.hid (h.d.only ho0 fun _ _ => id)
  have K1 := Lib.hid (h.b.only ho0 fun _ _ => id)
  have X1 := Lib.hid (hx.only ho0 fun _ _ => id)
  have B1 := Lib.hid (ho0.toBelow (B := B) (fun _ h => h.elim) h.lw)
  have O1 : Hid (Only (fun j => dkp g a j ∨ bkp k ka j) w (w.alloc (.cells #[.int .i64 2, .int .i64 ii, .int .i64 z, .slice ab nb cb] 49))) := Lib.hid ((Only.refl _ w).alloc _)
  have HT := Lib.hid h
  have hlt : w.heap.size < (w.alloc (.cells #[.int .i64 2, .int .i64 ii, .int .i64 z, .slice ab nb cb] 49)).heap.size := by simp
  have hgs : Hid (g ≠ w.heap.size ∧ k ≠ w.heap.size) := Lib.hid ⟨Nat.ne_of_lt h.d.head.lt, Nat.ne_of_lt h.b.head.lt⟩
  have hab' := Lib.hid hab
  rw [← hm] at K1
  have HM := Lib.hid hm
  clear hm h hx hab
  have CW := Lib.hid (fun w' (h' : Two w' B g a n c k ka kc bs left dead wr) (hx' : Sl w' ab nb 1 (bcells xs)) => bwrite_any h' 2 ii z ab nb cb xs hx' hnc hab'.out)
  have HNC := Lib.hid hnc
  have HFZ := Lib.hid hfz
  have K1m : Hid (Bok (w.alloc (.cells #[.int .i64 2, .int .i64 ii, .int .i64 z, .slice ab nb cb] 49)) k ka (32 * n) kc bs left dead wr) := by have := K1; rwa [HM.out] at this
  have T1 : Hid (Two (w.alloc (.cells #[.int .i64 2, .int .i64 ii, .int .i64 z, .slice ab nb cb] 49)) B g a n c k ka kc bs left dead wr) := Lib.hid ⟨D1.out, K1m.out, HT.out.kg, HT.out.ak, HT.out.kag, HT.out.aka, HT.out.lg, HT.out.lk, HT.out.la, HT.out.lka, Nat.le_trans HT.out.lw B1.out.size, fun j hj => Nat.lt_of_lt_of_le (HT.out.top j hj) B1.out.size⟩
  have TO : RowT 49 ([.int .i64 2, .int .i64 ii, .int .i64 z, .slice ab nb cb] : List Value).length := ⟨⟨_, Try.underlying49, rfl⟩, by kernel_rfl⟩
  clear K1m hnc hfz
  go_enter Try.func21, Try.ntmps21
  go_upto_region 1 with fail
  generalize hgx : w.heap.size = gx at *
  have HGX := Lib.hid hgx
  clear hgx ho0
  generalize w.alloc (.cells #[.int .i64 2, .int .i64 ii, .int .i64 z, .slice ab nb cb] 49) = W at *
  have rop : W.rangeAt gx 0 [.int .i64 2, .int .i64 ii, .int .i64 z, .slice ab nb cb] := HA.out.range 0 _ rfl
  have a0 : W.cell? ⟨gx, 0, none⟩ = some (.int .i64 2) := HA.out.cell 0
  have a1 : W.cell? ⟨gx, 1, none⟩ = some (.int .i64 ii) := HA.out.cell 1
  have a2 : W.cell? ⟨gx, 2, none⟩ = some (.int .i64 z) := HA.out.cell 2
  go_wp2_with fail
  refine (arm_any D1.out z HFZ.out).mono ?_
  rintro e w2 ⟨rfl, hd, ho⟩
  have KA := Lib.hid (K1.out.only ho HT.out.disj)
  have RD := Lib.hid (And.intro hd ho)
  have NG : Hid (¬ dkp g a gx) := Lib.hid (fun hh => by have := HT.out.top gx (Or.inl hh); have := HGX.out; omega)
  have AX := Lib.hid (HA.out.only ho NG.out)
  have BX := Lib.hid (B1.out.trans (ho.toBelow HT.out.lod (Nat.le_trans HT.out.lw B1.out.size)))
  have OX := Lib.hid (O1.out.trans (ho.mono fun _ h => Or.inl h))
  obtain ⟨k0, k1, k2, k3⟩ := KA.out.cells
  have f1 := KA.out.head.froz 1
  have b2 : w2.cell? ⟨gx, 2, none⟩ = some (.int .i64 z) := AX.out.cell 2
  clear hd ho a0 a1 a2 rop
  cases dead
  · by_cases hz : z < -1
    · go_wp2_with fail
      go_ret
      have BB := below_set BX.out HT.out.lk 1 (.int .i64 (-1))
      have KK := KA.out.set_fuel (-1)
      have e : armS false left z = -1 := by unfold armS; simp [hz]
      have DD := RD.out.1.only ((Only.refl (bkp k ka) w2).setCell (g := k) (Or.inl rfl) 1 (.int .i64 (-1))) (fun q hq hb => HT.out.disj q hb hq)
      rw [e] at DD
      exact ⟨rfl, ⟨_, _, _, _, ⟨DD, by have := KK; rwa [HM.out] at this, HT.out.kg, HT.out.ak, HT.out.kag, HT.out.aka, HT.out.lg, HT.out.lk, HT.out.la, HT.out.lka, Nat.le_trans HT.out.lw BB.size, fun j hj => Nat.lt_of_lt_of_le (HT.out.top j hj) BB.size⟩⟩, BB, OX.out.setCell (g := k) (Or.inr (Or.inl rfl)) 1 (.int .i64 (-1))⟩
    · have hz1 : -1 ≤ z := by omega
      go_wp2_with fail
      go_ret
      have BB := below_set BX.out HT.out.lk 1 (.int .i64 z)
      have KK := KA.out.set_fuel z
      have e : armS false left z = z := by unfold armS; simp; omega
      have DD := RD.out.1.only ((Only.refl (bkp k ka) w2).setCell (g := k) (Or.inl rfl) 1 (.int .i64 z)) (fun q hq hb => HT.out.disj q hb hq)
      rw [e] at DD
      exact ⟨rfl, ⟨_, _, _, _, ⟨DD, by have := KK; rwa [HM.out] at this, HT.out.kg, HT.out.ak, HT.out.kag, HT.out.aka, HT.out.lg, HT.out.lk, HT.out.la, HT.out.lka, Nat.le_trans HT.out.lw BB.size, fun j hj => Nat.lt_of_lt_of_le (HT.out.top j hj) BB.size⟩⟩, BB, OX.out.setCell (g := k) (Or.inr (Or.inl rfl)) 1 (.int .i64 z)⟩
  · go_wp2_with fail
    go_ret
    have BB := BX.out
    have DD := RD.out.1
    rw [show armS true left z = left by unfold armS; simp] at DD
    exact ⟨rfl, ⟨_, _, _, _, ⟨DD, by have := KA.out; rwa [HM.out] at this, HT.out.kg, HT.out.ak, HT.out.kag, HT.out.aka, HT.out.lg, HT.out.lk, HT.out.la, HT.out.lka, Nat.le_trans HT.out.lw BB.size, fun j hj => Nat.lt_of_lt_of_le (HT.out.top j hj) BB.size⟩⟩, BB, OX.out⟩
set_option maxRecDepth 100000 in
set_option maxHeartbeats 4000000 in
theorem bstep_v {B g n c k kc : Nat} {a ka : Option Addr} {bs : List UInt8} {left wr : Int} {dead : Bool} {w : World} (h : Two w B g a n c k ka kc bs left dead wr) (kd ii z : Int) (ab : Option Addr) (nb cb : Nat) (xs : List UInt8) (hx : Sl w ab nb 1 (bcells xs)) (hnc : nb ≤ cb) (hab : nb = 32 → ∀ x, ab = some x → x.block < B) (hfz : z ≤ 9223372036854775807) (hk : kd = 3) :
    Calls Try.prog 21 #[.pointer (some ⟨k, 0, none⟩), .pointer (some ⟨g, 0, none⟩), .agg #[.int .i64 kd, .int .i64 ii, .int .i64 z, .slice ab nb cb]] w fun e w' => e = .returned (.bool true) ∧ (∃ bs' left' dead' wr', Two w' B g a n c k ka kc bs' left' dead' wr') ∧ Below B w w' ∧ Only (fun j => dkp g a j ∨ bkp k ka j) w w' := by
  subst hk
  obtain ⟨m, hm⟩ : ∃ m, m = 32 * n := ⟨_, rfl⟩
  have ew : IntKind.i64.wrap (n : Int) = n := (IntKind.wrap_i64 (n : Int)).trans (by have := h.d.few; omega)
  have et : (m : Int).tdiv 32 = n := by rw [Int.tdiv_eq_ediv_of_nonneg (by omega)]; omega
  have HA : Hid (Blk (w.alloc (.cells #[.int .i64 3, .int .i64 ii, .int .i64 z, .slice ab nb cb] 49)) w.heap.size [.int .i64 3, .int .i64 ii, .int .i64 z, .slice ab nb cb] 49) := Lib.hid (Blk.new w #[.int .i64 3, .int .i64 ii, .int .i64 z, .slice ab nb cb] 49)
  have ho0 : Only (fun _ => False) w (w.alloc (.cells #[.int .i64 3, .int .i64 ii, .int .i64 z, .slice ab nb cb] 49)) := (Only.refl _ w).alloc _
  have D1 := Lib.hid (h.d.only ho0 fun _ _ => id)
  have K1 := Lib.hid (h.b.only ho0 fun _ _ => id)
  have X1 := Lib.hid (hx.only ho0 fun _ _ => id)
  have B1 := Lib.hid (ho0.toBelow (B := B) (fun _ h => h.elim) h.lw)
  have O1 : Hid (Only (fun j => dkp g a j ∨ bkp k ka j) w (w.alloc (.cells #[.int .i64 3, .int .i64 ii, .int .i64 z, .slice ab nb cb] 49))) := Lib.hid ((Only.refl _ w).alloc _)
  have HT := Lib.hid h
  have hlt : w.heap.size < (w.alloc (.cells #[.int .i64 3, .int .i64 ii, .int .i64 z, .slice ab nb cb] 49)).heap.size := by simp
  have hgs : Hid (g ≠ w.heap.size ∧ k ≠ w.heap.size) := Lib.hid ⟨Nat.ne_of_lt h.d.head.lt, Nat.ne_of_lt h.b.head.lt⟩
  have hab' := Lib.hid hab
  rw [← hm] at K1
  have HM := Lib.hid hm
  clear hm h hx hab
  have CW := Lib.hid (fun w' (h' : Two w' B g a n c k ka kc bs left dead wr) (hx' : Sl w' ab nb 1 (bcells xs)) => bwrite_any h' 3 ii z ab nb cb xs hx' hnc hab'.out)
  have HNC := Lib.hid hnc
  have HFZ := Lib.hid hfz
  have K1m : Hid (Bok (w.alloc (.cells #[.int .i64 3, .int .i64 ii, .int .i64 z, .slice ab nb cb] 49)) k ka (32 * n) kc bs left dead wr) := by have := K1; rwa [HM.out] at this
  have T1 : Hid (Two (w.alloc (.cells #[.int .i64 3, .int .i64 ii, .int .i64 z, .slice ab nb cb] 49)) B g a n c k ka kc bs left dead wr) := Lib.hid ⟨D1.out, K1m.out, HT.out.kg, HT.out.ak, HT.out.kag, HT.out.aka, HT.out.lg, HT.out.lk, HT.out.la, HT.out.lka, Nat.le_trans HT.out.lw B1.out.size, fun j hj => Nat.lt_of_lt_of_le (HT.out.top j hj) B1.out.size⟩
  have TO : RowT 49 ([.int .i64 3, .int .i64 ii, .int .i64 z, .slice ab nb cb] : List Value).length := ⟨⟨_, Try.underlying49, rfl⟩, by kernel_rfl⟩
  clear K1m hnc hfz
  go_enter Try.func21, Try.ntmps21
  go_upto_region 1 with fail
  generalize hgx : w.heap.size = gx at *
  have HGX := Lib.hid hgx
  clear hgx ho0
  generalize w.alloc (.cells #[.int .i64 3, .int .i64 ii, .int .i64 z, .slice ab nb cb] 49) = W at *
  have rop : W.rangeAt gx 0 [.int .i64 3, .int .i64 ii, .int .i64 z, .slice ab nb cb] := HA.out.range 0 _ rfl
  have a0 : W.cell? ⟨gx, 0, none⟩ = some (.int .i64 3) := HA.out.cell 0
  have a1 : W.cell? ⟨gx, 1, none⟩ = some (.int .i64 ii) := HA.out.cell 1
  have a2 : W.cell? ⟨gx, 2, none⟩ = some (.int .i64 z) := HA.out.cell 2
  go_wp2_with fail
  refine (revive_any D1.out).mono ?_
  rintro e w2 ⟨rfl, hd, ho⟩
  have KA := Lib.hid (K1.out.only ho HT.out.disj)
  have RD := Lib.hid (And.intro hd ho)
  have BX := Lib.hid (B1.out.trans (ho.toBelow HT.out.lod (Nat.le_trans HT.out.lw B1.out.size)))
  have OX := Lib.hid (O1.out.trans (ho.mono fun _ h => Or.inl h))
  obtain ⟨k0, k1, k2, k3⟩ := KA.out.cells
  have f1 := KA.out.head.froz 1
  have f2 := KA.out.head.froz 2
  clear hd ho a0 a1 a2 rop
  go_wp2_with fail
  go_ret
  have BB := below_set (below_set BX.out HT.out.lk 2 (.bool false)) HT.out.lk 1 (.int .i64 (-1))
  have KK := (KA.out.set_dead false).set_fuel (-1)
  have DD := RD.out.1.only (((Only.refl (bkp k ka) w2).setCell (g := k) (Or.inl rfl) 2 (.bool false)).setCell (g := k) (Or.inl rfl) 1 (.int .i64 (-1))) (fun q hq hb => HT.out.disj q hb hq)
  exact ⟨rfl, ⟨_, _, _, _, ⟨DD, by have := KK; rwa [HM.out] at this, HT.out.kg, HT.out.ak, HT.out.kag, HT.out.aka, HT.out.lg, HT.out.lk, HT.out.la, HT.out.lka, Nat.le_trans HT.out.lw BB.size, fun j hj => Nat.lt_of_lt_of_le (HT.out.top j hj) BB.size⟩⟩, BB, (OX.out.setCell (g := k) (Or.inr (Or.inl rfl)) 2 (.bool false)).setCell (g := k) (Or.inr (Or.inl rfl)) 1 (.int .i64 (-1))⟩
set_option maxRecDepth 100000 in
set_option maxHeartbeats 4000000 in
theorem bstep_rn {B g n c k kc : Nat} {a ka : Option Addr} {bs : List UInt8} {left wr : Int} {dead : Bool} {w : World} (h : Two w B g a n c k ka kc bs left dead wr) (kd ii z : Int) (ab : Option Addr) (nb cb : Nat) (xs : List UInt8) (hx : Sl w ab nb 1 (bcells xs)) (hnc : nb ≤ cb) (hab : nb = 32 → ∀ x, ab = some x → x.block < B) (hfz : z ≤ 9223372036854775807) (hk1 : ¬ kd = 1) (hk2 : ¬ kd = 2) (hk3 : ¬ kd = 3) (hno : hasS n dead ii = false) :
    Calls Try.prog 21 #[.pointer (some ⟨k, 0, none⟩), .pointer (some ⟨g, 0, none⟩), .agg #[.int .i64 kd, .int .i64 ii, .int .i64 z, .slice ab nb cb]] w fun e w' => e = .returned (.bool true) ∧ (∃ bs' left' dead' wr', Two w' B g a n c k ka kc bs' left' dead' wr') ∧ Below B w w' ∧ Only (fun j => dkp g a j ∨ bkp k ka j) w w' := by
  have kb1 : (kd == 1) = false := beq_eq_false_iff_ne.2 hk1
  have kb2 : (kd == 2) = false := beq_eq_false_iff_ne.2 hk2
  have kb3 : (kd == 3) = false := beq_eq_false_iff_ne.2 hk3
  clear hk1 hk2 hk3
  obtain ⟨m, hm⟩ : ∃ m, m = 32 * n := ⟨_, rfl⟩
  have ew : IntKind.i64.wrap (n : Int) = n := (IntKind.wrap_i64 (n : Int)).trans (by have := h.d.few; omega)
  have et : (m : Int).tdiv 32 = n := by rw [Int.tdiv_eq_ediv_of_nonneg (by omega)]; omega
  have HA : Hid (Blk (w.alloc (.cells #[.int .i64 kd, .int .i64 ii, .int .i64 z, .slice ab nb cb] 49)) w.heap.size [.int .i64 kd, .int .i64 ii, .int .i64 z, .slice ab nb cb] 49) := Lib.hid (Blk.new w #[.int .i64 kd, .int .i64 ii, .int .i64 z, .slice ab nb cb] 49)
  have ho0 : Only (fun _ => False) w (w.alloc (.cells #[.int .i64 kd, .int .i64 ii, .int .i64 z, .slice ab nb cb] 49)) := (Only.refl _ w).alloc _
  have D1 := Lib.hid (h.d.only ho0 fun _ _ => id)
  have K1 := Lib.hid (h.b.only ho0 fun _ _ => id)
  have X1 := Lib.hid (hx.only ho0 fun _ _ => id)
  have B1 := Lib.hid (ho0.toBelow (B := B) (fun _ h => h.elim) h.lw)
  have O1 : Hid (Only (fun j => dkp g a j ∨ bkp k ka j) w (w.alloc (.cells #[.int .i64 kd, .int .i64 ii, .int .i64 z, .slice ab nb cb] 49))) := Lib.hid ((Only.refl _ w).alloc _)
  have HT := Lib.hid h
  have hlt : w.heap.size < (w.alloc (.cells #[.int .i64 kd, .int .i64 ii, .int .i64 z, .slice ab nb cb] 49)).heap.size := by simp
  have hgs : Hid (g ≠ w.heap.size ∧ k ≠ w.heap.size) := Lib.hid ⟨Nat.ne_of_lt h.d.head.lt, Nat.ne_of_lt h.b.head.lt⟩
  have hab' := Lib.hid hab
  rw [← hm] at K1
  have HM := Lib.hid hm
  clear hm h hx hab
  have CW := Lib.hid (fun w' (h' : Two w' B g a n c k ka kc bs left dead wr) (hx' : Sl w' ab nb 1 (bcells xs)) => bwrite_any h' kd ii z ab nb cb xs hx' hnc hab'.out)
  have HNC := Lib.hid hnc
  have HFZ := Lib.hid hfz
  have K1m : Hid (Bok (w.alloc (.cells #[.int .i64 kd, .int .i64 ii, .int .i64 z, .slice ab nb cb] 49)) k ka (32 * n) kc bs left dead wr) := by have := K1; rwa [HM.out] at this
  have T1 : Hid (Two (w.alloc (.cells #[.int .i64 kd, .int .i64 ii, .int .i64 z, .slice ab nb cb] 49)) B g a n c k ka kc bs left dead wr) := Lib.hid ⟨D1.out, K1m.out, HT.out.kg, HT.out.ak, HT.out.kag, HT.out.aka, HT.out.lg, HT.out.lk, HT.out.la, HT.out.lka, Nat.le_trans HT.out.lw B1.out.size, fun j hj => Nat.lt_of_lt_of_le (HT.out.top j hj) B1.out.size⟩
  have TO : RowT 49 ([.int .i64 kd, .int .i64 ii, .int .i64 z, .slice ab nb cb] : List Value).length := ⟨⟨_, Try.underlying49, rfl⟩, by kernel_rfl⟩
  clear K1m hnc hfz
  go_enter Try.func21, Try.ntmps21
  go_upto_region 1 with fail
  generalize hgx : w.heap.size = gx at *
  have HGX := Lib.hid hgx
  clear hgx ho0
  generalize w.alloc (.cells #[.int .i64 kd, .int .i64 ii, .int .i64 z, .slice ab nb cb] 49) = W at *
  have rop : W.rangeAt gx 0 [.int .i64 kd, .int .i64 ii, .int .i64 z, .slice ab nb cb] := HA.out.range 0 _ rfl
  have a0 : W.cell? ⟨gx, 0, none⟩ = some (.int .i64 kd) := HA.out.cell 0
  have a1 : W.cell? ⟨gx, 1, none⟩ = some (.int .i64 ii) := HA.out.cell 1
  have a2 : W.cell? ⟨gx, 2, none⟩ = some (.int .i64 z) := HA.out.cell 2
  have RN := Lib.hid (fun w' (hd : Dsk w' g a n c bs left dead wr) => dread_no hd ii hno)
  have hcase : ii < 0 ∨ (0 ≤ ii ∧ (n : Int) ≤ ii) ∨ (0 ≤ ii ∧ ii < (n : Int) ∧ dead = true) := by
    unfold hasS at hno
    rcases dead with _ | _
    · simp at hno
      by_cases h1 : ii < 0
      · exact Or.inl h1
      · exact Or.inr (Or.inl ⟨by omega, by omega⟩)
    · by_cases h1 : ii < 0
      · exact Or.inl h1
      · by_cases h2 : (n : Int) ≤ ii
        · exact Or.inr (Or.inl ⟨by omega, h2⟩)
        · exact Or.inr (Or.inr ⟨by omega, by omega, rfl⟩)
  clear hno
  go_wp2_with fail
  refine (RN.out W D1.out).mono ?_
  rintro e w2 ⟨rfl, rfl⟩
  obtain ⟨k0, k1, k2, k3⟩ := K1.out.cells
  go_upto_region 14 with fail
  have fin : Hid ((∃ bs' left' dead' wr', Two W.drew B g a n c k ka kc bs' left' dead' wr') ∧ Below B w W.drew ∧ Only (fun j => dkp g a j ∨ bkp k ka j) w W.drew) := Lib.hid ⟨⟨_, _, _, _, ⟨⟨D1.out.head, D1.out.len, D1.out.cap, D1.out.few, D1.out.lo, D1.out.hi, D1.out.sec⟩, by have := K1.out; rw [HM.out] at this; exact ⟨this.head, this.len, this.cap, this.sec⟩, HT.out.kg, HT.out.ak, HT.out.kag, HT.out.aka, HT.out.lg, HT.out.lk, HT.out.la, HT.out.lka, Nat.le_trans HT.out.lw B1.out.size, fun j hj => Nat.lt_of_lt_of_le (HT.out.top j hj) B1.out.size⟩⟩, B1.out.drew, O1.out.drew⟩
  clear rop TO a0 a2 kb1 kb2 kb3 hlt
  have hcase2 : decide (ii < 0) = true ∨ (decide (ii < 0) = false ∧ decide ((n : Int) ≤ ii) = true) ∨ (decide (ii < 0) = false ∧ decide ((n : Int) ≤ ii) = false ∧ dead = true) := by
    rcases hcase with h1 | ⟨h1, h2⟩ | ⟨h1, h2, h3⟩
    · exact Or.inl (decide_eq_true h1)
    · exact Or.inr (Or.inl ⟨decide_eq_false (by omega), decide_eq_true h2⟩)
    · exact Or.inr (Or.inr ⟨decide_eq_false (by omega), decide_eq_false (by omega), h3⟩)
  clear hcase
  rcases hcase2 with h1 | ⟨h1, h2⟩ | ⟨h1, h2, h3⟩
  all_goals
    go_region
    go_wp2_with fail
    go_ret
    exact ⟨rfl, fin.out⟩
set_option maxRecDepth 100000 in
set_option maxHeartbeats 4000000 in
theorem bstep_ry {B g n c k kc : Nat} {a ka : Option Addr} {bs : List UInt8} {left wr : Int} {dead : Bool} {w : World} (h : Two w B g a n c k ka kc bs left dead wr) (kd ii z : Int) (ab : Option Addr) (nb cb : Nat) (xs : List UInt8) (hx : Sl w ab nb 1 (bcells xs)) (hnc : nb ≤ cb) (hab : nb = 32 → ∀ x, ab = some x → x.block < B) (hfz : z ≤ 9223372036854775807) (hk1 : ¬ kd = 1) (hk2 : ¬ kd = 2) (hk3 : ¬ kd = 3) (hno : hasS n dead ii = true) :
    Calls Try.prog 21 #[.pointer (some ⟨k, 0, none⟩), .pointer (some ⟨g, 0, none⟩), .agg #[.int .i64 kd, .int .i64 ii, .int .i64 z, .slice ab nb cb]] w fun e w' => e = .returned (.bool true) ∧ (∃ bs' left' dead' wr', Two w' B g a n c k ka kc bs' left' dead' wr') ∧ Below B w w' ∧ Only (fun j => dkp g a j ∨ bkp k ka j) w w' := by
  have kb1 : (kd == 1) = false := beq_eq_false_iff_ne.2 hk1
  have kb2 : (kd == 2) = false := beq_eq_false_iff_ne.2 hk2
  have kb3 : (kd == 3) = false := beq_eq_false_iff_ne.2 hk3
  clear hk1 hk2 hk3
  obtain ⟨m, hm⟩ : ∃ m, m = 32 * n := ⟨_, rfl⟩
  have ew : IntKind.i64.wrap (n : Int) = n := (IntKind.wrap_i64 (n : Int)).trans (by have := h.d.few; omega)
  have et : (m : Int).tdiv 32 = n := by rw [Int.tdiv_eq_ediv_of_nonneg (by omega)]; omega
  have HA : Hid (Blk (w.alloc (.cells #[.int .i64 kd, .int .i64 ii, .int .i64 z, .slice ab nb cb] 49)) w.heap.size [.int .i64 kd, .int .i64 ii, .int .i64 z, .slice ab nb cb] 49) := Lib.hid (Blk.new w #[.int .i64 kd, .int .i64 ii, .int .i64 z, .slice ab nb cb] 49)
  have ho0 : Only (fun _ => False) w (w.alloc (.cells #[.int .i64 kd, .int .i64 ii, .int .i64 z, .slice ab nb cb] 49)) := (Only.refl _ w).alloc _
  have D1 := Lib.hid (h.d.only ho0 fun _ _ => id)
  have K1 := Lib.hid (h.b.only ho0 fun _ _ => id)
  have X1 := Lib.hid (hx.only ho0 fun _ _ => id)
  have B1 := Lib.hid (ho0.toBelow (B := B) (fun _ h => h.elim) h.lw)
  have O1 : Hid (Only (fun j => dkp g a j ∨ bkp k ka j) w (w.alloc (.cells #[.int .i64 kd, .int .i64 ii, .int .i64 z, .slice ab nb cb] 49))) := Lib.hid ((Only.refl _ w).alloc _)
  have HT := Lib.hid h
  have hlt : w.heap.size < (w.alloc (.cells #[.int .i64 kd, .int .i64 ii, .int .i64 z, .slice ab nb cb] 49)).heap.size := by simp
  have hgs : Hid (g ≠ w.heap.size ∧ k ≠ w.heap.size) := Lib.hid ⟨Nat.ne_of_lt h.d.head.lt, Nat.ne_of_lt h.b.head.lt⟩
  have hab' := Lib.hid hab
  rw [← hm] at K1
  have HM := Lib.hid hm
  clear hm h hx hab
  have CW := Lib.hid (fun w' (h' : Two w' B g a n c k ka kc bs left dead wr) (hx' : Sl w' ab nb 1 (bcells xs)) => bwrite_any h' kd ii z ab nb cb xs hx' hnc hab'.out)
  have HNC := Lib.hid hnc
  have HFZ := Lib.hid hfz
  have K1m : Hid (Bok (w.alloc (.cells #[.int .i64 kd, .int .i64 ii, .int .i64 z, .slice ab nb cb] 49)) k ka (32 * n) kc bs left dead wr) := by have := K1; rwa [HM.out] at this
  have T1 : Hid (Two (w.alloc (.cells #[.int .i64 kd, .int .i64 ii, .int .i64 z, .slice ab nb cb] 49)) B g a n c k ka kc bs left dead wr) := Lib.hid ⟨D1.out, K1m.out, HT.out.kg, HT.out.ak, HT.out.kag, HT.out.aka, HT.out.lg, HT.out.lk, HT.out.la, HT.out.lka, Nat.le_trans HT.out.lw B1.out.size, fun j hj => Nat.lt_of_lt_of_le (HT.out.top j hj) B1.out.size⟩
  have TO : RowT 49 ([.int .i64 kd, .int .i64 ii, .int .i64 z, .slice ab nb cb] : List Value).length := ⟨⟨_, Try.underlying49, rfl⟩, by kernel_rfl⟩
  clear K1m hnc hfz
  go_enter Try.func21, Try.ntmps21
  go_upto_region 1 with fail
  generalize hgx : w.heap.size = gx at *
  have HGX := Lib.hid hgx
  clear hgx ho0
  generalize w.alloc (.cells #[.int .i64 kd, .int .i64 ii, .int .i64 z, .slice ab nb cb] 49) = W at *
  have rop : W.rangeAt gx 0 [.int .i64 kd, .int .i64 ii, .int .i64 z, .slice ab nb cb] := HA.out.range 0 _ rfl
  have a0 : W.cell? ⟨gx, 0, none⟩ = some (.int .i64 kd) := HA.out.cell 0
  have a1 : W.cell? ⟨gx, 1, none⟩ = some (.int .i64 ii) := HA.out.cell 1
  have a2 : W.cell? ⟨gx, 2, none⟩ = some (.int .i64 z) := HA.out.cell 2
  have hr : 0 ≤ ii ∧ ii < n ∧ dead = false := by
    unfold hasS at hno
    simp at hno
    exact ⟨hno.1.2, hno.2, hno.1.1⟩
  obtain ⟨i, hi⟩ := Int.eq_ofNat_of_zero_le hr.1
  have hin : i < n := by omega
  have hdf := hr.2.2
  subst hdf
  have HII := Lib.hid hi
  have HIN := Lib.hid hin
  have RN := Lib.hid (fun w' (hd : Dsk w' g a n c bs left false wr) => dread_yes hd i hin)
  have h1 : decide (ii < 0) = false := decide_eq_false (by omega)
  have h2 : decide ((n : Int) ≤ ii) = false := decide_eq_false (by omega)
  rw [← hi] at RN
  clear hno hr hin hi
  go_wp2_with fail
  refine (RN.out W D1.out).mono ?_
  rintro e w2 ⟨v, rfl, hv, hb⟩
  obtain ⟨vb, vc, rfl, _, _, hvs⟩ := Sl.own hv
  have A3 := Lib.hid (HA.out.keep hb HA.out.lt)
  have D3 := Lib.hid (D1.out.keep hb)
  have K3 := Lib.hid (K1.out.only (p := fun _ => False) (Only.ofBelow' hb) fun _ _ => id)
  have B3 := Lib.hid (B1.out.trans (hb.mono (Nat.le_trans HT.out.lw B1.out.size)))
  have V3 := Lib.hid hvs
  have O3 := Lib.hid (O1.out.trans (Only.ofBelow' (p := (fun j => dkp g a j ∨ bkp k ka j)) hb))
  clear hv hb hvs a0 a1 a2 rop
  have b1 : w2.cell? ⟨gx, 1, none⟩ = some (.int .i64 ii) := A3.out.cell 1
  obtain ⟨k0, k1, k2, k3⟩ := K3.out.cells
  go_upto_region 14 with fail
  clear TO kb1 kb2 kb3 hlt
  go_region
  clear h1 h2 k0 k1 k2 k3 b1
  have D4 : Hid (Dsk w2.drew g a n c bs left false wr) := Lib.hid ⟨D3.out.head, D3.out.len, D3.out.cap, D3.out.few, D3.out.lo, D3.out.hi, D3.out.sec⟩
  have K4 : Hid (Bok w2.drew k ka m kc bs left false wr) := Lib.hid ⟨K3.out.head, K3.out.len, K3.out.cap, K3.out.sec⟩
  have A4 : Hid (Blk w2.drew gx [.int .i64 kd, .int .i64 ii, .int .i64 z, .slice ab nb cb] 49) := A3
  have V4 : Hid (Sl w2.drew vb 32 1 (bcells ((bs.drop (32 * i)).take 32))) := V3
  have B4 := Lib.hid B3.out.drew
  have O4 := Lib.hid O3.out.drew
  clear A3 D3 K3 V3 B3 O3 O1
  generalize w2.drew = W4 at *
  have hm0 : 0 < m := by have := HM.out; have := HIN.out; omega
  obtain ⟨s, hka, hsk⟩ := K4.out.at_ hm0
  obtain ⟨zz, hzz⟩ : ∃ zz : Nat, zz = 32 * i := ⟨_, rfl⟩
  have few := HT.out.d.few
  have e1 : IntKind.i64.wrap (32 * ii) = (zz : Int) := (IntKind.wrap_i64 _).trans (by have := HII.out; have := HIN.out; omega)
  have e2 : IntKind.i64.wrap ((zz : Int) + 32) = (zz : Int) + 32 := (IntKind.wrap_i64 _).trans (by have := HII.out; have := HIN.out; omega)
  have kcap := K4.out.cap
  have i1 : (0 : Int) ≤ zz := by omega
  have i2 : (zz : Int) + 32 ≤ kc := by have := HM.out; have := HIN.out; omega
  have i3 : (zz : Int) ≤ (zz : Int) + 32 := by omega
  have KS : Sl W4 (some ⟨s, zz, none⟩) 32 1 (bcells ((bs.drop (32 * i)).take 32)) := by
    rcases K4.out.sec with h0 | ⟨s', sp, ha', hb, hn⟩
    · omega
    · rw [hka] at ha'; cases ha'
      have hl := K4.out.len
      refine sl_of_range (hb.range _ _ ?_) (by rw [List.length_take, List.length_drop]; have := HM.out; have := HIN.out; omega) hb.lt
      have := HM.out
      have := HIN.out
      rw [show (bcells ((bs.drop (32 * i)).take 32)).length = 32 by rw [bcells_len, List.length_take, List.length_drop]; omega]
      rw [List.drop_append_of_le_length (by rw [bcells_len]; omega), List.take_append_of_le_length (by rw [List.length_drop, bcells_len]; omega), hzz]
      unfold bcells
      rw [List.map_take, List.map_drop]
  have cvd1 : (convert 33 9 (.slice vb 32 vc)).run Try.prog W4.drew = .ok (.string ⟨((bs.drop (32 * i)).take 32).toArray⟩) W4.drew := conv_bytes (show Sl W4.drew vb 32 1 _ from V4.out) vc
  have cvd2 : ∀ cc, (convert 33 9 (.slice (some ⟨s, zz, none⟩) 32 cc)).run Try.prog W4.drew = .ok (.string ⟨((bs.drop (32 * i)).take 32).toArray⟩) W4.drew := fun cc => conv_bytes (show Sl W4.drew (some ⟨s, zz, none⟩) 32 1 _ from KS) cc
  have b1 : W4.cell? ⟨gx, 1, none⟩ = some (.int .i64 ii) := A4.out.cell 1
  obtain ⟨k0, k1, k2, k3⟩ := K4.out.cells
  rw [hka] at k0
  generalize (bs.drop (32 * i)).take 32 = X at *
  have fin : Hid ((∃ bs' left' dead' wr', Two W4.drew B g a n c k ka kc bs' left' dead' wr') ∧ Below B w W4.drew ∧ Only (fun j => dkp g a j ∨ bkp k ka j) w W4.drew) := Lib.hid ⟨⟨_, _, _, _, ⟨⟨D4.out.head, D4.out.len, D4.out.cap, D4.out.few, D4.out.lo, D4.out.hi, D4.out.sec⟩, by have := K4.out; rw [HM.out] at this; exact ⟨this.head, this.len, this.cap, this.sec⟩, HT.out.kg, HT.out.ak, HT.out.kag, HT.out.aka, HT.out.lg, HT.out.lk, HT.out.la, HT.out.lka, Nat.le_trans HT.out.lw B4.out.size, fun j hj => Nat.lt_of_lt_of_le (HT.out.top j hj) B4.out.size⟩⟩, B4.out.drew, O4.out.drew⟩
  have HKZ : Hid (((zz : Int) + 32 - zz).toNat = 32) := Lib.hid (by omega)
  clear V4 KS kcap few hzz hm0 et ew K1 D1 HA B1 X1 CW T1
  go_upto_region 16 with fail
  go_region
  go_wp2_with fail
  go_ret
  exact ⟨rfl, fin.out⟩
theorem bstep_any {B g n c k kc : Nat} {a ka : Option Addr} {bs : List UInt8} {left wr : Int} {dead : Bool} {w : World} (h : Two w B g a n c k ka kc bs left dead wr) (kd ii z : Int) (ab : Option Addr) (nb cb : Nat) (xs : List UInt8) (hx : Sl w ab nb 1 (bcells xs)) (hnc : nb ≤ cb) (hab : nb = 32 → ∀ x, ab = some x → x.block < B) (hfz : z ≤ 9223372036854775807) :
    Calls Try.prog 21 #[.pointer (some ⟨k, 0, none⟩), .pointer (some ⟨g, 0, none⟩), .agg #[.int .i64 kd, .int .i64 ii, .int .i64 z, .slice ab nb cb]] w fun e w' => e = .returned (.bool true) ∧ (∃ bs' left' dead' wr', Two w' B g a n c k ka kc bs' left' dead' wr') ∧ Below B w w' ∧ Only (fun j => dkp g a j ∨ bkp k ka j) w w' := by
  by_cases h1 : kd = 1
  · exact bstep_w h kd ii z ab nb cb xs hx hnc hab hfz h1
  by_cases h2 : kd = 2
  · exact bstep_a h kd ii z ab nb cb xs hx hnc hab hfz h2
  by_cases h3 : kd = 3
  · exact bstep_v h kd ii z ab nb cb xs hx hnc hab hfz h3
  rcases hv : hasS n dead ii with _ | _
  · exact bstep_rn h kd ii z ab nb cb xs hx hnc hab hfz h1 h2 h3 hv
  · exact bstep_ry h kd ii z ab nb cb xs hx hnc hab hfz h1 h2 h3 hv
end Go.Proofs.Yteebmpbplenikaa
