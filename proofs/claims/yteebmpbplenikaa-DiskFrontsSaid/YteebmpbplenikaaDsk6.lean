/- The statements of disks: a write, upon the disk and in the book. -/
import Derived.Test.YteebmpbplenikaaDsk5
import Derived.RegionTactic
import Derived.BigRegion
import Derived.ChangeAlike
import Derived.Laws.IdiomCopy
import Derived.Deep.LoopGhost
import Derived.Deep.DeepCutAuto
namespace Go.Proofs.Yteebmpbplenikaa
set_option linter.unusedVariables false
set_option linter.unusedSimpArgs false
open Go.ChangeShapes Go.WideShapes Go.ChangeAt Go.RowKit
set_option maxHeartbeats 1000000 in
theorem bwrite_no_neg {B g n c k kc : Nat} {a ka : Option Addr} {bs : List UInt8} {left wr : Int} {dead : Bool} {w : World} (h : Two w B g a n c k ka kc bs left dead wr) (kd ii z : Int) (ab : Option Addr) (nb cb : Nat) (xs : List UInt8) (hx : Sl w ab nb 1 (bcells xs)) (hnc : nb ≤ cb) (hab : nb = 32 → ∀ x, ab = some x → x.block < B) (h1 : ii < 0) :
    Calls Try.prog 28 #[.pointer (some ⟨k, 0, none⟩), .pointer (some ⟨g, 0, none⟩), .agg #[.int .i64 kd, .int .i64 ii, .int .i64 z, .slice ab nb cb]] w fun e w' => e = .returned (.bool true) ∧ (∃ bs' left' dead' wr', Two w' B g a n c k ka kc bs' left' dead' wr') ∧ Below B w w' ∧ Only (fun j => dkp g a j ∨ bkp k ka j) w w' := by
  have HNO : Hid (hasS n dead ii = false ∨ nb ≠ 32) := Lib.hid (Or.inl (by unfold hasS; rw [decide_eq_false (show ¬ 0 ≤ ii by omega)]; simp))
  obtain ⟨m, hm⟩ : ∃ m, m = 32 * n := ⟨_, rfl⟩
  have ew : IntKind.i64.wrap (n : Int) = n := (IntKind.wrap_i64 (n : Int)).trans (by have := h.d.few; omega)
  have et : (m : Int).tdiv 32 = n := by rw [Int.tdiv_eq_ediv_of_nonneg (by omega)]; omega
  have HA : Hid (Blk (w.alloc (.cells #[.int .i64 kd, .int .i64 ii, .int .i64 z, .slice ab nb cb] 49)) w.heap.size [.int .i64 kd, .int .i64 ii, .int .i64 z, .slice ab nb cb] 49) := Lib.hid (Blk.new w #[.int .i64 kd, .int .i64 ii, .int .i64 z, .slice ab nb cb] 49)
  have ho0 : Only (fun _ => False) w (w.alloc (.cells #[.int .i64 kd, .int .i64 ii, .int .i64 z, .slice ab nb cb] 49)) := (Only.refl _ w).alloc _
  have D1 := Lib.hid (h.d.only ho0 fun _ _ => id)
  have K1 := Lib.hid (h.b.only ho0 fun _ _ => id)
  have X1 := Lib.hid (hx.only ho0 fun _ _ => id)
  have B1 := Lib.hid (ho0.toBelow (B := B) (fun _ h => h.elim) h.lw)
  have O1 : Hid (Only (fun j => dkp g a j ∨ bkp k ka j) w (w.alloc (.cells #[.int .i64 kd, .int .i64 ii, .int .i64 z, .slice ab nb cb] 49))) := Lib.hid ((Only.refl _ w).alloc _)
  have HT := Lib.hid h
  have hlt : w.heap.size < (w.alloc (.cells #[.int .i64 kd, .int .i64 ii, .int .i64 z, .slice ab nb cb] 49)).heap.size := by simp
  have hgs : Hid (g ≠ w.heap.size ∧ k ≠ w.heap.size) := Lib.hid ⟨Nat.ne_of_lt h.d.head.lt, Nat.ne_of_lt h.b.head.lt⟩
  have hab' := Lib.hid hab
  rw [← hm] at K1
  have HM := Lib.hid hm
  clear hm h hx hab
  go_enter Try.func28, Try.ntmps28
  go_upto_region 1 with fail
  generalize hgx : w.heap.size = gx at *
  have HGX := Lib.hid hgx
  clear hgx ho0
  generalize w.alloc (.cells #[.int .i64 kd, .int .i64 ii, .int .i64 z, .slice ab nb cb] 49) = W at *
  have a1 : W.cell? ⟨gx, 1, none⟩ = some (.int .i64 ii) := HA.out.cell 1
  have a3 : W.cell? ⟨gx, 3, none⟩ = some (.slice ab nb cb) := HA.out.cell 3
  obtain ⟨k0, k1, k2, k3⟩ := K1.out.cells
  go_region
  have WN := Lib.hid (fun w' (hd : Dsk w' g a n c bs left dead wr) (hx : Sl w' ab nb 1 (bcells xs)) => write_no hd ii ab nb cb xs hx HNO.out)
  go_wp2_with (go_at_call 17; refine (WN.out _ ⟨D1.out.head.drew, D1.out.len, D1.out.cap, D1.out.few, D1.out.lo, D1.out.hi, D1.out.sec⟩ X1.out).mono ?_; rintro e w2 ⟨rfl, rfl⟩)
  go_ret
  refine ⟨rfl, ⟨bs, left, dead, wr, ⟨?_, ?_, HT.out.kg, HT.out.ak, HT.out.kag, HT.out.aka, HT.out.lg, HT.out.lk, HT.out.la, HT.out.lka, ?_, fun j hj => Nat.lt_of_lt_of_le (HT.out.top j hj) B1.out.size⟩⟩, B1.out.drew, O1.out.drew⟩
  · exact ⟨D1.out.head, D1.out.len, D1.out.cap, D1.out.few, D1.out.lo, D1.out.hi, D1.out.sec⟩
  · have := K1.out; rw [HM.out] at this; exact ⟨this.head, this.len, this.cap, this.sec⟩
  · exact Nat.le_trans HT.out.lw B1.out.size
set_option maxHeartbeats 1000000 in
theorem bwrite_no_far {B g n c k kc : Nat} {a ka : Option Addr} {bs : List UInt8} {left wr : Int} {dead : Bool} {w : World} (h : Two w B g a n c k ka kc bs left dead wr) (kd ii z : Int) (ab : Option Addr) (nb cb : Nat) (xs : List UInt8) (hx : Sl w ab nb 1 (bcells xs)) (hnc : nb ≤ cb) (hab : nb = 32 → ∀ x, ab = some x → x.block < B) (h1 : ¬ ii < 0) (h2 : (n : Int) ≤ ii) :
    Calls Try.prog 28 #[.pointer (some ⟨k, 0, none⟩), .pointer (some ⟨g, 0, none⟩), .agg #[.int .i64 kd, .int .i64 ii, .int .i64 z, .slice ab nb cb]] w fun e w' => e = .returned (.bool true) ∧ (∃ bs' left' dead' wr', Two w' B g a n c k ka kc bs' left' dead' wr') ∧ Below B w w' ∧ Only (fun j => dkp g a j ∨ bkp k ka j) w w' := by
  have HNO : Hid (hasS n dead ii = false ∨ nb ≠ 32) := Lib.hid (Or.inl (by unfold hasS; rw [decide_eq_false (show ¬ ii < n by omega)]; simp))
  obtain ⟨m, hm⟩ : ∃ m, m = 32 * n := ⟨_, rfl⟩
  have ew : IntKind.i64.wrap (n : Int) = n := (IntKind.wrap_i64 (n : Int)).trans (by have := h.d.few; omega)
  have et : (m : Int).tdiv 32 = n := by rw [Int.tdiv_eq_ediv_of_nonneg (by omega)]; omega
  have HA : Hid (Blk (w.alloc (.cells #[.int .i64 kd, .int .i64 ii, .int .i64 z, .slice ab nb cb] 49)) w.heap.size [.int .i64 kd, .int .i64 ii, .int .i64 z, .slice ab nb cb] 49) := Lib.hid (Blk.new w #[.int .i64 kd, .int .i64 ii, .int .i64 z, .slice ab nb cb] 49)
  have ho0 : Only (fun _ => False) w (w.alloc (.cells #[.int .i64 kd, .int .i64 ii, .int .i64 z, .slice ab nb cb] 49)) := (Only.refl _ w).alloc _
  have D1 := Lib.hid (h.d.only ho0 fun _ _ => id)
  have K1 := Lib.hid (h.b.only ho0 fun _ _ => id)
  have X1 := Lib.hid (hx.only ho0 fun _ _ => id)
  have B1 := Lib.hid (ho0.toBelow (B := B) (fun _ h => h.elim) h.lw)
  have O1 : Hid (Only (fun j => dkp g a j ∨ bkp k ka j) w (w.alloc (.cells #[.int .i64 kd, .int .i64 ii, .int .i64 z, .slice ab nb cb] 49))) := Lib.hid ((Only.refl _ w).alloc _)
  have HT := Lib.hid h
  have hlt : w.heap.size < (w.alloc (.cells #[.int .i64 kd, .int .i64 ii, .int .i64 z, .slice ab nb cb] 49)).heap.size := by simp
  have hgs : Hid (g ≠ w.heap.size ∧ k ≠ w.heap.size) := Lib.hid ⟨Nat.ne_of_lt h.d.head.lt, Nat.ne_of_lt h.b.head.lt⟩
  have hab' := Lib.hid hab
  rw [← hm] at K1
  have HM := Lib.hid hm
  clear hm h hx hab
  go_enter Try.func28, Try.ntmps28
  go_upto_region 1 with fail
  generalize hgx : w.heap.size = gx at *
  have HGX := Lib.hid hgx
  clear hgx ho0
  generalize w.alloc (.cells #[.int .i64 kd, .int .i64 ii, .int .i64 z, .slice ab nb cb] 49) = W at *
  have a1 : W.cell? ⟨gx, 1, none⟩ = some (.int .i64 ii) := HA.out.cell 1
  have a3 : W.cell? ⟨gx, 3, none⟩ = some (.slice ab nb cb) := HA.out.cell 3
  obtain ⟨k0, k1, k2, k3⟩ := K1.out.cells
  go_region
  have WN := Lib.hid (fun w' (hd : Dsk w' g a n c bs left dead wr) (hx : Sl w' ab nb 1 (bcells xs)) => write_no hd ii ab nb cb xs hx HNO.out)
  go_wp2_with (go_at_call 17; refine (WN.out _ ⟨D1.out.head.drew, D1.out.len, D1.out.cap, D1.out.few, D1.out.lo, D1.out.hi, D1.out.sec⟩ X1.out).mono ?_; rintro e w2 ⟨rfl, rfl⟩)
  go_ret
  refine ⟨rfl, ⟨bs, left, dead, wr, ⟨?_, ?_, HT.out.kg, HT.out.ak, HT.out.kag, HT.out.aka, HT.out.lg, HT.out.lk, HT.out.la, HT.out.lka, ?_, fun j hj => Nat.lt_of_lt_of_le (HT.out.top j hj) B1.out.size⟩⟩, B1.out.drew, O1.out.drew⟩
  · exact ⟨D1.out.head, D1.out.len, D1.out.cap, D1.out.few, D1.out.lo, D1.out.hi, D1.out.sec⟩
  · have := K1.out; rw [HM.out] at this; exact ⟨this.head, this.len, this.cap, this.sec⟩
  · exact Nat.le_trans HT.out.lw B1.out.size
set_option maxHeartbeats 1000000 in
theorem bwrite_no_len {B g n c k kc : Nat} {a ka : Option Addr} {bs : List UInt8} {left wr : Int} {dead : Bool} {w : World} (h : Two w B g a n c k ka kc bs left dead wr) (kd ii z : Int) (ab : Option Addr) (nb cb : Nat) (xs : List UInt8) (hx : Sl w ab nb 1 (bcells xs)) (hnc : nb ≤ cb) (hab : nb = 32 → ∀ x, ab = some x → x.block < B) (h1 : ¬ ii < 0) (h2 : ¬ (n : Int) ≤ ii) (h3 : nb ≠ 32) :
    Calls Try.prog 28 #[.pointer (some ⟨k, 0, none⟩), .pointer (some ⟨g, 0, none⟩), .agg #[.int .i64 kd, .int .i64 ii, .int .i64 z, .slice ab nb cb]] w fun e w' => e = .returned (.bool true) ∧ (∃ bs' left' dead' wr', Two w' B g a n c k ka kc bs' left' dead' wr') ∧ Below B w w' ∧ Only (fun j => dkp g a j ∨ bkp k ka j) w w' := by
  have HNO : Hid (hasS n dead ii = false ∨ nb ≠ 32) := Lib.hid (Or.inr h3)
  have h4 : ((nb : Int) != 32) = true := by simp only [bne_iff_ne, ne_eq]; omega
  clear h3
  obtain ⟨m, hm⟩ : ∃ m, m = 32 * n := ⟨_, rfl⟩
  have ew : IntKind.i64.wrap (n : Int) = n := (IntKind.wrap_i64 (n : Int)).trans (by have := h.d.few; omega)
  have et : (m : Int).tdiv 32 = n := by rw [Int.tdiv_eq_ediv_of_nonneg (by omega)]; omega
  have HA : Hid (Blk (w.alloc (.cells #[.int .i64 kd, .int .i64 ii, .int .i64 z, .slice ab nb cb] 49)) w.heap.size [.int .i64 kd, .int .i64 ii, .int .i64 z, .slice ab nb cb] 49) := Lib.hid (Blk.new w #[.int .i64 kd, .int .i64 ii, .int .i64 z, .slice ab nb cb] 49)
  have ho0 : Only (fun _ => False) w (w.alloc (.cells #[.int .i64 kd, .int .i64 ii, .int .i64 z, .slice ab nb cb] 49)) := (Only.refl _ w).alloc _
  have D1 := Lib.hid (h.d.only ho0 fun _ _ => id)
  have K1 := Lib.hid (h.b.only ho0 fun _ _ => id)
  have X1 := Lib.hid (hx.only ho0 fun _ _ => id)
  have B1 := Lib.hid (ho0.toBelow (B := B) (fun _ h => h.elim) h.lw)
  have O1 : Hid (Only (fun j => dkp g a j ∨ bkp k ka j) w (w.alloc (.cells #[.int .i64 kd, .int .i64 ii, .int .i64 z, .slice ab nb cb] 49))) := Lib.hid ((Only.refl _ w).alloc _)
  have HT := Lib.hid h
  have hlt : w.heap.size < (w.alloc (.cells #[.int .i64 kd, .int .i64 ii, .int .i64 z, .slice ab nb cb] 49)).heap.size := by simp
  have hgs : Hid (g ≠ w.heap.size ∧ k ≠ w.heap.size) := Lib.hid ⟨Nat.ne_of_lt h.d.head.lt, Nat.ne_of_lt h.b.head.lt⟩
  have hab' := Lib.hid hab
  rw [← hm] at K1
  have HM := Lib.hid hm
  clear hm h hx hab
  go_enter Try.func28, Try.ntmps28
  go_upto_region 1 with fail
  generalize hgx : w.heap.size = gx at *
  have HGX := Lib.hid hgx
  clear hgx ho0
  generalize w.alloc (.cells #[.int .i64 kd, .int .i64 ii, .int .i64 z, .slice ab nb cb] 49) = W at *
  have a1 : W.cell? ⟨gx, 1, none⟩ = some (.int .i64 ii) := HA.out.cell 1
  have a3 : W.cell? ⟨gx, 3, none⟩ = some (.slice ab nb cb) := HA.out.cell 3
  obtain ⟨k0, k1, k2, k3⟩ := K1.out.cells
  go_region
  have WN := Lib.hid (fun w' (hd : Dsk w' g a n c bs left dead wr) (hx : Sl w' ab nb 1 (bcells xs)) => write_no hd ii ab nb cb xs hx HNO.out)
  go_wp2_with (go_at_call 17; refine (WN.out _ ⟨D1.out.head.drew, D1.out.len, D1.out.cap, D1.out.few, D1.out.lo, D1.out.hi, D1.out.sec⟩ X1.out).mono ?_; rintro e w2 ⟨rfl, rfl⟩)
  go_ret
  refine ⟨rfl, ⟨bs, left, dead, wr, ⟨?_, ?_, HT.out.kg, HT.out.ak, HT.out.kag, HT.out.aka, HT.out.lg, HT.out.lk, HT.out.la, HT.out.lka, ?_, fun j hj => Nat.lt_of_lt_of_le (HT.out.top j hj) B1.out.size⟩⟩, B1.out.drew, O1.out.drew⟩
  · exact ⟨D1.out.head, D1.out.len, D1.out.cap, D1.out.few, D1.out.lo, D1.out.hi, D1.out.sec⟩
  · have := K1.out; rw [HM.out] at this; exact ⟨this.head, this.len, this.cap, this.sec⟩
  · exact Nat.le_trans HT.out.lw B1.out.size
set_option maxHeartbeats 1000000 in
theorem bwrite_no_dead {B g n c k kc : Nat} {a ka : Option Addr} {bs : List UInt8} {left wr : Int} {dead : Bool} {w : World} (h : Two w B g a n c k ka kc bs left dead wr) (kd ii z : Int) (ab : Option Addr) (nb cb : Nat) (xs : List UInt8) (hx : Sl w ab nb 1 (bcells xs)) (hnc : nb ≤ cb) (hab : nb = 32 → ∀ x, ab = some x → x.block < B) (h1 : ¬ ii < 0) (h2 : ¬ (n : Int) ≤ ii) (h3 : nb = 32) (h4 : dead = true) :
    Calls Try.prog 28 #[.pointer (some ⟨k, 0, none⟩), .pointer (some ⟨g, 0, none⟩), .agg #[.int .i64 kd, .int .i64 ii, .int .i64 z, .slice ab nb cb]] w fun e w' => e = .returned (.bool true) ∧ (∃ bs' left' dead' wr', Two w' B g a n c k ka kc bs' left' dead' wr') ∧ Below B w w' ∧ Only (fun j => dkp g a j ∨ bkp k ka j) w w' := by
  have HNO : Hid (hasS n dead ii = false ∨ nb ≠ 32) := Lib.hid (Or.inl (by unfold hasS; rw [h4]; rfl))
  have h5 : (nb : Int) = 32 := by omega
  clear h3
  obtain ⟨m, hm⟩ : ∃ m, m = 32 * n := ⟨_, rfl⟩
  have ew : IntKind.i64.wrap (n : Int) = n := (IntKind.wrap_i64 (n : Int)).trans (by have := h.d.few; omega)
  have et : (m : Int).tdiv 32 = n := by rw [Int.tdiv_eq_ediv_of_nonneg (by omega)]; omega
  have HA : Hid (Blk (w.alloc (.cells #[.int .i64 kd, .int .i64 ii, .int .i64 z, .slice ab nb cb] 49)) w.heap.size [.int .i64 kd, .int .i64 ii, .int .i64 z, .slice ab nb cb] 49) := Lib.hid (Blk.new w #[.int .i64 kd, .int .i64 ii, .int .i64 z, .slice ab nb cb] 49)
  have ho0 : Only (fun _ => False) w (w.alloc (.cells #[.int .i64 kd, .int .i64 ii, .int .i64 z, .slice ab nb cb] 49)) := (Only.refl _ w).alloc _
  have D1 := Lib.hid (h.d.only ho0 fun _ _ => id)
  have K1 := Lib.hid (h.b.only ho0 fun _ _ => id)
  have X1 := Lib.hid (hx.only ho0 fun _ _ => id)
  have B1 := Lib.hid (ho0.toBelow (B := B) (fun _ h => h.elim) h.lw)
  have O1 : Hid (Only (fun j => dkp g a j ∨ bkp k ka j) w (w.alloc (.cells #[.int .i64 kd, .int .i64 ii, .int .i64 z, .slice ab nb cb] 49))) := Lib.hid ((Only.refl _ w).alloc _)
  have HT := Lib.hid h
  have hlt : w.heap.size < (w.alloc (.cells #[.int .i64 kd, .int .i64 ii, .int .i64 z, .slice ab nb cb] 49)).heap.size := by simp
  have hgs : Hid (g ≠ w.heap.size ∧ k ≠ w.heap.size) := Lib.hid ⟨Nat.ne_of_lt h.d.head.lt, Nat.ne_of_lt h.b.head.lt⟩
  have hab' := Lib.hid hab
  rw [← hm] at K1
  have HM := Lib.hid hm
  clear hm h hx hab
  go_enter Try.func28, Try.ntmps28
  go_upto_region 1 with fail
  generalize hgx : w.heap.size = gx at *
  have HGX := Lib.hid hgx
  clear hgx ho0
  generalize w.alloc (.cells #[.int .i64 kd, .int .i64 ii, .int .i64 z, .slice ab nb cb] 49) = W at *
  have a1 : W.cell? ⟨gx, 1, none⟩ = some (.int .i64 ii) := HA.out.cell 1
  have a3 : W.cell? ⟨gx, 3, none⟩ = some (.slice ab nb cb) := HA.out.cell 3
  obtain ⟨k0, k1, k2, k3⟩ := K1.out.cells
  go_region
  have WN := Lib.hid (fun w' (hd : Dsk w' g a n c bs left dead wr) (hx : Sl w' ab nb 1 (bcells xs)) => write_no hd ii ab nb cb xs hx HNO.out)
  go_wp2_with (go_at_call 17; refine (WN.out _ ⟨D1.out.head.drew, D1.out.len, D1.out.cap, D1.out.few, D1.out.lo, D1.out.hi, D1.out.sec⟩ X1.out).mono ?_; rintro e w2 ⟨rfl, rfl⟩)
  go_ret
  refine ⟨rfl, ⟨bs, left, dead, wr, ⟨?_, ?_, HT.out.kg, HT.out.ak, HT.out.kag, HT.out.aka, HT.out.lg, HT.out.lk, HT.out.la, HT.out.lka, ?_, fun j hj => Nat.lt_of_lt_of_le (HT.out.top j hj) B1.out.size⟩⟩, B1.out.drew, O1.out.drew⟩
  · exact ⟨D1.out.head, D1.out.len, D1.out.cap, D1.out.few, D1.out.lo, D1.out.hi, D1.out.sec⟩
  · have := K1.out; rw [HM.out] at this; exact ⟨this.head, this.len, this.cap, this.sec⟩
  · exact Nat.le_trans HT.out.lw B1.out.size
end Go.Proofs.Yteebmpbplenikaa
