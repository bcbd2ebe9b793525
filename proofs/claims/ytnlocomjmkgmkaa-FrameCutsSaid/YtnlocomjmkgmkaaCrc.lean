/- The contracts of crc. -/
import Derived.Test.YtnlocomjmkgmkaaBlk
import Derived.Test.YtnlocomjmkgmkaaOct
import Derived.Test.YtnlocomjmkgmkaaRow
import Derived.Deep.DeepCutAuto
import Derived.Deep.LoopGhost
namespace Go.Proofs.Ytnlocomjmkgmkaa
set_option linter.unusedVariables false
set_option linter.unusedSimpArgs false
open Go.ChangeShapes Go.WideShapes Go.ChangeAt Go.RowKit
theorem ofInt32 (a : Nat) (h : a < 4294967296) : (BitVec.ofInt 32 (a : Int)).toNat = a := by
  rw [BitVec.toNat_ofInt]; omega
theorem bits_xor32 (a b : Nat) (ha : a < 4294967296) (hb : b < 4294967296) : bits .xor .u32 (a : Int) (b : Int) = ((a ^^^ b : Nat) : Int) := by
  have key : bits .xor .u32 (a : Int) (b : Int) = IntKind.u32.wrap ((BitVec.ofInt 32 (a : Int) ^^^ BitVec.ofInt 32 (b : Int)).toNat : Int) := rfl
  have h := Nat.xor_lt_two_pow (n := 32) (x := a) (y := b) (by omega) (by omega)
  rw [key, BitVec.toNat_xor, ofInt32 a ha, ofInt32 b hb, IntKind.wrap_u32]
  omega
theorem bits_and1 (a : Nat) (ha : a < 4294967296) : bits .and .u32 (a : Int) 1 = (a : Int) % 2 := by
  have key : bits .and .u32 (a : Int) 1 = IntKind.u32.wrap ((BitVec.ofInt 32 (a : Int) &&& BitVec.ofInt 32 ((1 : Nat) : Int)).toNat : Int) := rfl
  rw [key, BitVec.toNat_and, ofInt32 a ha, ofInt32 1 (by decide), Nat.and_one_is_mod, IntKind.wrap_u32]
  omega
theorem bits_not32 (a : Nat) (ha : a < 4294967296) : bits .xor .u32 IntKind.u32.max (a : Int) = ((4294967295 - a : Nat) : Int) := by
  have key : bits .xor .u32 IntKind.u32.max (a : Int) = IntKind.u32.wrap ((BitVec.allOnes 32 ^^^ BitVec.ofInt 32 (a : Int)).toNat : Int) := rfl
  rw [key, BitVec.allOnes_xor, BitVec.toNat_not, ofInt32 a ha, IntKind.wrap_u32]
  omega
/-- one bit moved out. -/
def crcBit (x : Nat) : Nat := if x % 2 = 1 then (x / 2) ^^^ 0xedb88320 else x / 2
def crcIt : Nat → Nat → Nat
  | 0, x => x
  | n + 1, x => crcBit (crcIt n x)
theorem crcBit_lt {x : Nat} (h : x < 4294967296) : crcBit x < 4294967296 := by
  unfold crcBit
  split
  · exact Nat.xor_lt_two_pow (n := 32) (by omega) (by decide)
  · omega
theorem crcIt_lt {x : Nat} (h : x < 4294967296) (n : Nat) : crcIt n x < 4294967296 := by
  induction n with
  | zero => exact h
  | succ n ih => exact crcBit_lt ih
theorem shift_any (x : Nat) (w : World) (hx : x < 4294967296) : Calls Try.prog 30 #[.int .u32 x] w fun e w' => e = .returned (.int .u32 (crcIt 8 x : Nat)) ∧ w = w' := by
  go_enter Try.func30, Try.ntmps30
  go_wp2_with fail
  go_loopg [0, 4] 8 (fun q s0 s4 wr => ∃ i : Nat, q + i = 8 ∧ s0 = .int .u32 (crcIt i x : Nat) ∧ s4 = .int .i64 i ∧ w = wr)
  case atStart => exact ⟨0, rfl, rfl, rfl, rfl⟩
  case round =>
    obtain ⟨i, hqi, rfl, rfl, rfl⟩ := hrel
    by_cases hlt : i < 8
    · have hy := crcIt_lt hx i
      have hs : crcIt (i + 1) x = crcBit (crcIt i x) := rfl
      generalize crcIt i x = y at *
      have hand := bits_and1 y hy
      by_cases hb : y % 2 = 1
      · have hb1 : (y : Int) % 2 = 1 := by omega
        have hxor : bits .xor .u32 ((y : Int) / 2) 3988292384 = ((crcIt (i + 1) x : Nat) : Int) := by
          rw [hs]; unfold crcBit; rw [if_pos hb]
          have := bits_xor32 (y / 2) 3988292384 (by omega) (by decide)
          simpa using this
        go_wp2
        go_roundg (gk - 1)
        case measure => omega
        case rel => exact ⟨i + 1, by omega, by go_num, by go_num, rfl⟩
      · have hb1 : (y : Int) % 2 = 0 := by omega
        have hz : ((y : Int) / 2) = ((crcIt (i + 1) x : Nat) : Int) := by
          rw [hs]; unfold crcBit; rw [if_neg hb]; omega
        go_wp2
        go_roundg (gk - 1)
        case measure => omega
        case rel => exact ⟨i + 1, by omega, by go_num, by go_num, rfl⟩
    · obtain rfl : i = 8 := by omega
      go_wp2
      go_ret
      exact ⟨rfl, rfl⟩
/-- the register after some octets. -/
def crcReg (bs : List UInt8) (x : Nat) : Nat := bs.foldl (fun n b => crcIt 8 (n ^^^ b.toNat)) x
theorem crcReg_lt (bs : List UInt8) : ∀ x, x < 4294967296 → crcReg bs x < 4294967296 := by
  induction bs with
  | nil => intro x h; exact h
  | cons b bs ih =>
    intro x h
    have hb := b.toNat_lt
    exact ih _ (crcIt_lt (Nat.xor_lt_two_pow (n := 32) (by omega) (by omega)) 8)
theorem crcReg_snoc (bs : List UInt8) (b : UInt8) (x : Nat) : crcReg (bs ++ [b]) x = crcIt 8 (crcReg bs x ^^^ b.toNat) := by simp [crcReg, List.foldl_append]
theorem crcReg_append (xs bs : List UInt8) (x : Nat) : crcReg (xs ++ bs) x = crcReg bs (crcReg xs x) := by simp [crcReg, List.foldl_append]
theorem crcReg_take (bs : List UInt8) (j x : Nat) (h : j < bs.length) : crcReg (bs.take (j + 1)) x = crcIt 8 (crcReg (bs.take j) x ^^^ (bs.getD j 0).toNat) := by
  rw [List.take_add_one, List.getElem?_eq_getElem h, Option.toList_some, crcReg_snoc]
  simp [List.getD_eq_getElem?_getD, List.getElem?_eq_getElem h]
/-- the sum of what has the sum x, and some more. -/
def crcMore (x : Nat) (bs : List UInt8) : Nat := 4294967295 - crcReg bs (4294967295 - x)
theorem more_any (x : Nat) (a : Option Addr) (n c : Nat) (bs : List UInt8) (w : World) (hx : x < 4294967296) (h : Sl w a n 1 (bcells bs)) (hn : n ≤ 140737488355328) :
    Calls Try.prog 28 #[.int .u32 x, .slice a n c] w fun e w' => e = .returned (.int .u32 (crcMore x bs : Nat)) ∧ w = w' := by
  have H := Lib.hid h
  clear h
  go_enter Try.func28, Try.ntmps28
  go_wp2_with fail
  have hx1 : 4294967295 - x < 4294967296 := by omega
  have hnot := bits_not32 x hx
  rw [hnot]
  have hbl : bs.length = n := by have := H.out.1; rw [bcells_len] at this; omega
  go_loopg [5, 12] n (fun q s5 s12 wr => ∃ i : Nat, q + i = n ∧ s5 = .int .u32 (crcReg (bs.take i) (4294967295 - x) : Nat) ∧ s12 = .int .i64 i ∧ w = wr)
  case atStart => exact ⟨0, rfl, rfl, rfl, rfl⟩
  case round =>
    obtain ⟨i, hqi, rfl, rfl, rfl⟩ := hrel
    by_cases hlt : i < n
    · have hy := crcReg_lt (bs.take i) _ hx1
      have hs := crcReg_take bs i (4294967295 - x) (by omega)
      have hb := (bs.getD i 0).toNat_lt
      obtain ⟨_, b, off, rfl, hbw, hcell⟩ := H.out.byte (by omega)
      have hci := hcell i hlt
      generalize crcReg (bs.take i) (4294967295 - x) = y at *
      generalize (bs.getD i 0).toNat = z at *
      have hxor := bits_xor32 y z hy (by omega)
      have S := Lib.hid (fun wq => shift_any (y ^^^ z) wq (Nat.xor_lt_two_pow (n := 32) (by omega) (by omega)))
      rw [← hs] at S
      clear hcell
      go_wp2_with (go_at_call 30; refine (S.out _).mono ?_; rintro e w' ⟨rfl, rfl⟩)
      go_roundg (gk - 1)
      case measure => omega
      case rel => exact ⟨i + 1, by omega, by rw [hs], by go_num, rfl⟩
    · obtain rfl : i = n := by omega
      have hnot2 := bits_not32 _ (crcReg_lt bs _ hx1)
      have hall : crcReg (bs.take i) (4294967295 - x) = crcReg bs (4294967295 - x) := by rw [List.take_of_length_le (by omega)]
      rw [hall]
      go_wp2
      go_ret
      exact ⟨rfl, rfl⟩
theorem crcMore_lt (x : Nat) (bs : List UInt8) : crcMore x bs < 4294967296 := by unfold crcMore; omega
theorem crcMore_append (x : Nat) (xs bs : List UInt8) (hx : x < 4294967296) : crcMore x (xs ++ bs) = crcMore (crcMore x xs) bs := by
  unfold crcMore
  have := crcReg_lt xs (4294967295 - x) (by omega)
  rw [crcReg_append, show 4294967295 - (4294967295 - crcReg xs (4294967295 - x)) = crcReg xs (4294967295 - x) by omega]
theorem crcMore_nil : crcMore 0 [] = 0 := by simp [crcMore, crcReg]
/-- parts: octets of which each lies somewhere. -/
def Parts (w : World) (a : Option Addr) (m : Nat) (ps : List (List UInt8)) : Prop :=
  ps.length = m ∧ (m = 0 ∨ ∃ b off, a = some ⟨b, off, none⟩ ∧ b < w.heap.size ∧ ∀ i, i < m → ∃ ai ni ci, w.cell? ⟨b, off + i, none⟩ = some (.slice ai ni ci) ∧ ni ≤ 140737488355328 ∧ Sl w ai ni 1 (bcells (ps.getD i [])))
theorem Parts.at_ {w : World} {a : Option Addr} {m : Nat} {ps : List (List UInt8)} (h : Parts w a m ps) {i : Nat} (hi : i < m) : ∃ b off ai ni ci, a = some ⟨b, off, none⟩ ∧ w.cell? ⟨b, off + i, none⟩ = some (.slice ai ni ci) ∧ ni ≤ 140737488355328 ∧ Sl w ai ni 1 (bcells (ps.getD i [])) := by
  rcases h.2 with h0 | ⟨b, off, ha, _, hc⟩
  · omega
  · obtain ⟨ai, ni, ci, h1, h2, h3⟩ := hc i hi
    exact ⟨b, off, ai, ni, ci, ha, h1, h2, h3⟩
theorem flat_take (ps : List (List UInt8)) (i : Nat) (h : i < ps.length) : (ps.take (i + 1)).flatten = (ps.take i).flatten ++ ps.getD i [] := by
  rw [List.take_add_one, List.getElem?_eq_getElem h, Option.toList_some, List.flatten_append]
  simp [List.getD_eq_getElem?_getD, List.getElem?_eq_getElem h]
/-- the sum of all parts. -/
theorem sum_any (a : Option Addr) (m c : Nat) (ps : List (List UInt8)) (w : World) (h : Parts w a m ps) (hm : m ≤ 140737488355328) :
    Calls Try.prog 25 #[.slice a m c] w fun e w' => e = .returned (.int .u32 (crcMore 0 ps.flatten : Nat)) ∧ w = w' := by
  have H := Lib.hid h
  clear h
  go_enter Try.func25, Try.ntmps25
  go_wp2_with fail
  have hpl : ps.length = m := H.out.1
  go_loopg [3, 8] m (fun q s3 s8 wr => ∃ i : Nat, q + i = m ∧ s3 = .int .u32 (crcMore 0 (ps.take i).flatten : Nat) ∧ s8 = .int .i64 i ∧ w = wr)
  case atStart => exact ⟨0, rfl, by rw [List.take_zero, List.flatten_nil, crcMore_nil]; rfl, rfl, rfl⟩
  case round =>
    obtain ⟨i, hqi, rfl, rfl, rfl⟩ := hrel
    by_cases hlt : i < m
    · obtain ⟨b, off, ai, ni, ci, rfl, hcell, hni, hsi⟩ := H.out.at_ hlt
      have hs : crcMore 0 (ps.take (i + 1)).flatten = crcMore (crcMore 0 (ps.take i).flatten) (ps.getD i []) := by
        rw [flat_take ps i (by omega), crcMore_append 0 _ _ (by decide)]
      have M := Lib.hid (more_any (crcMore 0 (ps.take i).flatten) ai ni ci (ps.getD i []) w (crcMore_lt _ _) hsi hni)
      clear hsi
      generalize ps.getD i [] = pi at *
      generalize crcMore 0 (ps.take i).flatten = y at *
      go_wp2_with (go_at_call 28; refine M.out.mono ?_; rintro e w' ⟨rfl, rfl⟩)
      go_roundg (gk - 1)
      case measure => omega
      case rel => exact ⟨i + 1, by omega, by rw [hs], by go_num, rfl⟩
    · obtain rfl : i = m := by omega
      have hall : (ps.take i).flatten = ps.flatten := by rw [List.take_of_length_le (by omega)]
      rw [hall]
      go_wp2
      go_ret
      exact ⟨rfl, rfl⟩
/-- the sum of one part, boxed. -/
theorem sum_one (a : Option Addr) (n c g : Nat) (bs : List UInt8) (w : World) (h : Sl w a n 1 (bcells bs)) (hn : n ≤ 140737488355328) (hg : w.cell? ⟨g, 0, none⟩ = some (.slice a n c)) :
    Calls Try.prog 25 #[.slice (some ⟨g, 0, none⟩) 1 1] w fun e w' => e = .returned (.int .u32 (crcMore 0 bs : Nat)) ∧ w = w' := by
  have P : Parts w (some ⟨g, 0, none⟩) 1 [bs] := by
    refine ⟨rfl, Or.inr ⟨g, 0, rfl, block_lt_of_cell hg, fun i hi => ?_⟩⟩
    obtain rfl : i = 0 := by omega
    exact ⟨a, n, c, hg, hn, h⟩
  simpa using sum_any _ 1 1 [bs] w P (by decide)
/-- octets with their sum. -/
def crcPutOf (bs : List UInt8) : List UInt8 := bs ++ beOf (crcMore 0 bs) 4
theorem cput_any (a : Option Addr) (n c : Nat) (bs : List UInt8) (w : World) (h : Sl w a n 1 (bcells bs)) (hn : n + 8 ≤ 140737488355328) :
    Calls Try.prog 17 #[.slice a n c] w fun e w' => ∃ v, e = .returned v ∧ w'.ownsRow w.heap.size 5 1 v (n + 4) (bcells (crcPutOf bs)) ∧ Below w.heap.size w w' := by
  have H := Lib.hid h
  clear h
  go_enter Try.func17, Try.ntmps17
  go_wp2_with fail
  have S := Lib.hid (sum_one a n c w.heap.size bs (w.alloc (.cells #[.slice a n c] 22)) (H.out.keep ((Below.refl _ _).alloc (Nat.le_refl _) _)) (by omega) (cell_of_row _ _ 0 _ _ _ (heap_alloc_new _ _)))
  have P := Lib.hid (put_ok a n c (bcells bs) (crcMore 0 bs) 4 (w.alloc (.cells #[.slice a n c] 22)) (H.out.keep ((Below.refl _ _).alloc (Nat.le_refl _) _)) (fun u hu => bcells_one hu) hn (by decide) (by decide) (by have := crcMore_lt 0 bs; omega))
  have hb0 := (Below.refl w.heap.size w).alloc (Nat.le_refl _) (.cells #[.slice a n c] 22)
  have hlt := crcMore_lt 0 bs
  refine S.out.mono ?_
  rintro e w1 ⟨rfl, rfl⟩
  rw [show (((4 : Nat) : Int)) = 4 from rfl] at P
  rw [← bcells_snoc, show bs ++ beOf (crcMore 0 bs) 4 = crcPutOf bs from rfl] at P
  clear H S
  generalize w.alloc (.cells #[.slice a n c] 22) = w1 at *
  generalize crcMore 0 bs = m at *
  go_wp2_with fail
  refine P.out.mono ?_
  rintro e w2 ⟨v, rfl, ho, hb⟩
  obtain ⟨va, vc, rfl, _⟩ := Sl.own ho
  go_wp2
  go_ret
  have hz := hb0.size
  exact ⟨_, rfl, own_base ho hz, hb0.trans (hb.mono hz)⟩
end Go.Proofs.Ytnlocomjmkgmkaa
