/- The laws of crc, walked. -/
import Derived.Test.YtmgjbgingjiimaaLaw03
import Derived.Lib.SlBytesConst
namespace Go.Proofs.Ytmgjbgingjiimaa
set_option linter.unusedVariables false
set_option linter.unusedSimpArgs false
open Go.ChangeShapes Go.WideShapes Go.ChangeAt Go.RowKit
theorem usual : crcMore 0 [49, 50, 51, 52, 53, 54, 55, 56, 57] = 3421780262 := by decide +kernel
def nines : Array Value := #[.int .u8 49, .int .u8 50, .int .u8 51, .int .u8 52, .int .u8 53, .int .u8 54, .int .u8 55, .int .u8 56, .int .u8 57]
theorem nines_sl (w : World) (e : TypeId) (fr : Nat × Nat) : Sl (w.alloc (.cells nines e fr)) (some ⟨w.heap.size, 0, none⟩) 9 1 (bcells [49, 50, 51, 52, 53, 54, 55, 56, 57]) := by
  refine ⟨rfl, Or.inr ⟨_, _, rfl, by simp, fun j hj => ?_⟩⟩
  rw [Nat.zero_add, World.cell?_alloc_mark]
  match j, hj with
  | 0, _ => rfl
  | 1, _ => rfl
  | 2, _ => rfl
  | 3, _ => rfl
  | 4, _ => rfl
  | 5, _ => rfl
  | 6, _ => rfl
  | 7, _ => rfl
  | 8, _ => rfl
theorem sum_none (w : World) : Calls Try.prog 15 #[.slice none 0 0] w fun e w' => e = .returned (.int .u32 0) ∧ w = w' := by
  have := sum_any none 0 0 [] w ⟨rfl, Or.inl rfl⟩ (by decide)
  rw [List.flatten_nil, crcMore_nil] at this
  exact this
theorem alive03 (w : World) : Calls Try.prog 12 #[] w fun e w' => e = .returned (.bool true) ∧ Below w.heap.size w w' := by
  have kc := fun (w : World) (C : Array Value) (n c : Nat) => Lib.run_convert_bytes_const (P := Try.prog) w 24 5 C n c Try.underlying24 Try.underlying5
  go_enter Try.func12, Try.ntmps12
  go_wp2_with fail
  have HS := Lib.hid (nines_sl w 5 (9, 10))
  have HB := Lib.hid ((Below.refl w.heap.size w).alloc (Nat.le_refl _) (.cells nines 5 (9, 10)))
  unfold nines at HS HB
  have hz : (w.alloc (.cells #[.int .u8 49, .int .u8 50, .int .u8 51, .int .u8 52, .int .u8 53, .int .u8 54, .int .u8 55, .int .u8 56, .int .u8 57] 5 (9, 10))).heap.size = w.heap.size + 1 := by simp
  rw [← hz]
  clear hz kc
  generalize w.alloc (.cells #[.int .u8 49, .int .u8 50, .int .u8 51, .int .u8 52, .int .u8 53, .int .u8 54, .int .u8 55, .int .u8 56, .int .u8 57] 5 (9, 10)) = w1 at *
  have HB2 := Lib.hid (HB.out.alloc HB.out.size (.cells #[.slice (some ⟨w.heap.size, 0, none⟩) 9 9] 24))
  have S := Lib.hid (sum_one (some ⟨w.heap.size, 0, none⟩) 9 9 w1.heap.size _ (w1.alloc (.cells #[.slice (some ⟨w.heap.size, 0, none⟩) 9 9] 24)) (HS.out.keep ((Below.refl _ _).alloc (Nat.le_refl _) _)) (by decide) (cell_of_row _ _ 0 _ _ _ (heap_alloc_new _ _)))
  rw [usual] at S
  rw [show (((3421780262 : Nat) : Int)) = 3421780262 from rfl] at S
  clear HS HB
  refine S.out.mono ?_
  rintro e w2 ⟨rfl, rfl⟩
  clear S
  generalize w1.alloc (.cells #[.slice (some ⟨w.heap.size, 0, none⟩) 9 9] 24) = w2 at *
  go_wp2_with (go_at_call 15; refine (sum_none _).mono ?_; rintro e w' ⟨rfl, rfl⟩)
  refine (cput_any none 0 0 [] w2 ⟨rfl, Or.inl rfl⟩ (by decide)).mono ?_
  rintro e w3 ⟨v, rfl, ho, hb3⟩
  obtain ⟨va, vc, rfl, _⟩ := Sl.own ho
  have HB3 := Lib.hid (HB2.out.trans (hb3.mono HB2.out.size))
  clear ho hb3 HB2
  go_wp2_with fail
  go_ret
  exact ⟨rfl, HB3.out⟩
theorem xor_same {a b p : Nat} (h : a ^^^ p = b ^^^ p) : a = b := by
  have : (a ^^^ p) ^^^ p = (b ^^^ p) ^^^ p := by rw [h]
  rwa [Nat.xor_assoc, Nat.xor_self, Nat.xor_zero, Nat.xor_assoc, Nat.xor_self, Nat.xor_zero] at this
theorem crcBit_top {x : Nat} (hx : x < 4294967296) : (crcBit x).testBit 31 = decide (x % 2 = 1) := by
  have h0 : (x / 2).testBit 31 = false := Nat.testBit_lt_two_pow (by omega)
  unfold crcBit
  by_cases h : x % 2 = 1
  · rw [if_pos h, Nat.testBit_xor, h0, decide_eq_true h]; decide
  · rw [if_neg h, h0, decide_eq_false h]
theorem crcBit_inj {x y : Nat} (hx : x < 4294967296) (hy : y < 4294967296) (h : crcBit x = crcBit y) : x = y := by
  have ht : decide (x % 2 = 1) = decide (y % 2 = 1) := by rw [← crcBit_top hx, ← crcBit_top hy, h]
  have ht' : x % 2 = 1 ↔ y % 2 = 1 := by simpa using ht
  unfold crcBit at h
  by_cases hq : x % 2 = 1
  · rw [if_pos hq, if_pos (ht'.1 hq)] at h
    have := xor_same h
    have := ht'.1 hq
    omega
  · have hq' : ¬ y % 2 = 1 := fun e => hq (ht'.2 e)
    rw [if_neg hq, if_neg hq'] at h
    omega
theorem crcIt_inj {x y : Nat} (hx : x < 4294967296) (hy : y < 4294967296) (k : Nat) (h : crcIt k x = crcIt k y) : x = y := by
  induction k with
  | zero => exact h
  | succ k ih => exact ih (crcBit_inj (crcIt_lt hx k) (crcIt_lt hy k) h)
theorem crcReg_inj (bs : List UInt8) : ∀ {x y : Nat}, x < 4294967296 → y < 4294967296 → crcReg bs x = crcReg bs y → x = y := by
  induction bs with
  | nil => intro x y _ _ h; exact h
  | cons b bs ih =>
    intro x y hx hy h
    have hb := b.toNat_lt
    have l : ∀ z, z < 4294967296 → z ^^^ b.toNat < 4294967296 := fun z hz => Nat.xor_lt_two_pow (n := 32) (by omega) (by omega)
    exact xor_same (crcIt_inj (l x hx) (l y hy) 8 (ih (crcIt_lt (l x hx) 8) (crcIt_lt (l y hy) 8) h))
/-- one octet turned: another sum. -/
theorem crcMore_turned (bs : List UInt8) (i : Nat) (b : UInt8) (hi : i < bs.length) (hne : b ≠ bs.getD i 0) : crcMore 0 (bs.set i b) ≠ crcMore 0 bs := by
  intro h
  have hs : bs = bs.take i ++ bs.getD i 0 :: bs.drop (i + 1) := by
    simp [List.getD_eq_getElem?_getD, List.getElem?_eq_getElem hi]
  have hs2 : bs.set i b = bs.take i ++ b :: bs.drop (i + 1) := by
    rw [List.set_eq_take_append_cons_drop, if_pos hi]
  have lt := crcReg_lt
  unfold crcMore at h
  have h1 := lt bs (4294967295 - 0) (by decide)
  have h2 := lt (bs.set i b) (4294967295 - 0) (by decide)
  have h3 : crcReg (bs.set i b) (4294967295 - 0) = crcReg bs (4294967295 - 0) := by omega
  rw [hs2, crcReg_append] at h3
  have h4 : crcReg bs (4294967295 - 0) = crcReg (bs.getD i 0 :: bs.drop (i + 1)) (crcReg (bs.take i) (4294967295 - 0)) := by
    rw [← crcReg_append, ← hs]
  rw [h4] at h3
  have hr := lt (bs.take i) (4294967295 - 0) (by decide)
  generalize crcReg (bs.take i) (4294967295 - 0) = r at *
  have l : ∀ c : UInt8, r ^^^ c.toNat < 4294967296 := fun c => by have := c.toNat_lt; exact Nat.xor_lt_two_pow (n := 32) (by omega) (by omega)
  have h5 := crcReg_inj (bs.drop (i + 1)) (crcIt_lt (l b) 8) (crcIt_lt (l (bs.getD i 0)) 8) h3
  have h6 := crcIt_inj (l b) (l (bs.getD i 0)) 8 h5
  rw [Nat.xor_comm r, Nat.xor_comm r] at h6
  exact hne (UInt8.toNat_inj.1 (xor_same h6))
end Go.Proofs.Ytmgjbgingjiimaa
