/- The laws of crc. -/
import Derived.Test.YtnlocomjmkgmkaaCrc
import Derived.Test.YtnlocomjmkgmkaaLaw02
import Derived.Deep.QuietTactic
import Derived.BigQuiet
import Derived.Lib.SmallJoins
namespace Go.Proofs.Ytnlocomjmkgmkaa
set_option linter.unusedVariables false
set_option linter.unusedSimpArgs false
open Go.ChangeShapes Go.WideShapes Go.ChangeAt Go.RowKit
theorem xor_mod2 (a b : Nat) : (a ^^^ b) % 2 = (a + b) % 2 := by
  have h := @Nat.xor_mod_two_eq_one a b
  generalize a ^^^ b = z at *
  omega
/-- the same, bit by bit. -/
def refIt (c b : Nat) : Nat → Nat
  | 0 => c
  | k + 1 => if refIt c b k % 2 = b / 2 ^ k % 2 then refIt c b k / 2 else (refIt c b k / 2) ^^^ 0xedb88320
theorem refIt_eq (c b : Nat) (k : Nat) : crcIt k (c ^^^ b) = refIt c b k ^^^ (b / 2 ^ k) := by
  induction k with
  | zero => simp [crcIt, refIt]
  | succ k ih =>
    have e1 : crcIt (k + 1) (c ^^^ b) = crcBit (refIt c b k ^^^ (b / 2 ^ k)) := by rw [← ih]; rfl
    have hd : b / 2 ^ (k + 1) = b / 2 ^ k / 2 := by rw [Nat.pow_succ, Nat.div_div_eq_div_mul]
    rw [e1, hd]
    unfold crcBit
    show _ = (if refIt c b k % 2 = b / 2 ^ k % 2 then refIt c b k / 2 else (refIt c b k / 2) ^^^ 0xedb88320) ^^^ (b / 2 ^ k / 2)
    rw [xor_mod2, Nat.xor_div_two]
    generalize refIt c b k = r
    generalize b / 2 ^ k = s
    by_cases h : r % 2 = s % 2
    · rw [if_neg (by omega), if_pos h]
    · rw [if_pos (by omega), if_neg h, Nat.xor_assoc, Nat.xor_assoc, Nat.xor_comm (s / 2)]
theorem refIt_lt {c : Nat} (h : c < 4294967296) (b k : Nat) : refIt c b k < 4294967296 := by
  induction k with
  | zero => exact h
  | succ k ih =>
    unfold refIt
    split
    · omega
    · exact Nat.xor_lt_two_pow (n := 32) (by omega) (by decide)
theorem refIt_all (c b : Nat) (h : b < 256) : refIt c b 8 = crcIt 8 (c ^^^ b) := by
  rw [refIt_eq, show b / 2 ^ 8 = 0 by omega, Nat.xor_zero]
theorem tmod_bit (z k : Nat) : ((z : Int) / 2 ^ k).tmod 2 = ((z / 2 ^ k % 2 : Nat) : Int) := by
  have : ((z : Int) / 2 ^ k) = ((z / 2 ^ k : Nat) : Int) := by simp
  rw [this]
  generalize z / 2 ^ k = x
  rw [Int.tmod_eq_emod_of_nonneg (by omega)]
  omega
theorem rsum_any (a : Option Addr) (n c : Nat) (bs : List UInt8) (w : World) (h : Sl w a n 1 (bcells bs)) (hn : n ≤ 140737488355328) :
    Calls Try.prog 22 #[.slice a n c] w fun e w' => e = .returned (.int .u32 (crcMore 0 bs : Nat)) ∧ w = w' := by
  have H := Lib.hid h
  clear h
  have hbl : bs.length = n := by have := H.out.1; rw [bcells_len] at this; omega
  go_enter Try.func22, Try.ntmps22
  go_wp2_with fail
  go_loopg [3, 4] n (fun q s3 s4 wr => ∃ i : Nat, q + i = n ∧ s3 = .int .u32 (crcReg (bs.take i) 4294967295 : Nat) ∧ s4 = .int .i64 i ∧ w = wr)
  case atStart => exact ⟨0, rfl, rfl, rfl, rfl⟩
  case round =>
    obtain ⟨i, hqi, rfl, rfl, rfl⟩ := hrel
    by_cases hlt : i < n
    · have hy := crcReg_lt (bs.take i) 4294967295 (by decide)
      have hs := crcReg_take bs i 4294967295 (by omega)
      have hb := (bs.getD i 0).toNat_lt
      obtain ⟨_, b, off, rfl, hbw, hcell⟩ := H.out.byte (by omega)
      have hci := hcell i hlt
      generalize crcReg (bs.take i) 4294967295 = y at *
      generalize (bs.getD i 0).toNat = z at *
      clear hcell
      go_wp2_with fail
      obtain ⟨G, hG⟩ : ∃ G, G = gk := ⟨_, rfl⟩
      go_loopg [3, 5] 8 (fun q s3 s5 wr => ∃ k : Nat, q + k = 8 ∧ s3 = .int .u32 (refIt y z k : Nat) ∧ s5 = .int .i64 k ∧ w = wr)
      case atStart => exact ⟨0, rfl, rfl, rfl, rfl⟩
      case round =>
        obtain ⟨k, hqk, rfl, rfl, rfl⟩ := hrel
        by_cases hk : k < 8
        · have hr := refIt_lt hy z k
          have hst : refIt y z (k + 1) = if refIt y z k % 2 = z / 2 ^ k % 2 then refIt y z k / 2 else (refIt y z k / 2) ^^^ 0xedb88320 := rfl
          generalize refIt y z k = r at *
          have htm := tmod_bit z k
          by_cases hq : r % 2 = z / 2 ^ k % 2
          · have hne : ((r : Int) % 2 != ((z : Int) / 2 ^ k).tmod 2) = false := by
              rw [htm, bne_eq_false_iff_eq]; omega
            have hv : ((r : Int) / 2) = ((refIt y z (k + 1) : Nat) : Int) := by rw [hst, if_pos hq]; omega
            clear htm hst hq
            go_wp2
            go_roundg (gk - 1)
            case measure => omega
            case rel => exact ⟨k + 1, by omega, by first | rw [hv] | rfl, by go_num, rfl⟩
          · have hne : ((r : Int) % 2 != ((z : Int) / 2 ^ k).tmod 2) = true := by
              rw [htm, bne_iff_ne]; omega
            have hv : bits .xor .u32 ((r : Int) / 2) 3988292384 = ((refIt y z (k + 1) : Nat) : Int) := by
              rw [hst, if_neg hq]
              have := bits_xor32 (r / 2) 3988292384 (by omega) (by decide)
              simpa using this
            clear htm hst hq
            go_wp2
            go_roundg (gk - 1)
            case measure => omega
            case rel => exact ⟨k + 1, by omega, by first | rw [hv] | rfl, by go_num, rfl⟩
        · obtain rfl : k = 8 := by omega
          rw [refIt_all y z hb, ← hs]
          go_wp2
          go_roundg (G - 1)
          case measure => omega
          case rel => exact ⟨i + 1, by omega, rfl, by go_num, rfl⟩
    · obtain rfl : i = n := by omega
      have hall : crcReg (bs.take i) 4294967295 = crcReg bs 4294967295 := by rw [List.take_of_length_le (by omega)]
      have hlt := crcReg_lt bs 4294967295 (by decide)
      have hm : (4294967295 : Int) - (crcReg bs 4294967295 : Nat) = (crcMore 0 bs : Nat) := by unfold crcMore; rw [show 4294967295 - 0 = 4294967295 from rfl]; omega
      rw [hall]
      go_wp2
      go_ret
      exact ⟨rfl, rfl⟩
theorem Sl.front4 {w : World} {a : Option Addr} {n k : Nat} {bs : List UInt8} (h : Sl w a n 1 (bcells bs)) (hk : k ≤ n) : Sl w a k 1 (bcells (bs.take k)) := by
  have hbl : bs.length = n := by have := h.1; rw [bcells_len] at this; omega
  refine ⟨by rw [bcells_len, List.length_take]; omega, ?_⟩
  by_cases h0 : k = 0
  · exact Or.inl h0
  · obtain ⟨_, b, off, rfl, hb, hcell⟩ := h.byte (by omega)
    refine Or.inr ⟨b, off, rfl, hb, fun j hj => ?_⟩
    rw [hcell j (by omega)]
    simp [bcells, List.getD_eq_getElem?_getD, List.getElem?_eq_getElem (show j < bs.length by omega), show j < k by omega]
theorem check_short (a : Option Addr) (n c : Nat) (w : World) (hn : n < 4) (hnc : n ≤ c) (hc : c ≤ 9223372036854775807) :
    Calls Try.prog 20 #[.slice a n c] w fun e w' => e = .returned (.tuple #[.slice none 0 0, .bool false]) ∧ w = w' := by
  go_enter Try.func20, Try.ntmps20
  go_wp2
  go_ret2
  exact ⟨rfl, rfl⟩
/-- the sum that octets end with. -/
def crcTail (m : Nat) (bs : List UInt8) : Nat := numOf ((bs.drop m).take 4)
theorem check_core (a : Option Addr) (m n c cs tl : Nat) (bs fs ts : List UInt8) (w : World) (h : Sl w a n 1 (bcells bs)) (hn : n = m + 4) (hnc : n ≤ c) (hc : c ≤ 9223372036854775807) (hn47 : n ≤ 140737488355328)
    (hfs : bs.take m = fs) (hts : (bs.drop m).take 4 = ts) (hcs : crcMore 0 fs = cs) (htl : numOf ts = tl) :
    Calls Try.prog 20 #[.slice a n c] w fun e w' => (cs = tl → ∃ v, e = .returned (.tuple #[v, .bool true]) ∧ w'.ownsRow w.heap.size 5 1 v m (bcells fs)) ∧ (¬ cs = tl → e = .returned (.tuple #[.slice none 0 0, .bool false])) ∧ Below w.heap.size w w' := by
  subst hn
  have H := Lib.hid h
  clear h
  have hmc : ¬ c = m := by omega
  have hmc' : (m : Int) ≤ c := by omega
  have hmc2 : m ≤ c := by omega
  go_enter Try.func20, Try.ntmps20
  go_wp2_with fail
  go_quiet (fail)
  have HSq := Lib.hid (H.out.keep (Go.Joins.below_draws _ w nq))
  have HBq := Lib.hid (Go.Joins.below_draws w.heap.size w nq)
  have hzq : (w.drewN nq).heap.size = w.heap.size := rfl
  generalize w.drewN nq = w1 at *
  have HT := Lib.hid (show Sl w1 (Option.map (fun x => x.add m) a) 4 1 (bcells ((bs.drop m).take 4)) from by
    have := HSq.out.sub (i := m) (k := 4) (by omega) hnc
    unfold restOf at this
    rwa [if_neg hmc] at this)
  have HF := Lib.hid (HSq.out.front4 (k := m) (by omega))
  clear H HSq
  generalize Option.map (fun x => x.add m) a = at_ at *
  have ht4 : ts.take 4 = ts := by rw [← hts, List.take_take]; rfl
  have hlt2 := crcMore_lt 0 fs
  rw [hcs] at hlt2
  rw [hts] at HT
  rw [hfs] at HF
  clear hts hfs
  have N := Lib.hid (new_any at_ 4 (c - m) ts w1 HT.out (by decide))
  go_wp2_with fail
  refine N.out.mono ?_
  rintro e w2 ⟨g, a2, c2, rfl, hg, hr, hc2, hm2, hs2, hb2⟩
  have hm2' : c2 ≤ 9223372036854775807 := by simpa [maxLen] using hm2
  have T := Lib.hid (take_ok g 4 c2 4 a2 ts w2 hr hs2 (by decide) (by decide) (by decide) hc2 hm2')
  rw [show (((4 : Nat) : Int)) = 4 from rfl, ht4, htl] at T
  have HB23 := Lib.hid hb2
  have hsz2 := hb2.size
  have hzz := HBq.out.size
  clear N hr hs2 hb2
  go_wp2_with fail
  refine T.out.mono ?_
  rintro e w3 ⟨rfl, hr3, hg3, hz3⟩
  clear hz3
  have hb3 := HB23.out.grown hg3 HB23.out.size (fun q hq => by injection hq with hq; omega)
  have HB3 := Lib.hid (HBq.out.trans (hb3.mono (by omega)))
  have HF3 := Lib.hid (HF.out.keep hb3)
  clear T hr3 hg3 HB23 hb3 HF HT HBq
  have HF4 := Lib.hid (HF3.out.keep ((Below.refl _ _).alloc (Nat.le_refl _) (.cells #[.slice a m c] 22)))
  have HB4 := Lib.hid (HB3.out.alloc HB3.out.size (.cells #[.slice a m c] 22))
  have S := Lib.hid (sum_one a m c w3.heap.size fs (w3.alloc (.cells #[.slice a m c] 22)) HF4.out (by omega) (cell_of_row _ _ 0 _ _ _ (heap_alloc_new _ _)))
  clear HF3 HB3
  go_wp2_with fail
  refine S.out.mono ?_
  rintro e w4 ⟨rfl, rfl⟩
  clear S
  rw [hcs]
  clear hcs htl
  generalize w3.alloc (.cells #[.slice a m c] 22) = w4 at *
  have hz4 := HB4.out.size
  by_cases hq : cs = tl
  · subst hq
    have C := Lib.hid (clone_bytes a m c (bcells fs) w4 HF4.out (fun u hu => bcells_one hu) (by omega))
    go_wp2_with fail
    refine C.out.mono ?_
    rintro e w5 ⟨v, rfl, ho, hb5, _⟩
    obtain ⟨va, vc, rfl, _⟩ := Sl.own ho
    have HB5 := Lib.hid (HB4.out.trans (hb5.mono hz4))
    have HO5 := Lib.hid (own_base ho hz4)
    clear ho hb5 C
    go_wp2_with fail
    go_ret2
    first | exact ⟨⟨_, rfl, HO5.out⟩, HB5.out⟩ | exact ⟨fun _ => ⟨_, rfl, HO5.out⟩, fun h => absurd rfl h, HB5.out⟩
  · have hq1 : ((cs : Int) == tl) = false := by rw [beq_eq_false_iff_ne]; omega
    have hq2 : ((cs : Int) != tl) = true := by rw [bne_iff_ne]; omega
    go_wp2_with fail
    go_ret2
    first | exact ⟨fun h => absurd h hq, fun _ => rfl, HB4.out⟩ | exact ⟨rfl, HB4.out⟩
theorem check_long (a : Option Addr) (m n c : Nat) (bs : List UInt8) (w : World) (h : Sl w a n 1 (bcells bs)) (hn : n = m + 4) (hnc : n ≤ c) (hc : c ≤ 9223372036854775807) (hn47 : n ≤ 140737488355328) :
    Calls Try.prog 20 #[.slice a n c] w fun e w' => (crcMore 0 (bs.take m) = crcTail m bs → ∃ v, e = .returned (.tuple #[v, .bool true]) ∧ w'.ownsRow w.heap.size 5 1 v m (bcells (bs.take m))) ∧ (¬ crcMore 0 (bs.take m) = crcTail m bs → e = .returned (.tuple #[.slice none 0 0, .bool false])) ∧ Below w.heap.size w w' :=
  check_core a m n c _ _ bs _ _ w h hn hnc hc hn47 rfl rfl rfl rfl
end Go.Proofs.Ytnlocomjmkgmkaa
