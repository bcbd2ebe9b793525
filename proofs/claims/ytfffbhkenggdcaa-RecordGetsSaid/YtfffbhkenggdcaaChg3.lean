/- Changes as octets. -/
import Derived.Test.YtfffbhkenggdcaaChg2
import Derived.Test.YtfffbhkenggdcaaOct
import Derived.Test.YtfffbhkenggdcaaApp
import Derived.Test.YtfffbhkenggdcaaRow
import Derived.Test.YtfffbhkenggdcaaOps
import Derived.RegionTactic
import Derived.BigRegion
import Derived.ChangeAlike
namespace Go.Proofs.Ytfffbhkenggdcaa
set_option linter.unusedVariables false
set_option linter.unusedSimpArgs false
open Go.ChangeShapes Go.WideShapes Go.ChangeAt Go.RowKit
/-- a number's 64 bits. -/
def u64 (m : Int) : Nat := (m % 18446744073709551616).toNat
theorem u64_lt (m : Int) : u64 m < 18446744073709551616 := by unfold u64; omega
theorem u64_wrap (m : Int) : IntKind.u64.wrap m = (u64 m : Int) := by
  have : IntKind.u64.wrap m = m % 18446744073709551616 := rfl
  rw [this]; unfold u64; omega
theorem sl_one {w : World} {a : Option Addr} {n : Nat} {bs : List UInt8} (h : Sl w a n 1 (bcells bs)) : bs.length = n := by have := h.1; rw [bcells_len] at this; omega
theorem bcells_add (xs ys : List UInt8) : bcells (xs ++ ys) = bcells xs ++ bcells ys := List.map_append
/-- octets in a variable of block g. -/
def Out (w : World) (g : Nat) (bs : List UInt8) : Prop := ∃ a c, Blk w g [.slice a bs.length c] 22 ∧ Sl w a bs.length 1 (bcells bs)
set_option maxHeartbeats 2000000 in
theorem put1_any (m : Int) (k g : Nat) (bs : List UInt8) (w : World) (h : Out w g bs) (hn : bs.length + 8 ≤ 1000) (hk1 : 1 ≤ k) (hk8 : k ≤ 8) :
    Calls Try.prog 47 #[.int .i64 m, .int .i64 k, .pointer (some ⟨g, 0, none⟩)] w fun e w' => e = .returned (.tuple #[]) ∧ Out w' g (bs ++ beOf (u64 m) k) ∧ Below g w w' := by
  obtain ⟨a, c, hb, hs⟩ := h
  have hlt := hb.lt
  have HW := Lib.hid (u64_wrap m)
  have hm := u64_lt m
  have P := Lib.hid (put_ok a bs.length c (bcells bs) (u64 m) k w hs (fun u hu => bcells_one hu) (by omega) hk1 hk8 hm)
  have c0 : w.cell? ⟨g, 0, none⟩ = some (.slice a bs.length c) := hb.cell 0
  have HBK := Lib.hid hb
  clear hb hs hm
  go_enter Try.func47, Try.ntmps47
  go_wp2_with fail
  rw [HW.out]
  refine P.out.mono ?_
  rintro e w2 ⟨v, rfl, ho, hb2⟩
  obtain ⟨a2, c2, rfl, _, _, hs2⟩ := Sl.own ho
  have hbk := (HBK.out.keep hb2 hlt).set 0 (.slice a2 (bs.length + k) c2)
  have hfz := (HBK.out.keep hb2 hlt).froz 0
  have hc2 := (HBK.out.keep hb2 hlt).cell 0
  have hlen : (beOf (u64 m) k).length = k := beOf_len _ _
  have HO := Lib.hid (own_set ho hlt 0 (.slice a2 (bs.length + k) c2))
  have HBK2 := Lib.hid hbk
  have HBL := Lib.hid (below_set (hb2.mono (Nat.le_of_lt hlt)) (Nat.le_refl g) 0 (.slice a2 (bs.length + k) c2))
  clear ho hb2 hbk
  go_wp2_with fail
  go_end0
  have hl2 : (bs ++ beOf (u64 m) k).length = bs.length + k := by rw [List.length_append, hlen]
  obtain ⟨a3, c3, he, _, _, hs3⟩ := Sl.own HO.out
  injection he with e1 e2 e3
  subst e1 e3
  exact ⟨rfl, ⟨a2, c2, by rw [hl2]; exact HBK2.out, by rw [hl2, bcells_add]; exact hs3⟩, HBL.out⟩
def encOf (r s t k a b n p q : Int) : List UInt8 := beOf (u64 r) 1 ++ beOf (u64 s) 2 ++ beOf (u64 t) 4 ++ beOf (u64 k) 1 ++ beOf (u64 a) 1 ++ beOf (u64 b) 1 ++ beOf (u64 n) 8 ++ beOf (u64 p) 1 ++ beOf (u64 q) 2 ++ beOf (u64 67) 1
theorem encOf_len (r s t k a b n p q : Int) : (encOf r s t k a b n p q).length = 22 := by simp [encOf, beOf_len]
set_option maxRecDepth 100000 in
set_option maxHeartbeats 4000000 in
theorem enc_any (r s t k a b n p q : Int) (w : World) :
    Calls Try.prog 37 #[.agg #[.int .i64 r, .int .i64 s, .int .i64 t, .int .i64 k, .int .i64 a, .int .i64 b, .int .i64 n, .int .i64 p, .int .i64 q]] w fun e w' => ∃ a' c', e = .returned (.slice a' 22 c') ∧ Sl w' a' 22 1 (bcells (encOf r s t k a b n p q)) ∧ Below w.heap.size w w' := by
  have A := Blk.new w #[.int .i64 r, .int .i64 s, .int .i64 t, .int .i64 k, .int .i64 a, .int .i64 b, .int .i64 n, .int .i64 p, .int .i64 q] 27
  have HB := Lib.hid ((Below.refl w.heap.size w).alloc (Nat.le_refl _) (.cells #[.int .i64 r, .int .i64 s, .int .i64 t, .int .i64 k, .int .i64 a, .int .i64 b, .int .i64 n, .int .i64 p, .int .i64 q] 27))
  go_enter Try.func37, Try.ntmps37
  go_upto_region 1 with fail
  have hz : w.heap.size < (w.alloc (.cells #[.int .i64 r, .int .i64 s, .int .i64 t, .int .i64 k, .int .i64 a, .int .i64 b, .int .i64 n, .int .i64 p, .int .i64 q] 27)).heap.size := by simp
  generalize w.alloc (.cells #[.int .i64 r, .int .i64 s, .int .i64 t, .int .i64 k, .int .i64 a, .int .i64 b, .int .i64 n, .int .i64 p, .int .i64 q] 27) = W at *
  have HA := Lib.hid (A.alloc (.cells #[.slice none 0 0] 22))
  have c0 : (W.alloc (.cells #[.slice none 0 0] 22)).cell? ⟨w.heap.size, 0, none⟩ = some (.int .i64 r) := HA.out.cell 0
  have HB0 := Lib.hid (HB.out.alloc HB.out.size (.cells #[.slice none 0 0] 22))
  have HO0 : Hid (Out (W.alloc (.cells #[.slice none 0 0] 22)) W.heap.size []) := Lib.hid ⟨none, 0, Blk.new W #[.slice none 0 0] 22, rfl, Or.inl rfl⟩
  have hg : w.heap.size < W.heap.size := hz
  clear A HB hz
  go_upto_region 2 with fail
  generalize hgg : W.heap.size = g at *
  generalize W.alloc (.cells #[.slice none 0 0] 22) = w0 at *
  clear hgg W
  have P0 := Lib.hid (put1_any r 1 g _ _ HO0.out (by simp [beOf_len]) (by decide) (by decide))
  go_wp2_with fail
  refine P0.out.mono ?_
  rintro e w1 ⟨rfl, ho, hb⟩
  have HA1 := Lib.hid (HA.out.keep hb hg)
  have HB1 := Lib.hid (HB0.out.trans (hb.mono (Nat.le_of_lt hg)))
  have HO1 := Lib.hid ho
  clear ho hb c0 P0 HO0 HB0 HA
  have c1 : w1.cell? ⟨w.heap.size, 1, none⟩ = some (.int .i64 s) := HA1.out.cell 1
  have P1 := Lib.hid (put1_any s 2 g _ _ HO1.out (by simp [beOf_len]) (by decide) (by decide))
  go_wp2_with fail
  refine P1.out.mono ?_
  rintro e w2 ⟨rfl, ho, hb⟩
  have HA2 := Lib.hid (HA1.out.keep hb hg)
  have HB2 := Lib.hid (HB1.out.trans (hb.mono (Nat.le_of_lt hg)))
  have HO2 := Lib.hid ho
  clear ho hb c1 P1 HO1 HB1 HA1
  have c2 : w2.cell? ⟨w.heap.size, 2, none⟩ = some (.int .i64 t) := HA2.out.cell 2
  have P2 := Lib.hid (put1_any t 4 g _ _ HO2.out (by simp [beOf_len]) (by decide) (by decide))
  go_wp2_with fail
  refine P2.out.mono ?_
  rintro e w3 ⟨rfl, ho, hb⟩
  have HA3 := Lib.hid (HA2.out.keep hb hg)
  have HB3 := Lib.hid (HB2.out.trans (hb.mono (Nat.le_of_lt hg)))
  have HO3 := Lib.hid ho
  clear ho hb c2 P2 HO2 HB2 HA2
  have c3 : w3.cell? ⟨w.heap.size, 3, none⟩ = some (.int .i64 k) := HA3.out.cell 3
  have P3 := Lib.hid (put1_any k 1 g _ _ HO3.out (by simp [beOf_len]) (by decide) (by decide))
  go_wp2_with fail
  refine P3.out.mono ?_
  rintro e w4 ⟨rfl, ho, hb⟩
  have HA4 := Lib.hid (HA3.out.keep hb hg)
  have HB4 := Lib.hid (HB3.out.trans (hb.mono (Nat.le_of_lt hg)))
  have HO4 := Lib.hid ho
  clear ho hb c3 P3 HO3 HB3 HA3
  have c4 : w4.cell? ⟨w.heap.size, 4, none⟩ = some (.int .i64 a) := HA4.out.cell 4
  have P4 := Lib.hid (put1_any a 1 g _ _ HO4.out (by simp [beOf_len]) (by decide) (by decide))
  go_wp2_with fail
  refine P4.out.mono ?_
  rintro e w5 ⟨rfl, ho, hb⟩
  have HA5 := Lib.hid (HA4.out.keep hb hg)
  have HB5 := Lib.hid (HB4.out.trans (hb.mono (Nat.le_of_lt hg)))
  have HO5 := Lib.hid ho
  clear ho hb c4 P4 HO4 HB4 HA4
  have c5 : w5.cell? ⟨w.heap.size, 5, none⟩ = some (.int .i64 b) := HA5.out.cell 5
  have P5 := Lib.hid (put1_any b 1 g _ _ HO5.out (by simp [beOf_len]) (by decide) (by decide))
  go_wp2_with fail
  refine P5.out.mono ?_
  rintro e w6 ⟨rfl, ho, hb⟩
  have HA6 := Lib.hid (HA5.out.keep hb hg)
  have HB6 := Lib.hid (HB5.out.trans (hb.mono (Nat.le_of_lt hg)))
  have HO6 := Lib.hid ho
  clear ho hb c5 P5 HO5 HB5 HA5
  have c6 : w6.cell? ⟨w.heap.size, 6, none⟩ = some (.int .i64 n) := HA6.out.cell 6
  have P6 := Lib.hid (put1_any n 8 g _ _ HO6.out (by simp [beOf_len]) (by decide) (by decide))
  go_wp2_with fail
  refine P6.out.mono ?_
  rintro e w7 ⟨rfl, ho, hb⟩
  have HA7 := Lib.hid (HA6.out.keep hb hg)
  have HB7 := Lib.hid (HB6.out.trans (hb.mono (Nat.le_of_lt hg)))
  have HO7 := Lib.hid ho
  clear ho hb c6 P6 HO6 HB6 HA6
  have c7 : w7.cell? ⟨w.heap.size, 7, none⟩ = some (.int .i64 p) := HA7.out.cell 7
  have P7 := Lib.hid (put1_any p 1 g _ _ HO7.out (by simp [beOf_len]) (by decide) (by decide))
  go_wp2_with fail
  refine P7.out.mono ?_
  rintro e w8 ⟨rfl, ho, hb⟩
  have HA8 := Lib.hid (HA7.out.keep hb hg)
  have HB8 := Lib.hid (HB7.out.trans (hb.mono (Nat.le_of_lt hg)))
  have HO8 := Lib.hid ho
  clear ho hb c7 P7 HO7 HB7 HA7
  have c8 : w8.cell? ⟨w.heap.size, 8, none⟩ = some (.int .i64 q) := HA8.out.cell 8
  have P8 := Lib.hid (put1_any q 2 g _ _ HO8.out (by simp [beOf_len]) (by decide) (by decide))
  go_wp2_with fail
  refine P8.out.mono ?_
  rintro e w9 ⟨rfl, ho, hb⟩
  have HA9 := Lib.hid (HA8.out.keep hb hg)
  have HB9 := Lib.hid (HB8.out.trans (hb.mono (Nat.le_of_lt hg)))
  have HO9 := Lib.hid ho
  clear ho hb c8 P8 HO8 HB8 HA8
  have P9 := Lib.hid (put1_any 67 1 g _ _ HO9.out (by simp [beOf_len]) (by decide) (by decide))
  go_wp2_with fail
  refine P9.out.mono ?_
  rintro e w10 ⟨rfl, ho, hb⟩
  have HA10 := Lib.hid (HA9.out.keep hb hg)
  have HB10 := Lib.hid (HB9.out.trans (hb.mono (Nat.le_of_lt hg)))
  have HO10 := Lib.hid ho
  clear ho hb  P9 HO9 HB9 HA9
  obtain ⟨oa, oc, hbk, hsl⟩ := HO10.out
  rw [List.nil_append, show (beOf (u64 r) 1 ++ beOf (u64 s) 2 ++ beOf (u64 t) 4 ++ beOf (u64 k) 1 ++ beOf (u64 a) 1 ++ beOf (u64 b) 1 ++ beOf (u64 n) 8 ++ beOf (u64 p) 1 ++ beOf (u64 q) 2 ++ beOf (u64 67) 1).length = 22 by simp [beOf_len]] at hbk hsl
  have hcc := hbk.cell 0
  have HSL := Lib.hid hsl
  clear hsl hbk
  go_wp2_with fail
  go_ret
  exact ⟨oa, oc, rfl, HSL.out, HB10.out⟩
end Go.Proofs.Ytfffbhkenggdcaa
