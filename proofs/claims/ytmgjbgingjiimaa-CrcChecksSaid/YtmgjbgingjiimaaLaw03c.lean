/- CrcTurns. -/
import Derived.Test.YtmgjbgingjiimaaLaw03b
import Derived.Test.YtmgjbgingjiimaaLaw02c
import Derived.RegionTactic
import Derived.BigRegion
import Derived.ChangeAlike
namespace Go.Proofs.Ytmgjbgingjiimaa
set_option linter.unusedVariables false
set_option linter.unusedSimpArgs false
open Go.ChangeShapes Go.WideShapes Go.ChangeAt Go.RowKit
theorem numOf_four (a b c d : UInt8) : numOf [a, b, c, d] = ((a.toNat * 256 + b.toNat) * 256 + c.toNat) * 256 + d.toNat := by simp [numOf]
theorem numOf_be4 (m : Nat) (h : m < 4294967296) : numOf (beOf m 4) = m := by
  simp only [beOf, numOf_four, UInt8.toNat_ofNat']
  omega
theorem four_of {l : List UInt8} (h : l.length = 4) : ∃ a b c d, l = [a, b, c, d] := by
  match l, h with
  | [a, b, c, d], _ => exact ⟨a, b, c, d, rfl⟩
theorem numOf4_inj {l m : List UInt8} (hl : l.length = 4) (hm : m.length = 4) (h : numOf l = numOf m) : l = m := by
  obtain ⟨a, b, c, d, rfl⟩ := four_of hl
  obtain ⟨a', b', c', d', rfl⟩ := four_of hm
  rw [numOf_four, numOf_four] at h
  have := a.toNat_lt; have := b.toNat_lt; have := c.toNat_lt; have := d.toNat_lt
  have := a'.toNat_lt; have := b'.toNat_lt; have := c'.toNat_lt; have := d'.toNat_lt
  have e1 : a.toNat = a'.toNat := by omega
  have e2 : b.toNat = b'.toNat := by omega
  have e3 : c.toNat = c'.toNat := by omega
  have e4 : d.toNat = d'.toNat := by omega
  rw [UInt8.toNat_inj.1 e1, UInt8.toNat_inj.1 e2, UInt8.toNat_inj.1 e3, UInt8.toNat_inj.1 e4]
/-- octets with their sum, one octet turned: the sum at their end is no longer theirs. -/
theorem put_turned (bs : List UInt8) (n i : Nat) (x : UInt8) (hn : bs.length = n) (hi : i < n + 4) (hx : x ≠ (crcPutOf bs).getD i 0) :
    ¬ crcMore 0 (((crcPutOf bs).set i x).take n) = crcTail n ((crcPutOf bs).set i x) := by
  have hb4 : (beOf (crcMore 0 bs) 4).length = 4 := beOf_len _ _
  have hm := numOf_be4 (crcMore 0 bs) (crcMore_lt _ _)
  unfold crcTail crcPutOf at *
  by_cases h : i < n
  · have e1 : ((bs ++ beOf (crcMore 0 bs) 4).set i x).take n = bs.set i x := by
      rw [List.set_append, if_pos (by omega), List.take_append_of_le_length (by simp; omega), List.take_of_length_le (by simp; omega)]
    have e2 : (((bs ++ beOf (crcMore 0 bs) 4).set i x).drop n).take 4 = beOf (crcMore 0 bs) 4 := by
      rw [List.set_append, if_pos (by omega), List.drop_append_of_le_length (by simp; omega), List.drop_of_length_le (by simp; omega), List.nil_append, List.take_of_length_le (by omega)]
    rw [e1, e2, hm]
    refine crcMore_turned bs i x (by omega) ?_
    intro e
    apply hx
    rw [e]
    simp [List.getD_eq_getElem?_getD, List.getElem?_append_left (show i < bs.length by omega)]
  · have e1 : ((bs ++ beOf (crcMore 0 bs) 4).set i x).take n = bs := by
      rw [List.set_append, if_neg (by omega), List.take_append_of_le_length (by omega), List.take_of_length_le (by omega)]
    have e2 : (((bs ++ beOf (crcMore 0 bs) 4).set i x).drop n).take 4 = (beOf (crcMore 0 bs) 4).set (i - n) x := by
      rw [List.set_append, if_neg (by omega), List.drop_append_of_le_length (by omega), List.drop_of_length_le (by omega), List.nil_append, List.take_of_length_le (by simp; omega), hn]
    rw [e1, e2]
    intro hq
    have hq2 : numOf (beOf (crcMore 0 bs) 4) = numOf ((beOf (crcMore 0 bs) 4).set (i - n) x) := hm.trans hq
    have hq3 := numOf4_inj hb4 (by simpa using hb4) hq2
    apply hx
    have hg := congrArg (fun l => l.getD (i - n) 0) hq3
    have hl : i - n < (beOf (crcMore 0 bs) 4).length := by omega
    rw [List.getD_eq_getElem?_getD, List.getElem?_append_right (by omega), hn]
    simp [List.getD_eq_getElem?_getD, List.getElem?_set, hl] at hg
    rw [List.getElem?_eq_getElem hl]
    simpa using hg.symm
theorem turned_sum (bs : List UInt8) (n i : Nat) (x : UInt8) (hn : bs.length = n) (h : i < n) (hx : x ≠ (crcPutOf bs).getD i 0) :
    ¬ crcMore 0 (((crcPutOf bs).set i x).take n) = crcMore 0 bs := by
  have hb4 : (beOf (crcMore 0 bs) 4).length = 4 := beOf_len _ _
  unfold crcPutOf at *
  have e1 : ((bs ++ beOf (crcMore 0 bs) 4).set i x).take n = bs.set i x := by
    rw [List.set_append, if_pos (by omega), List.take_append_of_le_length (by simp; omega), List.take_of_length_le (by simp; omega)]
  rw [e1]
  refine crcMore_turned bs i x (by omega) ?_
  intro e
  apply hx
  rw [e]
  simp [List.getD_eq_getElem?_getD, List.getElem?_append_left (show i < bs.length by omega)]
theorem grown_drew {w w' : World} {row : Option Nat} (h : w.grownBy w' row) : w.grownBy w'.drew row := ⟨h.os, h.tape, h.output, h.size, h.block⟩
theorem ofInt8 (a : Nat) (h : a < 256) : (BitVec.ofInt 8 (a : Int)).toNat = a := by
  rw [BitVec.toNat_ofInt]; omega
theorem bits_xor8 (a b : Nat) (ha : a < 256) (hb : b < 256) : bits .xor .u8 (a : Int) (b : Int) = ((a ^^^ b : Nat) : Int) := by
  have key : bits .xor .u8 (a : Int) (b : Int) = IntKind.u8.wrap ((BitVec.ofInt 8 (a : Int) ^^^ BitVec.ofInt 8 (b : Int)).toNat : Int) := rfl
  have h := Nat.xor_lt_two_pow (n := 8) (x := a) (y := b) (by omega) (by omega)
  rw [key, BitVec.toNat_xor, ofInt8 a ha, ofInt8 b hb, IntKind.wrap_u8]
  omega
theorem own_set1 {w : World} {base : Nat} {e : TypeId} {c n g j : Nat} {bs : List UInt8} {x : UInt8} (h : w.ownsRow base e 1 (.slice (some ⟨g, 0, none⟩) n c) n (bcells bs)) (hj : j < n) :
    Sl (w.setCell ⟨g, j, none⟩ (.int .u8 (x.toNat : Int))) (some ⟨g, 0, none⟩) n 1 (bcells (bs.set j x)) := by
  have hbl : bs.length = n := by
    have := (sl_own h).1
    rw [bcells_len] at this; omega
  refine ⟨by rw [bcells_len, List.length_set]; omega, Or.inr ⟨g, 0, rfl, ?_, fun i hi => ?_⟩⟩
  · obtain ⟨g', e, _, h1, _⟩ := owned_at h hj
    injection e with e; injection e with e; subst e
    have := block_lt_of_cell h1
    simpa using this
  · obtain ⟨g', e, _, h1, _⟩ := owned_at h (j := i) (by omega)
    injection e with e; injection e with e; subst e
    rw [Nat.zero_add]
    by_cases hij : i = j
    · subst hij
      rw [World.cell?_setCell_same _ _ _ (by rw [h1])]
      simp [bcells, List.getD_eq_getElem?_getD, List.getElem?_set, show i < bs.length by omega]
    · rw [World.cell?_setCell_other _ _ _ _ (by intro e; injection e with _ e; omega), h1]
      simp [bcells, List.getD_eq_getElem?_getD, List.getElem?_eq_getElem (show i < bs.length by omega), List.getElem_set, show ¬ j = i from fun e => hij e.symm]
theorem mod_any (x : Int) (m : Nat) (h0 : 0 < m) (hm : m ≤ 140737488355328) : ∃ i : Nat, i < m ∧ (wrap64 (x.tmod m + m)).tmod m = (i : Int) := by
  have h1 := Int.tmod_lt_of_pos x (show (0 : Int) < m by omega)
  have h2 := Int.lt_tmod_of_pos x (show (0 : Int) < m by omega)
  rw [IntWalk.wrap64_in _ (by omega), Int.tmod_eq_emod_of_nonneg (by omega)]
  have h3 := Int.emod_nonneg (x.tmod m + m) (show (m : Int) ≠ 0 by omega)
  have h4 := Int.emod_lt_of_pos (x.tmod m + m) (show (0 : Int) < m by omega)
  exact ⟨((x.tmod m + m) % m).toNat, by omega, by omega⟩
set_option maxRecDepth 100000 in
set_option maxHeartbeats 1000000 in
theorem turns_walk (v0 v1 v2 : Value) (w : World) (h0 : Arg Try.prog w 24 v0) (h1 : Arg Try.prog w 3 v1) (h2 : Arg Try.prog w 3 v2) :
    Calls Try.prog 5 #[v0, v1, v2] w fun e w' => e = .returned (.bool true) ∧ Below w.heap.size w w' := by
  obtain ⟨a, n, c, bs, rfl, hnc, hcm, hnr, hbl, hsl⟩ := h0.bytes
  obtain ⟨at0, rfl, hat0⟩ := h1.int Try.underlying3
  obtain ⟨bit0, rfl, hbit0⟩ := h2.int Try.underlying3
  clear h0 h1 h2
  have hn47 : n + 8 ≤ 140737488355328 := Nat.le_trans (Nat.add_le_add_right hnr 8) (by decide)
  have HS := Lib.hid hsl
  have HL := Lib.hid hbl
  clear hsl hbl hnr
  go_enter Try.func5, Try.ntmps5
  go_wp2_with fail
  refine (alive03 w).mono ?_
  rintro e w1 ⟨rfl, hb1⟩
  have HS1 := Lib.hid (HS.out.keep hb1)
  have HB1 := Lib.hid hb1
  have hsz1 := hb1.size
  clear hb1
  go_wp2_with fail
  obtain ⟨k, hk8, hk⟩ := mod_any bit0 8 (by decide) (by decide)
  rw [show ((8 : Nat) : Int) = 8 from rfl] at hk
  rw [hk]
  refine (cput_any a n c bs w1 HS1.out hn47).mono ?_
  rintro e w2 ⟨v, rfl, ho2, hb2⟩
  obtain ⟨pa, pc, rfl, hpc, hpm, hsp⟩ := Sl.own ho2
  obtain ⟨_, b, off, rfl, hbw, _⟩ := hsp.byte (by omega)
  have HP2 := Lib.hid hsp
  have HB2 := Lib.hid (HB1.out.trans (hb2.mono hsz1))
  have HS2 := Lib.hid (HS1.out.keep hb2)
  have hsz2 := HB2.out.size
  obtain ⟨i, hi, hat⟩ := mod_any at0 (n + 4) (by omega) (by omega)
  have hat' : (wrap64 (at0.tmod ((n : Int) + 4) + ((n : Int) + 4))).tmod ((n : Int) + 4) = (i : Int) := by exact_mod_cast hat
  have hcl : (crcPutOf bs).length = n + 4 := by have := HL.out; unfold crcPutOf; simp [beOf_len, this]
  have hn0 : ¬ ((n : Int) + 4) = 0 := by omega
  have hn1 : ¬ ((n : Int) + 4) = -1 := by omega
  have hhp : n + 4 ≤ pc := hpc
  obtain ⟨i0, hi0, hz0, hz1, hz2⟩ := info_parts info_byte
  have hlen := Lib.hid HP2.out.1
  have HN := Lib.hid (fun (o : Obj) j u hu => ((Below.refl w2.heap.size w2).alloc (Nat.le_refl _) o).cell (block_lt_of_cell (HP2.out.cells j u hu)) |>.trans (HP2.out.cells j u hu))
  have HO := Lib.hid (show ∀ u ∈ bcells (crcPutOf bs), u.oneCell' = true from fun u hu => bcells_one hu)
  clear ho2 hb2 hsp HS1 HB1 hat hpm
  go_wp2_with (at_builtin; refine wpList_append_own _ rfl _ _ 24 rfl w2.heap.size 5 i0 (.int .u8 0) 1 1 Try.underlying24 hi0 hz0 hz1 hz2 rfl (by decide) _ 0 [] rfl (World.ownsRow_made w2 #[] 0 (Nat.le_refl _) (by decide) rfl) ⟨b, off, none⟩ (n + 4) pc (bcells (crcPutOf bs)) rfl hlen.out (HN.out _) HO.out ?c1 ?c2 (by simp) ?_)
  case c1 => simp only [maxLen]; omega
  case c2 => omega
  intro v' w3 hown hgr hnil
  obtain ⟨va, vc, rfl, _⟩ := Sl.own hown
  have HOW := Lib.hid hown
  have HG := Lib.hid (((Below.refl w2.heap.size w2).alloc (Nat.le_refl _) (.cells #[] 5)).grown hgr (by simp) (by intro k hk; simp only [Value.ownBlock, Option.some.injEq] at hk; omega))
  clear hown hgr hnil hlen HN HO
  obtain ⟨g, rfl, hg, hcell, hfr⟩ := owned_at HOW.out hi
  have hxb := (crcPutOf bs).getD i 0 |>.toNat_lt
  have hpe : (crcPutOf bs).getD i 0 = (crcPutOf bs).getD i 0 := rfl
  generalize hz : ((crcPutOf bs).getD i 0).toNat = z at *
  have hin : (i : Int) < (n : Int) + 4 := by omega
  have hk0 : (0 : Int) ≤ k := by omega
  go_wp2_with fail
  go_region
  obtain ⟨p, hp⟩ : ∃ p : Nat, 2 ^ k = p := ⟨_, rfl⟩
  have hx2 : p < 256 := by
    have : 2 ^ k ≤ 2 ^ 7 := Nat.pow_le_pow_right (by decide) (by omega)
    rw [hp] at this
    omega
  have hp0 : 0 < p := by rw [← hp]; exact Nat.two_pow_pos k
  have hpi : ((2 : Int) ^ k) = (p : Int) := by rw [← hp]; simp
  have hxor : bits .xor .u8 (z : Int) (2 ^ k % 256) = ((z ^^^ p : Nat) : Int) := by
    rw [hpi, show ((p : Int) % 256) = p by omega]; exact bits_xor8 z p hxb hx2
  rw [hxor]
  have hy : z ^^^ p < 256 := Nat.xor_lt_two_pow (n := 8) (by omega) (by omega)
  have hyx : (UInt8.ofNat (z ^^^ p)).toNat = z ^^^ p := by rw [UInt8.toNat_ofNat']; omega
  have hne : UInt8.ofNat (z ^^^ p) ≠ (crcPutOf bs).getD i 0 := by
    intro e
    have e2 := congrArg UInt8.toNat e
    rw [hyx, hz] at e2
    have e3 : p ^^^ z = 0 ^^^ z := by rw [Nat.zero_xor, Nat.xor_comm]; exact e2
    have := xor_same e3
    omega
  rw [← hyx]
  clear hxor hyx hy hx2 hin hcell hfr hp hpi hp0
  generalize UInt8.ofNat (z ^^^ p) = x at *
  have HBt := Lib.hid (HB2.out.trans (HG.out.mono hsz2))
  have HB4 := Lib.hid (show Below w.heap.size w (w3.setCell ⟨g, i, none⟩ (.int .u8 (x.toNat : Int))).drew from (HBt.out.grown (grown_drew (grown_set w3 g i _)) HBt.out.size (fun q hq => by injection hq with hq; omega)))
  have HS4 := Lib.hid (HS.out.keep HB4.out)
  have HT4 := Lib.hid (show Sl (w3.setCell ⟨g, i, none⟩ (.int .u8 (x.toNat : Int))).drew (some ⟨g, 0, none⟩) (n + 4) 1 (bcells ((crcPutOf bs).set i x)) from own_set1 HOW.out hi)
  have hvc : n + 4 ≤ vc := by
    obtain ⟨_, _, e, h, _, _⟩ := Sl.own HOW.out
    injection e with e1 e2 e3
    omega
  have hvm : vc ≤ 9223372036854775807 := by
    obtain ⟨_, _, e, _, h, _⟩ := Sl.own HOW.out
    injection e with e1 e2 e3
    rw [← e3] at h
    simpa [maxLen] using h
  have hturn := put_turned bs n i x HL.out hi hne
  clear HOW HG HBt HP2 HS2
  generalize (w3.setCell ⟨g, i, none⟩ (.int .u8 (x.toNat : Int))).drew = w4 at *
  have C := Lib.hid (check_long (some ⟨g, 0, none⟩) n (n + 4) vc _ w4 HT4.out rfl hvc hvm (by omega))
  go_wp2_with fail
  refine C.out.mono ?_
  rintro e w5 ⟨_, hf, hb5⟩
  obtain rfl := hf hturn
  have HB5 := Lib.hid (HB4.out.trans (hb5.mono HB4.out.size))
  have HS5 := Lib.hid (HS4.out.keep hb5)
  have HT5 := Lib.hid (HT4.out.keep hb5)
  clear C hb5 HB4 HS4 HT4 hf hturn
  by_cases hin : n ≤ i
  · have hin1 : (n : Int) ≤ i := by omega
    go_wp2_with fail
    go_ret
    exact ⟨rfl, HB5.out⟩
  · have hin1 : (i : Int) < n := by omega
    have hin2 : ¬ (n : Int) ≤ i := by omega
    have hsum := turned_sum bs n i x HL.out (by omega) hne
    have hs1 := crcMore_lt 0 (((crcPutOf bs).set i x).take n)
    have HB6 := Lib.hid (HB5.out.alloc HB5.out.size (.cells #[.slice (some ⟨g, 0, none⟩) n vc] 24))
    have HS6 := Lib.hid (HS5.out.keep ((Below.refl _ _).alloc (Nat.le_refl _) (.cells #[.slice (some ⟨g, 0, none⟩) n vc] 24)))
    have T1 := Lib.hid (sum_one (some ⟨g, 0, none⟩) n vc w5.heap.size _ (w5.alloc (.cells #[.slice (some ⟨g, 0, none⟩) n vc] 24)) ((HT5.out.front (k := n) (by omega)).keep ((Below.refl _ _).alloc (Nat.le_refl _) _)) (by omega) (cell_of_row _ _ 0 _ _ _ (heap_alloc_new _ _)))
    generalize crcMore 0 (((crcPutOf bs).set i x).take n) = s1 at *
    clear HT5 HS5 HB5
    go_wp2_with fail
    refine T1.out.mono ?_
    rintro e w6 ⟨rfl, rfl⟩
    clear T1
    generalize w5.alloc (.cells #[.slice (some ⟨g, 0, none⟩) n vc] 24) = w6 at *
    have HB7 := Lib.hid (HB6.out.alloc HB6.out.size (.cells #[.slice a n c] 24))
    have T2 := Lib.hid (sum_one a n c w6.heap.size bs (w6.alloc (.cells #[.slice a n c] 24)) (HS6.out.keep ((Below.refl _ _).alloc (Nat.le_refl _) _)) (by omega) (cell_of_row _ _ 0 _ _ _ (heap_alloc_new _ _)))
    clear HS6 HB6
    go_wp2_with fail
    refine T2.out.mono ?_
    rintro e w7 ⟨rfl, rfl⟩
    clear T2
    generalize w6.alloc (.cells #[.slice a n c] 24) = w7 at *
    generalize crcMore 0 bs = s2 at *
    have hq1 : ((s1 : Int) == s2) = false := by rw [beq_eq_false_iff_ne]; omega
    have hq2 : ((s1 : Int) != s2) = true := by rw [bne_iff_ne]; omega
    go_wp2_with fail
    go_ret
    exact ⟨rfl, HB7.out⟩
end Go.Proofs.Ytmgjbgingjiimaa
