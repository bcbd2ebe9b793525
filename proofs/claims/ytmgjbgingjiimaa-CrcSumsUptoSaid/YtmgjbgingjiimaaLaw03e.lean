/- Sums of octets in whatever parts. -/
import Derived.Test.YtmgjbgingjiimaaUpto
import Derived.Test.YtmgjbgingjiimaaApp
import Derived.Test.YtmgjbgingjiimaaLaw03b
import Derived.Test.YtmgjbgingjiimaaHeld
import Derived.RegionTactic
namespace Go.Proofs.Ytmgjbgingjiimaa
set_option linter.unusedVariables false
set_option linter.unusedSimpArgs false
open Go.ChangeShapes Go.WideShapes Go.ChangeAt Go.RowKit
theorem u8_info : (Try.prog.info? 5).map (fun i => (i.zero, i.size, i.bytes)) = some (some (.int .u8 0), 1, 1) := by kernel_rfl
theorem flat_le (ps : List (List UInt8)) (k : Nat) : (ps.take k).flatten.length ≤ ps.flatten.length := by
  conv => rhs; rw [← List.take_append_drop k ps, List.flatten_append, List.length_append]
  omega
theorem bcells_add (xs ys : List UInt8) : bcells (xs ++ ys) = bcells xs ++ bcells ys := List.map_append
theorem parts_keep {w w' : World} {a : Option Addr} {m : Nat} {ps : List (List UInt8)} (h : Parts w a m ps) (hb : Below w.heap.size w w') : Parts w' a m ps := by
  refine ⟨h.1, h.2.imp id ?_⟩
  rintro ⟨b, off, rfl, hlt, hc⟩
  refine ⟨b, off, rfl, Nat.lt_of_lt_of_le hlt hb.size, fun i hi => ?_⟩
  obtain ⟨ai, ni, ci, h1, h2, h3⟩ := hc i hi
  exact ⟨ai, ni, ci, (hb.cell (p := ⟨b, off + i, none⟩) hlt).trans h1, h2, h3.keep hb⟩
set_option maxHeartbeats 2000000 in
theorem sums_walk (a : Option Addr) (m c : Nat) (ps : List (List UInt8)) (w : World) (hp : Parts w a m ps) (hm : m ≤ 1048576) (hl : ps.flatten.length ≤ 1048576) (hnil : ∀ i, i < m → ∀ b off ai ni ci, a = some ⟨b, off, none⟩ → w.cell? ⟨b, off + i, none⟩ = some (.slice ai ni ci) → ai = none → ci = 0) :
    Calls Try.prog 3 #[.slice a m c] w fun e w' => e = .returned (.bool true) ∧ Below w.heap.size w w' := by
  obtain ⟨i0, hi, hz0, hz1, hz2⟩ := info_parts u8_info
  have HP := Lib.hid hp
  have HN := Lib.hid hnil
  have HL := Lib.hid hl
  have hpl : Hid (ps.length = m) := Lib.hid hp.1
  clear hp hnil hl
  go_enter Try.func3, Try.ntmps3
  go_wp2_with fail
  refine (alive03 _).mono ?_
  rintro e w2 ⟨rfl, hb2⟩
  have HB2 := Lib.hid hb2
  clear hb2
  go_wp2_with fail
  go_loopg [3, 4, 5] m (fun q s3 s4 s5 wr => ∃ i : Nat, q + i = m ∧ s4 = .int .u32 (crcMore 0 (ps.take i).flatten : Nat) ∧ s5 = .int .i64 i ∧ Hid (wr.ownsRow w2.heap.size 5 1 s3 (ps.take i).flatten.length (bcells (ps.take i).flatten)) ∧ Hid (Below w2.heap.size w2 wr))
  case atStart => exact ⟨0, rfl, by rw [List.take_zero, List.flatten_nil, crcMore_nil]; rfl, rfl, Lib.hid (World.ownsRow_nil _ _ _ _), Lib.hid (Below.refl _ _)⟩
  case round =>
    obtain ⟨i, hqi, rfl, rfl, HO, HB⟩ := hrel
    by_cases hlt : i < m
    · have hlt' : (i : Int) < m := by omega
      obtain ⟨b, off, ai, ni, ci, rfl, hcw, hni, hsw⟩ := HP.out.at_ hlt
      have hnn := HN.out i hlt b off ai ni ci rfl hcw
      have hbl := block_lt_of_cell hcw
      have HBw := Lib.hid (HB2.out.trans (HB.out.mono HB2.out.size))
      have hcell := (HBw.out.cell (p := ⟨b, off + i, none⟩) hbl).trans hcw
      have HSI := Lib.hid (hsw.keep HBw.out)
      have hf := flat_take ps i (by rw [hpl.out]; exact hlt)
      have hsum := crcMore_append 0 (ps.take i).flatten (ps.getD i []) (by decide)
      rw [← hf] at hsum
      have hpi : (ps.getD i []).length = ni := by have := HSI.out.1; rw [bcells_len] at this; omega
      have hle := flat_le ps (i + 1)
      have hln : (ps.take (i + 1)).flatten.length = (ps.take i).flatten.length + ni := by rw [hf, List.length_append, hpi]
      have hlo := HL.out
      have HSUM := Lib.hid hsum
      have HF := Lib.hid hf
      have hsmall : (ps.take i).flatten.length + ni ≤ 1048576 := by omega
      have HY := Lib.hid (crcMore_lt 0 (ps.take i).flatten)
      have HSW := Lib.hid hsw
      have HPI := Lib.hid hpi
      clear hsum hf hpi hle hln hlo hcw hsw
      generalize (ps.take i).flatten = X at *
      generalize ps.getD i [] = pi at *
      go_wp2_with (first
        | (at_builtin; refine app_any _ _ 24 5 i0 (.int .u8 0) 1 1 Try.underlying24 hi hz0 hz1 hz2 rfl (by decide) rfl rfl (base := w2.heap.size) rfl HO.out rfl HSI.out hnn (fun u hu => bcells_one hu) ?c1 ?c2 HB.out.size ?_))
      case c1 => simp only [maxLen]; omega
      case c2 => omega
      intro v1 w3 O3 hb3
      have HB3 := Lib.hid (HB.out.trans hb3)
      have hcell3 := (hb3.cell (p := ⟨b, off + i, none⟩) (Nat.lt_of_lt_of_le hbl HB2.out.size)).trans hcell
      have HO3 := Lib.hid O3
      have HS3 := Lib.hid (HSW.out.keep (HB2.out.trans (HB3.out.mono HB2.out.size)))
      clear hb3 O3 hcell
      go_wp2_with fail
      refine (more_any (crcMore 0 X) ai ni ci pi w3 HY.out HS3.out hni).mono ?_
      rintro e w4 ⟨rfl, rfl⟩
      go_wp2_with fail
      go_roundg (gk - 1)
      case measure => omega
      case rel => exact ⟨i + 1, by omega, by rw [HSUM.out], by go_num, Lib.hid (by rw [HF.out, bcells_add, List.length_append, HPI.out]; exact HO3.out), HB3⟩
    · have hmi : (m : Int) ≤ i := by omega
      have hall : (ps.take i).flatten = ps.flatten := by rw [List.take_of_length_le (by rw [hpl.out]; omega)]
      rw [hall] at HO
      rw [hall]
      clear hall
      have HPR := Lib.hid (parts_keep HP.out (HB2.out.trans (HB.out.mono HB2.out.size)))
      have hl := HL.out
      have SA := Lib.hid (sum_any a m c ps wr HPR.out (by omega))
      have hflen : Hid (ps.flatten.length ≤ 1048576) := HL
      clear hl
      generalize ps.flatten = X at *
      obtain ⟨xa, xc, rfl, _, _, hxs⟩ := Sl.own HO.out
      have HXS := Lib.hid hxs
      clear hxs
      go_wp2_with fail
      refine (rsum_any xa X.length xc X wr HXS.out (by have := hflen.out; omega)).mono ?_
      rintro e w3 ⟨rfl, rfl⟩
      go_wp2_with fail
      refine SA.out.mono ?_
      rintro e w4 ⟨rfl, rfl⟩
      have HB5 := Lib.hid ((HB2.out.trans (HB.out.mono HB2.out.size)).alloc (HB2.out.trans (HB.out.mono HB2.out.size)).size (.cells #[.slice xa X.length xc] 24))
      have HX5 := Lib.hid (HXS.out.keep ((Below.refl wr.heap.size wr).alloc (Nat.le_refl _) (.cells #[.slice xa X.length xc] 24)))
      have hc5 := Lib.hid ((Blk.new wr #[.slice xa X.length xc] 24).cell 0)
      go_wp2_with fail
      refine (sum_one xa X.length xc wr.heap.size X _ HX5.out (by have := hflen.out; omega) hc5.out).mono ?_
      rintro e w5 ⟨rfl, rfl⟩
      go_wp2_with fail
      go_ret
      exact ⟨rfl, HB5.out⟩
theorem sums_law (v0 : Value) (w : World) (h0 : ArgUp Try.prog w 22 v0 1048576) : Calls Try.prog 3 #[v0] w fun e w' => e = .returned (.bool true) ∧ Below w.heap.size w w' := by
  obtain ⟨a, m, c, ps, rfl, hmc, hc, hm, hl, hp, hn⟩ := h0.parts
  exact sums_walk a m c ps w hp hm hl hn
end Go.Proofs.Ytmgjbgingjiimaa
