/- Tent.All, First of none, Take. -/
import Derived.Test.YtcfipimhpeblbaaTen3
import Derived.Deep.DeepCutAuto
import Derived.Maps.AppendAt
import Derived.Test.YtcfipimhpeblbaaRow
import Derived.Test.YtcfipimhpeblbaaOps
import Derived.RegionTactic
import Derived.BigRegion
import Derived.ChangeAlike
namespace Go.Proofs.Ytcfipimhpeblbaa
set_option linter.unusedVariables false
set_option linter.unusedSimpArgs false
open Go.ChangeShapes Go.WideShapes Go.ChangeAt Go.RowKit
def SlF (B : Nat) (w : World) (v : Value) (m : Nat) (L : List Int) : Prop := ∃ a c, v = .slice a m c ∧ Sl w a m 9 (ints L) ∧ (a = none → c = 0) ∧ m ≤ c ∧ (m = 0 ∨ ∀ ad, a = some ad → B ≤ ad.block)
theorem own_slF {w : World} {B n : Nat} {v : Value} {L : List Int} (h : w.ownsRow B 36 9 v n (ints L)) : SlF B w v n L := by
  obtain ⟨a, c, rfl, hs, hz, hc⟩ := own_slR h
  refine ⟨a, c, rfl, hs, hz, hc, ?_⟩
  by_cases h0 : n = 0
  · exact Or.inl h0
  · exact Or.inr (fun ad e => (own_fresh h e).resolve_left h0)
def WF (L : List Int) (x : Int) (n : Nat) (w : World) (e : Ending) (w' : World) : Prop := ∃ v, e = .returned v ∧ SlF w.heap.size w' v (cntTo7 x n) (withTo L x n) ∧ Below w.heap.size w w'
set_option maxRecDepth 100000 in
set_option maxHeartbeats 4000000 in
theorem swithF_any (a : Option Addr) (n c : Nat) (L : List Int) (x : Int) (w : World) (HS : Hid (Sl w a n 9 (ints L))) (hnil : a = none → c = 0) (hn : n ≤ 1000) (hx : fits x = true) :
    Calls Try.prog 24 #[.slice a n c, .int .i64 x] w fun e w' => WF L x n w e w' := by
  have CL := Lib.hid (cclone_any a n c L w HS.out hnil hn)
  have HL : L.length = n * 9 := by have := HS.out.1; rwa [ints_len] at this
  by_cases hin : 0 ≤ x ∧ x < n
  · obtain ⟨i, rfl⟩ : ∃ i : Nat, x = i := ⟨x.toNat, by omega⟩
    obtain ⟨m, rfl⟩ : ∃ m, n = m + 1 := ⟨n - 1, by omega⟩
    have hi1 : (i : Int) < (m : Int) + 1 := by omega
    have hi0 : (0 : Int) ≤ i := by omega
    obtain ⟨e1, e2⟩ := withTo_at (L := L) (i := i) (n := m + 1) (by omega)
    have E1 : Hid (withTo L (i : Int) (m + 1) = L.take (i * 9) ++ L.drop ((i + 1) * 9)) := Lib.hid (by
      rw [e1]
      congr 1
      refine List.take_of_length_le ?_
      rw [List.length_drop, HL, ← Nat.sub_mul]
      exact Nat.le_refl _)
    have E2 : Hid (cntTo7 (i : Int) (m + 1) = m) := Lib.hid e2
    have DC := Lib.hid (fun S g c2 w2 (A : Hid (Blk w2 g (ints L ++ S) 36)) h1 h2 h3 => del_any L S g c2 m i w2 A HL (by omega) (by omega) h1 h2 h3)
    have hm1 : (m : Int) + 1 ≤ 1000 := by omega
    clear e1 e2 hin hx hnil HS HL
    go_enter Try.func24, Try.ntmps24
    go_wp2_with fail
    refine CL.out.mono ?_
    rintro e w2 ⟨v, rfl, hown, hb⟩
    have HB := Lib.hid hb
    rcases hown.2 with ⟨he, hxs⟩ | ⟨g, c2, cur, rfl, hbg, hB2, hnc2, hcm2, hsz2, htk2⟩
    · exact absurd hxs (by omega)
    obtain ⟨T, hB9, hlT⟩ := own_at hown
    have D2 := Lib.hid (DC.out T g c2 w2 (Lib.hid hB9) hnc2 hcm2 (Lib.hid hlT))
    have HG := Lib.hid hbg
    have H2 := Lib.hid hnc2
    clear hown hb hB2 hsz2 htk2 hB9 hlT DC CL hbg hnc2 hcm2
    go_wp2_with fail
    refine D2.out.mono ?_
    rintro e w3 ⟨rfl, hO, hS3⟩
    have HB3 := Lib.hid (HB.out.trans (hO.toBelow (fun k hk => hk ▸ HG.out) HB.out.size))
    have HS3 := Lib.hid hS3
    clear hO hS3 D2
    go_wp2_with fail
    go_ret
    exact ⟨_, rfl, ⟨_, c2, by rw [E2.out]; rfl, by rw [E2.out, E1.out]; exact HS3.out, (fun h => by cases h), by rw [E2.out]; have := H2.out; omega, Or.inr (fun ad h => by cases h; exact HG.out)⟩, HB3.out⟩
  · obtain ⟨e1, e2⟩ := withTo_none (L := L) (n := n) (x := x) fun j hj e => hin (by omega)
    have E1 : Hid (withTo L x n = L) := Lib.hid (by rw [e1]; exact List.take_of_length_le (by omega))
    have E2 : Hid (cntTo7 x n = n) := Lib.hid e2
    clear e1 e2 hnil HS HL hx
    by_cases hx0 : x < 0
    · clear hin
      go_enter Try.func24, Try.ntmps24
      go_wp2_with fail
      refine CL.out.mono ?_
      rintro e w2 ⟨v, rfl, hown, hb⟩
      have HB := Lib.hid hb
      have HO := Lib.hid (own_slF hown)
      clear hown hb CL
      go_wp2_with fail
      go_ret
      exact ⟨_, rfl, by rw [E2.out, E1.out]; exact HO.out, HB.out⟩
    · have hxn : (n : Int) ≤ x := by omega
      clear hin
      go_enter Try.func24, Try.ntmps24
      go_wp2_with fail
      refine CL.out.mono ?_
      rintro e w2 ⟨v, rfl, hown, hb⟩
      have HB := Lib.hid hb
      have HO := Lib.hid (own_slF hown)
      clear hown hb CL
      go_wp2_with fail
      go_ret
      exact ⟨_, rfl, by rw [E2.out, E1.out]; exact HO.out, HB.out⟩
theorem tall_any {{w : World}} {{g n c : Nat}} {{a : Option Addr}} {{L : List Int}} (T : Hid (Tn w g a n c L)) (hn : n ≤ 1000) : Calls Try.prog 12 #[.pointer (some ⟨g, 0, none⟩)] w fun e w' => ∃ v, e = .returned v ∧ w'.ownsRow w.heap.size 36 9 v n (ints L) ∧ Below w.heap.size w w' := by
  have hc := T.out.b.cell 0
  have CL := Lib.hid (cclone_any a n c L w T.out.s T.out.z hn)
  go_enter Try.func12, Try.ntmps12
  go_wp2_with fail
  refine CL.out.mono ?_
  rintro e w2 ⟨v, rfl, hown, hb⟩
  have HO := Lib.hid hown
  have HB := Lib.hid hb
  clear hown hb CL
  go_wp2_with fail
  go_ret
  exact ⟨_, rfl, HO.out, HB.out⟩
set_option maxHeartbeats 2000000 in
theorem tfirst_no {w : World} {g c : Nat} {a : Option Addr} {L : List Int} (T : Hid (Tn w g a 0 c L)) : Calls Try.prog 13 #[.pointer (some ⟨g, 0, none⟩)] w fun e w' => e = .returned (.tuple #[.agg #[.int .i64 0, .int .i64 0, .int .i64 0, .int .i64 0, .int .i64 0, .int .i64 0, .int .i64 0, .int .i64 0, .int .i64 0], .bool false]) ∧ Below w.heap.size w w' := by
  have HB := Lib.hid ((Below.refl w.heap.size w).alloc (Nat.le_refl _) (.cells #[.int .i64 0, .int .i64 0, .int .i64 0, .int .i64 0, .int .i64 0, .int .i64 0, .int .i64 0, .int .i64 0, .int .i64 0] 36))
  have A1 : Hid (Blk (w.alloc (.cells #[.int .i64 0, .int .i64 0, .int .i64 0, .int .i64 0, .int .i64 0, .int .i64 0, .int .i64 0, .int .i64 0, .int .i64 0] 36)) w.heap.size (#[.int .i64 0, .int .i64 0, .int .i64 0, .int .i64 0, .int .i64 0, .int .i64 0, .int .i64 0, .int .i64 0, .int .i64 0] : Array Value).toList 36) := Lib.hid (Blk.new w #[.int .i64 0, .int .i64 0, .int .i64 0, .int .i64 0, .int .i64 0, .int .i64 0, .int .i64 0, .int .i64 0, .int .i64 0] 36)
  have T1 := Lib.hid (T.out.keep HB.out)
  have LN := Lib.hid (fun w' (h : Tn w' g a 0 c L) => tlen_any (Lib.hid h))
  go_enter Try.func13, Try.ntmps13
  go_upto_region 1 with fail
  generalize hg0 : w.heap.size = g0 at *
  have HG0 := Lib.hid hg0
  generalize w.alloc (.cells #[.int .i64 0, .int .i64 0, .int .i64 0, .int .i64 0, .int .i64 0, .int .i64 0, .int .i64 0, .int .i64 0, .int .i64 0] 36) = w1 at *
  clear hg0
  go_wp2_with fail
  refine (LN.out _ T1.out).mono ?_
  rintro e w2 ⟨rfl, rfl⟩
  have TO : RowT 36 (ints [0, 0, 0, 0, 0, 0, 0, 0, 0]).length := rowChg
  have OX : Hid (∀ u ∈ ints [0, 0, 0, 0, 0, 0, 0, 0, 0], u.oneCell' = true) := Lib.hid fun u hu => ints_one hu
  have HLA : ((#[.int .i64 0, .int .i64 0, .int .i64 0, .int .i64 0, .int .i64 0, .int .i64 0, .int .i64 0, .int .i64 0, .int .i64 0] : Array Value).toList).length = (ints [0, 0, 0, 0, 0, 0, 0, 0, 0]).length := rfl
  have A8 := Lib.hid (A1.out.setAll (ints [0, 0, 0, 0, 0, 0, 0, 0, 0]) rfl)
  have HB8 := Lib.hid (below_sets (B := g0) (Nat.le_refl _) (ints [0, 0, 0, 0, 0, 0, 0, 0, 0]) 0 _ HB.out)
  clear LN
  go_wp2_with (first
    | ((with_reducible refine st_row A1.out HLA TO OX.out ?_ ?_ ?_); (· rfl); (· rfl); (simp only [Act.put, List.setIfInBounds_toArray, List.set_cons_zero, List.set_cons_succ]); (generalize w1.setCells g0 0 (ints [0, 0, 0, 0, 0, 0, 0, 0, 0]) = w8 at *)))
  have hge := HG0.out
  subst hge
  refine ret_cell_tmp (cs := ints [0, 0, 0, 0, 0, 0, 0, 0, 0]) (v := .bool false) (p := 2) (q := 3) rfl rfl rfl A8.out Try.underlying36 rfl rowChg.2 rfl ?_
  exact ⟨rfl, HB8.out⟩
end Go.Proofs.Ytcfipimhpeblbaa
