/- stamp.Without, of any list at any place. -/
import Derived.Test.YtcfipimhpeblbaaStm16
import Derived.Deep.DeepCutAuto
import Derived.Maps.AppendAt
import Derived.Test.YtcfipimhpeblbaaRow
import Derived.Test.YtcfipimhpeblbaaOps
import Derived.RegionTactic
import Derived.BigRegion
import Derived.ChangeAlike
namespace Go.Proofs.Ytcfipimhpeblbaa
set_option linter.unusedVariables false
set_option linter.unusedSimpArgs false
open Go.ChangeShapes Go.WideShapes Go.ChangeAt Go.RowKit
/-- a slice of whole rows, wherever it lies. -/
def SlR (w : World) (v : Value) (m : Nat) (L : List Int) : Prop := ∃ a c, v = .slice a m c ∧ Sl w a m 9 (ints L) ∧ (a = none → c = 0) ∧ m ≤ c
theorem SlR.keep {w w' : World} {v : Value} {m : Nat} {L : List Int} (h : SlR w v m L) (hb : Below w.heap.size w w') : SlR w' v m L := by
  obtain ⟨a, c, rfl, hs, hn, hc⟩ := h
  exact ⟨a, c, rfl, hs.keep hb, hn, hc⟩
theorem own_slR {w : World} {B n : Nat} {v : Value} {L : List Int} (h : w.ownsRow B 36 9 v n (ints L)) : SlR w v n L := by
  rcases h.2 with ⟨rfl, rfl⟩ | ⟨g, c, cur, rfl, hbg, hB, hnc, hcm, hsz, htk⟩
  · exact ⟨none, 0, rfl, ⟨h.1, Or.inl rfl⟩, fun _ => rfl, Nat.le_refl _⟩
  · obtain ⟨T, hb, hl⟩ := own_at h
    exact ⟨_, c, rfl, sl_pre hb h.1, (fun h => by cases h), hnc⟩
theorem withTo_none {L : List Int} {x : Int} : ∀ {n : Nat}, (∀ j : Nat, j < n → (j : Int) ≠ x) → withTo L x n = L.take (n * 9) ∧ cntTo7 x n = n
  | 0, _ => ⟨by simp [withTo], rfl⟩
  | n + 1, h => by
    obtain ⟨h1, h2⟩ := withTo_none (L := L) (n := n) fun j hj => h j (by omega)
    unfold withTo cntTo7
    rw [if_neg (h n (by omega)), if_neg (h n (by omega)), h1, h2, take_row]
    exact ⟨rfl, rfl⟩
theorem withTo_at {L : List Int} {i : Nat} : ∀ {n : Nat}, i < n → withTo L (i : Int) n = L.take (i * 9) ++ (L.drop ((i + 1) * 9)).take ((n - (i + 1)) * 9) ∧ cntTo7 (i : Int) n = n - 1
  | 0, h => absurd h (Nat.not_lt_zero _)
  | n + 1, h => by
    by_cases hin : n = i
    · subst hin
      obtain ⟨h1, h2⟩ := withTo_none (L := L) (n := n) (x := (n : Int)) fun j hj e => by omega
      unfold withTo cntTo7
      rw [if_pos rfl, if_pos rfl, h1, h2]
      simp
    · obtain ⟨h1, h2⟩ := withTo_at (L := L) (i := i) (n := n) (by omega)
      have hne : ¬ (n : Int) = (i : Int) := by omega
      unfold withTo cntTo7
      rw [if_neg hne, if_neg hne, h1, h2]
      refine ⟨?_, by omega⟩
      rw [List.append_assoc, show n + 1 - (i + 1) = (n - (i + 1)) + 1 by omega, take_row]
      congr 2
      unfold rAt
      rw [List.drop_drop, show (i + 1) * 9 + (n - (i + 1)) * 9 = n * 9 by rw [← Nat.add_mul]; congr 1; omega]
def WR (L : List Int) (x : Int) (n : Nat) (w : World) (e : Ending) (w' : World) : Prop := ∃ v, e = .returned v ∧ SlR w' v (cntTo7 x n) (withTo L x n) ∧ Below w.heap.size w w'
set_option maxRecDepth 100000 in
set_option maxHeartbeats 4000000 in
theorem swithS_any (a : Option Addr) (n c : Nat) (L : List Int) (x : Int) (w : World) (HS : Hid (Sl w a n 9 (ints L))) (hnil : a = none → c = 0) (hn : n ≤ 1000) (hx : fits x = true) :
    Calls Try.prog 24 #[.slice a n c, .int .i64 x] w fun e w' => WR L x n w e w' := by
  have CL := Lib.hid (cclone_any a n c L w HS.out hnil hn)
  have HL : L.length = n * 9 := by have := HS.out.1; rwa [ints_len] at this
  by_cases hin : 0 ≤ x ∧ x < n
  · obtain ⟨i, rfl⟩ : ∃ i : Nat, x = i := ⟨x.toNat, by omega⟩
    obtain ⟨m, rfl⟩ : ∃ m, n = m + 1 := ⟨n - 1, by omega⟩
    have hi1 : (i : Int) < (m : Int) + 1 := by omega
    have hi0 : (0 : Int) ≤ i := by omega
    obtain ⟨e1, e2⟩ := withTo_at (L := L) (i := i) (n := m + 1) (by omega)
    have E1 : Hid (withTo L (i : Int) (m + 1) = L.take (i * 9) ++ L.drop ((i + 1) * 9)) := Lib.hid (by
      rw [e1]
      congr 1
      refine List.take_of_length_le ?_
      rw [List.length_drop, HL, ← Nat.sub_mul]
      exact Nat.le_refl _)
    have E2 : Hid (cntTo7 (i : Int) (m + 1) = m) := Lib.hid e2
    have DC := Lib.hid (fun S g c2 w2 (A : Hid (Blk w2 g (ints L ++ S) 36)) h1 h2 h3 => del_any L S g c2 m i w2 A HL (by omega) (by omega) h1 h2 h3)
    have hm1 : (m : Int) + 1 ≤ 1000 := by omega
    clear e1 e2 hin hx hnil HS HL
    go_enter Try.func24, Try.ntmps24
    go_wp2_with fail
    refine CL.out.mono ?_
    rintro e w2 ⟨v, rfl, hown, hb⟩
    have HB := Lib.hid hb
    rcases hown.2 with ⟨he, hxs⟩ | ⟨g, c2, cur, rfl, hbg, hB2, hnc2, hcm2, hsz2, htk2⟩
    · exact absurd hxs (by omega)
    obtain ⟨T, hB9, hlT⟩ := own_at hown
    have D2 := Lib.hid (DC.out T g c2 w2 (Lib.hid hB9) hnc2 hcm2 (Lib.hid hlT))
    have HG := Lib.hid hbg
    have H2 := Lib.hid hnc2
    clear hown hb hB2 hsz2 htk2 hB9 hlT DC CL hbg hnc2 hcm2
    go_wp2_with fail
    refine D2.out.mono ?_
    rintro e w3 ⟨rfl, hO, hS3⟩
    have HB3 := Lib.hid (HB.out.trans (hO.toBelow (fun k hk => hk ▸ HG.out) HB.out.size))
    have HS3 := Lib.hid hS3
    clear hO hS3 D2
    go_wp2_with fail
    go_ret
    exact ⟨_, rfl, ⟨_, c2, by rw [E2.out]; rfl, by rw [E2.out, E1.out]; exact HS3.out, (fun h => by cases h), by rw [E2.out]; have := H2.out; omega⟩, HB3.out⟩
  · obtain ⟨e1, e2⟩ := withTo_none (L := L) (n := n) (x := x) fun j hj e => hin (by omega)
    have E1 : Hid (withTo L x n = L) := Lib.hid (by rw [e1]; exact List.take_of_length_le (by omega))
    have E2 : Hid (cntTo7 x n = n) := Lib.hid e2
    clear e1 e2 hnil HS HL hx
    by_cases hx0 : x < 0
    · clear hin
      go_enter Try.func24, Try.ntmps24
      go_wp2_with fail
      refine CL.out.mono ?_
      rintro e w2 ⟨v, rfl, hown, hb⟩
      have HB := Lib.hid hb
      have HO := Lib.hid (own_slR hown)
      clear hown hb CL
      go_wp2_with fail
      go_ret
      exact ⟨_, rfl, by rw [E2.out, E1.out]; exact HO.out, HB.out⟩
    · have hxn : (n : Int) ≤ x := by omega
      clear hin
      go_enter Try.func24, Try.ntmps24
      go_wp2_with fail
      refine CL.out.mono ?_
      rintro e w2 ⟨v, rfl, hown, hb⟩
      have HB := Lib.hid hb
      have HO := Lib.hid (own_slR hown)
      clear hown hb CL
      go_wp2_with fail
      go_ret
      exact ⟨_, rfl, by rw [E2.out, E1.out]; exact HO.out, HB.out⟩
end Go.Proofs.Ytcfipimhpeblbaa
