/- Steps and their octets: there and back. -/
import Derived.Test.YteijahcbfncebaaDoorCode23
import Derived.Deep.DeepCutAuto
import Derived.Deep.LoopGhost
import Derived.RegionTactic
import Derived.BigRegion
import Derived.ChangeAlike
namespace Go.Proofs.YteijahcbfncebaaDoor
set_option linter.unusedVariables false
set_option linter.unusedSimpArgs false
open Go.ChangeShapes Go.WideShapes Go.ChangeAt Go.RowKit
theorem encX_list (k r i n i1 i2 t ck a b cn p q : Int) : encX [k, r, i, n, i1, i2, t, ck, a, b, cn, p, q] = encS k r i n ck a b cn p q := rfl
theorem chkX_list (k r i n i1 i2 t ck a b cn p q : Int) : chkX [k, r, i, n, i1, i2, t, ck, a, b, cn, p, q] = chkS k r i n i1 i2 t ck a b cn p q := rfl
theorem enc_decS {x : List UInt8} (h : x.length = 21) : encX (decS x) = x := by
  obtain ⟨k, r, i, n, ck, a, b, cn, p, q, hd, he, _⟩ := decS_parts h
  rw [hd, encX_list, he]
theorem dec_encX {x : List Int} (hx : x.length = 13) (hf : ∀ z ∈ x, fits z = true) (hc : chkX x = 0) : decS (encX x) = x := by
  obtain ⟨k, r, i, n, i1, i2, t, ck, a, b, cn, p, q, rfl⟩ := row13 hx
  obtain ⟨zk, zo, zn, zq, e1, e2, e3⟩ := chk_zero hf hc
  rw [encX_list, dec_encS ⟨by omega, by omega⟩ zo zn zq (hf cn (by simp)), e1, e2, e3]
theorem decXs_len (bs : List UInt8) : ∀ k, (decXs bs k).length = k * 13
  | 0 => rfl
  | k + 1 => by rw [decXs, List.length_append, decXs_len bs k, decS_len]; omega
theorem rAt_decXs (bs : List UInt8) : ∀ k i, i < k → rAt 13 (decXs bs k) i = decS (segS bs i)
  | 0, i, h => absurd h (Nat.not_lt_zero _)
  | k + 1, i, h => by
    rw [decXs]
    by_cases e : i = k
    · subst e; exact rAt_app_hi (decXs_len bs i) (decS_len _)
    · rw [rAt_app_lo (decXs_len bs k) (by omega), rAt_decXs bs k i (by omega)]
theorem encXs_decXs {bs : List UInt8} {k : Nat} (hl : bs.length = 21 * k) : ∀ m, m ≤ k → encXs (decXs bs k) m = bs.take (21 * m)
  | 0, _ => by simp [encXs]
  | m + 1, h => by
    rw [encXs, encXs_decXs hl m (by omega), rAt_decXs bs k m (by omega), enc_decS (segS_len hl (by omega)), show 21 * (m + 1) = 21 * m + 21 by omega, List.take_add]
    rfl
theorem list_back31 {bs : List UInt8} {k : Nat} (hl : bs.length = 21 * k) : encXs (decXs bs k) k = bs := by
  rw [encXs_decXs hl k (Nat.le_refl _), List.take_of_length_le (by omega)]
theorem segS_enc (L : List Int) : ∀ n i, i < n → segS (encXs L n) i = encX (rAt 13 L i)
  | 0, i, h => absurd h (Nat.not_lt_zero _)
  | n + 1, i, h => by
    unfold segS
    rw [encXs]
    by_cases e : i = n
    · subst e
      rw [← encXs_len L i, List.drop_left, List.take_of_length_le (by rw [encX_len]; omega)]
    · rw [List.drop_append_of_le_length (by rw [encXs_len]; omega), List.take_append_of_le_length (by rw [List.length_drop, encXs_len]; omega)]
      exact segS_enc L n i (by omega)
theorem decXs_enc {L : List Int} {n : Nat} (hl : L.length = n * 13) (hf : ∀ z ∈ L, fits z = true) (hm : ∀ i, i < n → chkX (rAt 13 L i) = 0) : ∀ m, m ≤ n → decXs (encXs L n) m = L.take (m * 13)
  | 0, _ => by simp [decXs]
  | m + 1, h => by
    rw [decXs, decXs_enc hl hf hm m (by omega), segS_enc L n m (by omega), dec_encX (rAt_len hl (by omega)) (fun z hz => hf z (rAt_mem hz)) (hm m (by omega)), take_row]
theorem decXs_fits {bs : List UInt8} {k : Nat} (hl : bs.length = 21 * k) : ∀ m, m ≤ k → ∀ z ∈ decXs bs m, fits z = true
  | 0, _ => fun z hz => by cases hz
  | m + 1, h => fun z hz => by
    rw [decXs] at hz
    rcases List.mem_append.1 hz with hz | hz
    · exact decXs_fits hl m (by omega) z hz
    · exact decS_fits (segS_len hl (by omega)) z hz
theorem few31_any (a : Option Addr) (n c : Nat) (w : World) (hn : n ≤ c) : Calls Tryd.prog 14 #[.slice a n c] w fun e w' => e = .returned (.slice a (min n 300) c) ∧ w' = w := by
  go_enter Tryd.func14, Tryd.ntmps14
  by_cases h : 300 < n
  · have h' : (300 : Int) < n := by omega
    have hc : 300 ≤ c := by omega
    rw [show min n 300 = 300 by omega]
    go_wp2_with fail
    go_ret
    exact ⟨rfl, rfl⟩
  · have h' : (n : Int) ≤ 300 := by omega
    rw [show min n 300 = n by omega]
    go_wp2_with fail
    go_ret
    exact ⟨rfl, rfl⟩
/-- steps back from their octets. -/
theorem steps_full (a : Option Addr) (n c : Nat) (L : List Int) (w : World) (hl : L.length = n * 13) (hn : n ≤ 256) (hf : ∀ z ∈ L, fits z = true) (hT : TabF w) (hm : ∀ i, i < n → chkX (rAt 13 L i) = 0) (h : Sl w a (21 * n) 1 (bcells (encXs L n))) (hc : 21 * n ≤ c ∧ c ≤ 9223372036854775807) :
    Calls Tryd.prog 16 #[.slice a (21 * n) c] w fun e w' => ∃ xb xc, e = .returned (.tuple #[.slice xb n xc, .int .i64 0]) ∧ Sl w' xb n 13 (ints L) ∧ Below w.heap.size w w' := by
  refine (steps_yes a (21 * n) c n _ w h hT hc.1 hc.2 hn rfl (fun i hi => ?_)).mono ?_
  · rw [segS_enc L n i hi, dec_encX (rAt_len hl hi) (fun z hz => hf z (rAt_mem hz)) (hm i hi)]
    exact hm i hi
  · rintro e w' ⟨v, rfl, ho, hb⟩
    rw [decXs_enc hl hf hm n (Nat.le_refl _), List.take_of_length_le (by omega)] at ho
    obtain ⟨xb, xc, rfl, _, _, hs⟩ := Sl.own ho
    exact ⟨xb, xc, rfl, hs, hb⟩
theorem steps_same (a a2 : Option Addr) (n c c2 : Nat) (L : List Int) (w : World) (hs : Sl w a n 13 (ints L)) (hs2 : Sl w a2 n 13 (ints L)) (hn : n ≤ 1000) (hf : ∀ z ∈ L, fits z = true) :
    Calls Tryd.prog 17 #[.slice a n c, .slice a2 n c2] w fun e w' => e = .returned (.bool true) ∧ Below w.heap.size w w' := by
  have hl : Hid (L.length = n * 13) := Lib.hid (by have := hs.1; rwa [ints_len] at this)
  have HS := Lib.hid hs
  have HS2 := Lib.hid hs2
  have HF := Lib.hid hf
  clear hs hs2 hf
  go_enter Tryd.func17, Tryd.ntmps17
  go_wp2_with fail
  go_loopg [5] n (fun q s5 wr => ∃ i : Nat, q + i = n ∧ s5 = .int .i64 i ∧ Hid (Below w.heap.size w wr))
  case atStart => exact ⟨0, rfl, rfl, Lib.hid (Below.refl _ _)⟩
  case round =>
    obtain ⟨i, hqi, rfl, hbr⟩ := hrel
    by_cases hi : i < n
    · obtain ⟨b, off, rfl, hb, hra⟩ := rAt_at HS.out hi
      obtain ⟨b', off', rfl, hb', hrb⟩ := rAt_at HS2.out hi
      have hra2 := range_keepG hra hbr.out hb
      have hrb2 := range_keepG hrb hbr.out hb'
      have L13 : Hid ((rAt 13 L i).length = 13) := Lib.hid (rAt_len hl.out hi)
      have NE := Lib.hid (fun w => show (binOp .neq 27 (.agg (ints (rAt 13 L i)).toArray) (.agg (ints (rAt 13 L i)).toArray)).run Tryd.prog w = .ok (.bool false) w from by have := ne_step (x := rAt 13 L i) (y := rAt 13 L i) L13.out L13.out (fun z hz => HF.out z (rAt_mem hz)) (fun z hz => HF.out z (rAt_mem hz)) w; rwa [sameB_refl] at this)
      have TX : RowT 27 (ints (rAt 13 L i)).length := by rw [ints_len, L13.out]; exact rowS
      have gS : Tryd.prog.eqGuardType Tryd.prog.depth 27 = false := by kernel_rfl
      clear hra hrb
      have hi0 : (0 : Int) ≤ i := by omega
      have hin : (i : Int) < n := by omega
      generalize rAt 13 L i = x at *
      go_upto_region 6 with fail
      refine wp_region_still_lit (by kernel_rfl) (by kernel_rfl) ?_
      have hra' : wr.drew.rangeAt b (off + i * 13) (ints x) := hra2
      have hrb' : wr.drew.rangeAt b' (off' + i * 13) (ints x) := hrb2
      have hbr' := Lib.hid hbr.out.drew
      change wpStill _ _ (World.drew wr) (fun a' => Exit.then _ _ _ a' (World.drew wr)) _ _
      clear hra2 hrb2 hbr
      generalize wr.drew = wr at *
      repeat (first
        | ((with_reducible refine lds_rowG hra' TX ?_ ?_ ?_); (· rfl); (· rfl); (simp only [Act.put, List.setIfInBounds_toArray, List.set_cons_zero, List.set_cons_succ]))
        | ((with_reducible refine lds_rowG hrb' TX ?_ ?_ ?_); (· rfl); (· rfl); (simp only [Act.put, List.setIfInBounds_toArray, List.set_cons_zero, List.set_cons_succ]))
        | ((with_reducible refine cmps_rowG gS NE.out ?_ ?_ ?_ ?_); (· rfl); (· rfl); (· rfl); (simp only [Act.put, List.setIfInBounds_toArray, List.set_cons_zero, List.set_cons_succ]))
        | still_step)
      refine wpStill_nil ?_
      go_wp2_with fail
      go_roundg (gk - 1)
      case measure => omega
      case rel => exact ⟨i + 1, by omega, by go_num, hbr'⟩
    · have hi4 : (n : Int) ≤ i := by omega
      go_wp2_with fail
      go_ret
      exact ⟨rfl, hbr.out⟩
end Go.Proofs.YteijahcbfncebaaDoor
