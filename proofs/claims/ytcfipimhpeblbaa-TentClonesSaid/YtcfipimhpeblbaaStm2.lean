/- Lists of changes: a copy; the order of two, by the page. -/
import Derived.Test.YtcfipimhpeblbaaStm
import Derived.Test.YtcfipimhpeblbaaApp
import Derived.Test.YtcfipimhpeblbaaOnly
import Derived.Deep.DeepCutAuto
import Derived.Maps.AppendAt
import Derived.Test.YtcfipimhpeblbaaRow
import Derived.Test.YtcfipimhpeblbaaOps
import Derived.RegionTactic
import Derived.BigRegion
import Derived.ChangeAlike
namespace Go.Proofs.Ytcfipimhpeblbaa
set_option linter.unusedVariables false
set_option linter.unusedSimpArgs false
open Go.ChangeShapes Go.WideShapes Go.ChangeAt Go.RowKit
theorem rowChg : RowT 36 9 := ⟨⟨_, Try.underlying36, rfl⟩, by kernel_rfl⟩
theorem chg_infoP : (Try.prog.info? 36).map (fun i => (i.zero, i.size, i.bytes)) = some (some (.agg #[.int .i64 0, .int .i64 0, .int .i64 0, .int .i64 0, .int .i64 0, .int .i64 0, .int .i64 0, .int .i64 0, .int .i64 0]), 9, 72) := by kernel_rfl
theorem info_partsP {e : TypeId} {z : Option Value} {s b : Nat} (h : (Try.prog.info? e).map (fun i => (i.zero, i.size, i.bytes)) = some (z, s, b)) : ∃ i, Try.prog.info? e = some i ∧ i.zero = z ∧ i.size = s ∧ i.bytes = b := by
  cases hh : Try.prog.info? e with
  | none => rw [hh] at h; cases h
  | some i => rw [hh] at h; injection h with h; injection h with h1 h2; injection h2 with h2 h3; exact ⟨i, rfl, h1, h2, h3⟩
theorem slCells {w : World} {ad : Addr} {n sz : Nat} {xs : List Value} (h : Sl w (some ad) n sz xs) (h0 : 0 < sz) : ∀ j u, xs[j]? = some u → w.cell? (ad.add j) = some u := fun j u hu => by
  have hj : j < xs.length := by
    rcases Nat.lt_or_ge j xs.length with hh | hh
    · exact hh
    · rw [List.getElem?_eq_none hh] at hu; cases hu
  rcases h.2 with h0 | ⟨b, off, hh, hb, hc⟩
  · subst h0; rw [h.1] at hj; omega
  · obtain rfl := Option.some.inj hh
    rw [add_plain]
    refine (hc j (by rw [← h.1]; exact hj)).trans ?_
    rw [List.getD_eq_getElem?_getD, hu]; rfl
theorem cclone_any (a : Option Addr) (n c : Nat) (L : List Int) (w : World) (h : Sl w a n 9 (ints L)) (hnil : a = none → c = 0) (hn : n ≤ 1000) :
    Calls Try.prog 22 #[.slice a n c] w fun e w' => ∃ v, e = .returned v ∧ w'.ownsRow w.heap.size 36 9 v n (ints L) ∧ Below w.heap.size w w' := by
  have q := fun (w : World) (a : Option Addr) (n c : Nat) => Lib.run_eql_slice_nil (P := Try.prog) w 24 36 a n c 0 0 Try.underlying24
  obtain ⟨i0, hi, hz0, hz1, hz2⟩ := info_partsP chg_infoP
  cases a with
  | none =>
    obtain rfl := hnil rfl
    have hm : n = 0 := by rcases h.2 with h0 | ⟨b, off, hh, _⟩; exact h0; cases hh
    subst hm
    have hL : ints L = [] := List.eq_nil_of_length_eq_zero (by rw [h.1])
    rw [hL]
    clear h
    go_enter Try.func22, Try.ntmps22
    go_wp2
    go_ret
    exact ⟨_, rfl, World.ownsRow_nil _ _ _ _, Below.refl _ _⟩
  | some ad =>
    have hcells := Lib.hid (slCells h (by decide))
    have hlen := Lib.hid h.1
    have HO := Lib.hid (fun u (hu : u ∈ ints L) => ints_one hu)
    clear h hnil
    go_enter Try.func22, Try.ntmps22
    have hnews : ∀ o : Obj, ∀ j u, (ints L)[j]? = some u → (w.alloc o).cell? (ad.add j) = some u := fun o j u hu =>
      ((Below.refl w.heap.size w).alloc (Nat.le_refl _) o).cell (block_lt_of_cell (hcells.out j u hu)) |>.trans (hcells.out j u hu)
    have HN := Lib.hid hnews
    clear hnews
    go_wp2_with (at_builtin; refine wpList_append_own _ rfl _ _ 24 rfl w.heap.size 36 i0 (.agg #[.int .i64 0, .int .i64 0, .int .i64 0, .int .i64 0, .int .i64 0, .int .i64 0, .int .i64 0, .int .i64 0, .int .i64 0]) 9 72 Try.underlying24 hi hz0 hz1 hz2 rfl (by decide) _ 0 [] rfl (World.ownsRow_made w #[] 0 (Nat.le_refl _) (by decide) rfl) ad n c (ints L) rfl hlen.out (HN.out _) HO.out ?c1 ?c2 (by simp) ?_)
    case c1 => simp only [maxLen]; omega
    case c2 => omega
    intro v' w1 hown hgr hnil
    have HOW := Lib.hid hown
    have HG := Lib.hid hgr
    clear hown hgr hnil
    go_wp2
    go_ret
    refine ⟨_, rfl, by simpa using HOW.out, ((Below.refl _ _).alloc (Nat.le_refl _) _).grown HG.out (by simp) fun k hk => ?_⟩
    simp only [Value.ownBlock, Option.some.injEq] at hk
    omega
theorem cmpIneg (x y : Int) : cmpI x y < 0 ↔ x < y := by unfold cmpI; split <;> (try split) <;> omega
theorem cmpIzero (x y : Int) : cmpI x y = 0 ↔ x = y := by unfold cmpI; split <;> (try split) <;> omega
theorem cmpCneg (c d : List Int) : cmpC c d < 0 ↔ c.getD 2 0 < d.getD 2 0 ∨ (c.getD 2 0 = d.getD 2 0 ∧ (c.getD 0 0 < d.getD 0 0 ∨ (c.getD 0 0 = d.getD 0 0 ∧ c.getD 1 0 < d.getD 1 0))) := by
  unfold cmpC firstNZ firstNZ firstNZ firstNZ
  have h1 := cmpIneg (c.getD 2 0) (d.getD 2 0)
  have h2 := cmpIzero (c.getD 2 0) (d.getD 2 0)
  have h3 := cmpIneg (c.getD 0 0) (d.getD 0 0)
  have h4 := cmpIzero (c.getD 0 0) (d.getD 0 0)
  have h5 := cmpIneg (c.getD 1 0) (d.getD 1 0)
  have h6 := cmpIzero (c.getD 1 0) (d.getD 1 0)
  split <;> (try split) <;> (try split) <;> omega
theorem less9 (p q t k a b n r s p2 q2 t2 k2 a2 b2 n2 r2 s2 : Int) : cmpC [p, q, t, k, a, b, n, r, s] [p2, q2, t2, k2, a2, b2, n2, r2, s2] < 0 ↔ t < t2 ∨ (t = t2 ∧ (p < p2 ∨ (p = p2 ∧ q < q2))) := cmpCneg [p, q, t, k, a, b, n, r, s] [p2, q2, t2, k2, a2, b2, n2, r2, s2]
set_option maxHeartbeats 4000000 in
theorem rsless_any (p q t k a b n r s p2 q2 t2 k2 a2 b2 n2 r2 s2 : Int) (w : World) : Calls Try.prog 39 #[.agg #[.int .i64 p, .int .i64 q, .int .i64 t, .int .i64 k, .int .i64 a, .int .i64 b, .int .i64 n, .int .i64 r, .int .i64 s], .agg #[.int .i64 p2, .int .i64 q2, .int .i64 t2, .int .i64 k2, .int .i64 a2, .int .i64 b2, .int .i64 n2, .int .i64 r2, .int .i64 s2]] w fun e w' => e = .returned (.bool (lessC [p, q, t, k, a, b, n, r, s] [p2, q2, t2, k2, a2, b2, n2, r2, s2])) ∧ Below w.heap.size w w' := by
  have HB := Lib.hid (((Below.refl w.heap.size w).alloc (Nat.le_refl _) (.cells #[.int .i64 p, .int .i64 q, .int .i64 t, .int .i64 k, .int .i64 a, .int .i64 b, .int .i64 n, .int .i64 r, .int .i64 s] 36)).alloc (by simp) (.cells #[.int .i64 p2, .int .i64 q2, .int .i64 t2, .int .i64 k2, .int .i64 a2, .int .i64 b2, .int .i64 n2, .int .i64 r2, .int .i64 s2] 36))
  have hc := less9 p q t k a b n r s p2 q2 t2 k2 a2 b2 n2 r2 s2
  by_cases h1 : t = t2
  · have h1b : (t != t2) = false := by simpa using h1
    by_cases h2 : p = p2
    · have h2b : (p != p2) = false := by simpa using h2
      have HRV : Hid (lessC [p, q, t, k, a, b, n, r, s] [p2, q2, t2, k2, a2, b2, n2, r2, s2] = decide (q < q2)) := Lib.hid (by unfold lessC; rw [decide_eq_decide]; omega)
      clear hc h1 h2
      go_enter Try.func39, Try.ntmps39
      go_wp2_with fail
      go_ret
      exact ⟨by rw [HRV.out]; first | rfl | simp | (simp; omega), HB.out⟩
    · have h2b : (p != p2) = true := by simpa using h2
      have HRV : Hid (lessC [p, q, t, k, a, b, n, r, s] [p2, q2, t2, k2, a2, b2, n2, r2, s2] = decide (p < p2)) := Lib.hid (by unfold lessC; rw [decide_eq_decide]; omega)
      clear hc h1 h2
      go_enter Try.func39, Try.ntmps39
      go_wp2_with fail
      go_ret
      exact ⟨by rw [HRV.out]; first | rfl | simp | (simp; omega), HB.out⟩
  · have h1b : (t != t2) = true := by simpa using h1
    have HRV : Hid (lessC [p, q, t, k, a, b, n, r, s] [p2, q2, t2, k2, a2, b2, n2, r2, s2] = decide (t < t2)) := Lib.hid (by unfold lessC; rw [decide_eq_decide]; omega)
    clear hc h1
    go_enter Try.func39, Try.ntmps39
    go_wp2_with fail
    go_ret
    exact ⟨by rw [HRV.out]; first | rfl | simp | (simp; omega), HB.out⟩
theorem rsless (c d : List Int) (hc : c.length = 9) (hd : d.length = 9) (w : World) : Calls Try.prog 39 #[.agg (ints c).toArray, .agg (ints d).toArray] w fun e w' => e = .returned (.bool (lessC c d)) ∧ Below w.heap.size w w' := by
  obtain ⟨p, q, t, k, a, b, n, r, s, rfl⟩ := nine hc
  obtain ⟨p2, q2, t2, k2, a2, b2, n2, r2, s2, rfl⟩ := nine hd
  exact rsless_any p q t k a b n r s p2 q2 t2 k2 a2 b2 n2 r2 s2 w
end Go.Proofs.Ytcfipimhpeblbaa
