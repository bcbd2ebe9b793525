/- The reference's Put, four octets wide or two. -/
import Derived.Test.YteebmpbplenikaaDoorLaw02c
import Derived.Deep.DeepCutAuto
import Derived.Deep.LoopGhost
import Derived.Laws.AppendOwnNone
namespace Go.Proofs.YteebmpbplenikaaDoor
set_option linter.unusedVariables false
set_option linter.unusedSimpArgs false
open Go.ChangeShapes Go.WideShapes Go.ChangeAt Go.RowKit
theorem beOf_byte2 (m i : Nat) : [Value.int .u8 (((m / 256 ^ i : Nat) : Int) % 256)] = bcells [UInt8.ofNat (m / 256 ^ i % 256)] := by
  have h : (UInt8.ofNat (m / 256 ^ i % 256)).toNat = m / 256 ^ i % 256 := by
    rw [UInt8.toNat_ofNat']; omega
  simp only [bcells, List.map_cons, List.map_nil, h]
  congr 2
theorem rput_ok (a : Option Addr) (n c : Nat) (bs : List UInt8) (m k : Nat) (w : World) (h : Sl w a n 1 (bcells bs)) (hn : n + 8 ≤ 140737488355328) (hk1 : 1 ≤ k) (hk8 : k ≤ 8) (hm : m < 18446744073709551616) :
    Calls Tryd.prog 28 #[.slice a n c, .int .u64 m, .int .i64 k] w fun e w' => ∃ v, e = .returned v ∧ w'.ownsRow w.heap.size 5 1 v (n + k) (bcells (bs ++ beOf m k)) ∧ Below w.heap.size w w' := by
  obtain ⟨i0, hi, hz0, hz1, hz2⟩ := info_parts info_byte
  have hw1 : (1 : Int) ≤ k := by omega
  have hw2 : (k : Int) ≤ 8 := by omega
  have H := Lib.hid h
  clear h
  go_enter Tryd.func28, Tryd.ntmps28
  go_upto_region 2 with fail
  go_cut [7] (fun s wx => wx.ownsRow w.heap.size 5 1 s n (bcells bs) ∧ Below w.heap.size w wx)
  case first =>
    cases a with
    | none =>
      obtain ⟨rfl, hx⟩ := H.out.nil_
      have hbs : bs = [] := by simpa [bcells] using hx
      subst hbs
      go_wp2_with fail
      go_meet
      exact ⟨⟨rfl, Or.inl ⟨rfl, rfl⟩⟩, Below.refl _ _⟩
    | some ad =>
      have hlen := Lib.hid H.out.1
      have HN := Lib.hid (fun j u hu => H.out.cells j u hu)
      have HO := Lib.hid (show ∀ u ∈ bcells bs, u.oneCell' = true from fun u hu => bcells_one hu)
      have hnil0 : w.ownsRow w.heap.size 5 1 (.slice none 0 0) 0 [] := ⟨rfl, Or.inl ⟨rfl, rfl⟩⟩
      go_wp2_with (at_builtin; refine wpList_append_own _ rfl _ _ 26 rfl w.heap.size 5 i0 (.int .u8 0) 1 1 Tryd.underlying26 hi hz0 hz1 hz2 rfl (by decide) _ 0 [] rfl hnil0 ad n c (bcells bs) rfl hlen.out HN.out HO.out ?c1 ?c2 (by simp) ?_)
      case c1 => simp only [maxLen]; omega
      case c2 => omega
      intro v' w2 hown hgr hnil
      obtain ⟨va, vc, rfl, _⟩ := Sl.own hown
      have HOW := Lib.hid hown
      have HG := Lib.hid ((Below.refl w.heap.size w).grown hgr (Nat.le_refl _) (by intro k hk; simp [Value.ownBlock] at hk))
      clear hown hgr hnil
      go_wp2_with fail
      go_meet
      exact ⟨by simpa using HOW.out, HG.out⟩
  case rest =>
    obtain ⟨ho1, hb1⟩ := hcut
    obtain ⟨va, vc, rfl, _⟩ := Sl.own ho1
    have HO1 := Lib.hid ho1
    have HB1 := Lib.hid hb1
    clear ho1 hb1
    go_wp2_with fail
    go_loopg [7, 8] k (fun q s7 s8 wr => ∃ j : Nat, q = j ∧ j ≤ k ∧ s8 = .int .i64 ((j : Int) - 1) ∧ Hid (wr.ownsRow w.heap.size 5 1 s7 (n + (k - j)) (bcells (bs ++ (beOf m k).take (k - j)))) ∧ Hid (Below w.heap.size w wr))
    case atStart => exact ⟨k, rfl, Nat.le_refl _, by go_num, by simpa using HO1, HB1⟩
    case round =>
      obtain ⟨j, hqj, hj, rfl, HO2, HB2⟩ := hrel
      obtain ⟨va2, vc2, rfl, _⟩ := Sl.own HO2.out
      cases j with
      | zero =>
        have HO3 := Lib.hid (show wr.ownsRow w.heap.size 5 1 (.slice va2 (n + (k - 0)) vc2) (n + k) (bcells (bs ++ beOf m k)) by
          have := HO2.out
          rw [List.take_of_length_le (by rw [beOf_len]; omega)] at this; exact this)
        have e1 : (((0 : Nat) : Int) - 1) = -1 := by omega
        rw [e1]
        clear HO1 HO2
        go_wp2_with fail
        go_ret
        exact ⟨_, rfl, HO3.out, HB2.out⟩
      | succ i =>
        have e1 : (((i + 1 : Nat) : Int) - 1) = (i : Int) := by omega
        rw [e1]
        clear e1
        have hi8 : i ≤ 7 := by omega
        have hi0 : (0 : Int) ≤ i := by omega
        have HT := Lib.hid (beOf_take m k i hj)
        have HX := Lib.hid (beOf_byte2 m i)
        obtain ⟨G, hG⟩ : ∃ G, G = gk := ⟨_, rfl⟩
        clear HO1 HB1
        go_wp2_with fail
        go_loopg [9, 10] i (fun q s9 s10 wr2 => ∃ t : Nat, q + t = i ∧ s9 = .int .u64 (m / 256 ^ t : Nat) ∧ s10 = .int .i64 t ∧ wr = wr2)
        case atStart => exact ⟨0, rfl, by simp, rfl, rfl⟩
        case round =>
          obtain ⟨t, hqt, rfl, rfl, rfl⟩ := hrel
          by_cases ht : t < i
          · have hdiv : m / 256 ^ (t + 1) = m / 256 ^ t / 256 := by rw [Nat.pow_succ, Nat.div_div_eq_div_mul]
            have hdm := Nat.div_le_self m (256 ^ t)
            generalize hd : m / 256 ^ t = d at *
            go_wp2_with fail
            go_roundg (gk - 1)
            case measure => omega
            case rel =>
              refine ⟨t + 1, by omega, ?_, by go_num, rfl⟩
              rw [hdiv]
              go_num
          · obtain rfl : t = i := by omega
            generalize hd : m / 256 ^ t = d at *
            have HO3 := Lib.hid (HO2.out.alloc (.cells #[.int .u8 ((d : Int) % 256)] 5))
            have hsz2 := HB2.out.size
            clear HO2
            go_wp2_with (at_builtin; refine wpList_append_own _ rfl _ _ 26 rfl w.heap.size 5 i0 (.int .u8 0) 1 1 Tryd.underlying26 hi hz0 hz1 hz2 rfl (by decide) _ _ _ rfl HO3.out ⟨wr.heap.size, 0, none⟩ 1 1 [.int .u8 ((d : Int) % 256)] rfl (by simp) (cell_new1 _ _ _) (by simp [Value.oneCell']) ?c1 ?c2 ?c3 ?_)
            case c1 => simp only [maxLen]; omega
            case c2 => omega
            case c3 => simp; omega
            intro v' w2 hown hgr hnil
            obtain ⟨va3, vc3, rfl, _⟩ := Sl.own hown
            have HO := Lib.hid hown
            have HG := Lib.hid (Below.grown (HB2.out.alloc hsz2 _) hgr (by simp; omega) fun g hg => (HO3.out.lt g hg).1)
            clear hown hgr hnil HB2 HO3
            go_wp2_with fail
            go_roundg (G - 1)
            case measure => omega
            case rel =>
              refine ⟨t, by omega, by omega, rfl, ?_, HG⟩
              have := HO.out
              rw [HX.out, ← bcells_snoc, List.append_assoc, ← HT.out] at this
              have e : n + (k - (t + 1)) + 1 = n + (k - t) := by omega
              rw [e] at this ⊢
              exact this
end Go.Proofs.YteebmpbplenikaaDoor
