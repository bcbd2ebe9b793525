/- The reference's Parse of a name. -/
import Derived.Test.YtbdonjapcpfgiaaDoorPp8
import Derived.Test.YtbdonjapcpfgiaaDoorPar6c
import Derived.Deep.DeepCutAuto
import Derived.Maps.AppendAt
import Derived.Test.YtbdonjapcpfgiaaDoorRow
import Derived.Test.YtbdonjapcpfgiaaDoorOps
import Derived.RegionTactic
import Derived.BigRegion
import Derived.ChangeAlike
namespace Go.Proofs.YtbdonjapcpfgiaaDoor
set_option linter.unusedVariables false
set_option linter.unusedSimpArgs false
open Go.ChangeShapes Go.WideShapes Go.ChangeAt Go.RowKit
def PQ (s : ByteArray) (p q : Int) (ok : Bool) : Prop := (ok = true → mayId p q = true ∧ s = idB p q) ∧ (ok = false → p = 0 ∧ q = 0 ∧ ∀ p q, mayId p q = true → idB p q ≠ s)
def PQE (s : ByteArray) (e : Ending) : Prop := ∃ p q ok, e = .returned (.tuple #[.agg #[.int .i64 p, .int .i64 q], .bool ok]) ∧ PQ s p q ok
theorem dots {s : ByteArray} {i : Nat} (hi : i < s.size) (hc : (s[i]).toNat = 46) (hn : ∀ b ∈ s.data.toList.take i, b ≠ 46) (p q : Int) : idB p q = s ↔ s.extract 0 i = itB p ∧ s.extract (i + 1) s.size = itB q := by
  have hl : s.data.toList.length = s.size := Array.length_toList
  have e0 : s.data.toList = s.data.toList.take i ++ 46 :: s.data.toList.drop (i + 1) := by
    have h1 : s.data.toList.drop i = s.data.toList[i]'(by omega) :: s.data.toList.drop (i + 1) := (List.getElem_cons_drop (by omega)).symm
    rw [at_list hi, UInt8.toNat_inj.1 (show (s[i]).toNat = (46 : UInt8).toNat from hc)] at h1
    rw [← h1, List.take_append_drop]
  have e1 : (s.extract 0 i).data.toList = s.data.toList.take i := by rw [ByteArray.data_extract]; simp
  have e2 : (s.extract (i + 1) s.size).data.toList = s.data.toList.drop (i + 1) := by
    rw [ByteArray.data_extract]
    simp
    rw [List.take_of_length_le (by rw [List.length_drop, hl]; exact Nat.le_refl _)]
  constructor
  · intro h
    have h2 := congrArg (fun b => b.data.toList) h
    simp only [idB_toList] at h2
    rw [e0] at h2
    obtain ⟨a, b⟩ := split_at h2 (itoa_dot p) hn
    refine ⟨?_, ?_⟩ <;> rw [ByteArray.ext_iff] <;> apply Array.toList_inj.1 <;> rw [itB_toList]
    · rw [e1, a]
    · rw [e2, b]
  · rintro ⟨a, b⟩
    rw [ByteArray.ext_iff]
    apply Array.toList_inj.1
    rw [idB_toList, e0, ← itB_toList p, ← itB_toList q, ← a, ← b, e1, e2]
theorem no_dot {s : ByteArray} (h : ∀ b ∈ s.data.toList.take s.size, b ≠ 46) : PQ s 0 0 false := by
  refine ⟨(fun h => by cases h), fun _ => ⟨rfl, rfl, fun p q _ e => ?_⟩⟩
  rw [List.take_of_length_le (by rw [Array.length_toList]; exact Nat.le_refl _), ← e, idB_toList] at h
  exact h 46 (by simp) rfl
theorem may_small {p q : Int} (h : mayId p q = true) : 0 ≤ p ∧ p ≤ 65535 ∧ 0 ≤ q ∧ q ≤ 65535 := by
  obtain ⟨a, b, c, d⟩ := (mayId_iff p q).1 h
  omega
theorem pq_no1 {s s1 s2 : ByteArray} {n1 : Int} (D : ∀ p q, idB p q = s ↔ s1 = itB p ∧ s2 = itB q) (h1 : PP s1 n1 false) : PQ s 0 0 false := by
  refine ⟨(fun h => by cases h), fun _ => ⟨rfl, rfl, fun p q hm e => ?_⟩⟩
  obtain ⟨a, b, c, d⟩ := may_small hm
  have := (h1.2.2 p a b ((D p q).1 e).1).1
  cases this
theorem pq_no2 {s s1 s2 : ByteArray} {n2 : Int} (D : ∀ p q, idB p q = s ↔ s1 = itB p ∧ s2 = itB q) (h2 : PP s2 n2 false) : PQ s 0 0 false := by
  refine ⟨(fun h => by cases h), fun _ => ⟨rfl, rfl, fun p q hm e => ?_⟩⟩
  obtain ⟨a, b, c, d⟩ := may_small hm
  have := (h2.2.2 q c d ((D p q).1 e).2).1
  cases this
theorem pq_no3 {s s1 s2 : ByteArray} {n1 n2 : Int} (D : ∀ p q, idB p q = s ↔ s1 = itB p ∧ s2 = itB q) (h1 : PP s1 n1 true) (h2 : PP s2 n2 true) (hm : mayId n1 n2 = false) : PQ s 0 0 false := by
  refine ⟨(fun h => by cases h), fun _ => ⟨rfl, rfl, fun p q hm2 e => ?_⟩⟩
  obtain ⟨a, b, c, d⟩ := may_small hm2
  obtain ⟨e1, e2⟩ := (D p q).1 e
  rw [(h1.2.2 p a b e1).2, (h2.2.2 q c d e2).2, hm2] at hm
  cases hm
theorem pq_yes {s s1 s2 : ByteArray} {n1 n2 : Int} (D : ∀ p q, idB p q = s ↔ s1 = itB p ∧ s2 = itB q) (h1 : PP s1 n1 true) (h2 : PP s2 n2 true) (hm : mayId n1 n2 = true) : PQ s n1 n2 true := by
  obtain ⟨a, b, c, d⟩ := may_small hm
  exact ⟨fun _ => ⟨hm, ((D n1 n2).2 ⟨h1.2.1 rfl a b, h2.2.1 rfl c d⟩).symm⟩, (fun h => by cases h)⟩
theorem nodots_snoc {s : ByteArray} {i : Nat} (hi : i < s.size) (hc : (s[i]).toNat ≠ 46) (hn : ∀ b ∈ s.data.toList.take i, b ≠ 46) : ∀ b ∈ s.data.toList.take (i + 1), b ≠ 46 := by
  have hl : s.data.toList.length = s.size := Array.length_toList
  intro b hb
  rw [List.take_succ_eq_append_getElem (by omega)] at hb
  rcases List.mem_append.1 hb with hb | hb
  · exact hn b hb
  · rw [List.mem_singleton, at_list hi] at hb
    subst hb
    exact fun e => hc (by rw [e]; rfl)
set_option maxHeartbeats 8000000 in
theorem rparse_any (s : ByteArray) (hs : s.size ≤ 140737488355328) (w : World) : Calls Tryd.prog 18 #[.string s] w fun e w' => PQE s e ∧ Below w.heap.size w w' := by
  have HB := Lib.hid ((Below.refl w.heap.size w).alloc (Nat.le_refl _) (.cells #[.int .i64 0, .int .i64 0] 23))
  have A := Lib.hid (Blk.new w #[.int .i64 0, .int .i64 0] 23)
  have OZ : Hid (∀ u ∈ ints [0, 0], u.oneCell' = true) := Lib.hid fun u hu => ints_one hu
  have TZ : RowT 23 (ints [0, 0]).length := ⟨⟨_, Tryd.underlying23, rfl⟩, by kernel_rfl⟩
  have HLA : ((#[.int .i64 0, .int .i64 0] : Array Value).toList).length = (ints [0, 0]).length := rfl
  go_enter Tryd.func18, Tryd.ntmps18
  go_upto_region 2 with fail
  generalize hg0 : w.heap.size = g0 at *
  have HG0 := Lib.hid hg0
  generalize w.alloc (.cells #[.int .i64 0, .int .i64 0] 23) = w1 at *
  clear hg0
  go_loopg [4] s.size (fun g s4 wr => ∃ (i : Nat), g + i = s.size ∧ s4 = .int .i64 i ∧ Hid (∀ b ∈ s.data.toList.take i, b ≠ 46) ∧ w1 = wr)
  case atStart => exact ⟨0, rfl, rfl, Lib.hid (fun b hb => by simp at hb), rfl⟩
  case round =>
    obtain ⟨i, hqi, rfl, HN, rfl⟩ := hrel
    by_cases hi : i < s.size
    · have hii : (i : Int) < s.size := by omega
      have hi0 : (0 : Int) ≤ i := by omega
      by_cases hc : (s[i]'hi).toNat = 46
      · have hcb : (((s[i]'hi).toNat : Int) != 46) = false := by rw [hc]; rfl
        have hci : ((s[i]'hi).toNat : Int) = 46 := by rw [hc]; rfl
        have DS := Lib.hid (dots hi hc HN.out)
        have z1 : (s.extract 0 i).size ≤ 140737488355328 := by rw [ByteArray.size_extract]; omega
        have z2 : (s.extract (i + 1) s.size).size ≤ 140737488355328 := by rw [ByteArray.size_extract]; omega
        have C1 := Lib.hid (fun w => pp_any (s.extract 0 i) w z1)
        have C2 := Lib.hid (fun w => pp_any (s.extract (i + 1) s.size) w z2)
        clear HN hc z1 z2
        go_wp2_with fail
        refine (C1.out _).mono ?_
        rintro e w2 ⟨⟨p, ok1, rfl, h1⟩, hb⟩
        have H1 := Lib.hid h1
        have HB2 := Lib.hid (HB.out.trans (hb.mono (HG0.out ▸ HB.out.size)))
        have A2 := Lib.hid (A.out.keep hb A.out.lt)
        clear hb HB A C1 h1
        have hii2 : (i : Int) + 1 ≤ s.size := by omega
        go_wp2_with fail
        refine (C2.out _).mono ?_
        rintro e w3 ⟨⟨q, ok2, rfl, h1⟩, hb⟩
        have H2 := Lib.hid h1
        have HB3 := Lib.hid (HB2.out.trans (hb.mono (HG0.out ▸ HB2.out.size)))
        have A3 := Lib.hid (A2.out.keep hb A2.out.lt)
        clear hb HB2 A2 C2 h1
        have D := Lib.hid (Blk.new w3 (ints [p, q]).toArray 23)
        have A5 := Lib.hid (A3.out.alloc (.cells (ints [p, q]).toArray 23))
        have HB5 := Lib.hid (HB3.out.alloc (HG0.out ▸ HB3.out.size) (.cells (ints [p, q]).toArray 23))
        clear HB3 A3
        have TI2 : RowT 23 (ints [p, q]).length := ⟨⟨_, Tryd.underlying23, rfl⟩, by kernel_rfl⟩
        have OX : Hid (∀ u ∈ ints [p, q], u.oneCell' = true) := Lib.hid fun u hu => ints_one hu
        go_upto_region 8 with (first
          | ((with_reducible refine st_row_new (old := #[.int .i64 0, .int .i64 0]) TI2 OX.out ?_ ?_ rfl ?_); (· rfl); (· rfl); (simp only [Act.put, List.setIfInBounds_toArray, List.set_cons_zero, List.set_cons_succ])))
        generalize hg4 : w3.heap.size = g4 at *
        generalize w3.alloc (.cells (ints [p, q]).toArray 23) = w5 at *
        clear hg4
        have rx := D.out.range 0 (ints [p, q]) rfl
        cases ok1
        · have HQ := Lib.hid (pq_no1 DS.out H1.out)
          clear H1 H2 DS
          have A8 := Lib.hid (A5.out.setAll (ints [0, 0]) rfl)
          have HB8 := Lib.hid (below_sets (B := g0) (Nat.le_refl _) (ints [0, 0]) 0 _ HB5.out)
          go_wp2_with (first
            | ((with_reducible refine ld_row rx TI2 ?_ ?_ ?_); (· rfl); (· rfl); (simp only [Act.put, List.setIfInBounds_toArray, List.set_cons_zero, List.set_cons_succ]))
            | ((with_reducible refine st_row A5.out HLA TZ OZ.out ?_ ?_ ?_); (· rfl); (· rfl); (simp only [Act.put, List.setIfInBounds_toArray, List.set_cons_zero, List.set_cons_succ]); (generalize w5.setCells g0 0 (ints [0, 0]) = w8 at *)))
          have hge := HG0.out
          subst hge
          refine ret_cell_tmp (cs := ints [0, 0]) (v := .bool false) (p := 2) (q := 3) rfl rfl rfl A8.out Tryd.underlying23 rfl id_size rfl ?_
          exact ⟨⟨_, _, _, rfl, HQ.out⟩, HB8.out⟩
        · cases ok2
          · have HQ := Lib.hid (pq_no2 DS.out H2.out)
            clear H1 H2 DS
            have A8 := Lib.hid (A5.out.setAll (ints [0, 0]) rfl)
            have HB8 := Lib.hid (below_sets (B := g0) (Nat.le_refl _) (ints [0, 0]) 0 _ HB5.out)
            go_wp2_with (first
              | ((with_reducible refine ld_row rx TI2 ?_ ?_ ?_); (· rfl); (· rfl); (simp only [Act.put, List.setIfInBounds_toArray, List.set_cons_zero, List.set_cons_succ]))
              | ((with_reducible refine st_row A5.out HLA TZ OZ.out ?_ ?_ ?_); (· rfl); (· rfl); (simp only [Act.put, List.setIfInBounds_toArray, List.set_cons_zero, List.set_cons_succ]); (generalize w5.setCells g0 0 (ints [0, 0]) = w8 at *)))
            have hge := HG0.out
            subst hge
            refine ret_cell_tmp (cs := ints [0, 0]) (v := .bool false) (p := 2) (q := 3) rfl rfl rfl A8.out Tryd.underlying23 rfl id_size rfl ?_
            exact ⟨⟨_, _, _, rfl, HQ.out⟩, HB8.out⟩
          · have CM := Lib.hid (fun w => rmay_any p q w)
            cases hm : mayId p q
            · have HQ := Lib.hid (pq_no3 DS.out H1.out H2.out hm)
              rw [hm] at CM
              clear H1 H2 DS hm
              go_wp2_with (first | ((with_reducible refine ld_row rx TI2 ?_ ?_ ?_); (· rfl); (· rfl); (simp only [Act.put, List.setIfInBounds_toArray, List.set_cons_zero, List.set_cons_succ])))
              refine (CM.out _).mono ?_
              rintro e w6 ⟨rfl, hb⟩
              have HB6 := Lib.hid (HB5.out.trans (hb.mono (HG0.out ▸ HB5.out.size)))
              have A6 := Lib.hid (A5.out.keep hb A5.out.lt)
              clear hb HB5 A5 D rx CM
              have A8 := Lib.hid (A6.out.setAll (ints [0, 0]) rfl)
              have HB8 := Lib.hid (below_sets (B := g0) (Nat.le_refl _) (ints [0, 0]) 0 _ HB6.out)
              go_wp2_with (first
                | ((with_reducible refine st_row A6.out HLA TZ OZ.out ?_ ?_ ?_); (· rfl); (· rfl); (simp only [Act.put, List.setIfInBounds_toArray, List.set_cons_zero, List.set_cons_succ]); (generalize w6.setCells g0 0 (ints [0, 0]) = w8 at *)))
              have hge := HG0.out
              subst hge
              refine ret_cell_tmp (cs := ints [0, 0]) (v := .bool false) (p := 2) (q := 3) rfl rfl rfl A8.out Tryd.underlying23 rfl id_size rfl ?_
              exact ⟨⟨_, _, _, rfl, HQ.out⟩, HB8.out⟩
            · have HQ := Lib.hid (pq_yes DS.out H1.out H2.out hm)
              rw [hm] at CM
              clear H1 H2 DS hm
              go_wp2_with (first | ((with_reducible refine ld_row rx TI2 ?_ ?_ ?_); (· rfl); (· rfl); (simp only [Act.put, List.setIfInBounds_toArray, List.set_cons_zero, List.set_cons_succ])))
              refine (CM.out _).mono ?_
              rintro e w6 ⟨rfl, hb⟩
              have HB6 := Lib.hid (HB5.out.trans (hb.mono (HG0.out ▸ HB5.out.size)))
              have A6 := Lib.hid (A5.out.keep hb A5.out.lt)
              have D6 := Lib.hid (D.out.keep hb D.out.lt)
              clear hb HB5 A5 D rx CM
              have rx := D6.out.range 0 (ints [p, q]) rfl
              have A8 := Lib.hid (A6.out.setAll (ints [p, q]) rfl)
              have HB8 := Lib.hid (below_sets (B := g0) (Nat.le_refl _) (ints [p, q]) 0 _ HB6.out)
              have HLB : ((#[.int .i64 0, .int .i64 0] : Array Value).toList).length = (ints [p, q]).length := rfl
              go_wp2_with (first
                | ((with_reducible refine ld_row rx TI2 ?_ ?_ ?_); (· rfl); (· rfl); (simp only [Act.put, List.setIfInBounds_toArray, List.set_cons_zero, List.set_cons_succ]))
                | ((with_reducible refine st_row A6.out HLB TI2 OX.out ?_ ?_ ?_); (· rfl); (· rfl); (simp only [Act.put, List.setIfInBounds_toArray, List.set_cons_zero, List.set_cons_succ]); (generalize w6.setCells g0 0 (ints [p, q]) = w8 at *)))
              have hge := HG0.out
              subst hge
              refine ret_cell_tmp (cs := ints [p, q]) (v := .bool true) (p := 2) (q := 3) rfl rfl rfl A8.out Tryd.underlying23 rfl id_size rfl ?_
              exact ⟨⟨_, _, _, rfl, HQ.out⟩, HB8.out⟩
      · have hcb : (((s[i]'hi).toNat : Int) != 46) = true := by simp; omega
        have HS := Lib.hid (nodots_snoc hi hc HN.out)
        clear hc HN
        go_wp2_with fail
        go_roundg (gk - 1)
        case measure => omega
        case rel => exact ⟨i + 1, by omega, by go_num, HS, rfl⟩
    · have hie : i = s.size := by omega
      subst hie
      have hii : ¬ ((s.size : Nat) : Int) < s.size := by omega
      have HQ := Lib.hid (no_dot HN.out)
      clear hi HN
      have A8 := Lib.hid (A.out.setAll (ints [0, 0]) rfl)
      have HB8 := Lib.hid (below_sets (B := g0) (Nat.le_refl _) (ints [0, 0]) 0 _ HB.out)
      go_wp2_with (first
        | ((with_reducible refine st_row A.out HLA TZ OZ.out ?_ ?_ ?_); (· rfl); (· rfl); (simp only [Act.put, List.setIfInBounds_toArray, List.set_cons_zero, List.set_cons_succ]); (generalize w1.setCells g0 0 (ints [0, 0]) = w8 at *)))
      have hge := HG0.out
      subst hge
      refine ret_cell_tmp (cs := ints [0, 0]) (v := .bool false) (p := 2) (q := 3) rfl rfl rfl A8.out Tryd.underlying23 rfl id_size rfl ?_
      exact ⟨⟨_, _, _, rfl, HQ.out⟩, HB8.out⟩
end Go.Proofs.YtbdonjapcpfgiaaDoor
