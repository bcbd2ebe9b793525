/- A disk: made, read whole, cloned. -/
import Derived.Test.YteebmpbplenikaaDsk3
import Derived.Test.YteebmpbplenikaaRws
import Derived.RegionTactic
import Derived.BigRegion
import Derived.ChangeAlike
import Derived.Laws.IdiomCopy
import Derived.Laws.MakeOwn
import Derived.Deep.LoopGhost
namespace Go.Proofs.Yteebmpbplenikaa
set_option linter.unusedVariables false
set_option linter.unusedSimpArgs false
open Go.ChangeShapes Go.WideShapes Go.ChangeAt Go.RowKit
theorem sec_info : (Try.prog.info? 52).map (fun i => (i.zero, i.size, i.bytes)) = some (some (.agg #[.int .u8 0, .int .u8 0, .int .u8 0, .int .u8 0, .int .u8 0, .int .u8 0, .int .u8 0, .int .u8 0, .int .u8 0, .int .u8 0, .int .u8 0, .int .u8 0, .int .u8 0, .int .u8 0, .int .u8 0, .int .u8 0, .int .u8 0, .int .u8 0, .int .u8 0, .int .u8 0, .int .u8 0, .int .u8 0, .int .u8 0, .int .u8 0, .int .u8 0, .int .u8 0, .int .u8 0, .int .u8 0, .int .u8 0, .int .u8 0, .int .u8 0, .int .u8 0]), 32, 32) := by kernel_rfl
theorem rowSec : RowT 52 32 := ⟨⟨_, Try.underlying52, rfl⟩, by kernel_rfl⟩
theorem byte_info : (Try.prog.info? 5).map (fun i => (i.zero, i.size, i.bytes)) = some (some (.int .u8 0), 1, 1) := by kernel_rfl
/-- a row of our own is a block that begins with what it holds. -/
theorem own_blk {w : World} {B n sz : Nat} {e : TypeId} {v : Value} {xs : List Value} (h : w.ownsRow B e sz v n xs) : ∃ a c, v = .slice a n c ∧ n ≤ c ∧ c ≤ maxLen ∧ xs.length = n * sz ∧ (n = 0 ∧ a = none ∨ ∃ g spare, a = some ⟨g, 0, none⟩ ∧ B ≤ g ∧ Blk w g (xs ++ spare) e) := by
  obtain ⟨h1, h2⟩ := h
  rcases h2 with ⟨rfl, rfl⟩ | ⟨g, cap, cur, rfl, hB, hh, hn, hc, hs, hx⟩
  · exact ⟨none, 0, rfl, Nat.le_refl _, Nat.zero_le _, h1, Or.inl ⟨rfl, rfl⟩⟩
  · refine ⟨_, cap, rfl, hn, hc, h1, Or.inr ⟨g, cur.toList.drop (n * sz), rfl, hB, ?_⟩⟩
    unfold Blk
    rw [hh, ← hx, List.take_append_drop, Array.toArray_toList]
theorem made_zero (n : Nat) : madeCells #[.int .u8 0, .int .u8 0, .int .u8 0, .int .u8 0, .int .u8 0, .int .u8 0, .int .u8 0, .int .u8 0, .int .u8 0, .int .u8 0, .int .u8 0, .int .u8 0, .int .u8 0, .int .u8 0, .int .u8 0, .int .u8 0, .int .u8 0, .int .u8 0, .int .u8 0, .int .u8 0, .int .u8 0, .int .u8 0, .int .u8 0, .int .u8 0, .int .u8 0, .int .u8 0, .int .u8 0, .int .u8 0, .int .u8 0, .int .u8 0, .int .u8 0, .int .u8 0] n = (bcells (List.replicate n 0)).toArray := by
  apply Array.ext
  · simp [madeCells, bcells]
  · intro i h1 h2
    have h3 : i % 32 < 32 := Nat.mod_lt _ (by decide)
    simp only [madeCells, bcells, Array.getElem_map, Array.getElem_range, List.getElem_toArray, List.getElem_map, List.getElem_replicate]
    rcases (show i % 32 = 0 ∨ i % 32 = 1 ∨ i % 32 = 2 ∨ i % 32 = 3 ∨ i % 32 = 4 ∨ i % 32 = 5 ∨ i % 32 = 6 ∨ i % 32 = 7 ∨ i % 32 = 8 ∨ i % 32 = 9 ∨ i % 32 = 10 ∨ i % 32 = 11 ∨ i % 32 = 12 ∨ i % 32 = 13 ∨ i % 32 = 14 ∨ i % 32 = 15 ∨ i % 32 = 16 ∨ i % 32 = 17 ∨ i % 32 = 18 ∨ i % 32 = 19 ∨ i % 32 = 20 ∨ i % 32 = 21 ∨ i % 32 = 22 ∨ i % 32 = 23 ∨ i % 32 = 24 ∨ i % 32 = 25 ∨ i % 32 = 26 ∨ i % 32 = 27 ∨ i % 32 = 28 ∨ i % 32 = 29 ∨ i % 32 = 30 ∨ i % 32 = 31 by omega) with h | h | h | h | h | h | h | h | h | h | h | h | h | h | h | h | h | h | h | h | h | h | h | h | h | h | h | h | h | h | h | h <;> (simp only [show (#[.int .u8 0, .int .u8 0, .int .u8 0, .int .u8 0, .int .u8 0, .int .u8 0, .int .u8 0, .int .u8 0, .int .u8 0, .int .u8 0, .int .u8 0, .int .u8 0, .int .u8 0, .int .u8 0, .int .u8 0, .int .u8 0, .int .u8 0, .int .u8 0, .int .u8 0, .int .u8 0, .int .u8 0, .int .u8 0, .int .u8 0, .int .u8 0, .int .u8 0, .int .u8 0, .int .u8 0, .int .u8 0, .int .u8 0, .int .u8 0, .int .u8 0, .int .u8 0] : Array Value).size = 32 from rfl, h]; rfl)
theorem new_any (z : Int) (w : World) : Calls Try.prog 10 #[.int .i64 z] w fun e w' => ∃ g a, e = .returned (.pointer (some ⟨g, 0, none⟩)) ∧ w.heap.size ≤ g ∧ (∀ s, a = some s → w.heap.size ≤ s.block) ∧ Dsk w' g a (clampI z 0 256).toNat (clampI z 0 256).toNat (List.replicate (32 * (clampI z 0 256).toNat) 0) (-1) false 0 ∧ Below w.heap.size w w' := by
  have C := Lib.hid (fun w => clamp_any z 0 256 w)
  have hr : 0 ≤ clampI z 0 256 ∧ clampI z 0 256 ≤ 256 := by unfold clampI; split <;> (try split) <;> omega
  generalize clampI z 0 256 = y at *
  obtain ⟨m, rfl⟩ := Int.eq_ofNat_of_zero_le hr.1
  have hm : m ≤ 256 := by omega
  have MK := fun w => show (Instr.makeSlice 37 (.int .i64 (m : Int)) (.int .i64 (m : Int))).run Try.prog w = .ok (.slice (some ⟨w.heap.size, 0, none⟩) m m) (w.alloc (.cells (bcells (List.replicate (32 * m) 0)).toArray 52)) from by
    have h := sec_info
    cases hq : Try.prog.info? 52 with
    | none => rw [hq] at h; cases h
    | some i =>
      rw [hq] at h
      simp only [Option.map_some, Option.some.injEq, Prod.mk.injEq] at h
      obtain ⟨h1, h2, h3⟩ := h
      have := run_makeSlice (P := Try.prog) w 37 52 i _ Try.underlying37 hq h1 .i64 .i64 (m : Int) (m : Int) (by omega) (Int.le_refl _) (by rw [h2]; simp; omega) (by rw [h3]; omega) (by omega)
      rw [h2, show ((.agg #[.int .u8 0, .int .u8 0, .int .u8 0, .int .u8 0, .int .u8 0, .int .u8 0, .int .u8 0, .int .u8 0, .int .u8 0, .int .u8 0, .int .u8 0, .int .u8 0, .int .u8 0, .int .u8 0, .int .u8 0, .int .u8 0, .int .u8 0, .int .u8 0, .int .u8 0, .int .u8 0, .int .u8 0, .int .u8 0, .int .u8 0, .int .u8 0, .int .u8 0, .int .u8 0, .int .u8 0, .int .u8 0, .int .u8 0, .int .u8 0, .int .u8 0, .int .u8 0]) : Value).cells = #[.int .u8 0, .int .u8 0, .int .u8 0, .int .u8 0, .int .u8 0, .int .u8 0, .int .u8 0, .int .u8 0, .int .u8 0, .int .u8 0, .int .u8 0, .int .u8 0, .int .u8 0, .int .u8 0, .int .u8 0, .int .u8 0, .int .u8 0, .int .u8 0, .int .u8 0, .int .u8 0, .int .u8 0, .int .u8 0, .int .u8 0, .int .u8 0, .int .u8 0, .int .u8 0, .int .u8 0, .int .u8 0, .int .u8 0, .int .u8 0, .int .u8 0, .int .u8 0] from rfl, made_zero] at this
      simpa [Nat.mul_comm] using this
  have H1 : Blk (w.alloc (.cells (bcells (List.replicate (32 * m) 0)).toArray 52)) w.heap.size (bcells (List.replicate (32 * m) 0) ++ []) 52 := by
    rw [List.append_nil]
    have := Blk.new w (bcells (List.replicate (32 * m) 0)).toArray 52
    rwa [List.toList_toArray] at this
  have B1 := (Below.refl w.heap.size w).alloc (Nat.le_refl _) (.cells (bcells (List.replicate (32 * m) 0)).toArray 52)
  have HH := Lib.hid (And.intro H1 B1)
  have HM := Lib.hid hm
  clear hr H1 B1 hm
  have hm0 : (0 : Int) ≤ m := by omega
  simp only [Int.toNat_natCast]
  go_enter Try.func10, Try.ntmps10
  have MK1 := MK w
  generalize (bcells (List.replicate (32 * m) 0)).toArray = Z at *
  clear MK
  go_wp2_with (go_at_call 22; refine (C.out _).mono ?_; rintro e w1 ⟨rfl, rfl⟩)
  go_ret
  refine ⟨_, _, rfl, by simp, (fun s hs => by cases hs; exact Nat.le_refl _), ⟨(by have := Blk.new (w.alloc (.cells Z 52)) #[.bool true, .slice (some ⟨w.heap.size, 0, none⟩) m m, .int .i64 (-1), .bool false, .int .i64 0] 39; rw [show (w.alloc (.cells Z 52)).heap.size = w.heap.size + 1 by simp] at this; exact this), by simp, Nat.le_refl _, HM.out, by decide, by decide, Or.inr ⟨_, [], rfl, HH.out.1.alloc _, ?_⟩⟩, HH.out.2.alloc HH.out.2.size _⟩
  simp
theorem Dsk.seg {g n c : Nat} {a : Option Addr} {bs : List UInt8} {left wr : Int} {dead : Bool} {w : World} (h : Dsk w g a n c bs left dead wr) (i : Nat) (hi : i < n) : ∃ s, a = some ⟨s, 0, none⟩ ∧ s < w.heap.size ∧ w.rangeAt s (i * 32) (bcells ((bs.drop (32 * i)).take 32)) := by
  rcases h.sec with h0 | ⟨s, sp, ha, hb, hn⟩
  · omega
  · refine ⟨s, ha, hb.lt, hb.range _ _ ?_⟩
    have hl := h.len
    rw [show (bcells ((bs.drop (32 * i)).take 32)).length = 32 by rw [bcells_len, List.length_take, List.length_drop]; omega]
    rw [List.drop_append_of_le_length (by rw [bcells_len]; omega), List.take_append_of_le_length (by rw [List.length_drop, bcells_len]; omega)]
    unfold bcells
    rw [List.map_take, List.map_drop, Nat.mul_comm]
theorem sl_of_range {w : World} {s o n : Nat} {xs : List UInt8} (h : w.rangeAt s o (bcells xs)) (hl : xs.length = n) (hs : s < w.heap.size) : Sl w (some ⟨s, o, none⟩) n 1 (bcells xs) := by
  refine ⟨by rw [bcells_len]; omega, Or.inr ⟨s, o, rfl, hs, fun j hj => ?_⟩⟩
  have hj' : j < xs.length := by omega
  rw [h j _ (List.getElem?_eq_getElem (by rw [bcells_len]; exact hj'))]
  rw [List.getD_eq_getElem?_getD, List.getElem?_eq_getElem (by rw [bcells_len]; exact hj')]
  rfl
theorem dread_no {g n c : Nat} {a : Option Addr} {bs : List UInt8} {left wr : Int} {dead : Bool} {w : World} (h : Dsk w g a n c bs left dead wr) (i : Int) (hno : hasS n dead i = false) :
    Calls Try.prog 16 #[.pointer (some ⟨g, 0, none⟩), .int .i64 i] w fun e w' => e = .returned (.tuple #[.slice none 0 0, .bool false]) ∧ w = w' := by
  have C := Lib.hid (has_any h i)
  rw [hno] at C
  clear h hno
  go_enter Try.func16, Try.ntmps16
  go_wp2_with (go_at_call 25; refine C.out.mono ?_; rintro e w1 ⟨rfl, rfl⟩)
  go_ret2
  exact ⟨rfl, rfl⟩
theorem dread_yes {g n c : Nat} {a : Option Addr} {bs : List UInt8} {left wr : Int} {w : World} (h : Dsk w g a n c bs left false wr) (i : Nat) (hi : i < n) :
    Calls Try.prog 16 #[.pointer (some ⟨g, 0, none⟩), .int .i64 i] w fun e w' => ∃ v, e = .returned (.tuple #[v, .bool true]) ∧ w'.ownsRow w.heap.size 5 1 v 32 (bcells ((bs.drop (32 * i)).take 32)) ∧ Below w.heap.size w w' := by
  have C := Lib.hid (has_any h (i : Int))
  rw [show hasS n false (i : Int) = true by unfold hasS; simp; omega] at C
  obtain ⟨s, rfl, hs, hr⟩ := h.seg i hi
  have hl : ((bs.drop (32 * i)).take 32).length = 32 := by have := h.len; rw [List.length_take, List.length_drop]; omega
  have CL := Lib.hid (clone_bytes (some ⟨s, i * 32, none⟩) 32 32 _ w (sl_of_range hr hl hs) (fun u hu => bcells_one hu) (by decide))
  obtain ⟨h0, h1, h2, h3, h4⟩ := h.cells
  have hi0 : (0 : Int) ≤ i := by omega
  have hin : (i : Int) < n := by omega
  clear h hr hl hi
  generalize (bs.drop (32 * i)).take 32 = X at *
  go_enter Try.func16, Try.ntmps16
  go_wp2_with (go_at_call 25; refine C.out.mono ?_; rintro e w1 ⟨rfl, rfl⟩)
  refine CL.out.mono ?_
  rintro e w2 ⟨v, rfl, ho, hb, _⟩
  have R := Lib.hid (And.intro ho hb)
  clear ho hb
  go_wp2_with fail
  go_ret2
  exact ⟨v, rfl, R.out⟩
theorem all_odd (v : Option Addr) (w : World) (C : Hid (Calls Try.prog 23 #[.pointer v] w fun e w' => e = .returned (.bool true) ∧ w = w')) : Calls Try.prog 13 #[.pointer v] w fun e w' => e = .returned (.slice none 0 0) ∧ w = w' := by
  go_enter Try.func13, Try.ntmps13
  go_wp2_with (go_at_call 23; refine C.out.mono ?_; rintro e w' ⟨rfl, rfl⟩)
  go_ret
  exact ⟨rfl, rfl⟩
theorem all_any {g n c : Nat} {a : Option Addr} {bs : List UInt8} {left wr : Int} {dead : Bool} {w : World} (h : Dsk w g a n c bs left dead wr) : Calls Try.prog 13 #[.pointer (some ⟨g, 0, none⟩)] w fun e w' => ∃ v, e = .returned v ∧ w'.ownsRow w.heap.size 5 1 v (32 * n) (bcells bs) ∧ Below w.heap.size w w' := by
  obtain ⟨i0, hi, hz0, hz1, hz2⟩ := info_parts byte_info
  have C := Lib.hid (unmade_no g w h.cells.1)
  have HD := Lib.hid h
  have h1 := h.cells.2.1
  clear h
  go_enter Try.func13, Try.ntmps13
  go_wp2_with (go_at_call 23; refine C.out.mono ?_; rintro e w' ⟨rfl, rfl⟩)
  clear h1 C
  go_loopg [3, 13] n (fun qq s3 s13 wr => ∃ i : Nat, qq + i = n ∧ s13 = .int .i64 i ∧ Hid (wr.ownsRow w.heap.size 5 1 s3 (32 * i) (bcells (bs.take (32 * i)))) ∧ Hid (Below w.heap.size w wr))
  case atStart => exact ⟨0, by omega, rfl, Lib.hid (World.ownsRow_nil _ _ _ _), Lib.hid (Below.refl _ _)⟩
  case round =>
    obtain ⟨i, hqi, rfl, HO, HB⟩ := hrel
    by_cases hin0 : i < n
    · obtain ⟨s, rfl, hs, hr⟩ := HD.out.seg i hin0
      have hlen := HD.out.len
      have hfew := HD.out.few
      have LX : Hid ((bcells ((bs.drop (32 * i)).take 32)).length = 32) := Lib.hid (by rw [bcells_len, List.length_take, List.length_drop]; omega)
      have HT := Lib.hid (show bs.take (32 * (i + 1)) = bs.take (32 * i) ++ (bs.drop (32 * i)).take 32 by rw [show 32 * (i + 1) = 32 * i + 32 by omega, List.take_add])
      have rr := range_keepG hr HB.out hs
      have hi0 : (0 : Int) ≤ i := by omega
      have hin : (i : Int) < n := by omega
      have hib : (i : Int) < 1000 := by omega
      have HQ := Lib.hid (And.intro hqi (And.intro hin0 hfew))
      clear hr hlen hfew hqi hin0
      generalize (bs.drop (32 * i)).take 32 = x at *
      have TX : RowT 52 (bcells x).length := by rw [LX.out]; exact rowSec
      have OX : Hid (∀ u ∈ bcells x, u.oneCell' = true) := Lib.hid fun u hu => bcells_one hu
      have A := Lib.hid (Blk.new wr (bcells x).toArray 52)
      have HB2 := Lib.hid (HB.out.alloc HB.out.size (.cells (bcells x).toArray 52))
      have HO2 := Lib.hid (own_stay HO.out ((Below.refl _ _).alloc (Nat.le_refl _) (.cells (bcells x).toArray 52)))
      rw [List.toList_toArray] at A
      have SL : Hid (Sl (wr.alloc (.cells (bcells x).toArray 52)) (some ⟨wr.heap.size, 0, none⟩) 32 1 (bcells x)) := Lib.hid (sl_of_range (A.out.range 0 _ (by simp)) (by have := LX.out; rw [bcells_len] at this; exact this) A.out.lt)
      go_upto_region 7 with (first
        | ((with_reducible refine ld_row rr TX ?_ ?_ ?_); (· rfl); (· rfl); (simp only [Act.put, List.setIfInBounds_toArray, List.set_cons_zero, List.set_cons_succ]))
        | ((with_reducible refine st_row_new (cs := bcells x) TX OX.out ?_ ?_ ?_ ?_); (· first | rfl | simp); (· rfl); (· exact LX.out.symm); (simp only [Act.put, List.setIfInBounds_toArray, List.set_cons_zero, List.set_cons_succ])))
      generalize hgx : wr.heap.size = gx at *
      generalize wr.alloc (.cells (bcells x).toArray 52) = w3 at *
      clear hgx A rr
      go_wp2_with (first
        | (at_builtin; refine app_any _ _ 33 5 i0 (.int .u8 0) 1 1 Try.underlying33 hi hz0 hz1 hz2 rfl (by decide) rfl rfl rfl HO2.out rfl SL.out (fun h => by cases h) (fun u hu => bcells_one hu) ?c1 ?c2 HB2.out.size ?_))
      case c1 => simp only [maxLen]; have := HQ.out; omega
      case c2 => have := HQ.out; omega
      intro v5 w5 ho5 hb5
      rw [← bcells_snoc, ← HT.out, show 32 * i + 32 = 32 * (i + 1) by omega] at ho5
      have HO5 := Lib.hid ho5
      have HB5 := Lib.hid (HB2.out.trans hb5)
      clear ho5 hb5 HO2
      go_wp2_with fail
      go_roundg (gk - 1)
      case measure => have := HQ.out; omega
      case rel => exact ⟨i + 1, by have := HQ.out; omega, by go_num, HO5, HB5⟩
    · have hni : (n : Int) ≤ i := by omega
      have hin : i = n := by omega
      rw [hin, List.take_of_length_le (by have := HD.out.len; omega)] at HO
      go_wp2_with fail
      go_ret
      exact ⟨_, rfl, HO.out, HB.out⟩
theorem clone_sec (a : Option Addr) (n c : Nat) (xs : List Value) (w : World) (h : Sl w a n 32 xs) (hone : ∀ u ∈ xs, u.oneCell' = true) (hn : n ≤ 1000) :
    Calls Try.prog 24 #[.slice a n c] w fun e w' => ∃ v, e = .returned v ∧ w'.ownsRow w.heap.size 52 32 v n xs ∧ Below w.heap.size w w' := by
  have q := fun (w : World) (a : Option Addr) (n c : Nat) => Lib.run_eql_slice_nil (P := Try.prog) w 37 52 a n c 0 0 Try.underlying37
  obtain ⟨i0, hi, hz0, hz1, hz2⟩ := info_parts sec_info
  cases a with
  | none =>
    obtain ⟨rfl, rfl⟩ := h.nil_
    go_enter Try.func24, Try.ntmps24
    go_wp2
    go_ret
    exact ⟨_, rfl, World.ownsRow_nil _ _ _ _, Below.refl _ _⟩
  | some ad =>
    have hcells := Lib.hid h.cells
    have hlen := Lib.hid h.1
    have HO := Lib.hid hone
    clear h hone
    go_enter Try.func24, Try.ntmps24
    have hnews : ∀ o : Obj, ∀ j u, xs[j]? = some u → (w.alloc o).cell? (ad.add j) = some u := fun o j u hu =>
      ((Below.refl w.heap.size w).alloc (Nat.le_refl _) o).cell (block_lt_of_cell (hcells.out j u hu)) |>.trans (hcells.out j u hu)
    have HN := Lib.hid hnews
    clear hnews
    go_wp2_with (at_builtin; refine wpList_append_own _ rfl _ _ 37 rfl w.heap.size 52 i0 (.agg #[.int .u8 0, .int .u8 0, .int .u8 0, .int .u8 0, .int .u8 0, .int .u8 0, .int .u8 0, .int .u8 0, .int .u8 0, .int .u8 0, .int .u8 0, .int .u8 0, .int .u8 0, .int .u8 0, .int .u8 0, .int .u8 0, .int .u8 0, .int .u8 0, .int .u8 0, .int .u8 0, .int .u8 0, .int .u8 0, .int .u8 0, .int .u8 0, .int .u8 0, .int .u8 0, .int .u8 0, .int .u8 0, .int .u8 0, .int .u8 0, .int .u8 0, .int .u8 0]) 32 32 Try.underlying37 hi hz0 hz1 hz2 rfl (by decide) _ 0 [] rfl (World.ownsRow_made w #[] 0 (Nat.le_refl _) (by decide) rfl) ad n c xs rfl hlen.out (HN.out _) HO.out ?c1 ?c2 (by simp) ?_)
    case c1 => simp only [maxLen]; omega
    case c2 => omega
    intro v' w1 hown hgr hnil
    have HOW := Lib.hid hown
    have HG := Lib.hid hgr
    clear hown hgr hnil
    go_wp2
    go_ret
    refine ⟨_, rfl, by simpa using HOW.out, ((Below.refl _ _).alloc (Nat.le_refl _) _).grown HG.out (by simp) fun k hk => ?_⟩
    simp only [Value.ownBlock, Option.some.injEq] at hk
    omega
theorem dclone_odd (v : Option Addr) (w : World) (C : Hid (Calls Try.prog 23 #[.pointer v] w fun e w' => e = .returned (.bool true) ∧ w = w')) : Calls Try.prog 12 #[.pointer v] w fun e w' => e = .returned (.pointer none) ∧ w = w' := by
  go_enter Try.func12, Try.ntmps12
  go_wp2_with (go_at_call 23; refine C.out.mono ?_; rintro e w' ⟨rfl, rfl⟩)
  go_ret
  exact ⟨rfl, rfl⟩
theorem rowDk : RowT 39 5 := ⟨⟨_, Try.underlying39, rfl⟩, by kernel_rfl⟩
theorem Dsk.sl {g n c : Nat} {a : Option Addr} {bs : List UInt8} {left wr : Int} {dead : Bool} {w : World} (h : Dsk w g a n c bs left dead wr) : Sl w a n 32 (bcells bs) := by
  refine ⟨by rw [bcells_len, h.len, Nat.mul_comm], ?_⟩
  rcases h.sec with h0 | ⟨s, sp, ha, hb, hn⟩
  · exact Or.inl h0
  · refine Or.inr ⟨s, 0, ha, hb.lt, fun j hj => ?_⟩
    have hj' : j < (bcells bs).length := by rw [bcells_len, h.len]; omega
    rw [Nat.zero_add, hb.cell, List.getElem?_append_left hj', List.getD_eq_getElem?_getD, List.getElem?_eq_getElem hj']
    rfl
theorem dclone_any {g n c : Nat} {a : Option Addr} {bs : List UInt8} {left wr : Int} {dead : Bool} {w : World} (h : Dsk w g a n c bs left dead wr) : Calls Try.prog 12 #[.pointer (some ⟨g, 0, none⟩)] w fun e w' => ∃ g' a' c', e = .returned (.pointer (some ⟨g', 0, none⟩)) ∧ w.heap.size ≤ g' ∧ (∀ s, a' = some s → w.heap.size ≤ s.block) ∧ Dsk w' g' a' n c' bs left dead wr ∧ Below w.heap.size w w' := by
  have C := Lib.hid (unmade_no g w h.cells.1)
  have HD := Lib.hid h
  have h1 := h.cells.2.1
  have rd : w.rangeAt g 0 (dkc a n c left dead wr) := h.head.range 0 _ rfl
  have TD : RowT 39 (dkc a n c left dead wr).length := rowDk
  have AX : Hid (Blk (w.alloc (.cells (dkc a n c left dead wr).toArray 39)) w.heap.size (dkc a n c left dead wr) 39) := Lib.hid (by have := Blk.new w (dkc a n c left dead wr).toArray 39; rwa [List.toList_toArray] at this)
  have BX := Lib.hid ((Below.refl w.heap.size w).alloc (Nat.le_refl _) (.cells (dkc a n c left dead wr).toArray 39))
  have OD : Hid (∀ u ∈ dkc a n c left dead wr, u.oneCell' = true) := Lib.hid (by intro u hu; simp [dkc] at hu; rcases hu with rfl | rfl | rfl | rfl | rfl <;> rfl)
  have CL := Lib.hid (clone_sec a n c (bcells bs) (w.alloc (.cells (dkc a n c left dead wr).toArray 39)) (h.sl.keep ((Below.refl _ _).alloc (Nat.le_refl _) _)) (fun u hu => bcells_one hu) (by have := h.few; omega))
  have hg : g < w.heap.size := h.head.lt
  clear h
  go_enter Try.func12, Try.ntmps12
  go_upto_region 4 with (first
    | (go_at_call 23; refine C.out.mono ?_; rintro e w' ⟨rfl, rfl⟩)
    | ((with_reducible refine ld_row rd TD ?_ ?_ ?_); (· rfl); (· rfl); (simp only [Act.put, List.setIfInBounds_toArray, List.set_cons_zero, List.set_cons_succ]))
    | ((with_reducible refine st_row_new (cs := dkc a n c left dead wr) TD OD.out ?_ ?_ ?_ ?_); (· first | rfl | simp); (· rfl); (· rfl); (simp only [Act.put, List.setIfInBounds_toArray, List.set_cons_zero, List.set_cons_succ])))
  have h1' : (w.alloc (.cells (dkc a n c left dead wr).toArray 39)).cell? ⟨g, 1, none⟩ = some (.slice a n c) := (BX.out.cell (p := ⟨g, 1, none⟩) hg).trans h1
  have hz : Hid ((w.alloc (.cells (dkc a n c left dead wr).toArray 39)).heap.size = w.heap.size + 1) := Lib.hid (by simp)
  have hgw0 : ∃ gw, gw = w.heap.size := ⟨_, rfl⟩
  obtain ⟨gw, hgw⟩ := hgw0
  rw [← hgw] at AX BX hz hg ⊢
  have HGW := Lib.hid hgw
  clear hgw
  generalize w.alloc (.cells (dkc a n c left dead wr).toArray 39) = W at *
  clear rd h1
  go_wp2_with fail
  refine CL.out.mono ?_
  rintro e w2 ⟨v, rfl, ho, hb⟩
  obtain ⟨a', c', rfl, hnc, hcm, hxl, hsec⟩ := own_blk ho
  have A2 := Lib.hid (AX.out.keep hb AX.out.lt)
  have B2 := Lib.hid (BX.out.trans (hb.mono (by rw [hz.out]; omega)))
  have SC := Lib.hid (And.intro hnc hsec)
  have q1 := A2.out.cell 1
  have k1 : w2.cell? ⟨gw, 1, none⟩ = some (.slice a n c) := q1
  have f1 := A2.out.froz 1
  clear ho hb hnc hcm hxl hsec CL AX BX h1' q1
  go_wp2_with fail
  go_ret
  rw [← HGW.out]
  refine ⟨gw, a', c', rfl, Nat.le_refl _, ?_, ⟨A2.out.set 1 _, HD.out.len, SC.out.1, HD.out.few, HD.out.lo, HD.out.hi, ?_⟩, below_set B2.out (Nat.le_refl _) 1 _⟩
  · intro s hs
    rcases SC.out.2 with ⟨_, h0⟩ | ⟨g2, sp, h0, hB, _⟩
    · rw [h0] at hs; cases hs
    · rw [h0] at hs
      cases hs
      show gw ≤ g2
      have := hz.out; omega
  · rcases SC.out.2 with ⟨h0, _⟩ | ⟨g2, sp, h0, hB, hblk⟩
    · exact Or.inl h0
    · have hne : g2 ≠ gw := by have := hz.out; omega
      exact Or.inr ⟨g2, sp, h0, hblk.set_other hne 1 _, hne⟩
end Go.Proofs.Yteebmpbplenikaa
