/- Contracts of octet's functions. -/
import Derived.Test.YteebmpbplenikaaDoorMem
import Derived.Handy
import Derived.WalkSpells
import Derived.Outline
namespace Go.Proofs.YteebmpbplenikaaDoor
set_option linter.unusedVariables false
set_option linter.unusedSimpArgs false
open Go.ChangeShapes Go.WideShapes Go.ChangeAt Go.RowKit
theorem info_byte : (Tryd.prog.info? 5).map (fun i => (i.zero, i.size, i.bytes)) = some (some (.int .u8 0), 1, 1) := by kernel_rfl
/-- octets as cells. -/
def bcells (bs : List UInt8) : List Value := bs.map fun b => .int .u8 (b.toNat : Int)
theorem bcells_len (bs : List UInt8) : (bcells bs).length = bs.length := by simp [bcells]
theorem bcells_one {bs : List UInt8} {u : Value} (h : u ∈ bcells bs) : u.oneCell' = true := by
  obtain ⟨b, _, rfl⟩ := List.mem_map.1 h
  rfl
theorem Sl.cells {w : World} {ad : Addr} {n sz : Nat} {xs : List Value} (h : Sl w (some ad) n sz xs) : ∀ j u, xs[j]? = some u → w.cell? (ad.add j) = some u := by
  intro j u hu
  have hj : j < xs.length := (List.getElem?_eq_some_iff.1 hu).1
  rcases h.2 with h0 | ⟨b, off, ha, _, hc⟩
  · rw [h.1, h0] at hj; simp at hj
  · injection ha with ha
    subst ha
    rw [add_plain, hc j (by rw [← h.1]; exact hj), List.getD_eq_getElem?_getD, hu]
    rfl
theorem Sl.nil_ {w : World} {n sz : Nat} {xs : List Value} (h : Sl w none n sz xs) : n = 0 ∧ xs = [] := by
  rcases h.2 with h0 | ⟨b, off, ha, _⟩
  · subst h0
    exact ⟨rfl, List.eq_nil_of_length_eq_zero (by simpa using h.1)⟩
  · cases ha
/-- a row of one's own is a slice in memory. -/
theorem Sl.own {w : World} {base : Nat} {e : TypeId} {sz : Nat} {v : Value} {n : Nat} {xs : List Value} (h : w.ownsRow base e sz v n xs) : ∃ a c, v = .slice a n c ∧ n ≤ c ∧ c ≤ maxLen ∧ Sl w a n sz xs := by
  have hl := h.1
  rcases h.2 with ⟨rfl, rfl⟩ | ⟨g, cap, cur, rfl, hb, hh, hn, hm, hs, ht⟩
  · exact ⟨_, _, rfl, Nat.le_refl _, Nat.zero_le _, hl, Or.inl rfl⟩
  · refine ⟨_, _, rfl, hn, hm, hl, ?_⟩
    by_cases h0 : n * sz = 0
    · by_cases hn0 : n = 0
      · exact Or.inl hn0
      · refine Or.inr ⟨g, 0, rfl, ?_, fun j hj => by omega⟩
        rcases Nat.lt_or_ge g w.heap.size with hlt | hge
        · exact hlt
        · rw [Array.getElem?_eq_none hge] at hh; cases hh
    · refine Or.inr ⟨g, 0, rfl, ?_, fun j hj => ?_⟩
      · rcases Nat.lt_or_ge g w.heap.size with hlt | hge
        · exact hlt
        · rw [Array.getElem?_eq_none hge] at hh; cases hh
      · have := h.cells (g := g) rfl j (xs.getD j undef) (by rw [List.getD_eq_getElem?_getD, List.getElem?_eq_getElem (by omega)]; rfl)
        rwa [add_plain] at this
set_option maxHeartbeats 400000 in
theorem clone_bytes (a : Option Addr) (n c : Nat) (xs : List Value) (w : World) (h : Sl w a n 1 xs) (hone : ∀ u ∈ xs, u.oneCell' = true) (hn : n ≤ 140737488355328) :
    Calls Tryd.prog 33 #[.slice a n c] w fun e w' => ∃ v, e = .returned v ∧ w'.ownsRow w.heap.size 5 1 v n xs ∧ Below w.heap.size w w' ∧ (v = .slice none 0 0 ↔ a = none) := by
  have q := fun (w : World) (a : Option Addr) (n c : Nat) => Lib.run_eql_slice_nil (P := Tryd.prog) w 26 5 a n c 0 0 Tryd.underlying26
  obtain ⟨i0, hi, hz0, hz1, hz2⟩ := info_parts info_byte
  cases a with
  | none =>
    obtain ⟨rfl, rfl⟩ := h.nil_
    go_enter Tryd.func33, Tryd.ntmps33
    go_wp2
    go_ret
    exact ⟨_, rfl, World.ownsRow_nil _ _ _ _, Below.refl _ _, by simp⟩
  | some ad =>
    have hcells := Lib.hid h.cells
    have hlen := Lib.hid h.1
    have HO := Lib.hid hone
    clear h hone
    go_enter Tryd.func33, Tryd.ntmps33
    have hnews : ∀ o : Obj, ∀ j u, xs[j]? = some u → (w.alloc o).cell? (ad.add j) = some u := fun o j u hu =>
      ((Below.refl w.heap.size w).alloc (Nat.le_refl _) o).cell (block_lt_of_cell (hcells.out j u hu)) |>.trans (hcells.out j u hu)
    have HN := Lib.hid hnews
    clear hnews
    go_wp2_with (at_builtin; refine wpList_append_own _ rfl _ _ 26 rfl w.heap.size 5 i0 (.int .u8 0) 1 1 Tryd.underlying26 hi hz0 hz1 hz2 rfl (by decide) _ 0 [] rfl (World.ownsRow_made w #[] 0 (Nat.le_refl _) (by decide) rfl) ad n c xs rfl hlen.out (HN.out _) HO.out ?c1 ?c2 (by simp) ?_)
    case c1 => simp only [maxLen]; omega
    case c2 => omega
    intro v' w1 hown hgr hnil
    have HOW := Lib.hid hown
    have HG := Lib.hid hgr
    have HNil := Lib.hid hnil
    clear hown hgr hnil
    go_wp2
    go_ret
    refine ⟨_, rfl, HOW.out, (((Below.refl _ _).alloc (Nat.le_refl _) _).grown HG.out (by simp) fun k hk => ?_), by simpa using HNil.out⟩
    simp only [Value.ownBlock, Option.some.injEq] at hk
    omega
/-- a reader in memory: what is left, and whether it is fine. -/
def Rdr (w : World) (g : Nat) (v : Value) (f : Bool) : Prop := w.heap[g]? = some (.cells #[v, .bool f] 64 (0, 0))
section
variable {w : World} {g : Nat} {v : Value} {f : Bool}
theorem Rdr.c0 (h : Rdr w g v f) : w.cell? ⟨g, 0, none⟩ = some v := cell_of_row w g 0 _ _ _ h
theorem Rdr.c1 (h : Rdr w g v f) : w.cell? ⟨g, 1, none⟩ = some (.bool f) := cell_of_row w g 1 _ _ _ h
theorem Rdr.u0 (h : Rdr w g v f) : w.frozen? ⟨g, 0, none⟩ = false := frozen_of_row w g 0 _ _ h
theorem Rdr.u1 (h : Rdr w g v f) : w.frozen? ⟨g, 1, none⟩ = false := frozen_of_row w g 1 _ _ h
theorem Rdr.lt (h : Rdr w g v f) : g < w.heap.size := block_lt_of_cell h.c0
theorem Rdr.set0 (h : Rdr w g v f) (u : Value) : Rdr (w.setCell ⟨g, 0, none⟩ u) g u f := heap_setCell_same w g 0 _ _ u h
theorem Rdr.set1 (h : Rdr w g v f) (b : Bool) : Rdr (w.setCell ⟨g, 1, none⟩ (.bool b)) g v b := heap_setCell_same w g 1 _ _ _ h
theorem grown_set (w : World) (g i : Nat) (u : Value) : w.grownBy (w.setCell ⟨g, i, none⟩ u) (some g) :=
  ⟨rfl, rfl, rfl, by simp [World.setCell], fun k hk hne => Below.heap_setCell _ _ _ _ (fun e => hne (by simpa using e))⟩
end
theorem bad_nil (w : World) : Calls Tryd.prog 39 #[.pointer none] w fun e w' => e = .returned (.bool true) ∧ w = w' := by
  go_enter Tryd.func39, Tryd.ntmps39
  go_wp2
  go_ret
  exact ⟨rfl, rfl⟩
theorem bad_any (g : Nat) (v : Value) (f : Bool) (w : World) (h : Rdr w g v f) : Calls Tryd.prog 39 #[.pointer (some ⟨g, 0, none⟩)] w fun e w' => e = .returned (.bool (!f)) ∧ w = w' := by
  have c1 := h.c1
  clear h
  go_enter Tryd.func39, Tryd.ntmps39
  go_wp2
  go_ret
  exact ⟨rfl, rfl⟩
theorem fail_nil (w : World) : Calls Tryd.prog 35 #[.pointer none] w fun e w' => e = .returned (.tuple #[]) ∧ w = w' := by
  go_enter Tryd.func35, Tryd.ntmps35
  go_wp2
  go_end0
  exact ⟨rfl, rfl⟩
theorem fail_any (g : Nat) (v : Value) (f : Bool) (w : World) (h : Rdr w g v f) : Calls Tryd.prog 35 #[.pointer (some ⟨g, 0, none⟩)] w fun e w' => e = .returned (.tuple #[]) ∧ Rdr w' g (.slice none 0 0) false ∧ w.grownBy w' (some g) ∧ w'.heap.size = w.heap.size := by
  have c0 := h.c0
  have c1 := h.c1
  have u0 := h.u0
  have u1 := h.u1
  have H := Lib.hid h
  clear h
  go_enter Tryd.func35, Tryd.ntmps35
  go_wp2
  go_end0
  exact ⟨rfl, (H.out.set0 _).set1 _, (grown_set _ _ _ _).trans (grown_set _ _ _ _), by simp [World.setCell]⟩
theorem width_any (k : Int) (w : World) : Calls Tryd.prog 34 #[.int .i64 k] w fun e w' => e = .returned (.bool (decide (1 ≤ k) && decide (k ≤ 8))) ∧ w = w' := by
  by_cases h : 1 ≤ k
  · rw [show decide (1 ≤ k) = true from by simpa using h, Bool.true_and]
    go_enter Tryd.func34, Tryd.ntmps34
    go_wp2
    go_ret
    exact ⟨rfl, rfl⟩
  · rw [show decide (1 ≤ k) = false from by simpa using h, Bool.false_and]
    go_enter Tryd.func34, Tryd.ntmps34
    go_wp2
    go_ret
    exact ⟨rfl, rfl⟩
/-- where a slice's rest lies. -/
def restOf (a : Option Addr) (c k : Nat) : Option Addr := if c = k then a else a.map fun x => x.add k
set_option maxHeartbeats 400000 in
theorem cut_ok (g n c k : Nat) (a : Option Addr) (w : World) (h : Rdr w g (.slice a n c) true) (hk : k ≤ n) (hn : n ≤ c) (hc : c ≤ 9223372036854775807) :
    Calls Tryd.prog 36 #[.pointer (some ⟨g, 0, none⟩), .int .i64 k] w fun e w' => e = .returned (.tuple #[.slice a k c, .bool true]) ∧ Rdr w' g (.slice (restOf a c k) (n - k) (c - k)) true ∧ w.grownBy w' (some g) ∧ w'.heap.size = w.heap.size := by
  have c0 := h.c0
  have u0 := h.u0
  have H := Lib.hid h
  have hkz : decide ((k : Int) < 0) = false := by simp
  clear h
  by_cases hck : c = k
  · have HR := Lib.hid (show restOf a c k = a by unfold restOf; rw [if_pos hck])
    obtain rfl : n = k := by omega
    subst hck
    go_enter Tryd.func36, Tryd.ntmps36
    go_wp2_with (go_at_call 39; refine (bad_any _ _ _ _ H.out).mono ?_; rintro e w' ⟨rfl, rfl⟩)
    go_ret2
    exact ⟨rfl, by rw [HR.out, Nat.sub_self]; exact H.out.set0 _, grown_set _ _ _ _, by simp [World.setCell]⟩
  · have HR := Lib.hid (show restOf a c k = a.map fun x => x.add k by unfold restOf; rw [if_neg hck])
    go_enter Tryd.func36, Tryd.ntmps36
    go_wp2_with (go_at_call 39; refine (bad_any _ _ _ _ H.out).mono ?_; rintro e w' ⟨rfl, rfl⟩)
    go_ret2
    exact ⟨rfl, by rw [HR.out]; exact H.out.set0 _, grown_set _ _ _ _, by simp [World.setCell]⟩
/-- nothing is cut off: the reader is not fine, or there is too little. -/
theorem cut_no (g n c : Nat) (k : Int) (f : Bool) (a : Option Addr) (w : World) (h : Rdr w g (.slice a n c) f) (hf : f = false ∨ k < 0 ∨ (n : Int) < k) (hn : n ≤ 9223372036854775807) :
    Calls Tryd.prog 36 #[.pointer (some ⟨g, 0, none⟩), .int .i64 k] w fun e w' => e = .returned (.tuple #[.slice none 0 0, .bool false]) ∧ Rdr w' g (.slice none 0 0) false ∧ w.grownBy w' (some g) ∧ w'.heap.size = w.heap.size := by
  have c0 := h.c0
  have H := Lib.hid h
  clear h
  cases f with
  | false =>
    clear hf
    go_enter Tryd.func36, Tryd.ntmps36
    go_wp2_with (first
      | (go_at_call 39; refine (bad_any _ _ _ _ H.out).mono ?_; rintro e w' ⟨rfl, rfl⟩)
      | (go_at_call 35; refine (fail_any _ _ _ _ H.out).mono ?_; rintro e w' ⟨rfl, hr, hg, hs⟩))
    go_ret2
    exact ⟨rfl, hr, hg, hs⟩
  | true =>
    by_cases hk : k < 0
    · clear hf
      go_enter Tryd.func36, Tryd.ntmps36
      go_wp2_with (first
        | (go_at_call 39; refine (bad_any _ _ _ _ H.out).mono ?_; rintro e w' ⟨rfl, rfl⟩)
        | (go_at_call 35; refine (fail_any _ _ _ _ H.out).mono ?_; rintro e w' ⟨rfl, hr, hg, hs⟩))
      go_ret2
      exact ⟨rfl, hr, hg, hs⟩
    · have hl : (n : Int) < k := by rcases hf with h | h | h; cases h; exact absurd h hk; exact h
      clear hf
      go_enter Tryd.func36, Tryd.ntmps36
      go_wp2_with (first
        | (go_at_call 39; refine (bad_any _ _ _ _ H.out).mono ?_; rintro e w' ⟨rfl, rfl⟩)
        | (go_at_call 35; refine (fail_any _ _ _ _ H.out).mono ?_; rintro e w' ⟨rfl, hr, hg, hs⟩))
      go_ret2
      exact ⟨rfl, hr, hg, hs⟩
theorem cut_nil (k : Int) (w : World) : Calls Tryd.prog 36 #[.pointer none, .int .i64 k] w fun e w' => e = .returned (.tuple #[.slice none 0 0, .bool false]) ∧ w = w' := by
  go_enter Tryd.func36, Tryd.ntmps36
  go_wp2_with (first
    | (go_at_call 39; refine (bad_nil _).mono ?_; rintro e w' ⟨rfl, rfl⟩)
    | (go_at_call 35; refine (fail_nil _).mono ?_; rintro e w' ⟨rfl, rfl⟩))
  go_ret2
  exact ⟨rfl, rfl⟩
theorem take_nil (k : Int) (w : World) : Calls Tryd.prog 27 #[.pointer none, .int .i64 k] w fun e w' => e = .returned (.tuple #[.int .u64 0, .bool false]) ∧ w = w' := by
  by_cases hk : 1 ≤ k ∧ k ≤ 8
  · have hw : (decide (1 ≤ k) && decide (k ≤ 8)) = true := by simpa using hk
    clear hk
    go_enter Tryd.func27, Tryd.ntmps27
    go_wp2_with (first
      | (go_at_call 34; refine (width_any _ _).mono ?_; rintro e w' ⟨rfl, rfl⟩)
      | (go_at_call 36; refine (cut_nil _ _).mono ?_; rintro e w' ⟨rfl, rfl⟩))
    go_rounds 1
    go_ret2
    exact ⟨rfl, rfl⟩
  · have hw : (decide (1 ≤ k) && decide (k ≤ 8)) = false := by simpa using hk
    clear hk
    go_enter Tryd.func27, Tryd.ntmps27
    go_wp2_with (first
      | (go_at_call 34; refine (width_any _ _).mono ?_; rintro e w' ⟨rfl, rfl⟩)
      | (go_at_call 35; refine (fail_nil _).mono ?_; rintro e w' ⟨rfl, rfl⟩))
    go_ret2
    exact ⟨rfl, rfl⟩
theorem take_bad (g : Nat) (v : Value) (f : Bool) (k : Int) (w : World) (h : Rdr w g v f) (hk : k < 1 ∨ 8 < k) :
    Calls Tryd.prog 27 #[.pointer (some ⟨g, 0, none⟩), .int .i64 k] w fun e w' => e = .returned (.tuple #[.int .u64 0, .bool false]) ∧ Rdr w' g (.slice none 0 0) false ∧ w.grownBy w' (some g) ∧ w'.heap.size = w.heap.size := by
  have H := Lib.hid h
  have hw : (decide (1 ≤ k) && decide (k ≤ 8)) = false := by simp; omega
  clear h
  go_enter Tryd.func27, Tryd.ntmps27
  go_wp2_with (first
    | (go_at_call 34; refine (width_any _ _).mono ?_; rintro e w' ⟨rfl, rfl⟩)
    | (go_at_call 35; refine (fail_any _ _ _ _ H.out).mono ?_; rintro e w' ⟨rfl, hr, hg, hs⟩))
  go_ret2
  exact ⟨rfl, hr, hg, hs⟩
theorem take_no (g n c : Nat) (k : Int) (f : Bool) (a : Option Addr) (w : World) (h : Rdr w g (.slice a n c) f) (hk : 1 ≤ k) (hk8 : k ≤ 8) (hf : f = false ∨ (n : Int) < k) (hn : n ≤ 9223372036854775807) :
    Calls Tryd.prog 27 #[.pointer (some ⟨g, 0, none⟩), .int .i64 k] w fun e w' => e = .returned (.tuple #[.int .u64 0, .bool false]) ∧ Rdr w' g (.slice none 0 0) false ∧ w.grownBy w' (some g) ∧ w'.heap.size = w.heap.size := by
  have C := Lib.hid (cut_no g n c k f a w h (by rcases hf with h | h; exact Or.inl h; exact Or.inr (Or.inr h)) hn)
  have hw : (decide (1 ≤ k) && decide (k ≤ 8)) = true := by simp; omega
  clear h hf hn
  go_enter Tryd.func27, Tryd.ntmps27
  go_wp2_with (first
    | (go_at_call 34; refine (width_any _ _).mono ?_; rintro e w' ⟨rfl, rfl⟩)
    | (go_at_call 36; refine C.out.mono ?_; rintro e w' ⟨rfl, hr, hg, hs⟩))
  go_rounds 1
  go_ret2
  exact ⟨rfl, hr, hg, hs⟩
/-- the number of some octets, the highest first. -/
def numOf (bs : List UInt8) : Nat := bs.foldl (fun n b => n * 256 + b.toNat) 0
theorem numOf_snoc (bs : List UInt8) (b : UInt8) : numOf (bs ++ [b]) = numOf bs * 256 + b.toNat := by simp [numOf, List.foldl_append]
theorem numFold_lt (bs : List UInt8) (a m : Nat) (h : a < 256 ^ m) : bs.foldl (fun n b => n * 256 + b.toNat) a < 256 ^ (m + bs.length) := by
  induction bs generalizing a m with
  | nil => exact h
  | cons b bs ih =>
    have := ih (a * 256 + b.toNat) (m + 1) (by have := b.toNat_lt; rw [Nat.pow_succ]; omega)
    rwa [show m + 1 + bs.length = m + (b :: bs).length by simp; omega] at this
theorem numOf_lt (bs : List UInt8) : numOf bs < 256 ^ bs.length := by
  have := numFold_lt bs 0 0 (by decide)
  rwa [Nat.zero_add] at this
theorem numOf_small (bs : List UInt8) (j : Nat) (h : j < 8) : numOf (bs.take j) < 72057594037927936 := by
  have hl := numOf_lt (bs.take j)
  have hpow : 256 ^ (bs.take j).length ≤ 256 ^ 7 := Nat.pow_le_pow_right (by decide) (by rw [List.length_take]; omega)
  have : (256 : Nat) ^ 7 = 72057594037927936 := by decide
  omega
theorem numOf_take (bs : List UInt8) (j : Nat) (h : j < bs.length) : numOf (bs.take (j + 1)) = numOf (bs.take j) * 256 + (bs.getD j 0).toNat := by
  rw [List.take_succ_eq_append_getElem h, numOf_snoc, List.getD_eq_getElem?_getD, List.getElem?_eq_getElem h]
  rfl
theorem Rdr.ne_ {w : World} {g : Nat} {v : Value} {f : Bool} (h : Rdr w g v f) (hv : ∀ k n, v ≠ .int k n) {b o : Nat} {k : IntKind} {n : Int} (hc : w.cell? ⟨b, o, none⟩ = some (.int k n)) : b ≠ g := by
  rintro rfl
  have := cell_of_row w b o _ _ _ h
  rw [this] at hc
  match o, hc with
  | 0, hc => simp at hc; exact hv _ _ hc
  | 1, hc => simp at hc
  | o + 2, hc => simp at hc
theorem or_byte (n : Nat) (b : Nat) (hn : n < 72057594037927936) (hb : b < 256) : bits .or .u64 ((n : Int) * 256) (b : Int) = (n : Int) * 256 + b := by
  have h1 : (BitVec.ofInt 64 ((n : Int) * 256)).toNat = n <<< 8 := by
    rw [BitVec.toNat_ofInt, Nat.shiftLeft_eq]; omega
  have h2 : (BitVec.ofInt 64 (b : Int)).toNat = b := by
    rw [BitVec.toNat_ofInt]; omega
  have key : bits .or .u64 ((n : Int) * 256) (b : Int) = IntKind.u64.wrap ((BitVec.ofInt 64 ((n : Int) * 256) ||| BitVec.ofInt 64 (b : Int)).toNat : Int) := rfl
  rw [key, BitVec.toNat_or, h1, h2, ← Nat.shiftLeft_add_eq_or_of_lt (by omega : b < 2 ^ 8), Nat.shiftLeft_eq, IntKind.wrap_u64]
  omega
theorem grown_of {w w' : World} (h : Below w.heap.size w w') (row : Option Nat) : w.grownBy w' row := ⟨h.os, h.tape, h.output, h.size, fun k hk _ => h.block k hk⟩
theorem Sl.byte {w : World} {a : Option Addr} {n : Nat} {bs : List UInt8} (h : Sl w a n 1 (bcells bs)) (hp : 0 < n) : bs.length = n ∧ ∃ b off, a = some ⟨b, off, none⟩ ∧ b < w.heap.size ∧ ∀ j, j < n → w.cell? ⟨b, off + j, none⟩ = some (.int .u8 ((bs.getD j 0).toNat : Int)) := by
  have hbl : bs.length = n := by have := h.1; rw [bcells_len] at this; omega
  refine ⟨hbl, ?_⟩
  rcases h.2 with h0 | ⟨b, off, ha, hb, hcl⟩
  · omega
  · refine ⟨b, off, ha, hb, fun j hj => ?_⟩
    rw [hcl j (by omega)]
    simp [bcells, List.getD_eq_getElem?_getD, List.getElem?_eq_getElem (show j < bs.length by omega)]
/-- the first octets of what a reader has left stay where they are when the reader moves on. -/
theorem Sl.cut_front {w w' : World} {a : Option Addr} {g n c k : Nat} {f : Bool} {bs : List UInt8} (h : Sl w a n 1 (bcells bs)) (hr : Rdr w g (.slice a n c) f) (hk : k ≤ n) (hg : w.grownBy w' (some g)) : Sl w' a k 1 (bcells (bs.take k)) := by
  have hbl : bs.length = n := by have := h.1; rw [bcells_len] at this; omega
  refine ⟨by rw [bcells_len, List.length_take]; omega, ?_⟩
  by_cases h0 : k = 0
  · exact Or.inl h0
  · obtain ⟨_, b, off, rfl, hb, hcell⟩ := h.byte (by omega)
    have hne : b ≠ g := hr.ne_ (by intro k n h; cases h) (hcell 0 (by omega))
    refine Or.inr ⟨b, off, rfl, Nat.lt_of_lt_of_le hb hg.size, fun j hj => ?_⟩
    rw [hg.cell (a := ⟨b, off + j, none⟩) (hcell j (by omega)) (fun e => hne (by injection e))]
    simp [bcells, List.getD_eq_getElem?_getD, List.getElem?_eq_getElem (show j < bs.length by omega), show j < k by omega]
/-- and so does the rest. -/
theorem Sl.cut_rest {w w' : World} {a : Option Addr} {g n c k : Nat} {f : Bool} {bs : List UInt8} (h : Sl w a n 1 (bcells bs)) (hr : Rdr w g (.slice a n c) f) (hk : k ≤ n) (hn : n ≤ c) (hg : w.grownBy w' (some g)) : Sl w' (restOf a c k) (n - k) 1 (bcells (bs.drop k)) := by
  have hbl : bs.length = n := by have := h.1; rw [bcells_len] at this; omega
  refine ⟨by rw [bcells_len, List.length_drop]; omega, ?_⟩
  by_cases h0 : n - k = 0
  · exact Or.inl h0
  · obtain ⟨_, b, off, rfl, hb, hcell⟩ := h.byte (by omega)
    have hne : b ≠ g := hr.ne_ (by intro k n h; cases h) (hcell 0 (by omega))
    unfold restOf
    rw [if_neg (by omega)]
    refine Or.inr ⟨b, off + k, by simp [add_plain], Nat.lt_of_lt_of_le hb hg.size, fun j hj => ?_⟩
    have e := hg.cell (a := ⟨b, off + (k + j), none⟩) (hcell (k + j) (by omega)) (fun e => hne (by injection e))
    rw [Nat.add_assoc, e]
    simp [bcells, List.getD_eq_getElem?_getD, List.getElem?_eq_getElem (show k + j < bs.length by omega), List.getElem?_drop]
set_option maxHeartbeats 400000 in
theorem take_ok (g n c k : Nat) (a : Option Addr) (bs : List UInt8) (w : World) (h : Rdr w g (.slice a n c) true) (hs : Sl w a n 1 (bcells bs)) (hk1 : 1 ≤ k) (hk8 : k ≤ 8) (hk : k ≤ n) (hn : n ≤ c) (hc : c ≤ 9223372036854775807) :
    Calls Tryd.prog 27 #[.pointer (some ⟨g, 0, none⟩), .int .i64 k] w fun e w' => e = .returned (.tuple #[.int .u64 (numOf (bs.take k)), .bool true]) ∧ Rdr w' g (.slice (restOf a c k) (n - k) (c - k)) true ∧ w.grownBy w' (some g) ∧ w'.heap.size = w.heap.size := by
  have C := Lib.hid (cut_ok g n c k a w h hk hn hc)
  have hw : (decide (1 ≤ (k : Int)) && decide ((k : Int) ≤ 8)) = true := by simp; omega
  have hbl : bs.length = n := by have := hs.1; rw [bcells_len] at this; omega
  obtain ⟨b, off, rfl, hblt, hcell⟩ : ∃ b off, a = some ⟨b, off, none⟩ ∧ b < w.heap.size ∧ ∀ j, j < n → w.cell? ⟨b, off + j, none⟩ = some (.int .u8 ((bs.getD j 0).toNat : Int)) := by
    rcases hs.2 with h0 | ⟨b, off, ha, hb, hcl⟩
    · omega
    · refine ⟨b, off, ha, hb, fun j hj => ?_⟩
      rw [hcl j (by omega)]
      simp [bcells, List.getD_eq_getElem?_getD, List.getElem?_eq_getElem (show j < bs.length by omega)]
  have hne : b ≠ g := h.ne_ (by intro k n h; cases h) (hcell 0 (by omega))
  have HC := Lib.hid (show ∀ w', w.grownBy w' (some g) → ∀ j, j < n → w'.cell? ⟨b, off + j, none⟩ = some (.int .u8 ((bs.getD j 0).toNat : Int)) from fun w' hg j hj => hg.cell (a := ⟨b, off + j, none⟩) (hcell j hj) (fun e => hne (by injection e)))
  have HL := Lib.hid hbl
  clear h hs hcell hbl hne
  go_enter Tryd.func27, Tryd.ntmps27
  go_wp2_with (first
    | (go_at_call 34; refine (width_any _ _).mono ?_; rintro e w' ⟨rfl, rfl⟩)
    | (go_at_call 36; refine C.out.mono ?_; rintro e w1 ⟨rfl, hr, hg, hs⟩))
  have HC1 := Lib.hid (HC.out w1 hg)
  go_loop [8, 24] (fun x i => ∃ j : Nat, j ≤ k ∧ i = .int .i64 j ∧ x = .int .u64 (numOf (bs.take j))) (fun _ i => k - (intOf i).toNat)
  case atStart => exact ⟨0, Nat.zero_le _, rfl, rfl⟩
  case round =>
    obtain ⟨j, hj, rfl, rfl⟩ := hrel
    by_cases hlt : j < k
    · have hcell := HC1.out j (by omega)
      have HN := Lib.hid (numOf_take bs j (by rw [HL.out]; omega))
      have hv := numOf_small bs j (by omega)
      have hb2 := (bs.getD j 0).toNat_lt
      have HB := Lib.hid (or_byte (numOf (bs.take j)) (bs.getD j 0).toNat hv (by omega))
      generalize numOf (bs.take j) = y at *
      generalize (bs.getD j 0).toNat = z at *
      go_wp2
      go_round
      case rel => exact ⟨j + 1, by omega, by go_num, congrArg (Value.int .u64) (by rw [HN.out, HB.out]; omega)⟩
      case measure => simp [intOf]; omega
    · obtain rfl : j = k := by omega
      go_wp2
      go_ret2
      exact ⟨rfl, hr, hg, hs⟩
theorem new_own (a : Option Addr) (n c : Nat) (bs : List UInt8) (w : World) (h : Sl w a n 1 (bcells bs)) (hn : n ≤ 140737488355328) :
    Calls Tryd.prog 25 #[.slice a n c] w fun e w' => ∃ g a' c', e = .returned (.pointer (some ⟨g, 0, none⟩)) ∧ w.heap.size ≤ g ∧ Rdr w' g (.slice a' n c') true ∧ n ≤ c' ∧ c' ≤ maxLen ∧ w'.ownsRow w.heap.size 5 1 (.slice a' n c') n (bcells bs) ∧ Below w.heap.size w w' := by
  have K := Lib.hid (clone_bytes a n c (bcells bs) w h (fun u hu => bcells_one hu) hn)
  clear h
  go_enter Tryd.func25, Tryd.ntmps25
  go_wp2_with fail
  refine K.out.mono ?_
  rintro e w1 ⟨v, rfl, ho, hb, hv⟩
  obtain ⟨va, vc, rfl, hvc, hvm, hsl⟩ := Sl.own ho
  have hsz := hb.size
  have HO := Lib.hid (ho.alloc (.cells #[.slice va n vc, .bool true] 64))
  clear ho
  go_wp2
  go_ret
  exact ⟨_, va, vc, rfl, hsz, heap_alloc_new _ _, hvc, hvm, HO.out, hb.alloc hsz _⟩
theorem new_any (a : Option Addr) (n c : Nat) (bs : List UInt8) (w : World) (h : Sl w a n 1 (bcells bs)) (hn : n ≤ 140737488355328) :
    Calls Tryd.prog 25 #[.slice a n c] w fun e w' => ∃ g a' c', e = .returned (.pointer (some ⟨g, 0, none⟩)) ∧ w.heap.size ≤ g ∧ Rdr w' g (.slice a' n c') true ∧ n ≤ c' ∧ c' ≤ maxLen ∧ Sl w' a' n 1 (bcells bs) ∧ Below w.heap.size w w' := by
  refine (new_own a n c bs w h hn).mono ?_
  rintro e w' ⟨g, a', c', h1, h2, h3, h4, h5, h6, h7⟩
  obtain ⟨a2, c2, he, _, _, hs⟩ := Sl.own h6
  injection he with e1 e2 e3
  subst e1
  exact ⟨g, a', c', h1, h2, h3, h4, h5, hs, h7⟩
/-- a number's octets, the highest first. -/
def beOf (n : Nat) : Nat → List UInt8
  | 0 => []
  | w + 1 => UInt8.ofNat (n / 256 ^ w % 256) :: beOf n w
theorem beOf_len (n w : Nat) : (beOf n w).length = w := by induction w with
  | zero => rfl
  | succ w ih => simp [beOf, ih]
theorem beOf_take (m k i : Nat) (h : i + 1 ≤ k) : (beOf m k).take (k - i) = (beOf m k).take (k - (i + 1)) ++ [UInt8.ofNat (m / 256 ^ i % 256)] := by
  induction k with
  | zero => omega
  | succ k ih =>
    by_cases he : i = k
    · subst he
      simp [beOf, show i + 1 - i = 1 by omega]
    · have := ih (by omega)
      rw [show k + 1 - i = (k - i) + 1 by omega, show k + 1 - (i + 1) = (k - (i + 1)) + 1 by omega]
      simp only [beOf, List.take_succ_cons, List.cons_append, this]
theorem beOf_byte (m i : Nat) : [Value.int .u8 ((m : Int) / 2 ^ (8 * i) % 256)] = bcells [UInt8.ofNat (m / 256 ^ i % 256)] := by
  have h : (UInt8.ofNat (m / 256 ^ i % 256)).toNat = m / 256 ^ i % 256 := by
    rw [UInt8.toNat_ofNat']; omega
  have e : (2 : Int) ^ (8 * i) = ((256 ^ i : Nat) : Int) := by
    rw [show (256 : Nat) = 2 ^ 8 from rfl, ← Nat.pow_mul]
    simp
  simp only [bcells, List.map_cons, List.map_nil, h]
  rw [e]
  congr 2
theorem bcells_snoc (a b : List UInt8) : bcells (a ++ b) = bcells a ++ bcells b := by simp [bcells]
theorem put_bad (a : Option Addr) (n c : Nat) (xs : List Value) (m : Int) (k : Int) (w : World) (h : Sl w a n 1 xs) (hone : ∀ u ∈ xs, u.oneCell' = true) (hn : n ≤ 140737488355328) (hk : k < 1 ∨ 8 < k) :
    Calls Tryd.prog 22 #[.slice a n c, .int .u64 m, .int .i64 k] w fun e w' => ∃ v, e = .returned v ∧ w'.ownsRow w.heap.size 5 1 v n xs ∧ Below w.heap.size w w' := by
  have K := Lib.hid (clone_bytes a n c xs w h hone hn)
  have hw : (decide (1 ≤ k) && decide (k ≤ 8)) = false := by simp; omega
  clear h hone hk
  go_enter Tryd.func22, Tryd.ntmps22
  go_wp2_with fail
  refine K.out.mono ?_
  rintro e w1 ⟨v, rfl, ho, hb, hv⟩
  go_wp2_with (go_at_call 34; refine (width_any _ _).mono ?_; rintro e w' ⟨rfl, rfl⟩)
  go_ret
  exact ⟨_, rfl, ho, hb⟩
theorem cell_new1 (w : World) (u : Value) (t : TypeId) : ∀ j x, [u][j]? = some x → (w.alloc (.cells #[u] t)).cell? ((⟨w.heap.size, 0, none⟩ : Addr).add j) = some x := by
  intro j x hx
  match j, hx with
  | 0, hx => simp at hx; subst hx; simp [go_sem, Addr.add]
set_option maxHeartbeats 800000 in
theorem put_ok (a : Option Addr) (n c : Nat) (xs : List Value) (m k : Nat) (w : World) (h : Sl w a n 1 xs) (hone : ∀ u ∈ xs, u.oneCell' = true) (hn : n + 8 ≤ 140737488355328) (hk1 : 1 ≤ k) (hk8 : k ≤ 8) (hm : m < 18446744073709551616) :
    Calls Tryd.prog 22 #[.slice a n c, .int .u64 m, .int .i64 k] w fun e w' => ∃ v, e = .returned v ∧ w'.ownsRow w.heap.size 5 1 v (n + k) (xs ++ bcells (beOf m k)) ∧ Below w.heap.size w w' := by
  have K := Lib.hid (clone_bytes a n c xs w h hone (by omega))
  have hw : (decide (1 ≤ (k : Int)) && decide ((k : Int) ≤ 8)) = true := by simp; omega
  obtain ⟨i0, hi, hz0, hz1, hz2⟩ := info_parts info_byte
  clear h hone
  go_enter Tryd.func22, Tryd.ntmps22
  go_wp2_with fail
  refine K.out.mono ?_
  rintro e w1 ⟨v, rfl, ho, hb, hv⟩
  go_wp2_with (go_at_call 34; refine (width_any _ _).mono ?_; rintro e w' ⟨rfl, rfl⟩)
  go_loopw [7, 8] (fun x i wr => ∃ j : Nat, j ≤ k ∧ i = .int .i64 ((j : Int) - 1) ∧ wr.ownsRow w.heap.size 5 1 x (n + (k - j)) (xs ++ bcells ((beOf m k).take (k - j))) ∧ Below w.heap.size w wr) (fun _ i _ => (intOf i + 1).toNat)
  case atStart => exact ⟨k, Nat.le_refl _, by go_num, by simpa [bcells] using ho, hb⟩
  case round =>
    obtain ⟨j, hj, rfl, ho2, hb2⟩ := hrel
    have HB2 := Lib.hid hb2
    have hsz2 := hb2.size
    clear hb2
    cases j with
    | zero =>
      have HO2 := Lib.hid (show wr.ownsRow w.heap.size 5 1 u7 (n + k) (xs ++ bcells (beOf m k)) by
        rw [Nat.sub_zero, List.take_of_length_le (by rw [beOf_len]; omega)] at ho2; exact ho2)
      clear ho2
      have e1 : (((0 : Nat) : Int) - 1) = -1 := by omega
      rw [e1]
      go_wp2
      go_ret
      exact ⟨_, rfl, HO2.out, HB2.out⟩
    | succ i =>
      have e1 : (((i + 1 : Nat) : Int) - 1) = (i : Int) := by omega
      rw [e1]
      have hi8 : i ≤ 7 := by omega
      have HT := Lib.hid (beOf_take m k i hj)
      have HX := Lib.hid (beOf_byte m i)
      have ho3 := Lib.hid (ho2.alloc (.cells #[.int .u8 ((m : Int) / 2 ^ (8 * i) % 256)] 5))
      clear ho2
      go_wp2_with (at_builtin; refine wpList_append_own _ rfl _ _ 26 rfl w.heap.size 5 i0 (.int .u8 0) 1 1 Tryd.underlying26 hi hz0 hz1 hz2 rfl (by decide) _ _ _ rfl ho3.out ⟨wr.heap.size, 0, none⟩ 1 1 [.int .u8 ((m : Int) / 2 ^ (8 * i) % 256)] rfl (by simp) (cell_new1 _ _ _) (by simp [Value.oneCell']) ?c1 ?c2 ?c3 ?_)
      case c1 => simp only [maxLen]; omega
      case c2 => omega
      case c3 => simp; omega
      intro v' w2 hown hgr hnil
      have HO := Lib.hid hown
      have HG := Lib.hid (Below.grown (HB2.out.alloc hsz2 _) hgr (by simp; omega) fun g hg => (ho3.out.lt g hg).1)
      clear hown hgr hnil
      go_wp2
      go_roundw
      case rel =>
        refine ⟨i, by omega, rfl, ?_, HG.out⟩
        have := HO.out
        rw [HX.out, ← bcells_snoc, ← HT.out, show n + (k - (i + 1)) + 1 = n + (k - i) by omega] at this
        exact this
      case measure => simp [intOf]
end Go.Proofs.YteebmpbplenikaaDoor
