/- Contracts of octet's functions. -/
import Derived.Test.YtcfipimhpeblbaaMem
import Derived.Handy
import Derived.WalkSpells
import Derived.Outline
namespace Go.Proofs.Ytcfipimhpeblbaa
set_option linter.unusedVariables false
set_option linter.unusedSimpArgs false
open Go.ChangeShapes Go.WideShapes Go.ChangeAt Go.RowKit
theorem info_byte : (Try.prog.info? 5).map (fun i => (i.zero, i.size, i.bytes)) = some (some (.int .u8 0), 1, 1) := by kernel_rfl
/-- octets as cells. -/
def bcells (bs : List UInt8) : List Value := bs.map fun b => .int .u8 (b.toNat : Int)
theorem bcells_len (bs : List UInt8) : (bcells bs).length = bs.length := by simp [bcells]
theorem bcells_one {bs : List UInt8} {u : Value} (h : u ∈ bcells bs) : u.oneCell' = true := by
  obtain ⟨b, _, rfl⟩ := List.mem_map.1 h
  rfl
theorem Sl.cells {w : World} {ad : Addr} {n sz : Nat} {xs : List Value} (h : Sl w (some ad) n sz xs) : ∀ j u, xs[j]? = some u → w.cell? (ad.add j) = some u := by
  intro j u hu
  have hj : j < xs.length := (List.getElem?_eq_some_iff.1 hu).1
  rcases h.2 with h0 | ⟨b, off, ha, _, hc⟩
  · rw [h.1, h0] at hj; simp at hj
  · injection ha with ha
    subst ha
    rw [add_plain, hc j (by rw [← h.1]; exact hj), List.getD_eq_getElem?_getD, hu]
    rfl
theorem Sl.nil_ {w : World} {n sz : Nat} {xs : List Value} (h : Sl w none n sz xs) : n = 0 ∧ xs = [] := by
  rcases h.2 with h0 | ⟨b, off, ha, _⟩
  · subst h0
    exact ⟨rfl, List.eq_nil_of_length_eq_zero (by simpa using h.1)⟩
  · cases ha
/-- a row of one's own is a slice in memory. -/
theorem Sl.own {w : World} {base : Nat} {e : TypeId} {sz : Nat} {v : Value} {n : Nat} {xs : List Value} (h : w.ownsRow base e sz v n xs) : ∃ a c, v = .slice a n c ∧ n ≤ c ∧ c ≤ maxLen ∧ Sl w a n sz xs := by
  have hl := h.1
  rcases h.2 with ⟨rfl, rfl⟩ | ⟨g, cap, cur, rfl, hb, hh, hn, hm, hs, ht⟩
  · exact ⟨_, _, rfl, Nat.le_refl _, Nat.zero_le _, hl, Or.inl rfl⟩
  · refine ⟨_, _, rfl, hn, hm, hl, ?_⟩
    by_cases h0 : n * sz = 0
    · by_cases hn0 : n = 0
      · exact Or.inl hn0
      · refine Or.inr ⟨g, 0, rfl, ?_, fun j hj => by omega⟩
        rcases Nat.lt_or_ge g w.heap.size with hlt | hge
        · exact hlt
        · rw [Array.getElem?_eq_none hge] at hh; cases hh
    · refine Or.inr ⟨g, 0, rfl, ?_, fun j hj => ?_⟩
      · rcases Nat.lt_or_ge g w.heap.size with hlt | hge
        · exact hlt
        · rw [Array.getElem?_eq_none hge] at hh; cases hh
      · have := h.cells (g := g) rfl j (xs.getD j undef) (by rw [List.getD_eq_getElem?_getD, List.getElem?_eq_getElem (by omega)]; rfl)
        rwa [add_plain] at this
section
variable {w : World} {g : Nat} {v : Value} {f : Bool}
theorem grown_set (w : World) (g i : Nat) (u : Value) : w.grownBy (w.setCell ⟨g, i, none⟩ u) (some g) :=
  ⟨rfl, rfl, rfl, by simp [World.setCell], fun k hk hne => Below.heap_setCell _ _ _ _ (fun e => hne (by simpa using e))⟩
end
/-- where a slice's rest lies. -/
def restOf (a : Option Addr) (c k : Nat) : Option Addr := if c = k then a else a.map fun x => x.add k
/-- the number of some octets, the highest first. -/
def numOf (bs : List UInt8) : Nat := bs.foldl (fun n b => n * 256 + b.toNat) 0
theorem numOf_snoc (bs : List UInt8) (b : UInt8) : numOf (bs ++ [b]) = numOf bs * 256 + b.toNat := by simp [numOf, List.foldl_append]
theorem numFold_lt (bs : List UInt8) (a m : Nat) (h : a < 256 ^ m) : bs.foldl (fun n b => n * 256 + b.toNat) a < 256 ^ (m + bs.length) := by
  induction bs generalizing a m with
  | nil => exact h
  | cons b bs ih =>
    have := ih (a * 256 + b.toNat) (m + 1) (by have := b.toNat_lt; rw [Nat.pow_succ]; omega)
    rwa [show m + 1 + bs.length = m + (b :: bs).length by simp; omega] at this
theorem numOf_lt (bs : List UInt8) : numOf bs < 256 ^ bs.length := by
  have := numFold_lt bs 0 0 (by decide)
  rwa [Nat.zero_add] at this
theorem numOf_small (bs : List UInt8) (j : Nat) (h : j < 8) : numOf (bs.take j) < 72057594037927936 := by
  have hl := numOf_lt (bs.take j)
  have hpow : 256 ^ (bs.take j).length ≤ 256 ^ 7 := Nat.pow_le_pow_right (by decide) (by rw [List.length_take]; omega)
  have : (256 : Nat) ^ 7 = 72057594037927936 := by decide
  omega
theorem numOf_take (bs : List UInt8) (j : Nat) (h : j < bs.length) : numOf (bs.take (j + 1)) = numOf (bs.take j) * 256 + (bs.getD j 0).toNat := by
  rw [List.take_succ_eq_append_getElem h, numOf_snoc, List.getD_eq_getElem?_getD, List.getElem?_eq_getElem h]
  rfl
theorem or_byte (n : Nat) (b : Nat) (hn : n < 72057594037927936) (hb : b < 256) : bits .or .u64 ((n : Int) * 256) (b : Int) = (n : Int) * 256 + b := by
  have h1 : (BitVec.ofInt 64 ((n : Int) * 256)).toNat = n <<< 8 := by
    rw [BitVec.toNat_ofInt, Nat.shiftLeft_eq]; omega
  have h2 : (BitVec.ofInt 64 (b : Int)).toNat = b := by
    rw [BitVec.toNat_ofInt]; omega
  have key : bits .or .u64 ((n : Int) * 256) (b : Int) = IntKind.u64.wrap ((BitVec.ofInt 64 ((n : Int) * 256) ||| BitVec.ofInt 64 (b : Int)).toNat : Int) := rfl
  rw [key, BitVec.toNat_or, h1, h2, ← Nat.shiftLeft_add_eq_or_of_lt (by omega : b < 2 ^ 8), Nat.shiftLeft_eq, IntKind.wrap_u64]
  omega
theorem grown_of {w w' : World} (h : Below w.heap.size w w') (row : Option Nat) : w.grownBy w' row := ⟨h.os, h.tape, h.output, h.size, fun k hk _ => h.block k hk⟩
theorem Sl.byte {w : World} {a : Option Addr} {n : Nat} {bs : List UInt8} (h : Sl w a n 1 (bcells bs)) (hp : 0 < n) : bs.length = n ∧ ∃ b off, a = some ⟨b, off, none⟩ ∧ b < w.heap.size ∧ ∀ j, j < n → w.cell? ⟨b, off + j, none⟩ = some (.int .u8 ((bs.getD j 0).toNat : Int)) := by
  have hbl : bs.length = n := by have := h.1; rw [bcells_len] at this; omega
  refine ⟨hbl, ?_⟩
  rcases h.2 with h0 | ⟨b, off, ha, hb, hcl⟩
  · omega
  · refine ⟨b, off, ha, hb, fun j hj => ?_⟩
    rw [hcl j (by omega)]
    simp [bcells, List.getD_eq_getElem?_getD, List.getElem?_eq_getElem (show j < bs.length by omega)]
/-- a number's octets, the highest first. -/
def beOf (n : Nat) : Nat → List UInt8
  | 0 => []
  | w + 1 => UInt8.ofNat (n / 256 ^ w % 256) :: beOf n w
theorem beOf_len (n w : Nat) : (beOf n w).length = w := by induction w with
  | zero => rfl
  | succ w ih => simp [beOf, ih]
theorem beOf_take (m k i : Nat) (h : i + 1 ≤ k) : (beOf m k).take (k - i) = (beOf m k).take (k - (i + 1)) ++ [UInt8.ofNat (m / 256 ^ i % 256)] := by
  induction k with
  | zero => omega
  | succ k ih =>
    by_cases he : i = k
    · subst he
      simp [beOf, show i + 1 - i = 1 by omega]
    · have := ih (by omega)
      rw [show k + 1 - i = (k - i) + 1 by omega, show k + 1 - (i + 1) = (k - (i + 1)) + 1 by omega]
      simp only [beOf, List.take_succ_cons, List.cons_append, this]
theorem beOf_byte (m i : Nat) : [Value.int .u8 ((m : Int) / 2 ^ (8 * i) % 256)] = bcells [UInt8.ofNat (m / 256 ^ i % 256)] := by
  have h : (UInt8.ofNat (m / 256 ^ i % 256)).toNat = m / 256 ^ i % 256 := by
    rw [UInt8.toNat_ofNat']; omega
  have e : (2 : Int) ^ (8 * i) = ((256 ^ i : Nat) : Int) := by
    rw [show (256 : Nat) = 2 ^ 8 from rfl, ← Nat.pow_mul]
    simp
  simp only [bcells, List.map_cons, List.map_nil, h]
  rw [e]
  congr 2
theorem bcells_snoc (a b : List UInt8) : bcells (a ++ b) = bcells a ++ bcells b := by simp [bcells]
theorem cell_new1 (w : World) (u : Value) (t : TypeId) : ∀ j x, [u][j]? = some x → (w.alloc (.cells #[u] t)).cell? ((⟨w.heap.size, 0, none⟩ : Addr).add j) = some x := by
  intro j x hx
  match j, hx with
  | 0, hx => simp at hx; subst hx; simp [go_sem, Addr.add]
end Go.Proofs.Ytcfipimhpeblbaa
