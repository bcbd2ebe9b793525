/- The statements of disks: the book of octets beside the disk; a write upon both. -/
import Derived.Test.YteebmpbplenikaaDsk4
import Derived.Test.YteebmpbplenikaaHeld
import Derived.Test.YteebmpbplenikaaLaw02
import Derived.RegionTactic
import Derived.BigRegion
import Derived.ChangeAlike
import Derived.Laws.IdiomCopy
import Derived.Deep.LoopGhost
import Derived.Deep.DeepCutAuto
namespace Go.Proofs.Yteebmpbplenikaa
set_option linter.unusedVariables false
set_option linter.unusedSimpArgs false
open Go.ChangeShapes Go.WideShapes Go.ChangeAt Go.RowKit
def bkc (a : Option Addr) (m c : Nat) (fuel : Int) (dead : Bool) (wr : Int) : List Value := [.slice a m c, .int .i64 fuel, .bool dead, .int .i64 wr]
structure Bok (w : World) (k : Nat) (a : Option Addr) (m c : Nat) (bs : List UInt8) (fuel : Int) (dead : Bool) (wr : Int) : Prop where
  head : Blk w k (bkc a m c fuel dead wr) 35
  len : bs.length = m
  cap : m ≤ c
  sec : m = 0 ∨ ∃ s spare, a = some ⟨s, 0, none⟩ ∧ Blk w s (bcells bs ++ spare) 5 ∧ s ≠ k
def bkp (k : Nat) (a : Option Addr) (j : Nat) : Prop := j = k ∨ ∃ s, a = some s ∧ j = s.block
theorem Bok.only {k m c : Nat} {a : Option Addr} {bs : List UInt8} {fuel wr : Int} {dead : Bool} {w w' : World} {p : Nat → Prop} (h : Bok w k a m c bs fuel dead wr) (ho : Only p w w') (hp : ∀ j, bkp k a j → ¬ p j) : Bok w' k a m c bs fuel dead wr :=
  ⟨h.head.only ho (hp k (Or.inl rfl)), h.len, h.cap, h.sec.imp id fun ⟨s, sp, ha, hb, hn⟩ => ⟨s, sp, ha, hb.only ho (hp s (Or.inr ⟨_, ha, rfl⟩)), hn⟩⟩
theorem Bok.cells {k m c : Nat} {a : Option Addr} {bs : List UInt8} {fuel wr : Int} {dead : Bool} {w : World} (h : Bok w k a m c bs fuel dead wr) : w.cell? ⟨k, 0, none⟩ = some (.slice a m c) ∧ w.cell? ⟨k, 1, none⟩ = some (.int .i64 fuel) ∧ w.cell? ⟨k, 2, none⟩ = some (.bool dead) ∧ w.cell? ⟨k, 3, none⟩ = some (.int .i64 wr) :=
  ⟨h.head.cell 0, h.head.cell 1, h.head.cell 2, h.head.cell 3⟩
theorem Bok.set_fuel {k m c : Nat} {a : Option Addr} {bs : List UInt8} {fuel wr : Int} {dead : Bool} {w : World} (h : Bok w k a m c bs fuel dead wr) (z : Int) : Bok (w.setCell ⟨k, 1, none⟩ (.int .i64 z)) k a m c bs z dead wr :=
  ⟨h.head.set 1 _, h.len, h.cap, h.sec.imp id fun ⟨s, sp, ha, hb, hn⟩ => ⟨s, sp, ha, hb.set_other hn 1 _, hn⟩⟩
theorem Bok.set_dead {k m c : Nat} {a : Option Addr} {bs : List UInt8} {fuel wr : Int} {dead : Bool} {w : World} (h : Bok w k a m c bs fuel dead wr) (z : Bool) : Bok (w.setCell ⟨k, 2, none⟩ (.bool z)) k a m c bs fuel z wr :=
  ⟨h.head.set 2 _, h.len, h.cap, h.sec.imp id fun ⟨s, sp, ha, hb, hn⟩ => ⟨s, sp, ha, hb.set_other hn 2 _, hn⟩⟩
theorem Bok.set_wr {k m c : Nat} {a : Option Addr} {bs : List UInt8} {fuel wr : Int} {dead : Bool} {w : World} (h : Bok w k a m c bs fuel dead wr) (z : Int) : Bok (w.setCell ⟨k, 3, none⟩ (.int .i64 z)) k a m c bs fuel dead z :=
  ⟨h.head.set 3 _, h.len, h.cap, h.sec.imp id fun ⟨s, sp, ha, hb, hn⟩ => ⟨s, sp, ha, hb.set_other hn 3 _, hn⟩⟩
/-- one octet put. -/
theorem Bok.set_byte {k m c : Nat} {a : Option Addr} {bs : List UInt8} {fuel wr : Int} {dead : Bool} {w : World} (h : Bok w k a m c bs fuel dead wr) {s : Nat} (ha : a = some ⟨s, 0, none⟩) (o : Nat) (x : UInt8) (ho : o < m) : Bok (w.setCell ⟨s, o, none⟩ (.int .u8 (x.toNat : Int))) k a m c (bs.set o x) fuel dead wr := by
  rcases h.sec with h0 | ⟨s', sp, ha', hb, hn⟩
  · omega
  · rw [ha] at ha'
    cases ha'
    refine ⟨h.head.set_other (fun e => hn e.symm) o _, by rw [List.length_set]; exact h.len, h.cap, Or.inr ⟨s, sp, ha, ?_, hn⟩⟩
    have := hb.set o (.int .u8 (x.toNat : Int))
    rw [List.set_append_left _ _ (by rw [bcells_len, h.len]; exact ho)] at this
    have e : (bcells bs).set o (.int .u8 (x.toNat : Int)) = bcells (bs.set o x) := by unfold bcells; rw [List.map_set]
    rwa [e] at this
theorem Bok.byte {k m c : Nat} {a : Option Addr} {bs : List UInt8} {fuel wr : Int} {dead : Bool} {w : World} (h : Bok w k a m c bs fuel dead wr) {s : Nat} (ha : a = some ⟨s, 0, none⟩) (o : Nat) (ho : o < m) : w.cell? ⟨s, o, none⟩ = some (.int .u8 ((bs.getD o 0).toNat : Int)) ∧ w.frozen? ⟨s, o, none⟩ = false ∧ s < w.heap.size := by
  rcases h.sec with h0 | ⟨s', sp, ha', hb, hn⟩
  · omega
  · rw [ha] at ha'
    cases ha'
    have hl := h.len
    refine ⟨?_, hb.froz o, hb.lt⟩
    rw [hb.cell, List.getElem?_append_left (by rw [bcells_len]; omega)]
    simp [bcells, List.getD_eq_getElem?_getD, List.getElem?_eq_getElem (show o < bs.length by omega)]
theorem Bok.at_ {k m c : Nat} {a : Option Addr} {bs : List UInt8} {fuel wr : Int} {dead : Bool} {w : World} (h : Bok w k a m c bs fuel dead wr) (hm : 0 < m) : ∃ s, a = some ⟨s, 0, none⟩ ∧ s ≠ k := by
  rcases h.sec with h0 | ⟨s, sp, ha, hb, hn⟩
  · omega
  · exact ⟨s, ha, hn⟩
/-- the disk and the book beside it hold the same. -/
structure Two (w : World) (B g : Nat) (a : Option Addr) (n c k : Nat) (ka : Option Addr) (kc : Nat) (bs : List UInt8) (left : Int) (dead : Bool) (wr : Int) : Prop where
  d : Dsk w g a n c bs left dead wr
  b : Bok w k ka (32 * n) kc bs left dead wr
  kg : k ≠ g
  ak : ∀ s, a = some s → s.block ≠ k
  kag : ∀ t, ka = some t → t.block ≠ g
  aka : ∀ s t, a = some s → ka = some t → s.block ≠ t.block
  lg : B ≤ g
  lk : B ≤ k
  la : ∀ s, a = some s → B ≤ s.block
  lka : ∀ t, ka = some t → B ≤ t.block
  lw : B ≤ w.heap.size
  top : ∀ j, dkp g a j ∨ bkp k ka j → j < w.heap.size
theorem Two.disj {w : World} {B g n c k kc : Nat} {a ka : Option Addr} {bs : List UInt8} {left wr : Int} {dead : Bool} (h : Two w B g a n c k ka kc bs left dead wr) : ∀ j, bkp k ka j → ¬ dkp g a j := by
  rintro j (rfl | ⟨t, ht, rfl⟩) (hj | ⟨s, hs, hj⟩)
  · exact h.kg hj
  · exact h.ak s hs hj.symm
  · exact h.kag t ht hj
  · exact h.aka s t hs ht hj.symm
theorem Two.lod {w : World} {B g n c k kc : Nat} {a ka : Option Addr} {bs : List UInt8} {left wr : Int} {dead : Bool} (h : Two w B g a n c k ka kc bs left dead wr) : ∀ j, dkp g a j → B ≤ j := by
  rintro j (rfl | ⟨s, hs, rfl⟩)
  · exact h.lg
  · exact h.la s hs
theorem Two.lob {w : World} {B g n c k kc : Nat} {a ka : Option Addr} {bs : List UInt8} {left wr : Int} {dead : Bool} (h : Two w B g a n c k ka kc bs left dead wr) : ∀ j, bkp k ka j → B ≤ j := by
  rintro j (rfl | ⟨s, hs, rfl⟩)
  · exact h.lk
  · exact h.lka s hs
end Go.Proofs.Yteebmpbplenikaa
