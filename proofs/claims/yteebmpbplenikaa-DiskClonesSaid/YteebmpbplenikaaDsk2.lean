/- A disk: octets put upon it. -/
import Derived.Test.YteebmpbplenikaaDsk
import Derived.Test.YteebmpbplenikaaHeld
import Derived.RegionTactic
import Derived.BigRegion
import Derived.ChangeAlike
import Derived.Laws.IdiomCopy
namespace Go.Proofs.Yteebmpbplenikaa
set_option linter.unusedVariables false
set_option linter.unusedSimpArgs false
open Go.ChangeShapes Go.WideShapes Go.ChangeAt Go.RowKit
theorem Blk.sets_otherD {g g' t : Nat} {cs : List Value} (hne : g ≠ g') (vs : List Value) : ∀ (o : Nat) (w : World), Blk w g cs t → Blk (w.setCells g' o vs) g cs t := by
  induction vs with
  | nil => intro o w h; exact h
  | cons v r ih => intro o w h; exact ih (o + 1) _ (h.set_other hne o v)
theorem run_load_oneD {P : Program} {ty : TypeId} {g j : Nat} {w : World} {v : Value} {td : TypeDesc} (hu : P.underlying ty = some td) (hd : td.isRow = false) (hc : w.cell? ⟨g, j, none⟩ = some v) :
    (loadVar ty ⟨g, j, none⟩).run P w = .ok v w := by
  have hagg : (isAgg ty).run P w = .ok false w := by
    unfold isAgg
    rw [Sem.run_bind, run_underlying hu w]
    cases td <;> simp_all
  simp [loadVar, Sem.run_bind, hagg, go_sem, hc]
theorem run_op_oneD {P : Program} {a : Act} {o : Oper} {ty : TypeId} {x : Operand} {g j : Nat} {w : World} {v : Value} {td : TypeDesc} (ho : o.op = .load ty x) (hx : a.eval x = .pointer (some ⟨g, j, none⟩)) (hu : P.underlying ty = some td) (hd : td.isRow = false) (hc : w.cell? ⟨g, j, none⟩ = some v) :
    (execOp a.eval o).run P w = .ok (.value v) w := by
  unfold execOp
  simp only [ho, hx, Instr.loadAt, Instr.sureAddr, Sem.run_bind, Sem.run_pure, Result.andThen_ok, run_load_oneD hu hd hc]
def setSeg (bs : List UInt8) (o : Nat) (xs : List UInt8) : List UInt8 := bs.take o ++ xs ++ bs.drop (o + xs.length)
theorem setSeg_len {bs : List UInt8} {o : Nat} {xs : List UInt8} (h : o + xs.length ≤ bs.length) : (setSeg bs o xs).length = bs.length := by
  unfold setSeg
  simp
  omega
theorem setSeg_nil (bs : List UInt8) (o : Nat) : setSeg bs o [] = bs := by unfold setSeg; simp
theorem run_op_copyD {P : Program} {o : Oper} {d s : Operand} {dT sT : TypeId} {a : Act} {w w' : World} {vd vs r : Value} (ho : o.op = .call { callee := .builtin .copy, args := #[d, s], argTypes := #[dT, sT] }) (hd : a.eval d = vd) (hs : a.eval s = vs) (h : ∀ ty, (Builtin.copy_ #[dT, sT] ty #[vd, vs]).run P w = .ok r w') :
    (execOp a.eval o).run P w = .ok (.value r) w' := by
  simp [execOp, ho, resolve, invoke, builtin, hd, hs, h, Result.andThen]
theorem run_op_storeD {P : Program} {o : Oper} {T : TypeId} {x y : Operand} {a : Act} {w : World} {g j : Nat} {k : IntKind} {z : Int} {old : Value} (ho : o.op = .store T x y) (hx : a.eval x = .pointer (some ⟨g, j, none⟩)) (hy : a.eval y = .int k z) (hi : (P.info? T).map (·.size) = some 1) (hc : w.cell? ⟨g, j, none⟩ = some old) (hf : w.frozen? ⟨g, j, none⟩ = false) :
    (execOp a.eval o).run P w = .ok .skip (w.setCell ⟨g, j, none⟩ (.int k z)) := by
  cases hq : P.info? T with
  | none => simp [hq] at hi
  | some i =>
    have hi1 : i.size = 1 := by simpa [hq] using hi
    unfold execOp
    simp only [ho, hx, hy]
    simp [Instr.storeAt, Instr.sureAddr, storeVar, go_sem, hc, hf, sizeOf, typeInfo, hq, hi1, storeCells]
theorem Dsk.sets {g n c s : Nat} {a : Option Addr} {bs : List UInt8} {left wr : Int} {dead : Bool} {w : World} {spare : List Value} (h : Dsk w g a n c bs left dead wr) (ha : a = some ⟨s, 0, none⟩) (hb : Blk w s (bcells bs ++ spare) 52) (hn : s ≠ g) (o : Nat) (xs : List UInt8) (hl : o + xs.length ≤ bs.length) :
    Dsk (w.setCells s o (bcells xs)) g a n c (setSeg bs o xs) left dead wr := by
  have h1 := Blk.setAt (bcells xs) o w _ hb (by rw [List.length_append, bcells_len, bcells_len]; omega)
  have e : (bcells bs ++ spare).take o ++ bcells xs ++ (bcells bs ++ spare).drop (o + (bcells xs).length) = bcells (setSeg bs o xs) ++ spare := by
    rw [bcells_len, List.take_append_of_le_length (by rw [bcells_len]; omega), List.drop_append_of_le_length (by rw [bcells_len]; omega)]
    unfold setSeg bcells
    simp
  rw [e] at h1
  have h2 : Blk (w.setCells s o (bcells xs)) g (dkc a n c left dead wr) 39 := Blk.sets_otherD (fun e => hn e.symm) _ _ _ h.head
  exact ⟨h2, by rw [setSeg_len hl]; exact h.len, h.cap, h.few, h.lo, h.hi, Or.inr ⟨s, spare, ha, h1, hn⟩⟩
set_option maxHeartbeats 1000000 in
theorem put_core {g n c : Nat} {a : Option Addr} {bs : List UInt8} {left wr : Int} {dead : Bool} {w : World} (h : Dsk w g a n c bs left dead wr) {s : Nat} {spare : List Value} (ha : a = some ⟨s, 0, none⟩) (hb : Blk w s (bcells bs ++ spare) 52) (hsg : s ≠ g) (i : Nat) (hi : i < n) (ab : Option Addr) (nb cb : Nat) (xs : List UInt8) (hx : Sl w ab nb 1 (bcells xs)) (hnb : nb ≤ 32) :
    Calls Try.prog 27 #[.pointer (some ⟨g, 0, none⟩), .int .i64 i, .slice ab nb cb] w fun e w' => e = .returned (.tuple #[]) ∧ Dsk w' g a n c (setSeg bs (32 * i) xs) left dead (wrap64 (wr + nb)) ∧ Only (dkp g a) w w' := by
  have hxl : xs.length = nb := by have := hx.1; rw [bcells_len] at this; omega
  have hfit : 32 * i + xs.length ≤ bs.length := by rw [h.len, hxl]; omega
  have CP := Lib.hid (show ∀ ty, (Builtin.copy_ #[33, 33] ty #[.slice (some ⟨s, i * 32, none⟩) 32 32, .slice ab nb cb]).run Try.prog w.drew = .ok (.int .i64 nb) (w.drew.setCells s (32 * i) (bcells xs)) from fun ty => by
    by_cases h0 : nb = 0
    · subst h0
      have : xs = [] := List.eq_nil_of_length_eq_zero hxl
      subst this
      exact run_copy_none (P := Try.prog) w.drew 33 33 ty 5 _ _ 32 32 0 cb Try.underlying33 (by kernel_rfl) (by simp)
    · rcases hx.2 with h1 | ⟨b1, o1, rfl, hb1, hc1⟩
      · omega
      · have := run_copy_cells (P := Try.prog) w.drew 33 33 ty 5 s (i * 32) 32 32 ⟨b1, o1, none⟩ nb cb (bcells xs) Try.underlying33 (by kernel_rfl) (by rw [bcells_len, hxl]; exact (Nat.min_eq_left hnb).symm)
          (fun j v hv => (Sl.cells hx) j v hv)
          (fun j hj => by
            have hj' : j < xs.length := by rw [bcells_len] at hj; exact hj
            have := (hb.there (i * 32) xs.length (by rw [List.length_append, bcells_len]; omega)) j hj'
            exact this.1)
          (fun j hj => hb.froz _) (fun v hv => bcells_one hv)
        rw [bcells_len, hxl, show i * 32 = 32 * i by omega] at this
        rw [show i * 32 = 32 * i by omega]
        exact this)
  have hB2 : Blk (w.drew.setCells s (32 * i) (bcells xs)) g (dkc a n c left dead wr) 39 := Blk.sets_otherD (fun e => hsg e.symm) _ _ _ h.head.drew
  have HF := Lib.hid (Dsk.sets (w := w.drew) ⟨h.head, h.len, h.cap, h.few, h.lo, h.hi, h.sec⟩ ha (show Blk w.drew s (bcells bs ++ spare) 52 from hb) hsg (32 * i) xs hfit)
  have HO := Lib.hid (((Only.refl (dkp g a) w).drew).setCells (g := s) (Or.inr ⟨_, ha, rfl⟩) (bcells xs) (32 * i))
  have hi0 : (0 : Int) ≤ i := by omega
  have hin : (i : Int) < n := by omega
  obtain ⟨q0, q1, q2, q3, q4⟩ := h.cells
  have k4 : (w.drew.setCells s (32 * i) (bcells xs)).cell? ⟨g, 4, none⟩ = some (.int .i64 wr) := hB2.cell 4
  have f4 := h.head.froz 4
  have f4' := hB2.froz 4
  have cp := CP.out
  have HD := Lib.hid h
  subst ha
  clear h hb hx hxl hfit hnb CP hB2
  go_enter Try.func27, Try.ntmps27
  go_region
  go_end0
  exact ⟨rfl, HF.out.set_wr _, HO.out.setCell (Or.inl rfl) _ _⟩
theorem put_any {g n c : Nat} {a : Option Addr} {bs : List UInt8} {left wr : Int} {dead : Bool} {w : World} (h : Dsk w g a n c bs left dead wr) (i : Nat) (hi : i < n) (ab : Option Addr) (nb cb : Nat) (xs : List UInt8) (hx : Sl w ab nb 1 (bcells xs)) (hnb : nb ≤ 32) :
    Calls Try.prog 27 #[.pointer (some ⟨g, 0, none⟩), .int .i64 i, .slice ab nb cb] w fun e w' => e = .returned (.tuple #[]) ∧ Dsk w' g a n c (setSeg bs (32 * i) xs) left dead (wrap64 (wr + nb)) ∧ Only (dkp g a) w w' := by
  rcases h.sec with h0 | ⟨s, spare, ha, hb, hn⟩
  · omega
  · exact put_core h ha hb hn i hi ab nb cb xs hx hnb
end Go.Proofs.Yteebmpbplenikaa
