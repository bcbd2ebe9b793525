/- A booking by value: its cells, the clone of its orders. -/
import Derived.Test.YtlhebimfkdcidaaBlk
import Derived.Lib.Hide
import Derived.StillTailTactics
namespace Go.Proofs.Ytlhebimfkdcidaa
set_option linter.unusedVariables false
set_option linter.unusedSimpArgs false
open Go.ChangeShapes Go.WideShapes Go.ChangeAt Go.RowKit
theorem clone_orders_info : (Try.prog.info? 29).map (fun i => (i.zero, i.size, i.bytes)) = some (some (.agg #[.int .i64 0, .int .i64 0, .int .i64 0, .int .i64 0, .int .i64 0, .int .i64 0, .int .i64 0]), 7, 56) := by kernel_rfl
set_option maxHeartbeats 400000 in
theorem clone_orders (a : Option Addr) (n c : Nat) (xs : List Value) (w : World) (h : Sl w a n 7 xs) (hone : ∀ u ∈ xs, u.oneCell' = true) (hn : n * 56 ≤ 140737488355328) :
    Calls Try.prog 18 #[.slice a n c] w fun e w' => ∃ v, e = .returned v ∧ w'.ownsRow w.heap.size 29 7 v n xs ∧ Below w.heap.size w w' ∧ (v = .slice none 0 0 ↔ a = none) := by
  have q := fun (w : World) (a : Option Addr) (n c : Nat) => Lib.run_eql_slice_nil (P := Try.prog) w 23 29 a n c 0 0 Try.underlying23
  obtain ⟨i0, hi, hz0, hz1, hz2⟩ := info_parts clone_orders_info
  cases a with
  | none =>
    obtain ⟨rfl, rfl⟩ := h.nil_
    go_enter Try.func18, Try.ntmps18
    go_wp2
    go_ret
    exact ⟨_, rfl, World.ownsRow_nil _ _ _ _, Below.refl _ _, by simp⟩
  | some ad =>
    have hcells := Lib.hid h.cells
    have hlen := Lib.hid h.1
    have HO := Lib.hid hone
    clear h hone
    go_enter Try.func18, Try.ntmps18
    have hnews : ∀ o : Obj, ∀ j u, xs[j]? = some u → (w.alloc o).cell? (ad.add j) = some u := fun o j u hu =>
      ((Below.refl w.heap.size w).alloc (Nat.le_refl _) o).cell (block_lt_of_cell (hcells.out j u hu)) |>.trans (hcells.out j u hu)
    have HN := Lib.hid hnews
    clear hnews
    go_wp2_with (at_builtin; refine wpList_append_own _ rfl _ _ 23 rfl w.heap.size 29 i0 (.agg #[.int .i64 0, .int .i64 0, .int .i64 0, .int .i64 0, .int .i64 0, .int .i64 0, .int .i64 0]) 7 56 Try.underlying23 hi hz0 hz1 hz2 rfl (by decide) _ 0 [] rfl (World.ownsRow_made w #[] 0 (Nat.le_refl _) (by decide) rfl) ad n c xs rfl hlen.out (HN.out _) HO.out ?c1 ?c2 (by simp) ?_)
    case c1 => simp only [maxLen]; omega
    case c2 => omega
    intro v' w1 hown hgr hnil
    have HOW := Lib.hid hown
    have HG := Lib.hid hgr
    have HNil := Lib.hid hnil
    clear hown hgr hnil
    go_wp2
    go_ret
    refine ⟨_, rfl, by simpa using HOW.out, (((Below.refl _ _).alloc (Nat.le_refl _) _).grown HG.out (by simp) fun k hk => ?_), by simpa using HNil.out⟩
    simp only [Value.ownBlock, Option.some.injEq] at hk
    omega
/-- a booking's cells: stock, prices, purses, orders. -/
def bkc (s p u : List Int) (o : Value) : List Value := ints s ++ ints p ++ ints u ++ [o]
structure L8 (s p u : List Int) : Prop where
  s8 : s.length = 8
  p8 : p.length = 8
  u8 : u.length = 8
section
variable {s p u : List Int} (h : L8 s p u) (o v : Value)
include h
theorem bkc_len : (bkc s p u o).length = 25 := by simp [bkc, ints_len, h.s8, h.p8, h.u8]
theorem bkc_size : (bkc s p u o).toArray.size = 25 := by rw [List.size_toArray, bkc_len h]
theorem bkc_o : (bkc s p u o)[24]? = some o := by
  unfold bkc; rw [List.getElem?_append_right (by simp [ints_len, h.s8, h.p8, h.u8])]; simp [ints_len, h.s8, h.p8, h.u8]
theorem bkc_s {k : Nat} (hk : k < 8) : (bkc s p u o)[k]? = some (.int .i64 (s.getD k 0)) := by
  unfold bkc
  rw [List.getElem?_append_left (by simp [ints_len, h.s8, h.p8, h.u8]; omega), List.getElem?_append_left (by simp [ints_len, h.s8, h.p8]; omega), List.getElem?_append_left (by simp [ints_len, h.s8]; omega)]
  exact ints_get s k (by rw [h.s8]; exact hk)
theorem bkc_p {k : Nat} (hk : k < 8) : (bkc s p u o)[8 + k]? = some (.int .i64 (p.getD k 0)) := by
  unfold bkc
  rw [List.getElem?_append_left (by simp [ints_len, h.s8, h.p8, h.u8]; omega), List.getElem?_append_left (by simp [ints_len, h.s8, h.p8]; omega), List.getElem?_append_right (by simp [ints_len, h.s8])]
  simp only [ints_len, h.s8, Nat.add_sub_cancel_left]
  exact ints_get p k (by rw [h.p8]; exact hk)
theorem bkc_u {k : Nat} (hk : k < 8) : (bkc s p u o)[16 + k]? = some (.int .i64 (u.getD k 0)) := by
  unfold bkc
  rw [List.getElem?_append_left (by simp [ints_len, h.s8, h.p8, h.u8]; omega), List.getElem?_append_right (by simp [ints_len, h.s8, h.p8])]
  simp only [List.length_append, ints_len, h.s8, h.p8, show 16 + k - (8 + 8) = k by omega]
  exact ints_get u k (by rw [h.u8]; exact hk)
theorem bkc_set_o : (bkc s p u o).set 24 v = bkc s p u v := by
  unfold bkc; rw [List.set_append_right _ _ (by simp [ints_len, h.s8, h.p8, h.u8])]; simp [ints_len, h.s8, h.p8, h.u8]
theorem bkc_set_s {k : Nat} (hk : k < 8) (m : Int) : (bkc s p u o).set k (.int .i64 m) = bkc (s.set k m) p u o := by
  unfold bkc
  rw [List.set_append_left _ _ (by simp [ints_len, h.s8, h.p8, h.u8]; omega), List.set_append_left _ _ (by simp [ints_len, h.s8, h.p8]; omega), List.set_append_left _ _ (by simp [ints_len, h.s8]; omega), ints_set]
theorem bkc_set_p {k : Nat} (hk : k < 8) (m : Int) : (bkc s p u o).set (8 + k) (.int .i64 m) = bkc s (p.set k m) u o := by
  unfold bkc
  rw [List.set_append_left _ _ (by simp [ints_len, h.s8, h.p8, h.u8]; omega), List.set_append_left _ _ (by simp [ints_len, h.s8, h.p8]; omega), List.set_append_right _ _ (by simp [ints_len, h.s8])]
  simp only [ints_len, h.s8, Nat.add_sub_cancel_left, ints_set]
theorem bkc_set_u {k : Nat} (hk : k < 8) (m : Int) : (bkc s p u o).set (16 + k) (.int .i64 m) = bkc s p (u.set k m) o := by
  unfold bkc
  rw [List.set_append_left _ _ (by simp [ints_len, h.s8, h.p8, h.u8]; omega), List.set_append_right _ _ (by simp [ints_len, h.s8, h.p8])]
  simp only [List.length_append, ints_len, h.s8, h.p8, show 16 + k - (8 + 8) = k by omega, ints_set]
omit h in
theorem bkc_take_s : ((bkc s p u o).drop 0).take (ints s).length = ints s := by simp [bkc]
theorem bkc_take_p : ((bkc s p u o).drop 8).take (ints p).length = ints p := by
  have := h.s8
  simp [bkc, List.drop_append, ints_len, h.s8]
theorem bkc_take_u : ((bkc s p u o).drop 16).take (ints u).length = ints u := by
  have e : bkc s p u o = (ints s ++ ints p) ++ (ints u ++ [o]) := by simp [bkc]
  rw [e, List.drop_append_of_le_length (by simp [ints_len, h.s8, h.p8]), List.drop_of_length_le (by simp [ints_len, h.s8, h.p8])]
  simp
omit h in
theorem bkc_one (ho : o.oneCell' = true) : ∀ x ∈ bkc s p u o, x.oneCell' = true := by
  intro x hx
  simp only [bkc, List.mem_append, List.mem_singleton] at hx
  rcases hx with ((hx | hx) | hx) | rfl
  · exact ints_one hx
  · exact ints_one hx
  · exact ints_one hx
  · exact ho
end
theorem L8.set_s {s p u : List Int} (h : L8 s p u) (k : Nat) (m : Int) : L8 (s.set k m) p u := ⟨by simp [h.s8], h.p8, h.u8⟩
theorem L8.set_p {s p u : List Int} (h : L8 s p u) (k : Nat) (m : Int) : L8 s (p.set k m) u := ⟨h.s8, by simp [h.p8], h.u8⟩
theorem L8.set_u {s p u : List Int} (h : L8 s p u) (k : Nat) (m : Int) : L8 s p (u.set k m) := ⟨h.s8, h.p8, by simp [h.u8]⟩
theorem hset_s {s p u : List Int} (h : Hid (L8 s p u)) (k : Nat) (m : Int) : Hid (L8 (s.set k m) p u) := Lib.hid (h.out.set_s k m)
theorem hset_p {s p u : List Int} (h : Hid (L8 s p u)) (k : Nat) (m : Int) : Hid (L8 s (p.set k m) u) := Lib.hid (h.out.set_p k m)
theorem hset_u {s p u : List Int} (h : Hid (L8 s p u)) (k : Nat) (m : Int) : Hid (L8 s p (u.set k m)) := Lib.hid (h.out.set_u k m)
def zero8 : List Int := List.replicate 8 0
theorem L8.zero : L8 zero8 zero8 zero8 := ⟨rfl, rfl, rfl⟩
theorem size_book : (Try.prog.info? 25).map (·.size) = some 25 := by kernel_rfl
theorem size_arr8 : (Try.prog.info? 22).map (·.size) = some 8 := by kernel_rfl
/-- a booking is loaded whole. -/
theorem bk_load {d t : Nat} {ty : TypeId} {ps : String} {af : Array Edge} {a : Act} {w : World} {ops : Array Oper} {rest : List Oper} {Q : Exit → Act → World → Prop} {g T : Nat} {s p u : List Int} {o : Value}
    (hx : a.eval (.tmp t) = .pointer (some ⟨g, 0, none⟩)) (hb : Blk w g (bkc s p u o) T) (h8 : Hid (L8 s p u)) (h : wpList Try.prog ops Q rest (a.put (some d) (.agg (bkc s p u o).toArray)) w) :
    wpList Try.prog ops Q (⟨some d, .load 25 (.tmp t), ty, ps, af, none⟩ :: rest) a w :=
  wpList_load_mid rfl 25 (.tmp t) rfl g 0 hx _ _ (hb.range 0 _ (by simp)) Try.underlying25 rfl (by rw [size_book, bkc_len h8.out]) h
theorem bk_load_g {d t i : Nat} {b : Bool} {ty : TypeId} {ps : String} {af : Array Edge} {a : Act} {w : World} {ops : Array Oper} {rest : List Oper} {Q : Exit → Act → World → Prop} {g T : Nat} {s p u : List Int} {o : Value}
    (hx : a.eval (.tmp t) = .pointer (some ⟨g, 0, none⟩)) (hw : Region.wanted ⟨some d, .load 25 (.tmp t), ty, ps, af, some (i, b)⟩ (yielded ops a.tmps) = true) (hb : Blk w g (bkc s p u o) T) (h8 : Hid (L8 s p u)) (h : wpList Try.prog ops Q rest (a.put (some d) (.agg (bkc s p u o).toArray)) w) :
    wpList Try.prog ops Q (⟨some d, .load 25 (.tmp t), ty, ps, af, some (i, b)⟩ :: rest) a w :=
  wpList_step fun K hK => by
    rw [if_pos hw]
    exact wp_load_mid 25 (.tmp t) rfl g 0 hx _ _ (hb.range 0 _ (by simp)) Try.underlying25 rfl (by rw [size_book, bkc_len h8.out]) (hK _ _ h)
/-- a booking is stored whole. -/
theorem bk_store {t t' : Nat} {ty : TypeId} {ps : String} {af : Array Edge} {a : Act} {w : World} {ops : Array Oper} {rest : List Oper} {Q : Exit → Act → World → Prop} {g T : Nat} {s p u : List Int} {x : Option Addr} {n c : Nat} {old : List Value}
    (hx : a.eval (.tmp t) = .pointer (some ⟨g, 0, none⟩)) (hy : a.eval (.tmp t') = .agg (bkc s p u (.slice x n c)).toArray) (hb : Blk w g old T) (hl : old.length = 25) (h8 : Hid (L8 s p u)) (h : wpList Try.prog ops Q rest (a.put none undef) (w.setCells g 0 (bkc s p u (.slice x n c)))) :
    wpList Try.prog ops Q (⟨none, .store 25 (.tmp t) (.tmp t'), ty, ps, af, none⟩ :: rest) a w :=
  wpList_store_mid rfl 25 (.tmp t) (.tmp t') rfl g 0 _ hx hy (hb.there 0 _ (by rw [bkc_size h8.out, hl]; decide)) (by rw [size_book, bkc_size h8.out]) (all_oneCell_toArray (bkc_one _ rfl)) (by rw [List.toList_toArray]; exact h)
/-- .. into a variable that was just made. -/
theorem bk_store_new {t t' : Nat} {ty : TypeId} {ps : String} {af : Array Edge} {a : Act} {w : World} {ops : Array Oper} {rest : List Oper} {Q : Exit → Act → World → Prop} {g T : Nat} {s p u : List Int} {x : Option Addr} {n c : Nat} {old : Array Value}
    (hx : a.eval (.tmp t) = .pointer (some ⟨g, 0, none⟩)) (hg : g = w.heap.size) (hy : a.eval (.tmp t') = .agg (bkc s p u (.slice x n c)).toArray) (hl : old.size = 25) (h8 : Hid (L8 s p u)) (h : wpList Try.prog ops Q rest (a.put none undef) (w.alloc (.cells (bkc s p u (.slice x n c)).toArray T))) :
    wpList Try.prog ops Q (⟨none, .store 25 (.tmp t) (.tmp t'), ty, ps, af, none⟩ :: rest) a (w.alloc (.cells old T)) := by
  subst hg
  refine bk_store hx hy (Blk.new w old T) (by simpa using hl) h8 ?_
  rw [setAll_new w old _ T (by rw [bkc_len h8.out, hl])]
  exact h
theorem zero_cells : (bkc zero8 zero8 zero8 (.slice none 0 0)).toArray = #[.int .i64 0, .int .i64 0, .int .i64 0, .int .i64 0, .int .i64 0, .int .i64 0, .int .i64 0, .int .i64 0, .int .i64 0, .int .i64 0, .int .i64 0, .int .i64 0, .int .i64 0, .int .i64 0, .int .i64 0, .int .i64 0, .int .i64 0, .int .i64 0, .int .i64 0, .int .i64 0, .int .i64 0, .int .i64 0, .int .i64 0, .int .i64 0, .slice none 0 0] := by kernel_rfl
/-- the booking with nothing in it is stored into a variable that was just made. -/
theorem bk_store_zero {t t' : Nat} {ty : TypeId} {ps : String} {af : Array Edge} {a : Act} {w : World} {ops : Array Oper} {rest : List Oper} {Q : Exit → Act → World → Prop} {g T : Nat} {old : Array Value}
    (hx : a.eval (.tmp t) = .pointer (some ⟨g, 0, none⟩)) (hg : g = w.heap.size) (hy : a.eval (.tmp t') = .agg #[.int .i64 0, .int .i64 0, .int .i64 0, .int .i64 0, .int .i64 0, .int .i64 0, .int .i64 0, .int .i64 0, .int .i64 0, .int .i64 0, .int .i64 0, .int .i64 0, .int .i64 0, .int .i64 0, .int .i64 0, .int .i64 0, .int .i64 0, .int .i64 0, .int .i64 0, .int .i64 0, .int .i64 0, .int .i64 0, .int .i64 0, .int .i64 0, .slice none 0 0]) (hl : old.size = 25) (h : wpList Try.prog ops Q rest (a.put none undef) (w.alloc (.cells (bkc zero8 zero8 zero8 (.slice none 0 0)).toArray T))) :
    wpList Try.prog ops Q (⟨none, .store 25 (.tmp t) (.tmp t'), ty, ps, af, none⟩ :: rest) a (w.alloc (.cells old T)) :=
  bk_store_new hx hg (hy.trans (by rw [zero_cells])) hl (Lib.hid L8.zero) h
theorem bk_load_still {d t : Nat} {ty : TypeId} {ps : String} {af : Array Edge} {a : Act} {w : World} {ops : Array Oper} {rest : List Oper} {Q : Act → Prop} {g T : Nat} {s p u : List Int} {o : Value}
    (hx : a.eval (.tmp t) = .pointer (some ⟨g, 0, none⟩)) (hb : Blk w g (bkc s p u o) T) (h8 : Hid (L8 s p u)) (h : wpStill Try.prog ops w Q rest (a.put (some d) (.agg (bkc s p u o).toArray))) :
    wpStill Try.prog ops w Q (⟨some d, .load 25 (.tmp t), ty, ps, af, none⟩ :: rest) a := by
  refine wpStill_step fun K hK => ?_
  refine (if_pos (show Region.wanted _ _ = true from rfl)).mpr ?_
  unfold Oper.still execOp
  simp only [hx, Instr.loadAt, Instr.sureAddr, Sem.run_bind, Sem.run_pure, Result.andThen_ok, run_loadVar_mid w g 0 25 _ _ (hb.range 0 (bkc s p u o) (by simp)) Try.underlying25 rfl (by rw [size_book, bkc_len h8.out]), Oper.stillUpon]
  exact ⟨trivial, hK _ h⟩
end Go.Proofs.Ytlhebimfkdcidaa
