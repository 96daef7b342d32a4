import Derived.Deep.RegionHeld3
import Derived.Test.YtmcpaangofdmpaaDoorFoV
namespace Go.Proofs.YtmcpaangofdmpaaDoor
open Go.RowKit
set_option maxRecDepth 100000
set_option linter.unusedVariables false
set_option linter.unusedSimpArgs false
theorem foAt_one (a : Int) (b : Bool) (c : Int) (i : Nat) : (foAt a b c i).oneCell' = true := by unfold foAt; split <;> (try split) <;> rfl
theorem size_lfo2 : (Tryd.prog.info? 33).map (·.size) = some 3 := by kernel_rfl
theorem info_fo3 : (Tryd.prog.info? 38).map (fun i => (i.zero, i.size, i.bytes)) = some (some (.agg #[.int .i8 0, .bool false, .int .i8 0]), 3, 3) := by kernel_rfl
/-- the cells of a row of drops -/
def fdf (px : Nat → Int) (py : Nat → Bool) (pn : Nat → Int) (i : Nat) : Value := foAt (px (i / 3)) (py (i / 3)) (pn (i / 3)) (i % 3)
theorem fdf_three (px : Nat → Int) (py : Nat → Bool) (pn : Nat → Int) (k : Nat) : vrow 3 (fun j => fdf px py pn (k * 3 + j)) = vrow 3 (foAt (px k) (py k) (pn k)) := vrow_ext _ _ _ fun i hi => by
  unfold fdf; rw [show (k * 3 + i) / 3 = k by omega, show (k * 3 + i) % 3 = i by omega]
/-- k drops have been put -/
def fdk (px : Nat → Int) (py : Nat → Bool) (pn : Nat → Int) (k : Nat) (i : Nat) : Value := if i < k * 3 then fdf px py pn i else foAt 0 false 0 (i % 3)
theorem fdk_0 (px : Nat → Int) (py : Nat → Bool) (pn : Nat → Int) (n : Nat) : vrow n (fdk px py pn 0) = vrow n (fun i => foAt 0 false 0 (i % 3)) := vrow_ext _ _ _ fun i _ => by unfold fdk; rw [if_neg (by omega)]
theorem fdk_n (px : Nat → Int) (py : Nat → Bool) (pn : Nat → Int) (n : Nat) : vrow (n * 3) (fdk px py pn n) = vrow (n * 3) (fdf px py pn) := vrow_ext _ _ _ fun i hi => by unfold fdk; rw [if_pos hi]
theorem fdk_step (px : Nat → Int) (py : Nat → Bool) (pn : Nat → Int) (n k : Nat) : vrow n (over (fdk px py pn k) (k * 3) 3 (foAt (px k) (py k) (pn k))) = vrow n (fdk px py pn (k + 1)) := vrow_ext _ _ _ fun i _ => by
  unfold over fdk
  by_cases h : k * 3 ≤ i ∧ i < k * 3 + 3
  · rw [if_pos h, if_pos (by omega)]; unfold fdf
    rw [show i / 3 = k by omega, show i % 3 = i - k * 3 by omega]
  · rw [if_neg h]
    by_cases h2 : i < k * 3
    · rw [if_pos h2, if_pos (by omega)]
    · rw [if_neg h2, if_neg (by omega)]
/-- drops that came in lie there -/
def FdsC (w : World) (ao : Option Addr) (n : Nat) (px : Nat → Int) (py : Nat → Bool) (pn : Nat → Int) : Prop :=
  0 < n → ∃ b off, ao = some ⟨b, off, none⟩ ∧ b < w.heap.size ∧ ∀ i, i < n → w.cell? ⟨b, off + i * 3, none⟩ = some (.int .i8 (px i)) ∧ w.cell? ⟨b, off + i * 3 + 1, none⟩ = some (.bool (py i)) ∧ w.cell? ⟨b, off + i * 3 + 2, none⟩ = some (.int .i8 (pn i))
theorem FdsC.next {w w' : World} {ao : Option Addr} {n : Nat} {px : Nat → Int} {py : Nat → Bool} {pn : Nat → Int} (h : FdsC w ao n px py pn) (hb : Below w.heap.size w w') : FdsC w' ao n px py pn := fun hn => by
  obtain ⟨b, off, rfl, hlt, hc⟩ := h hn
  refine ⟨b, off, rfl, Nat.lt_of_lt_of_le hlt hb.size, fun i hi => ?_⟩
  have e : ∀ o, w'.cell? ⟨b, o, none⟩ = w.cell? ⟨b, o, none⟩ := fun o => by unfold World.cell?; rw [show w'.heap[(⟨b, o, none⟩ : Addr).block]? = w.heap[(⟨b, o, none⟩ : Addr).block]? from hb.block b hlt]
  rw [e, e, e]; exact hc i hi
theorem FdsC.set0 {w : World} {b off g n : Nat} {px : Nat → Int} {py : Nat → Bool} {pn : Nat → Int} (h : FdsC w (some ⟨b, off, none⟩) n px py pn) (hne : b ≠ g) (cs : Array Value) : FdsC (w.setRow g cs) (some ⟨b, off, none⟩) n px py pn := fun hn => by
  obtain ⟨b', off', he, hlt, hc⟩ := h hn
  simp only [Option.some.injEq, Addr.mk.injEq] at he
  obtain ⟨rfl, rfl, _⟩ := he
  refine ⟨b, off, rfl, by simpa using hlt, fun i hi => ?_⟩
  have e : ∀ o, (w.setRow g cs).cell? ⟨b, o, none⟩ = w.cell? ⟨b, o, none⟩ := fun o => by unfold World.cell?; rw [show (w.setRow g cs).heap[(⟨b, o, none⟩ : Addr).block]? = w.heap[(⟨b, o, none⟩ : Addr).block]? from setRow_other w g b cs hne]
  rw [e, e, e]; exact hc i hi
/-- LOAD of three cells, cell by cell. -/
theorem wpList_loadc3 {P : Program} {ops : Array Oper} {rest : List Oper} {o : Oper} {a : Act} {w : World} {Q : Exit → Act → World → Prop} (hgd : o.guard = none) (ty : TypeId) (x : Operand) (ho : o.op = .load ty x)
    (b off : Nat) (hx : a.eval x = .pointer (some ⟨b, off, none⟩)) (u v z : Value) (d : TypeDesc) (hu : P.underlying ty = some d) (hd : d.isRow = true) (hi : (P.info? ty).map (·.size) = some 3)
    (h0 : w.cell? ⟨b, off, none⟩ = some u) (h1 : w.cell? ⟨b, off + 1, none⟩ = some v) (h2 : w.cell? ⟨b, off + 2, none⟩ = some z)
    (h : wpList P ops Q rest (a.put o.dst (.agg #[u, v, z])) w) : wpList P ops Q (o :: rest) a w := by
  refine wpList_load_mid hgd ty x ho b off hx [u, v, z] d (fun j y hj => by
    match j, hj with
    | 0, hj => simp at hj; rw [Nat.add_zero, h0, hj]
    | 1, hj => simp at hj; rw [h1, hj]
    | 2, hj => simp at hj; rw [h2, hj]
    | j + 3, hj => simp at hj) hu hd (by simpa using hi) (by simpa using h)
theorem made3f (n : Nat) : madeCells #[.int .i8 0, .bool false, .int .i8 0] (n * 3) = vrow (n * 3) fun i => foAt 0 false 0 (i % 3) := by
  apply Array.ext_getElem?
  intro i
  by_cases hi : i < n * 3
  · rw [vrow_get _ _ _ hi]
    have : i % 3 = 0 ∨ i % 3 = 1 ∨ i % 3 = 2 := by omega
    rcases this with h | h | h <;> simp [madeCells, hi, h, foAt]
  · rw [vrow_none _ _ _ hi]; exact Array.getElem?_eq_none (by rw [size_madeCells]; omega)
theorem wpList_make3f {P : Program} {ops : Array Oper} {rest : List Oper} {o : Oper} {a : Act} {w : World} {Q : Exit → Act → World → Prop} (hgd : o.guard = none) (l c : Operand) (t : TypeId) (hop : o.op = Op.makeSlice t l c) (e : TypeId)
    (ht : P.underlying t = some (.slice e)) (hinfo : (P.info? e).map (fun i => (i.zero, i.size, i.bytes)) = some (some (.agg #[.int .i8 0, .bool false, .int .i8 0]), 3, 3)) (n : Nat) (hl : a.eval l = .int .i64 (n : Int)) (hc : a.eval c = .int .i64 (n : Int)) (hn : n ≤ 1048576)
    (h : wpList P ops Q rest (a.put o.dst (.slice (some ⟨w.heap.size, 0, none⟩) n n)) (w.alloc (.cells (vrow (n * 3) fun i => foAt 0 false 0 (i % 3)) e))) : wpList P ops Q (o :: rest) a w := by
  refine wpList_plain hgd fun K hK => ?_
  obtain ⟨i, hi, hzz⟩ := Option.map_eq_some_iff.1 hinfo
  simp only [Prod.mk.injEq] at hzz
  obtain ⟨hz, hs, hb⟩ := hzz
  have hr := run_make (P := P) w t e i (.agg #[.int .i8 0, .bool false, .int .i8 0]) ht hi hz .i64 .i64 n n (by omega) (Int.le_refl _) (by rw [hb]; omega) (by omega)
  simp only [Int.toNat_natCast, hs, Value.cells] at hr
  rw [made3f] at hr
  unfold Oper.wp
  simp [execOp, hop, hl, hc, hr, Result.andThen]
  exact hK _ _ h
set_option maxHeartbeats 1000000 in
theorem szF_any (ao : Option Addr) (n cap : Nat) (hn : n ≤ 9223372036854775807) (w : World) : Calls Tryd.prog 17 #[.slice ao n cap, .int .i64 1048576] w fun e w' => e = .returned (.int .i64 (if n ≤ 1048576 then 1048576 - (n : Int) else -1)) ∧ Below w.heap.size w w' := by
  by_cases h : n ≤ 1048576
  · have hd : decide ((1048576 : Int) - (n : Int) < 0) = false := by simp; omega
    rw [if_pos h]
    go_enter Tryd.func17, Tryd.ntmps17
    go_wp2
    go_ret
    exact ⟨rfl, Below.refl _ _⟩
  · have hd : decide ((1048576 : Int) - (n : Int) < 0) = true := by simp; omega
    rw [if_neg h]
    go_enter Tryd.func17, Tryd.ntmps17
    go_wp2
    go_ret
    exact ⟨rfl, Below.refl _ _⟩
set_option maxHeartbeats 2000000 in
theorem toFoldS_any (ao : Option Addr) (n cap : Nat) (px : Nat → Int) (py : Nat → Bool) (pn : Nat → Int) (w : World) (hn : n ≤ 1048576) (hp : FdsC w ao n px py pn) : Calls Tryd.prog 19 #[.slice ao n cap] w fun e w' => ∃ D, e = .returned (.slice (some ⟨D, 0, none⟩) n n) ∧ w'.heap[D]? = some (.cells (vrow (n * 3) (fdf px py pn)) 38) ∧ w.heap.size ≤ D ∧ Below w.heap.size w w' := by
  have H0 := Go.Lib.hid hp
  have HP := Go.Lib.hid hp
  have hB := Go.Lib.hid (Below.refl w.heap.size w)
  clear hp
  go_enter Tryd.func19, Tryd.ntmps19
  go_wp2_with (first
    | go_skip
    | ((with_reducible refine wlAt 7 rfl ?_); refine wpList_make3f rfl (.tmp 6) (.tmp 6) _ rfl 38 Tryd.underlying45 info_fo3 n rfl rfl hn ?_; have R := Go.Lib.hid (heap_at w (.cells (vrow (n * 3) fun i => foAt 0 false 0 (i % 3)) 38) _ rfl); replace hB := Go.Lib.hid (hB.out.alloc (Nat.le_refl _) (.cells (vrow (n * 3) fun i => foAt 0 false 0 (i % 3)) 38)); replace HP := Go.Lib.hid (HP.out.next ((Below.refl w.heap.size w).alloc (Nat.le_refl _) (.cells (vrow (n * 3) fun i => foAt 0 false 0 (i % 3)) 38)))))
  generalize World.alloc w _ = W1 at R hB HP ⊢
  go_loopw [4] (fun iv wr => ∃ k : Nat, k ≤ n ∧ iv = .int .i64 k ∧ wr.heap[w.heap.size]? = some (.cells (vrow (n * 3) (fdk px py pn k)) 38) ∧ FdsC wr ao n px py pn ∧ Below w.heap.size w wr) (fun iv _ => n - (intOf iv).toNat)
  case atStart => exact ⟨0, by omega, rfl, by rw [fdk_0]; exact R.out, HP.out, hB.out⟩
  case round =>
    clear R HP hB
    obtain ⟨k, hk, rfl, R, HP, hB⟩ := hrel
    replace R := Go.Lib.hid R; replace hB := Go.Lib.hid hB
    by_cases hlt : k < n
    · obtain ⟨b, off, rfl, hbl, hc⟩ := HP (by omega)
      have hbw : b < w.heap.size := by
        obtain ⟨b0, o0, he, hb0, _⟩ := H0.out (by omega)
        simp only [Option.some.injEq, Addr.mk.injEq] at he
        rw [he.1]; exact hb0
      obtain ⟨hc0, hc1, hc2⟩ := hc k hlt
      have HC0 := Go.Lib.hid hc0; have HC1 := Go.Lib.hid hc1; have HC2 := Go.Lib.hid hc2; replace HP := Go.Lib.hid HP
      have hsz := hB.out.size
      have hkI : (k : Int) < (n : Int) := by omega
      have hnl : (n : Int) ≤ 1048576 := by omega
      clear hc hc0 hc1 hc2
      go_wp2_with (first
        | go_skip
        | ((with_reducible refine wlAt 19 rfl ?_); refine wpList_loadc3 rfl 33 (.tmp 18) rfl b (off + k * 3) rfl (.int .i8 (px k)) (.bool (py k)) (.int .i8 (pn k)) _ Tryd.underlying33 rfl size_lfo2 HC0.out HC1.out HC2.out ?_)
        | (go_at_call 14; (refine (toFold_any (px k) (py k) (pn k) _).mono ?_); rintro o w1 ⟨rfl, hb⟩; rw [fo_vrow]; replace R := Go.Lib.hid (row_next hb R.out); replace HP := Go.Lib.hid (HP.out.next hb); replace hB := Go.Lib.hid (below_next hB.out hb); clear hb HC0 HC1 HC2)
        | ((with_reducible refine wlOp (.store 38 (.tmp 21) (.tmp 20)) rfl ?_); refine wpList_storemid rfl 38 (.tmp 21) (.tmp 20) rfl w.heap.size (k * 3) rfl (n * 3) 3 (fdk px py pn k) (foAt (px k) (py k) (pn k)) rfl 38 size_fold R.out (by omega) (fun i _ => foAt_one _ _ _ i) ?_; rw [fdk_step]; replace HP := Go.Lib.hid (HP.out.set0 (show b ≠ w.heap.size by omega) (vrow (n * 3) (fdk px py pn (k + 1)))); replace R := Go.Lib.hid (row_set R.out (vrow (n * 3) (fdk px py pn (k + 1)))); replace hB := Go.Lib.hid (Below_setRow hB.out (Nat.le_refl _) (vrow (n * 3) (fdk px py pn (k + 1))))))
      go_roundw
      case rel => exact ⟨k + 1, by omega, by go_num, R.out, HP.out, hB.out⟩
      case measure => simp [intOf]; omega
    · obtain rfl : k = n := by omega
      have hd : decide ((k : Int) < (k : Int)) = false := by simp
      replace HP := Go.Lib.hid HP
      go_wp2
      go_ret
      exact ⟨w.heap.size, rfl, by rw [← fdk_n]; exact R.out, Nat.le_refl _, hB.out⟩
end Go.Proofs.YtmcpaangofdmpaaDoor
