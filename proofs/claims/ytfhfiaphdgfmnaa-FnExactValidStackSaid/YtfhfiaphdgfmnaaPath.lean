import Derived.Deep.RegionHeld3
import Derived.Test.YtfhfiaphdgfmnaaXLib2
import Derived.Test.YtfhfiaphdgfmnaaArms
import Derived.Test.YtfhfiaphdgfmnaaQ
namespace Go.Proofs.Ytfhfiaphdgfmnaa
open Go.RowKit
set_option maxRecDepth 100000
set_option linter.unusedVariables false
set_option linter.unusedSimpArgs false
theorem info_sp2 : (Try.prog.info? 57).map (fun i => (i.zero, i.size, i.bytes)) = some (some (.agg #[.int .i8 0, .int .i8 0]), 2, 2) := by kernel_rfl
/-- the cells of a row of spots -/
def spf (px py : Nat → Int) (i : Nat) : Value := if i % 2 = 0 then .int .i8 (px (i / 2)) else .int .i8 (py (i / 2))
theorem spf_two (px py : Nat → Int) (k : Nat) : vrow 2 (fun j => spf px py (k * 2 + j)) = vrow 2 (spAt (px k) (py k)) := vrow_ext _ _ _ fun i hi => by
  have : i = 0 ∨ i = 1 := by omega
  rcases this with rfl | rfl
  · unfold spf spAt; rw [if_pos (by omega), show (k * 2 + 0) / 2 = k by omega]; rfl
  · unfold spf spAt; rw [if_neg (by omega), show (k * 2 + 1) / 2 = k by omega]; rfl
/-- k spots have been put -/
def spk (px py : Nat → Int) (k : Nat) (i : Nat) : Value := if i < k * 2 then spf px py i else (.int .i8 0)
theorem spk_0 (px py : Nat → Int) (n : Nat) : vrow n (spk px py 0) = vrow n (fun _ => (.int .i8 0)) := vrow_ext _ _ _ fun i _ => by unfold spk; rw [if_neg (by omega)]
theorem spk_n (px py : Nat → Int) (n : Nat) : vrow (n * 2) (spk px py n) = vrow (n * 2) (spf px py) := vrow_ext _ _ _ fun i hi => by unfold spk; rw [if_pos hi]
theorem spk_step (px py : Nat → Int) (n k : Nat) : vrow n (over (spk px py k) (k * 2) 2 (spAt (px k) (py k))) = vrow n (spk px py (k + 1)) := vrow_ext _ _ _ fun i _ => by
  unfold over spk
  by_cases h : k * 2 ≤ i ∧ i < k * 2 + 2
  · rw [if_pos h, if_pos (by omega)]
    have : i = k * 2 ∨ i = k * 2 + 1 := by omega
    rcases this with rfl | rfl
    · unfold spf spAt; rw [if_pos (by omega), if_pos (by omega), show k * 2 / 2 = k by omega]
    · unfold spf spAt; rw [if_neg (by omega), if_neg (by omega), show (k * 2 + 1) / 2 = k by omega]
  · rw [if_neg h]
    by_cases h2 : i < k * 2
    · rw [if_pos h2, if_pos (by omega)]
    · rw [if_neg h2, if_neg (by omega)]
/-- a path that came in lies there -/
def PathC (w : World) (ao : Option Addr) (n : Nat) (px py : Nat → Int) : Prop :=
  0 < n → ∃ b off, ao = some ⟨b, off, none⟩ ∧ b < w.heap.size ∧ ∀ i, i < n → w.cell? ⟨b, off + i * 2, none⟩ = some (.int .i8 (px i)) ∧ w.cell? ⟨b, off + i * 2 + 1, none⟩ = some (.int .i8 (py i))
theorem PathC.next {w w' : World} {ao : Option Addr} {n : Nat} {px py : Nat → Int} (h : PathC w ao n px py) (hb : Below w.heap.size w w') : PathC w' ao n px py := fun hn => by
  obtain ⟨b, off, rfl, hlt, hc⟩ := h hn
  refine ⟨b, off, rfl, Nat.lt_of_lt_of_le hlt hb.size, fun i hi => ?_⟩
  have e : ∀ o, w'.cell? ⟨b, o, none⟩ = w.cell? ⟨b, o, none⟩ := fun o => by unfold World.cell?; rw [show w'.heap[(⟨b, o, none⟩ : Addr).block]? = w.heap[(⟨b, o, none⟩ : Addr).block]? from hb.block b hlt]
  rw [e, e]; exact hc i hi
/-- a row of another block is written -/
theorem PathC.set0 {w : World} {b off g n : Nat} {px py : Nat → Int} (h : PathC w (some ⟨b, off, none⟩) n px py) (hne : b ≠ g) (cs : Array Value) : PathC (w.setRow g cs) (some ⟨b, off, none⟩) n px py := fun hn => by
  obtain ⟨b', off', he, hlt, hc⟩ := h hn
  simp only [Option.some.injEq, Addr.mk.injEq] at he
  obtain ⟨rfl, rfl, _⟩ := he
  refine ⟨b, off, rfl, by simpa using hlt, fun i hi => ?_⟩
  have e : ∀ o, (w.setRow g cs).cell? ⟨b, o, none⟩ = w.cell? ⟨b, o, none⟩ := fun o => by unfold World.cell?; rw [show (w.setRow g cs).heap[(⟨b, o, none⟩ : Addr).block]? = w.heap[(⟨b, o, none⟩ : Addr).block]? from setRow_other w g b cs hne]
  rw [e, e]; exact hc i hi
/-- LOAD of two cells, cell by cell. -/
theorem wpList_loadc {P : Program} {ops : Array Oper} {rest : List Oper} {o : Oper} {a : Act} {w : World} {Q : Exit → Act → World → Prop} (hgd : o.guard = none) (ty : TypeId) (x : Operand) (ho : o.op = .load ty x)
    (b off : Nat) (hx : a.eval x = .pointer (some ⟨b, off, none⟩)) (u v : Value) (d : TypeDesc) (hu : P.underlying ty = some d) (hd : d.isRow = true) (hi : (P.info? ty).map (·.size) = some 2)
    (h0 : w.cell? ⟨b, off, none⟩ = some u) (h1 : w.cell? ⟨b, off + 1, none⟩ = some v)
    (h : wpList P ops Q rest (a.put o.dst (.agg #[u, v])) w) : wpList P ops Q (o :: rest) a w := by
  refine wpList_load_mid hgd ty x ho b off hx [u, v] d (fun j z hj => by
    match j, hj with
    | 0, hj => simp at hj; rw [Nat.add_zero, h0, hj]
    | 1, hj => simp at hj; rw [h1, hj]
    | j + 2, hj => simp at hj) hu hd (by simpa using hi) (by simpa using h)
theorem made2 (n : Nat) : madeCells #[.int .i8 0, .int .i8 0] (n * 2) = vrow (n * 2) fun _ => (.int .i8 0) := by
  apply Array.ext_getElem?
  intro i
  by_cases hi : i < n * 2
  · rw [vrow_get _ _ _ hi]
    have : i % 2 = 0 ∨ i % 2 = 1 := by omega
    rcases this with h | h <;> simp [madeCells, hi, h]
  · rw [vrow_none _ _ _ hi]; exact Array.getElem?_eq_none (by rw [size_madeCells]; omega)
theorem wpList_make2 {P : Program} {ops : Array Oper} {rest : List Oper} {o : Oper} {a : Act} {w : World} {Q : Exit → Act → World → Prop} (hgd : o.guard = none) (l c : Operand) (t : TypeId) (hop : o.op = Op.makeSlice t l c) (e : TypeId)
    (ht : P.underlying t = some (.slice e)) (hinfo : (P.info? e).map (fun i => (i.zero, i.size, i.bytes)) = some (some (.agg #[.int .i8 0, .int .i8 0]), 2, 2)) (n : Nat) (hl : a.eval l = .int .i64 (n : Int)) (hc : a.eval c = .int .i64 (n : Int)) (hn : n ≤ 1048576)
    (h : wpList P ops Q rest (a.put o.dst (.slice (some ⟨w.heap.size, 0, none⟩) n n)) (w.alloc (.cells (vrow (n * 2) fun _ => (.int .i8 0)) e))) : wpList P ops Q (o :: rest) a w := by
  refine wpList_plain hgd fun K hK => ?_
  obtain ⟨i, hi, hzz⟩ := Option.map_eq_some_iff.1 hinfo
  simp only [Prod.mk.injEq] at hzz
  obtain ⟨hz, hs, hb⟩ := hzz
  have hr := run_make (P := P) w t e i (.agg #[.int .i8 0, .int .i8 0]) ht hi hz .i64 .i64 n n (by omega) (Int.le_refl _) (by rw [hb]; omega) (by omega)
  simp only [Int.toNat_natCast, hs, Value.cells] at hr
  rw [made2] at hr
  unfold Oper.wp
  simp [execOp, hop, hl, hc, hr, Result.andThen]
  exact hK _ _ h
end Go.Proofs.Ytfhfiaphdgfmnaa
