import Derived.Deep.RegionHeld3
import Derived.Test.YtfhfiaphdgfmnaaDoorOkO
import Derived.Test.YtfhfiaphdgfmnaaDoorPB1
namespace Go.Proofs.YtfhfiaphdgfmnaaDoor
open Go.RowKit
set_option maxRecDepth 100000
set_option linter.unusedVariables false
set_option linter.unusedSimpArgs false
/-- the cells of a row of sheets -/
def stF (ss : Nat → Sh) (i : Nat) : Value := (ss (i / 266)).at (i % 266)
theorem stF_at (ss : Nat → Sh) (k j : Nat) (hj : j < 266) : stF ss (k * 266 + j) = (ss k).at j := by
  unfold stF; rw [show (k * 266 + j) / 266 = k by omega, show (k * 266 + j) % 266 = j by omega]
theorem stF_sub (ss : Nat → Sh) (k : Nat) : SubAt (stF ss) (k * 266) (ss k) := fun j hj => stF_at ss k j hj
theorem stF_row (ss : Nat → Sh) (k : Nat) : vrow 266 (fun j => stF ss (k * 266 + j)) = vrow 266 (ss k).at := vrow_ext _ _ _ fun j hj => stF_at ss k j hj
theorem stF_one (ss : Nat → Sh) (i : Nat) : (stF ss i).oneCell' = true := Sh.one _ _
/-- k sheets have been put -/
def stK (ss : Nat → Sh) (k : Nat) (i : Nat) : Value := if i < k * 266 then stF ss i else Sh.zero.at (i % 266)
theorem stK_0 (ss : Nat → Sh) (n : Nat) : vrow n (stK ss 0) = vrow n (fun i => Sh.zero.at (i % 266)) := vrow_ext _ _ _ fun i _ => by unfold stK; rw [if_neg (by omega)]
theorem stK_n (ss : Nat → Sh) (n : Nat) : vrow (n * 266) (stK ss n) = vrow (n * 266) (stF ss) := vrow_ext _ _ _ fun i hi => by unfold stK; rw [if_pos hi]
theorem stK_step (ss : Nat → Sh) (n k : Nat) : vrow n (over (stK ss k) (k * 266) 266 (ss k).at) = vrow n (stK ss (k + 1)) := vrow_ext _ _ _ fun i _ => by
  unfold over stK
  by_cases h : k * 266 ≤ i ∧ i < k * 266 + 266
  · rw [if_pos h, if_pos (by omega)]
    unfold stF
    rw [show i / 266 = k by omega, show i % 266 = i - k * 266 by omega]
  · rw [if_neg h]
    by_cases h2 : i < k * 266
    · rw [if_pos h2, if_pos (by omega)]
    · rw [if_neg h2, if_neg (by omega)]
/-- a stack that came in lies there -/
def StC (w : World) (ao : Option Addr) (n : Nat) (ss : Nat → Sh) : Prop :=
  0 < n → ∃ b off, ao = some ⟨b, off, none⟩ ∧ b < w.heap.size ∧ ∀ i, i < n → ∀ j, j < 266 → w.cell? ⟨b, off + i * 266 + j, none⟩ = some ((ss i).at j)
theorem StC.next {w w' : World} {ao : Option Addr} {n : Nat} {ss : Nat → Sh} (h : StC w ao n ss) (hb : Below w.heap.size w w') : StC w' ao n ss := fun hn => by
  obtain ⟨b, off, rfl, hlt, hc⟩ := h hn
  refine ⟨b, off, rfl, Nat.lt_of_lt_of_le hlt hb.size, fun i hi j hj => ?_⟩
  have e : ∀ o, w'.cell? ⟨b, o, none⟩ = w.cell? ⟨b, o, none⟩ := fun o => by unfold World.cell?; rw [show w'.heap[(⟨b, o, none⟩ : Addr).block]? = w.heap[(⟨b, o, none⟩ : Addr).block]? from hb.block b hlt]
  rw [e]; exact hc i hi j hj
theorem StC.set {w : World} {ao : Option Addr} {n g B : Nat} {ss : Nat → Sh} (h : StC w ao n ss) (hB : ∀ b off, ao = some ⟨b, off, none⟩ → b < B) (hg : B ≤ g) (cs : Array Value) : StC (w.setRow g cs) ao n ss := fun hn => by
  obtain ⟨b, off, rfl, hlt, hc⟩ := h hn
  have hne : b ≠ g := by have := hB b off rfl; omega
  refine ⟨b, off, rfl, by simpa using hlt, fun i hi j hj => ?_⟩
  have e : ∀ o, (w.setRow g cs).cell? ⟨b, o, none⟩ = w.cell? ⟨b, o, none⟩ := fun o => by unfold World.cell?; rw [show (w.setRow g cs).heap[(⟨b, o, none⟩ : Addr).block]? = w.heap[(⟨b, o, none⟩ : Addr).block]? from setRow_other w g b cs hne]
  rw [e]; exact hc i hi j hj
/-- LOAD of N cells, cell by cell. -/
theorem wpList_loadcN {P : Program} {ops : Array Oper} {rest : List Oper} {o : Oper} {a : Act} {w : World} {Q : Exit → Act → World → Prop} (hgd : o.guard = none) (ty : TypeId) (x : Operand) (ho : o.op = .load ty x)
    (b off : Nat) (hx : a.eval x = .pointer (some ⟨b, off, none⟩)) (N : Nat) (f : Nat → Value) (d : TypeDesc) (hu : P.underlying ty = some d) (hd : d.isRow = true) (hi : (P.info? ty).map (·.size) = some N)
    (h0 : ∀ j, j < N → w.cell? ⟨b, off + j, none⟩ = some (f j))
    (h : wpList P ops Q rest (a.put o.dst (.agg (vrow N f))) w) : wpList P ops Q (o :: rest) a w := by
  refine wpList_load_mid hgd ty x ho b off hx (vrow N f).toList d (fun j z hj => ?_) hu hd (by rw [hi]; simp [vrow]) (by simpa using h)
  rw [Array.getElem?_toList] at hj
  by_cases hjn : j < N
  · rw [vrow_get _ _ _ hjn] at hj
    rw [h0 j hjn, hj]
  · rw [vrow_none _ _ _ hjn] at hj; cases hj
theorem info_sh266 : (Tryd.prog.info? 39).map (fun i => (i.zero, i.size, i.bytes)) = some (some (.agg (vrow 266 Sh.zero.at)), 266, 522) := by kernel_rfl
theorem made266 (n : Nat) : madeCells (vrow 266 Sh.zero.at) (n * 266) = vrow (n * 266) fun i => Sh.zero.at (i % 266) := by
  apply Array.ext_getElem?
  intro i
  by_cases hi : i < n * 266
  · rw [vrow_get _ _ _ hi]
    have hs : (vrow 266 Sh.zero.at).size = 266 := by unfold vrow; simp
    have hm : i % 266 < 266 := Nat.mod_lt _ (by omega)
    have hg := vrow_get 266 Sh.zero.at (i % 266) hm
    have hv : (vrow 266 Sh.zero.at)[i % 266]! = Sh.zero.at (i % 266) := by
      rw [getElem!_def, hg]
    unfold madeCells
    rw [hs, Array.getElem?_map, Array.getElem?_range, if_pos hi, Option.map_some, hv]
  · rw [vrow_none _ _ _ hi]; exact Array.getElem?_eq_none (by rw [size_madeCells]; omega)
theorem wpList_make266 {P : Program} {ops : Array Oper} {rest : List Oper} {o : Oper} {a : Act} {w : World} {Q : Exit → Act → World → Prop} (hgd : o.guard = none) (l c : Operand) (t : TypeId) (hop : o.op = Op.makeSlice t l c) (e : TypeId)
    (ht : P.underlying t = some (.slice e)) (hinfo : (P.info? e).map (fun i => (i.zero, i.size, i.bytes)) = some (some (.agg (vrow 266 Sh.zero.at)), 266, 522)) (n : Nat) (hl : a.eval l = .int .i64 (n : Int)) (hc : a.eval c = .int .i64 (n : Int)) (hn : n ≤ 1048576)
    (h : wpList P ops Q rest (a.put o.dst (.slice (some ⟨w.heap.size, 0, none⟩) n n)) (w.alloc (.cells (vrow (n * 266) fun i => Sh.zero.at (i % 266)) e))) : wpList P ops Q (o :: rest) a w := by
  refine wpList_plain hgd fun K hK => ?_
  obtain ⟨i, hi, hzz⟩ := Option.map_eq_some_iff.1 hinfo
  simp only [Prod.mk.injEq] at hzz
  obtain ⟨hz, hs, hb⟩ := hzz
  have hr := run_make (P := P) w t e i (.agg (vrow 266 Sh.zero.at)) ht hi hz .i64 .i64 n n (by omega) (Int.le_refl _) (by rw [hb]; omega) (by omega)
  simp only [Int.toNat_natCast, hs, Value.cells] at hr
  rw [made266] at hr
  unfold Oper.wp
  simp [execOp, hop, hl, hc, hr, Result.andThen]
  exact hK _ _ h
theorem StC.set0 {w : World} {b off g n : Nat} {ss : Nat → Sh} (h : StC w (some ⟨b, off, none⟩) n ss) (hne : b ≠ g) (cs : Array Value) : StC (w.setRow g cs) (some ⟨b, off, none⟩) n ss := fun hn => by
  obtain ⟨b', off', he, hlt, hc⟩ := h hn
  simp only [Option.some.injEq, Addr.mk.injEq] at he
  obtain ⟨rfl, rfl, _⟩ := he
  refine ⟨b, off, rfl, by simpa using hlt, fun i hi j hj => ?_⟩
  have e : ∀ o, (w.setRow g cs).cell? ⟨b, o, none⟩ = w.cell? ⟨b, o, none⟩ := fun o => by unfold World.cell?; rw [show (w.setRow g cs).heap[(⟨b, o, none⟩ : Addr).block]? = w.heap[(⟨b, o, none⟩ : Addr).block]? from setRow_other w g b cs hne]
  rw [e]; exact hc i hi j hj
/-- a slice of n sheets, that lies below L -/
def SlK (w : World) (v : Value) (n : Nat) (ss : Nat → Sh) (L : Nat) : Prop := ∃ ao c, v = .slice ao n c ∧ (0 < n → ∃ D N f, ao = some ⟨D, 0, none⟩ ∧ D < L ∧ n * 266 ≤ N ∧ w.heap[D]? = some (.cells (vrow N f) 39) ∧ ∀ k, k < n → SubAt f (k * 266) (ss k))
theorem SlK.next {w w' : World} {v : Value} {n : Nat} {ss : Nat → Sh} {L : Nat} (h : SlK w v n ss L) (hb : Below w.heap.size w w') : SlK w' v n ss L := by
  obtain ⟨ao, c, rfl, hr⟩ := h
  refine ⟨ao, c, rfl, fun hn => ?_⟩
  obtain ⟨D, N, f, h1, h2, h3, h4, h5⟩ := hr hn
  exact ⟨D, N, f, h1, h2, h3, row_next hb h4, h5⟩
theorem SlK.set {w : World} {v : Value} {n : Nat} {ss : Nat → Sh} {L g : Nat} (h : SlK w v n ss L) (hg : L ≤ g) (cs : Array Value) : SlK (w.setRow g cs) v n ss L := by
  obtain ⟨ao, c, rfl, hr⟩ := h
  refine ⟨ao, c, rfl, fun hn => ?_⟩
  obtain ⟨D, N, f, h1, h2, h3, h4, h5⟩ := hr hn
  exact ⟨D, N, f, h1, h2, h3, row_set' (show D ≠ g by omega) h4 cs, h5⟩
theorem SlK.below {w w' : World} {v : Value} {n : Nat} {ss : Nat → Sh} {L : Nat} (h : SlK w v n ss L) (hb : Below L w w') : SlK w' v n ss L := by
  obtain ⟨ao, c, rfl, hr⟩ := h
  refine ⟨ao, c, rfl, fun hn => ?_⟩
  obtain ⟨D, N, f, h1, h2, h3, h4, h5⟩ := hr hn
  exact ⟨D, N, f, h1, h2, h3, row_below hb h2 h4, h5⟩
theorem SlK.of {w : World} {D n c N : Nat} {f : Nat → Value} {ss : Nat → Sh} (hN : n * 266 ≤ N) (h : w.heap[D]? = some (.cells (vrow N f) 39)) (hf : ∀ k, k < n → SubAt f (k * 266) (ss k)) : SlK w (.slice (some ⟨D, 0, none⟩) n c) n ss (D + 1) :=
  ⟨_, _, rfl, fun _ => ⟨D, N, f, rfl, by omega, hN, h, hf⟩⟩
theorem SlK.row {w : World} {D n c : Nat} {ss : Nat → Sh} (h : w.heap[D]? = some (.cells (vrow (n * 266) (stF ss)) 39)) : SlK w (.slice (some ⟨D, 0, none⟩) n c) n ss (D + 1) := SlK.of (Nat.le_refl _) h fun k _ => stF_sub ss k
theorem SubAt.row {f : Nat → Value} {o : Nat} {s : Sh} (h : SubAt f o s) : vrow 266 (fun j => f (o + j)) = vrow 266 s.at := vrow_ext _ _ _ h
end Go.Proofs.YtfhfiaphdgfmnaaDoor
