import Derived.Maps.OwnIn
import Derived.Maps.Views
import Derived.DeepKeys4
import Derived.Test.YtmcpaangofdmpaaDoorPairM
import Derived.Test.YtmcpaangofdmpaaDoorLdI
namespace Go.Proofs.YtmcpaangofdmpaaDoor
open Go.RowKit
set_option maxRecDepth 100000
set_option linter.unusedVariables false
set_option linter.unusedSimpArgs false
open Go.Maps
theorem keyed_pr : Keyed Tryd.prog 130 := Keyed.of_law (deep_law_laid (by kernel_rfl) (m := 4) (by omega) (of_decide_eq_true (by kernel_rfl)) (by kernel_rfl) (by kernel_rfl))
theorem wf_i8k {n : Int} (h : -128 ≤ n ∧ n ≤ 127) : (Lit.int .i8 n).wf = true := by simp [Lit.wf, IntKind.min, IntKind.max, IntKind.bits, IntKind.signed]; omega
theorem klit_i8 (d : Nat) {n : Int} (h : -128 ≤ n ∧ n ≤ 127) : Tryd.prog.keyLits (d + 1) 22 [.int .i8 n] = some [.int .i8 n] := by
  unfold Program.keyLits
  rw [Tryd.underlying22]
  simp [wf_i8k h]
theorem kc_sp : Tryd.prog.cellsOf 111 = 2 := by kernel_rfl
theorem kc_i8 : Tryd.prog.cellsOf 22 = 1 := by kernel_rfl
theorem kc_pr : Tryd.prog.cellsOf 130 = 4 := by kernel_rfl
theorem klit_sp (d : Nat) {x y : Int} (hx : -128 ≤ x ∧ x ≤ 127) (hy : -128 ≤ y ∧ y ≤ 127) : Tryd.prog.keyLits (d + 1 + 1) 111 [.int .i8 x, .int .i8 y] = some [.int .i8 x, .int .i8 y] := by
  unfold Program.keyLits
  rw [Tryd.underlying111]
  simp [kc_sp, kc_i8, klit_i8 d hx, klit_i8 d hy]
theorem klit_pr (d : Nat) {x y u v : Int} (hx : -128 ≤ x ∧ x ≤ 127) (hy : -128 ≤ y ∧ y ≤ 127) (hu : -128 ≤ u ∧ u ≤ 127) (hv : -128 ≤ v ∧ v ≤ 127) : Tryd.prog.keyLits (d + 1 + 1 + 1) 130 [.int .i8 x, .int .i8 y, .int .i8 u, .int .i8 v] = some [.int .i8 x, .int .i8 y, .int .i8 u, .int .i8 v] := by
  unfold Program.keyLits
  rw [Tryd.underlying130]
  simp [kc_sp, kc_pr, klit_sp d hx hy, klit_sp d hu hv, List.range_succ]
theorem key_pr {x y u v : Int} (hx : -128 ≤ x ∧ x ≤ 127) (hy : -128 ≤ y ∧ y ≤ 127) (hu : -128 ≤ u ∧ u ≤ 127) (hv : -128 ≤ v ∧ v ≤ 127) : ∃ l, keyOf Tryd.prog 130 (.agg #[.int .i8 x, .int .i8 y, .int .i8 u, .int .i8 v]) = some l := by
  have hk : Tryd.prog.keyType 130 = true := by kernel_rfl
  unfold keyOf
  rw [Tryd.underlying130]
  simp [hk, Value.formed, kc_pr, Value.cells, Tryd.underlying130]
  exact ⟨_, _, klit_pr _ hx hy hu hv, rfl⟩
theorem plainElem_bool_inv {H : Type} {P : Program} {e : TypeId} (he : P.underlying e = some .bool) {v : Value} {z : DataW H × List MemPlace} (h : plainElem P e v = some z) : ∃ a, v = .bool a ∧ z = (.lit (.bool a), []) := by
  unfold plainElem at h
  rw [he] at h
  cases v <;> simp at h
  exact ⟨_, rfl, h.symm⟩
/-- the map's datum: which pairs have been met -/
def Lk (D : DataW Unit) (S : Int → Int → Int → Int → Bool) : Prop :=
  IsMap D ∧ ∀ x y u v l, keyOf Tryd.prog 130 (.agg #[.int .i8 x, .int .i8 y, .int .i8 u, .int .i8 v]) = some l → D.atKey l (.lit (.bool false)) = .lit (.bool (S x y u v))
theorem Lk.nil : Lk (.map []) (fun _ _ _ _ => false) := ⟨isMap_empty, fun _ _ _ _ _ _ => rfl⟩
theorem Lk.put {D : DataW Unit} {S S' : Int → Int → Int → Int → Bool} (h : Lk D S) {x y u v : Int} {l : Lit} (hl : keyOf Tryd.prog 130 (.agg #[.int .i8 x, .int .i8 y, .int .i8 u, .int .i8 v]) = some l)
    (h1 : S' x y u v = true) (h2 : ∀ a b c d, ¬ (a = x ∧ b = y ∧ c = u ∧ d = v) → S' a b c d = S a b c d) : Lk (D.put l (.lit (.bool true))) S' := by
  obtain ⟨hm, hs⟩ := h
  refine ⟨?_, fun a b c d l' hl' => ?_⟩
  · obtain ⟨es, rfl⟩ := hm
    exact ⟨_, rfl⟩
  · by_cases e : l' = l
    · subst e
      have := keyed_pr.inj hl hl'
      simp only [Value.agg.injEq, Array.mk.injEq, List.cons.injEq, Value.int.injEq, true_and, and_true] at this
      obtain ⟨rfl, rfl, rfl, rfl⟩ := this
      rw [atKey_put_same hm (keyed_pr.key hl), h1]
    · rw [atKey_put_other e, hs a b c d l' hl', h2 a b c d]
      rintro ⟨rfl, rfl, rfl, rfl⟩
      rw [hl] at hl'
      exact e (Option.some.inj hl').symm
theorem own_map {β : Type} {B b : Nat} (n : β → Nat) (D : β → DataW Unit) (hb : b < B) {P : Program} {k e : TypeId} : OwnFrom B (fun (s : β) W => W.ownsMap P k (plainElem P e) b (n s) (D s)) := fun s W W' row hs hg hr =>
  hs.kept hg (fun e => by have := (hr b e.symm).1; omega)
/-- LOOK-UP of a bool in the call's own map, in a round, guarded or not. -/
theorem lookI {r n' : Nat} {P : Program} {ops : Array Oper} {rest : List Oper} {o : Oper} {a : Act} {w : World} {Q : Exit → Act → World → Prop} (m x : Operand) (t : TypeId) (ho : o.op = Op.lookup t m x false) (hw : Region.wanted o (yielded ops a.tmps) = true)
    (k e : TypeId) (K : Keyed P k) (ht : P.underlying t = some (.map k e)) (he : P.underlying e = some .bool) (hz : (zeroValue e).run P w = .ok (.bool false) w) (b n : Nat) (D : DataW Unit)
    (hm : a.eval m = .map (some b)) (hown : w.ownsMap P k (plainElem P e) b n D) (key : Value) (kl : Lit) (hx : a.eval x = key) (hkey : keyOf P k key = some kl)
    (h : ∀ c : Bool, D.atKey kl (.lit (.bool false)) = .lit (.bool c) → wpListIn (Fence.wide.inRound r) n' P ops Q rest (a.put o.dst (.bool c)) w) : wpListIn (Fence.wide.inRound r) n' P ops Q (o :: rest) a w := by
  obtain ⟨v, ps, hrun, hv⟩ := hown.lookup K ht hz (plainElem_bool he false) hkey
  obtain ⟨c, rfl, hc⟩ := plainElem_bool_inv he hv
  simp only [Prod.mk.injEq] at hc
  exact valI hw (fun c hc => by rw [ho] at hc; cases hc) (by unfold execOp; simp only [ho, hm, hx, Sem.run_bind, hrun, Result.andThen_ok, Sem.run_pure]) (h c hc.1)
/-- the pairs that have been met are those of a list of first cells -/
def metS (ax : Int) (d : Bool) (L : List Sp8) (x y u v : Int) : Bool := L.any fun p => decide ((p.1.1 : Int) = x) && (decide ((p.1.2 : Int) = y) && (decide (prX ax d p.1.1 = u) && decide (prY ax d p.1.2 = v)))
theorem metS_nil (ax : Int) (d : Bool) : metS ax d [] = fun _ _ _ _ => false := rfl
theorem metS_app (ax : Int) (d : Bool) (L : List Sp8) (p : Sp8) (x y u v : Int) : metS ax d (L ++ [p]) x y u v = (metS ax d L x y u v || (decide ((p.1.1 : Int) = x) && (decide ((p.1.2 : Int) = y) && (decide (prX ax d p.1.1 = u) && decide (prY ax d p.1.2 = v))))) := by
  unfold metS; rw [List.any_append]; simp
theorem Lk.app {D : DataW Unit} {ax : Int} {d : Bool} {L : List Sp8} (h : Lk D (metS ax d L)) (p : Sp8) {l : Lit} (hl : keyOf Tryd.prog 130 (.agg #[.int .i8 p.1.1, .int .i8 p.1.2, .int .i8 (prX ax d p.1.1), .int .i8 (prY ax d p.1.2)]) = some l) :
    Lk (D.put l (.lit (.bool true))) (metS ax d (L ++ [p])) :=
  h.put hl (by rw [metS_app]; simp) (fun a b c e hn => by
    rw [metS_app]
    cases hq : (decide ((p.1.1 : Int) = a) && (decide ((p.1.2 : Int) = b) && (decide (prX ax d p.1.1 = c) && decide (prY ax d p.1.2 = e))))
    · simp
    · simp only [Bool.and_eq_true, decide_eq_true_eq] at hq
      exact absurd ⟨hq.1.symm, hq.2.1.symm, hq.2.2.1.symm, hq.2.2.2.symm⟩ hn)
theorem pr_pr (ax : Int) (d : Bool) (x : Int) : prX ax d (prX ax d x) = x ∧ prY ax d (prY ax d x) = x := by unfold prX prY; cases d <;> simp <;> omega
theorem metS_eq {a c : Nat} {ax : Int} {d : Bool} {L : List Sp8} {q : Sp8} (ha : a ≤ 8) (hc : c ≤ 8) (h : insB a c (prX ax d q.1.1) (prY ax d q.1.2) = true) :
    metS ax d L (prX ax d q.1.1) (prY ax d q.1.2) q.1.1 q.1.2 = L.contains (sgP ax d q) := by
  have hv := sgP_val ha hc h
  unfold metS
  rw [List.contains_eq_any_beq]
  congr 1
  funext p
  by_cases e : p = sgP ax d q
  · subst e
    rw [hv.1, hv.2, (pr_pr ax d _).1, (pr_pr ax d _).2]
    simp
  · have e2 : (sgP ax d q == p) = false := by rw [beq_eq_false_iff_ne]; exact fun h => e h.symm
    rw [e2]
    by_cases h1 : (p.1.1 : Int) = prX ax d q.1.1
    · by_cases h2 : (p.1.2 : Int) = prY ax d q.1.2
      · exact absurd (Subtype.ext (Prod.ext (by omega) (by omega))) e
      · rw [decide_eq_false h2]; simp
    · rw [decide_eq_false h1]; simp
theorem ins_ltP {a c u v : Int} (h : insB a c u v = true) (ha : a ≤ 8) (hc : c ≤ 8) : 0 ≤ u ∧ u < 8 ∧ 0 ≤ v ∧ v < 8 := by
  simp only [insB, Bool.and_eq_true, decide_eq_true_eq] at h
  omega
end Go.Proofs.YtmcpaangofdmpaaDoor
