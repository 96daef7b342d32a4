import Derived.Test.YtfhfiaphdgfmnaaDoorG1
import Derived.Test.YtfhfiaphdgfmnaaDoorChecked
import Derived.LaidEql
import Derived.Stop.Asserts
import Derived.RowKitTokens
namespace Go.Proofs.YtfhfiaphdgfmnaaDoor
open Go.RowKit Go.Extern.Stop Go.Stop Go.Extern
set_option maxRecDepth 100000
set_option linter.unusedVariables false
/-- The five errors' values: e tells where each one lies. -/
structure ErrE where
  a : Nat → Addr
  t : Nat → TypeId
abbrev errP (e : ErrE) (k : Nat) : Value := .iface 168 (.pointer (some (e.a k)))
abbrev okK (k : Nat) : Bool := (1 ≤ k && k ≤ 5) || k == 7
structure Errs (e : ErrE) (W : World) : Prop where
  v1 : W.heap[0]? = some (.cells (vrow 1 fun _ => errP e 1) (e.t 1))
  v2 : W.heap[1]? = some (.cells (vrow 1 fun _ => errP e 2) (e.t 2))
  v3 : W.heap[3]? = some (.cells (vrow 1 fun _ => errP e 3) (e.t 3))
  v4 : W.heap[2]? = some (.cells (vrow 1 fun _ => errP e 4) (e.t 4))
  v5 : W.heap[4]? = some (.cells (vrow 1 fun _ => errP e 5) (e.t 5))
  v7 : W.heap[5]? = some (.cells (vrow 1 fun _ => errP e 7) (e.t 7))
  ne : ∀ i j, okK i = true → okK j = true → i ≠ j → e.a i ≠ e.a j
  row : ∀ i, okK i = true → ∃ cs t, W.heap[(e.a i).block]? = some (.cells cs t (0, 0))
theorem Errs.next {e : ErrE} {W W' : World} (h : Errs e W) (hb : Below W.heap.size W W') : Errs e W' :=
  ⟨row_next hb h.v1, row_next hb h.v2, row_next hb h.v3, row_next hb h.v4, row_next hb h.v5, row_next hb h.v7, h.ne, fun i h1 => let ⟨cs, t, hr⟩ := h.row i h1; ⟨cs, t, row_next hb hr⟩⟩
theorem Errs.alloc {e : ErrE} {W : World} (h : Errs e W) (o : Obj) : Errs e (W.alloc o) := h.next ((Below.refl _ _).alloc (Nat.le_refl _) _)
theorem rw_err : (Tryd.prog.underlying 73).map (·.isRow) = some false := by kernel_rfl
theorem isTypeOf (v : Value) (w : World) : (Extern.ReflectliteType.typeOf #[.iface 168 v]).run Tryd.prog w = .ok (.iface 156 (.agg #[.pointer (some ⟨7, 168, none⟩)])) w := by kernel_rfl
theorem isComparable (w : World) : (callFunc 144 #[.agg #[.pointer (some ⟨7, 168, none⟩)]]).run Tryd.prog w = .ok (.value (.bool true)) w := by kernel_rfl
theorem isMethodComparable (v : Value) (w : World) : (Go.method 306 156 v "Comparable").run Tryd.prog w = .ok (144, v) w := by kernel_rfl
theorem isComp : (Tryd.prog.info? 168).map (·.comparable) = some true := by kernel_rfl
theorem isSize : (Tryd.prog.info? 194).map (·.size) = some 1 := by kernel_rfl
theorem noIsE (v : Value) (xT : TypeId) (w : World) : (Instr.typeAssert (.iface 168 v) xT 158 true).run Tryd.prog w = .ok (.tuple #[.nilIface, .bool false]) w := run_typeAssert_lacksB Tryd.underlying158 (by kernel_rfl) (by kernel_rfl) v xT w
theorem noUnwrapE (v : Value) (xT : TypeId) (w : World) : (Instr.typeAssert (.iface 168 v) xT 161 true).run Tryd.prog w = .ok (.tuple #[.nilIface, .bool false]) w := run_typeAssert_lacksB Tryd.underlying161 (by kernel_rfl) (by kernel_rfl) v xT w
theorem noUnwrapsE (v : Value) (xT : TypeId) (w : World) : (Instr.typeAssert (.iface 168 v) xT 162 true).run Tryd.prog w = .ok (.tuple #[.nilIface, .bool false]) w := run_typeAssert_lacksB Tryd.underlying162 (by kernel_rfl) (by kernel_rfl) v xT w
theorem is_same (a : Addr) (w : World) :
    Calls Tryd.prog 83 #[.iface 168 (.pointer (some a)), .iface 168 (.pointer (some a))] w fun e w' => e = .returned (.bool true) ∧ w = w' := by
  obtain ⟨i, hi, hcmp⟩ := Option.map_eq_some_iff.1 isComp
  obtain ⟨j, hj, hjs⟩ := Option.map_eq_some_iff.1 isSize
  have h8 := @run_callFunc_extern Tryd.prog 105 _ Extern.ReflectliteType.typeOf Tryd.func105 (by kernel_rfl) (by kernel_rfl) (by kernel_rfl) (by kernel_rfl)
  have tT := isTypeOf
  have cT := isComparable
  have mR := isMethodComparable
  have heq := run_eql_iface_ptr_same (P := Tryd.prog) w a Tryd.underlying73 Tryd.underlying168 hi hcmp hj
  go_enter Tryd.func83, Tryd.ntmps83
  go_wp2
  refine wp_loop_rounds 1 ?_
  rw [rounds_succ]
  go_wp2
  go_ret
  exact ⟨rfl, rfl⟩
theorem is_other (a b : Addr) (ca cb : Array Value) (ta tb : TypeId) (w : World) (hne : a ≠ b) (ha : w.heap[a.block]? = some (.cells ca ta (0, 0))) (hb : w.heap[b.block]? = some (.cells cb tb (0, 0))) :
    Calls Tryd.prog 83 #[.iface 168 (.pointer (some a)), .iface 168 (.pointer (some b))] w fun e w' => e = .returned (.bool false) ∧ w = w' := by
  obtain ⟨i, hi, hcmp⟩ := Option.map_eq_some_iff.1 isComp
  obtain ⟨j, hj, hjs⟩ := Option.map_eq_some_iff.1 isSize
  have h8 := @run_callFunc_extern Tryd.prog 105 _ Extern.ReflectliteType.typeOf Tryd.func105 (by kernel_rfl) (by kernel_rfl) (by kernel_rfl) (by kernel_rfl)
  have tT := isTypeOf
  have cT := isComparable
  have mR := isMethodComparable
  have nE := noIsE
  have uE := noUnwrapE
  have vE := noUnwrapsE
  have heq := run_eql_iface_ptr_other (P := Tryd.prog) w Tryd.underlying73 Tryd.underlying168 hi hcmp hj (by rw [hjs]; decide) hne ha hb
  go_enter Tryd.func83, Tryd.ntmps83
  go_wp2
  refine wp_loop_rounds 1 ?_
  rw [rounds_succ]
  go_wp2
  go_ret
  exact ⟨rfl, rfl⟩
theorem is_yes (e : ErrE) (k : Nat) (w : World) : Calls Tryd.prog 83 #[errP e k, errP e k] w fun o w' => o = .returned (.bool true) ∧ Below w.heap.size w w' := by
  exact (is_same _ w).mono fun _ _ h => ⟨h.1, below_of_eq h.2⟩
theorem is_no (e : ErrE) (i j : Nat) (h1 : okK i = true) (h3 : okK j = true) (hn : i ≠ j) (w : World) (hE : Errs e w) : Calls Tryd.prog 83 #[errP e i, errP e j] w fun o w' => o = .returned (.bool false) ∧ Below w.heap.size w w' := by
  obtain ⟨ca, ta, ha⟩ := hE.row i h1
  obtain ⟨cb, tb, hb⟩ := hE.row j h3
  exact (is_other _ _ _ _ _ _ w (hE.ne i j h1 h3 hn) ha hb).mono fun _ _ h => ⟨h.1, below_of_eq h.2⟩
/-- the seventh, where it is laid -/
structure Err6 (e : ErrE) (W : World) : Prop where
  base : Errs e W
  v6 : W.heap[6]? = some (.cells (vrow 1 fun _ => errP e 6) (e.t 6))
  ne : ∀ i, okK i = true → e.a 6 ≠ e.a i
  row : ∃ cs t, W.heap[(e.a 6).block]? = some (.cells cs t (0, 0))
theorem Err6.next {e : ErrE} {W W' : World} (h : Err6 e W) (hb : Below W.heap.size W W') : Err6 e W' :=
  ⟨h.base.next hb, row_next hb h.v6, h.ne, let ⟨cs, t, hr⟩ := h.row; ⟨cs, t, row_next hb hr⟩⟩
theorem Err6.alloc {e : ErrE} {W : World} (h : Err6 e W) (o : Obj) : Err6 e (W.alloc o) := h.next ((Below.refl _ _).alloc (Nat.le_refl _) _)
theorem is_no6 (e : ErrE) (j : Nat) (h3 : okK j = true) (w : World) (hE : Err6 e w) : Calls Tryd.prog 83 #[errP e 6, errP e j] w fun o w' => o = .returned (.bool false) ∧ Below w.heap.size w w' := by
  obtain ⟨ca, ta, ha⟩ := hE.row
  obtain ⟨cb, tb, hb⟩ := hE.base.row j h3
  exact (is_other _ _ _ _ _ _ w (hE.ne j h3) ha hb).mono fun _ _ h => ⟨h.1, below_of_eq h.2⟩
end Go.Proofs.YtfhfiaphdgfmnaaDoor
