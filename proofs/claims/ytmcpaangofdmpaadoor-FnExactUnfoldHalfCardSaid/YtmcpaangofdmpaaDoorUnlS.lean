import Derived.Defers
import Derived.Recover
import Derived.Deep.RegionHeld3
import Derived.Stop.Asserts
import Derived.Test.YtmcpaangofdmpaaDoorCodeOf
import Derived.Test.YtmcpaangofdmpaaDoorQT
import Derived.Test.YtmcpaangofdmpaaDoorG1
import Derived.Test.YtmcpaangofdmpaaDoorFoV
namespace Go.Proofs.YtmcpaangofdmpaaDoor
open Go.RowKit
set_option maxRecDepth 100000
set_option linter.unusedVariables false
set_option linter.unusedSimpArgs false
theorem ta_nil (w : World) : (Instr.typeAssert .nilIface 20 140 true).run Tryd.prog w = .ok (.tuple #[.nilIface, .bool false]) w := by kernel_rfl
theorem rw_i64u : (Tryd.prog.underlying 2).map (·.isRow) = some false := by kernel_rfl
section
variable {P : Program}
theorem load_one (ti : TypeId) (hu : (P.underlying ti).map (·.isRow) = some false) (b : Nat) (v : Value) (t : TypeId) (w : World) (hg : w.heap[b]? = some (.cells (vrow 1 fun _ => v) t)) : (loadVar ti ⟨b, 0, none⟩).run P w = .ok v w := by
  obtain ⟨d, hu', hd⟩ := Option.map_eq_some_iff.1 hu
  have hc := cell_row hg (show 0 < 1 by omega)
  simp only [loadVar, Sem.run_bind, run_isAgg_row w ti d hu', hd, Result.andThen_ok, Bool.false_eq_true, if_false, run_load, hc]
/-- the results: a row and one cell -/
theorem res_cc {fn : Func} {tmps : Array Value} {p q : Tmp} {ty ti : TypeId} {w : World} (hr : fn.results = #[.cell p ty, .cell q ti]) (b n : Nat) (f : Nat → Value) (t : TypeId) (d : TypeDesc) (hu : P.underlying ty = some d) (hd : d.isRow = true) (hi : (P.info? ty).map (·.size) = some n)
    (hp : tmps.getD p undef = .pointer (some ⟨b, 0, none⟩)) (hg : w.heap[b]? = some (.cells (vrow n f) t)) (hui : (P.underlying ti).map (·.isRow) = some false) (b2 : Nat) (v : Value) (t2 : TypeId) (hq : tmps.getD q undef = .pointer (some ⟨b2, 0, none⟩)) (hg2 : w.heap[b2]? = some (.cells (vrow 1 fun _ => v) t2)) :
    (results fn tmps).run P w = .ok (.tuple #[.agg (vrow n f), v]) w := by
  have hl := run_loadVar_row (P := P) w b t ty (vrow n f) (0, 0) d hg hu (by cases d <;> first | rfl | exact hd) (by rw [vrow_size]; exact hi)
  have hl2 := load_one ti hui b2 v t2 w hg2
  have hp' : tmps[p]?.getD undef = .pointer (some ⟨b, 0, none⟩) := by simpa using hp
  have hq' : tmps[q]?.getD undef = .pointer (some ⟨b2, 0, none⟩) := by simpa using hq
  simp [results, hr, hp', hq', asAddr, hl, hl2, Result.andThen]
/-- the results: a slot and one cell -/
theorem res_tc {fn : Func} {tmps : Array Value} {p q : Tmp} {ti : TypeId} {w : World} (hr : fn.results = #[.tmp p, .cell q ti]) (hui : (P.underlying ti).map (·.isRow) = some false) (u : Value) (hp : tmps.getD p undef = u) (b2 : Nat) (v : Value) (t2 : TypeId) (hq : tmps.getD q undef = .pointer (some ⟨b2, 0, none⟩)) (hg2 : w.heap[b2]? = some (.cells (vrow 1 fun _ => v) t2)) :
    (results fn tmps).run P w = .ok (.tuple #[u, v]) w := by
  have hl2 := load_one ti hui b2 v t2 w hg2
  have hp' : tmps[p]?.getD undef = u := by simpa using hp
  have hq' : tmps[q]?.getD undef = .pointer (some ⟨b2, 0, none⟩) := by simpa using hq
  simp [results, hr, hp', hq', asAddr, hl2, Result.andThen]
end
theorem size_i64w : (Tryd.prog.info? 2).map (·.size) = some 1 := by kernel_rfl
theorem ta_bf (v : Value) (w : World) : (Instr.typeAssert (.iface 179 v) 20 140 true).run Tryd.prog w = .ok (.tuple #[.iface 179 v, .bool true]) w := run_typeAssert_hasB Tryd.underlying140 (by kernel_rfl) v _ w
theorem m_refused (v : Value) (w : World) : (Go.method 334 179 v "loop.example/g01360/impl.refused").run Tryd.prog w = .ok (170, v) w := by kernel_rfl
theorem refused_any (ax : Int) (d : Bool) (p : Int) (e : ErrE) (w : World) (hE : Errs e w) : Calls Tryd.prog 170 #[.agg #[.int .i8 ax, .bool d, .int .i8 p]] w fun o w' => o = .returned (errP e 2) ∧ Below w.heap.size w w' := by
  have E : Hid (Errs e (w.alloc (.cells #[.int .i8 ax, .bool d, .int .i8 p] 179))) := Go.Lib.hid (hE.alloc _)
  have hB : Hid (Below w.heap.size w (w.alloc (.cells #[.int .i8 ax, .bool d, .int .i8 p] 179))) := Go.Lib.hid ((Below.refl _ _).alloc (Nat.le_refl _) _)
  go_enter Tryd.func170, Tryd.ntmps170
  go_wp2_with (first
    | go_skip
    | ((with_reducible refine wlAt 3 rfl ?_); refine wpList_ld1 88 _ rfl (by first | exact want_n rfl | exact want_g _ _ _ rfl rfl rfl) 1 0 rfl 1 (fun _ => errP e 2) _ rw_err E.out.v2 (by omega) ?_))
  go_ret
  exact ⟨rfl, hB.out⟩
end Go.Proofs.YtmcpaangofdmpaaDoor
