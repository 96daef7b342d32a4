/- PROVED: for every path the program's TurnPath answers as the model's, leaves the path as it was, and owns what it answers. No condition. -/
import Derived.Test.YtianedkknlggmaaLawTurnP
import Derived.Test.YtianedkknlggmaaOpenP
import Derived.Test.YtianedkknlggmaaOkEq
import Derived.Test.YtianedkknlggmaaRows
import Derived.ProofKit
import Derived.OpenShut
import Derived.Carry
namespace Go.Proofs.Ytianedkknlggmaa.fnExactTurnPath
open Go.ChangeShapes Go.WideShapes Go.ChangeAt Go.RowKit
set_option maxRecDepth 100000
set_option linter.unusedVariables false
theorem own : ownKnob Try.prog.godebug = none := by kernel_rfl
set_option maxRecDepth 100000 in
theorem lifted (os : Os) (started : os.Started) (H : Type) (enc : TypeId × Value → H) :
    ReturnsInHanded {} Try.checked os 7 .any (Rows.fnExactTurnPathSpec.pre6 enc Try.prog Try.f7 Rows.fnExactTurnPathRow.domain false) (Rows.fnExactTurnPathSpec.post enc Try.prog Try.f7 false true false false) := by
  refine returnsInHanded_of_change (C := Try.checked) own started (by kernel_rfl) Try.func7
    (ChangeSpec.witness6 (enc := enc) (C := Try.checked) false ⟨#[], #[(.slice none 0 0)], []⟩ 8 (by kernel_rfl) (by kernel_rfl) (by kernel_rfl) (by kernel_rfl)) ?_
  intro W base args ds gs before hval0 hW hcnd _
  have hval : ∀ (j : Nat) t v, Try.f7.params[j]? = some t → args[j]? = some v → Value.okWide Try.prog W .any base t v := hval0
  have hW' := hW
  obtain ⟨p, q, hA0, hV, rfl, hfz, hnd⟩ := hW
  have hA : DataW.TrodAll enc Try.prog W 0 (fun _ => true) true Try.f7.params.toList args.toList ds p := hA0
  rw [Try.params7] at hA hval
  obtain ⟨v0, vs0, d0, ds0, p0, q0, hargs, rfl, rfl, h0, r0⟩ := trodAll_cons hA
  obtain ⟨rfl, rfl, rfl⟩ := trodAll_nil r0
  obtain rfl : args = #[v0] := by cases args; simp_all
  obtain ⟨rfl, rfl⟩ := trodVars_none hV
  obtain ⟨ao0, n0, c0, px0, py0, hn0, hx0, hy0, hp0, rfl, hl0⟩ := open_path (hval 0 43 v0 rfl rfl) h0
  clear hA0 hval0
  simp only [List.append_nil] at hW'
  refine ((fun (ao : Option Addr) (n c : Nat) (px py : Nat → Int) (hn : n ≤ 9223372036854775807) (hx : ∀ i, i < n → -128 ≤ px i ∧ px i ≤ 127) (hy : ∀ i, i < n → -128 ≤ py i ∧ py i ≤ 127) (hp : PathC W ao n px py) (_ : World) => turnP_law ao n c px py W hn hp) ao0 n0 c0 px0 py0 hn0 hx0 hy0 hp0 W).mono fun e W' ⟨he, hb⟩ => ?_
  subst he
  have laid : laidOutB Try.prog = true := by kernel_rfl
  exact ⟨_, rfl, _, _, _, _, _, [], hW', (trodAll_cons_mk (shut_bool Try.underlying4 _) trodAll_mk0), (trodAll_cons_mk (Below.trod laid (by kernel_rfl) (of_decide_eq_true (by kernel_rfl)) h0 hb hl0) trodAll_mk0), rfl, hb.frame _, fun h => by cases h⟩
theorem over : Rows.fnExactTurnPathRow.holds Try.pinned (OpenSpec.ofChange Rows.fnExactTurnPathSpec) :=
  OpenClaim.holds_of_wide 7 Try.f7 rfl rfl rfl rfl rfl rfl rfl ⟨rfl, rfl, rfl, rfl, rfl⟩ rfl rfl rfl rfl rfl (by kernel_rfl) Try.func7 (by kernel_rfl)
    (of_decide_eq_true (by kernel_rfl)) (by unfold Func.isWrapper; first | (rw [if_pos (by decide +kernel)]; kernel_rfl) | (rw [if_neg (by decide +kernel)]; exact ⟨rfl, rfl⟩))
    (fun os started H enc _ => lifted os started H enc)
theorem proved : Rows.FnExactTurnPathSaid :=
  over
#print axioms proved
end Go.Proofs.Ytianedkknlggmaa.fnExactTurnPath
