import Derived.Deep.RegionHeld3
import Derived.Test.YtlgeemlbilngaaaDoorEvW
import Derived.Test.YtlgeemlbilngaaaDoorEvS
import Derived.Test.YtlgeemlbilngaaaDoorEvL
namespace Go.Proofs.YtlgeemlbilngaaaDoor
open Go.RowKit
set_option maxRecDepth 100000
set_option linter.unusedVariables false
set_option linter.unusedSimpArgs false
theorem bdS_ok {s : Sh} (ho : okI s = true) : bdS s := fun j hj => by
  have h := ok_bounds s ho (j / 3 % 8) (j / 24) (by omega) (by omega)
  have e : j = 24 * (j / 24) + 3 * (j / 3 % 8) + j % 3 := by omega
  have hm : j % 3 = 0 ∨ j % 3 = 1 ∨ j % 3 = 2 := by omega
  rcases hm with h0 | h0 | h0
  · rw [e, h0]; exact h.2.1
  · rw [e, h0]; exact h.2.2.1
  · rw [e, h0]; exact h.2.2.2
theorem ev_law (s : Sh) (ax : Int) (d : Bool) (p : Int) (e : ErrE) (w : World) (hE : Errs e w) (hf : s.fit) (hax : -128 ≤ ax ∧ ax ≤ 127) (hap : -128 ≤ p ∧ p ≤ 127) :
    Calls Tryd.prog 5 #[.agg s.row, .agg #[.int .i8 ax, .bool d, .int .i8 p]] w fun o w' => o = .returned (.bool true) ∧ Below w.heap.size w w' := by
  cases ho : okI s
  · exact evL_walk s ax d p Sh.zero 1 e w hE (fun w => specE_err s ax d p w hf hax hap 1 (by unfold askC; rw [ho]; rfl) rfl) (fun w hE => implE s ax d p Sh.zero 1 (errP e 1) e w hE (fun W hE => checkSheet_bad s ho e W hE) (fun W hE _ _ => unl_sh_err _ 1 1 e W hE (fun w hE => codeOf_1 e w hE)))
  · cases hk : foldOk s ax d p
    · have hv : (okI s && foldOk s ax d p) = false := by rw [hk]; simp
      exact evL_walk s ax d p Sh.zero 2 e w hE (fun w => specE_err s ax d p w hf hax hap 2 (by unfold askC; rw [ho, hk]; rfl) rfl) (fun w hE => implE s ax d p Sh.zero 2 .nilIface e w hE (fun W hE => checkSheet_ok s ho e W hE) (fun W hE h1 h2 => unl_sh_catch w.heap.size (w.heap.size + 1) ax d p e W hE (fun W' hb => evc_bad s ax d p _ _ W' (row_next hb h1) (row_next hb h2) hf hv)))
    · have hv : (okI s && foldOk s ax d p) = true := by rw [ho, hk]; rfl
      have hsz := ho
      simp only [okI, Bool.and_eq_true, decide_eq_true_eq] at hsz
      obtain ⟨⟨a1, a2⟩, ⟨a3, a4⟩, _⟩ := hsz
      have hk2 := hk
      simp only [foldOk, Bool.and_eq_true, decide_eq_true_eq] at hk2
      have hax2 : 1 ≤ ax ∧ ax ≤ 8 := by
        refine ⟨hk2.1.1, ?_⟩
        have := hk2.1.2
        split at this <;> omega
      obtain ⟨a, ea⟩ : ∃ a : Nat, s.wide = a := ⟨s.wide.toNat, by omega⟩
      obtain ⟨c, ec⟩ : ∃ c : Nat, s.high = c := ⟨s.high.toNat, by omega⟩
      have ha : 1 ≤ a ∧ a ≤ 8 := by omega
      have hc : 1 ≤ c ∧ c ≤ 8 := by omega
      have hask : askC (okI s) (foldOk s ax d p) true = 0 := by unfold askC; rw [ho, hk]; rfl
      exact evL_walk s ax d p _ 0 e w hE (fun w => specE_ok s a c ax d p w hf (bdS_ok ho) hax hap hask hax2 ea ec ha hc) (fun w hE => implE s ax d p _ 0 .nilIface e w hE (fun W hE => checkSheet_ok s ho e W hE) (fun W hE h1 h2 => unl_sh_ok w.heap.size (w.heap.size + 1) _ W (fun W' hb => evc_ok s ax d p a c _ _ W' (row_next hb h1) (row_next hb h2) hf hv (bdS_ok ho) hax2 ea ec ha.2 hc.2)))
end Go.Proofs.YtlgeemlbilngaaaDoor
