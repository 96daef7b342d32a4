import Derived.Test.YtfgcpiipndhllaaDoorPrsW
import Derived.Test.YtfgcpiipndhllaaDoorPrsL
namespace Go.Proofs.YtfgcpiipndhllaaDoor
open Go.RowKit
set_option maxRecDepth 100000
set_option linter.unusedVariables false
set_option linter.unusedSimpArgs false
theorem prs_law (s : Sh) (ax : Int) (d : Bool) (p : Int) (e : ErrE) (w : World) (hE : Errs e w) (hf : s.fit) (hax : -128 ≤ ax ∧ ax ≤ 127) (hap : -128 ≤ p ∧ p ≤ 127) :
    Calls Tryd.prog 12 #[.agg s.row, .agg #[.int .i8 ax, .bool d, .int .i8 p]] w fun o w' => o = .returned (.bool true) ∧ Below w.heap.size w w' := by
  have nil : ∀ (W : World) (B : Nat), PRO W (.slice none 0 0) ax d [] B := fun W B => PRO.nil W ax d B
  cases ho : okI s
  · exact prs_walk s ax d p [] 1 e w hE (by simp) (fun w => specPr_err s ax d p w hf hax hap 1 (by unfold askC; rw [ho]; rfl) rfl) (fun w hE => implPr s ax d p [] 1 (errP e 1) e w hE (fun W hE => checkSheet_bad s ho e W hE) (fun W hE _ _ => (unl_prs_err _ 1 1 e W hE (fun w hE => codeOf_1 e w hE)).mono fun o w' ⟨h1, h2⟩ => ⟨⟨_, h1, nil _ _⟩, h2⟩))
  · cases hk : foldOk s ax d p
    · have hv : (okI s && foldOk s ax d p) = false := by rw [hk]; simp
      exact prs_walk s ax d p [] 2 e w hE (by simp) (fun w => specPr_err s ax d p w hf hax hap 2 (by unfold askC; rw [ho, hk]; rfl) rfl) (fun w hE => implPr s ax d p [] 2 .nilIface e w hE (fun W hE => checkSheet_ok s ho e W hE) (fun W hE h1 h2 => (unl_prs_catch w.heap.size (w.heap.size + 1) ax d p e W hE (fun W' hb => prc_bad s ax d p _ _ W' (row_next hb h1) (row_next hb h2) hf hv)).mono fun o w' ⟨h1, h2⟩ => ⟨⟨_, h1, nil _ _⟩, h2⟩))
    · have hv : (okI s && foldOk s ax d p) = true := by rw [ho, hk]; rfl
      have hsz := ho
      simp only [okI, Bool.and_eq_true, decide_eq_true_eq] at hsz
      obtain ⟨⟨a1, a2⟩, ⟨a3, a4⟩, _⟩ := hsz
      have hk2 := hk
      simp only [foldOk, Bool.and_eq_true, decide_eq_true_eq] at hk2
      have hax2 : 1 ≤ ax ∧ ax ≤ 8 := by
        refine ⟨hk2.1.1, ?_⟩
        have := hk2.1.2
        split at this <;> omega
      obtain ⟨a, ea⟩ : ∃ a : Nat, s.wide = a := ⟨s.wide.toNat, by omega⟩
      obtain ⟨c, ec⟩ : ∃ c : Nat, s.high = c := ⟨s.high.toNat, by omega⟩
      have ha : 1 ≤ a ∧ a ≤ 8 := by omega
      have hc : 1 ≤ c ∧ c ≤ 8 := by omega
      have hask : askC (okI s) (foldOk s ax d p) true = 0 := by unfold askC; rw [ho, hk]; rfl
      exact prs_walk s ax d p (prsL s a c ax d) 0 e w hE (prsL_len s ha.2 hc.2) (fun w => specPr_ok s a c ax d p w hf hax hap hask hax2 ea ec ha hc) (fun w hE => implPr s ax d p _ 0 .nilIface e w hE (fun W hE => checkSheet_ok s ho e W hE) (fun W hE h1 h2 => unl_prs_ok w.heap.size (w.heap.size + 1) ax d _ W (fun W' hb => prc_ok s ax d p a c _ _ W' (row_next hb h1) (row_next hb h2) hf hv hax2 ea ec ha.2 hc.2)))
end Go.Proofs.YtfgcpiipndhllaaDoor
