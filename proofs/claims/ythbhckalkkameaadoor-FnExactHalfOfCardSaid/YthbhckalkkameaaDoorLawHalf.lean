import Derived.Deep.RegionHeld3
import Derived.Test.YthbhckalkkameaaDoorHalfW
import Derived.Test.YthbhckalkkameaaDoorHalfS
import Derived.Test.YthbhckalkkameaaDoorHalfI
namespace Go.Proofs.YthbhckalkkameaaDoor
open Go.RowKit
set_option maxRecDepth 100000
set_option linter.unusedVariables false
set_option linter.unusedSimpArgs false
theorem half_law (s : Sh) (ax : Int) (d : Bool) (p : Int) (e : ErrE) (w : World) (hE : Errs e w) (hf : s.fit) (hax : -128 ≤ ax ∧ ax ≤ 127) (hap : -128 ≤ p ∧ p ≤ 127) :
    Calls Tryd.prog 4 #[.agg s.row, .agg #[.int .i8 ax, .bool d, .int .i8 p]] w fun o w' => o = .returned (.bool true) ∧ Below w.heap.size w w' := by
  cases ho : okI s
  · exact halfL_walk s ax d p Sh.zero 1 e w hE (fun w => specH_err s ax d p w hf hax hap 1 (by unfold askC; rw [ho]; rfl) rfl) (fun w hE => implH s ax d p Sh.zero 1 (errP e 1) e w hE (fun W hE => checkSheet_bad s ho e W hE) (fun W hE _ _ => unl_sh_err _ 1 1 e W hE (fun w hE => codeOf_1 e w hE)))
  · cases hk : foldOk s ax d p
    · have hv : (okI s && foldOk s ax d p) = false := by rw [hk]; simp
      exact halfL_walk s ax d p Sh.zero 2 e w hE (fun w => specH_err s ax d p w hf hax hap 2 (by unfold askC; rw [ho, hk]; rfl) rfl) (fun w hE => implH s ax d p Sh.zero 2 .nilIface e w hE (fun W hE => checkSheet_ok s ho e W hE) (fun W hE h1 h2 => unl_sh_catch w.heap.size (w.heap.size + 1) ax d p e W hE (fun W' hb => hc_bad s ax d p _ _ W' (row_next hb h1) (row_next hb h2) hv)))
    · have hv : (okI s && foldOk s ax d p) = true := by rw [ho, hk]; rfl
      obtain ⟨⟨a1, a2⟩, c1, c2⟩ := hf_bd hv
      obtain ⟨a, hA⟩ : ∃ a : Nat, hfA s ax d = a := ⟨(hfA s ax d).toNat, by omega⟩
      obtain ⟨c, hC⟩ : ∃ c : Nat, hfC s ax d = c := ⟨(hfC s ax d).toNat, by omega⟩
      have ha : 1 ≤ a ∧ a ≤ 8 := by omega
      have hc : 1 ≤ c ∧ c ≤ 8 := by omega
      have hask : askC (okI s) (foldOk s ax d p) true = 0 := by unfold askC; rw [ho, hk]; rfl
      obtain ⟨m, hm⟩ : ∃ m : Nat, ax = m := ⟨ax.toNat, by have := hk; simp only [foldOk, Bool.and_eq_true, decide_eq_true_eq] at this; omega⟩
      obtain ⟨q, hq⟩ : ∃ q : Nat, s.high = q := ⟨s.high.toNat, by have := ho; simp only [okI, Bool.and_eq_true, decide_eq_true_eq] at this; omega⟩
      have er := arr_eq' s (fun x y => x) (fun x y => y) a c ha.2 hc.2 (plainSh a c) (fun _ => rfl)
      refine halfL_walk s ax d p (arrI s (fun x y => x) (fun x y => y) (plainSh a c) (pairsL a c)) 0 e w hE (fun w => ?_) (fun w hE => implH s ax d p _ 0 .nilIface e w hE (fun W hE => checkSheet_ok s ho e W hE) (fun W hE h1 h2 => unl_sh_ok w.heap.size (w.heap.size + 1) _ W (fun W' hb => hc_ok s ax d p _ _ W' (row_next hb h1) (row_next hb h2) _ (fun w => ?_))))
      · rw [er]
        cases d
        · exact specH_false s ax p w hf hax hap hask a c hA hC ha hc
        · exact specH_true s ax p w hf hax hap hask a c q hA hC hq ha hc
      · cases d
        · exact half_false s ax p w hv a c hA hC ha hc
        · exact half_true s ax p w hv a c hA hC ha hc
end Go.Proofs.YthbhckalkkameaaDoor
