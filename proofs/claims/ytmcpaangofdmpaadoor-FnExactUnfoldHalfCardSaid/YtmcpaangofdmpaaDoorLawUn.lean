import Derived.Test.YtmcpaangofdmpaaDoorUnW
import Derived.Test.YtmcpaangofdmpaaDoorUnS
import Derived.Test.YtmcpaangofdmpaaDoorUnI
import Derived.Test.YtmcpaangofdmpaaDoorUnP
import Derived.Test.YtmcpaangofdmpaaDoorFitW
namespace Go.Proofs.YtmcpaangofdmpaaDoor
open Go.RowKit
set_option maxRecDepth 100000
set_option linter.unusedVariables false
set_option linter.unusedSimpArgs false
theorem un_law (s : Sh) (d : Bool) (e : ErrE) (w : World) (hE : Errs e w) (hf : s.fit) : Calls Tryd.prog 8 #[.agg s.row, .bool d] w fun o w' => o = .returned (.bool true) ∧ Below w.heap.size w w' := by
  cases ho : okI s
  · exact unL_walk s d Sh.zero 1 e w hE (fun w => specUn_bad s d w hf ho) (fun w hE => implUn_bad s d e w hE ho)
  · obtain ⟨a, c, ea, ec, ha, hc⟩ := fitW' s ho
    have e2a : ((2 * a : Nat) : Int) = 2 * (a : Int) := by omega
    have e2c : ((2 * c : Nat) : Int) = 2 * (c : Int) := by omega
    cases d
    · by_cases hb : 8 < 2 * a
      · exact unL_walk s false Sh.zero 3 e w hE (fun w => specUn_v_lim s w hf ho a c ea ec ha hc hb) (fun w hE => implUn_v_lim s e w hE ho a c ea ec ha hc hb)
      · have h2 : 2 * a ≤ 8 := by omega
        have hI := fun w hE => implUn_v_ok s e w hE ho a c ea ec ha hc h2
        have er : arrI s (fun x y => unX false a x) (fun x y => unY false c y) (plainSh (2 * (a : Int)) (c : Int)) (pairsL (2 * a) c) = (pairsL a c).foldl (unS s false a c) (plainSh (2 * (a : Int)) (c : Int)) := un_eq s false a c _ (fun _ => rfl) ha hc h2 hc.2
        rw [e2a, er] at hI
        exact unL_walk s false _ 0 e w hE (fun w => specUn_v_ok s w hf ho a c ea ec ha hc h2) hI
    · by_cases hb : 8 < 2 * c
      · exact unL_walk s true Sh.zero 3 e w hE (fun w => specUn_h_lim s w hf ho a c ea ec ha hc hb) (fun w hE => implUn_h_lim s e w hE ho a c ea ec ha hc hb)
      · have h2 : 2 * c ≤ 8 := by omega
        have hI := fun w hE => implUn_h_ok s e w hE ho a c ea ec ha hc h2
        have er : arrI s (fun x y => unX true a x) (fun x y => unY true c y) (plainSh (a : Int) (2 * (c : Int))) (pairsL a (2 * c)) = (pairsL a c).foldl (unS s true a c) (plainSh (a : Int) (2 * (c : Int))) := un_eq s true a c _ (fun _ => rfl) ha hc ha.2 h2
        rw [e2c, er] at hI
        exact unL_walk s true _ 0 e w hE (fun w => specUn_h_ok s w hf ho a c ea ec ha hc h2) hI
end Go.Proofs.YtmcpaangofdmpaaDoor
