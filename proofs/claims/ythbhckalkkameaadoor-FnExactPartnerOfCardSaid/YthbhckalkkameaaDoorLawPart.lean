import Derived.Deep.RegionHeld3
import Derived.Test.YthbhckalkkameaaDoorPartW
namespace Go.Proofs.YthbhckalkkameaaDoor
open Go.RowKit
set_option maxRecDepth 100000
set_option linter.unusedVariables false
set_option linter.unusedSimpArgs false
theorem part_law (s : Sh) (ax : Int) (d : Bool) (p x y : Int) (e : ErrE) (w : World) (hE : Errs e w) (hf : s.fit) (hax : -128 ≤ ax ∧ ax ≤ 127) (hap : -128 ≤ p ∧ p ≤ 127) (hx : -128 ≤ x ∧ x ≤ 127) (hy : -128 ≤ y ∧ y ≤ 127) :
    Calls Tryd.prog 3 #[.agg s.row, .agg #[.int .i8 ax, .bool d, .int .i8 p], .agg #[.int .i8 x, .int .i8 y]] w fun o w' => o = .returned (.bool true) ∧ Below w.heap.size w w' := by
  cases ho : okI s
  · refine part_walk s ax d p x y 0 0 1 e w hE (fun w => specP_err s ax d p x y w hf hax hap hx hy 1 (by unfold partC askC; rw [ho]; rfl) rfl) (fun w hE => ?_)
    cases hz : hasB s 0 0
    · exact implP_e1false s ax d p x y 0 0 (errP e 1) e w hE hz (fun W hE => checkCell_bad s x y ho e W hE) (fun W hE _ _ _ => unl_sp_err _ 1 1 e W hE (fun w hE => codeOf_1 e w hE))
    · exact implP_e1true s ax d p x y 0 0 (errP e 1) e w hE hz (fun W hE => checkCell_bad s x y ho e W hE) (fun W hE _ _ _ => unl_sp_err _ 1 1 e W hE (fun w hE => codeOf_1 e w hE))
  · cases hh : hasB s x y
    · refine part_walk s ax d p x y 0 0 2 e w hE (fun w => specP_err s ax d p x y w hf hax hap hx hy 2 (by unfold partC askC; rw [ho, hh]; simp) rfl) (fun w hE => ?_)
      cases hz : hasB s 0 0
      · exact implP_e2false s ax d p x y 0 0 (errP e 2) e w hE hz (fun W hE => checkCell_no s x y ho hh e W hE) (fun W hE _ _ _ => unl_sp_err _ 2 2 e W hE (fun w hE => codeOf_2 e w hE))
      · exact implP_e2true s ax d p x y 0 0 (errP e 2) e w hE hz (fun W hE => checkCell_no s x y ho hh e W hE) (fun W hE _ _ _ => unl_sp_err _ 2 2 e W hE (fun w hE => codeOf_2 e w hE))
    · cases hk : foldOk s ax d p
      · refine part_walk s ax d p x y 0 0 2 e w hE (fun w => specP_err s ax d p x y w hf hax hap hx hy 2 (by unfold partC askC; rw [ho, hk]; rfl) rfl) (fun w hE => ?_)
        have hv : (okI s && foldOk s ax d p) = false := by rw [hk]; simp
        have HU := fun (w0 : World) (W : World) (hE : Errs e W) (h1 : W.heap[w0.heap.size]? = some (.cells (vrow 266 s.at) 39)) (h2 : W.heap[w0.heap.size + 1]? = some (.cells (vrow 3 (foAt ax d p)) 41)) (h3 : W.heap[w0.heap.size + 2]? = some (.cells (vrow 2 (spAt x y)) 36)) => unl_sp_catch (w0.heap.size + 1) w0.heap.size (w0.heap.size + 2) ax d p e W hE (fun W' hb => pc_bad s ax d p x y _ _ _ W' (row_next hb h2) (row_next hb h1) (row_next hb h3) hv)
        cases hz : hasB s 0 0
        · exact implP_e2false s ax d p x y 0 0 .nilIface e w hE hz (fun W hE => checkCell_ok s x y ho hh e W hE) (HU w)
        · exact implP_e2true s ax d p x y 0 0 .nilIface e w hE hz (fun W hE => checkCell_ok s x y ho hh e W hE) (HU w)
      · have hc : partC s ax d p x y = 0 := by unfold partC askC; rw [ho, hk, hh]; rfl
        have hb := partB hc
        have hv : (okI s && foldOk s ax d p) = true := by rw [ho, hk]; rfl
        have HU := fun (w0 : World) (W : World) (hE : Errs e W) (h1 : W.heap[w0.heap.size]? = some (.cells (vrow 266 s.at) 39)) (h2 : W.heap[w0.heap.size + 1]? = some (.cells (vrow 3 (foAt ax d p)) 41)) (h3 : W.heap[w0.heap.size + 2]? = some (.cells (vrow 2 (spAt x y)) 36)) => unl_sp_ok (w0.heap.size + 1) w0.heap.size (w0.heap.size + 2) (prX ax d x) (prY ax d y) W (fun W' hb' => pc_any s ax d p x y _ _ _ W' (row_next hb' h2) (row_next hb' h1) (row_next hb' h3) hv hb.1 hb.2.1 hb.2.2)
        cases hn : hasB s (prX ax d x) (prY ax d y)
        · exact part_walk s ax d p x y 0 0 6 e w hE (fun w => specP_nf s ax d p x y w hf hax hap hx hy _ _ rfl rfl 6 hc rfl hn) (fun w hE => implP_nf s ax d p x y (prX ax d x) (prY ax d y) .nilIface e w hE hn (fun W hE => checkCell_ok s x y ho hh e W hE) (HU w))
        · exact part_walk s ax d p x y (prX ax d x) (prY ax d y) 0 e w hE (fun w => specP_ok s ax d p x y w hf hax hap hx hy _ _ rfl rfl 0 hc rfl hn) (fun w hE => implP_ok s ax d p x y (prX ax d x) (prY ax d y) .nilIface e w hE hn (fun W hE => checkCell_ok s x y ho hh e W hE) (HU w))
end Go.Proofs.YthbhckalkkameaaDoor
