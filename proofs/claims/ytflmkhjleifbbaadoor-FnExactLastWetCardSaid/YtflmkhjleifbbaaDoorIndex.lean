import Derived.Deep.RegionHeld3
import Derived.Test.YtflmkhjleifbbaaDoorSpots
import Derived.Test.YtflmkhjleifbbaaDoorClos
import Derived.Test.YtflmkhjleifbbaaDoorGdB
namespace Go.Proofs.YtflmkhjleifbbaaDoor
open Go.RowKit
set_option maxRecDepth 100000
set_option linter.unusedVariables false
set_option linter.unusedSimpArgs false
def hasL (l : List Sp8) (u v : Int) : Bool := l.any fun p => ((p.1.1 : Int) == u) && ((p.1.2 : Int) == v)
theorem hasL_app (l m : List Sp8) (u v : Int) : hasL (l ++ m) u v = (hasL l u v || hasL m u v) := by simp [hasL]
theorem hasL_one (p : Sp8) (u v : Int) : hasL [p] u v = (((p.1.1 : Int) == u) && ((p.1.2 : Int) == v)) := by simp [hasL]
theorem hasL_take {l : List Sp8} {u v : Int} {k : Nat} (h : k < l.length) : hasL (l.take (k + 1)) u v = (hasL (l.take k) u v || hasL [l[k]] u v) := by
  rw [List.take_succ_eq_append_getElem h, hasL_app]
theorem hasL_grow {l : List Sp8} {u v : Int} {k : Nat} (h : hasL (l.take k) u v = true) : hasL l u v = true := by
  rw [← List.take_append_drop k l, hasL_app, h]; rfl
theorem spot_lit (x y : Int) : vrow 2 (spAt x y) = #[.int .i8 x, .int .i8 y] := rfl
theorem und_spot : Tryd.prog.underlying 42 = some (.struct (Tryd.prog.fieldsOf 42)) := by kernel_rfl
theorem stood_spot : Tryd.prog.stoodInHeld 42 = false := by kernel_rfl
theorem fields_spot : (Tryd.prog.fieldsOf 42).toList.map (fun f => (f.name, f.type, f.offset)) = [("X", 22, 0), ("Y", 22, 1)] := by kernel_rfl
theorem eq_sp (a b a' b' : Int) (w : World) : (Op.equalIn 10000 42 (.agg #[.int .i8 a, .int .i8 b]) (.agg #[.int .i8 a', .int .i8 b'])).run Tryd.prog w = .ok ((a == a') && (b == b')) w := by
  rw [run_equalIn_struct w 9999 _ _ _ und_spot stood_spot]
  have hl := fields_spot
  have ha : ∀ w, (isAgg 22).run Tryd.prog w = .ok false w := fun w => run_isAgg_row w _ _ Tryd.underlying22
  generalize (Tryd.prog.fieldsOf 42).toList = fs at hl ⊢
  rcases fs with _ | ⟨f1, _ | ⟨f2, _ | ⟨f3, fs⟩⟩⟩ <;> simp only [List.map_cons, List.map_nil, List.cons.injEq, Prod.mk.injEq, List.nil_eq, reduceCtorEq, and_false, and_true, false_and] at hl
  obtain ⟨⟨e1, e2, e3⟩, e4, e5, e6⟩ := hl
  simp only [Op.eqFields, e1, e2, e3, e4, e5, e6, part, Sem.run_bind, ha, Result.andThen_ok, Bool.false_eq_true, if_false]
  simp [run_equalIn_int w 9998 22 .i8 .i8 _ _ Tryd.underlying22]
  cases h1 : (a == a') <;> cases h2 : (b == b') <;> simp_all [run_equalIn_int w 9998 22 .i8 .i8 _ _ Tryd.underlying22]
theorem Owns.nil_cases {w : World} {base : Nat} {v : Value} {l : List Sp8} (h : Owns w base v l) (hl : l.length = 0) : ∃ b cap, v = .slice none 0 0 ∨ v = .slice (some ⟨b, 0, none⟩) 0 cap := by
  rcases h.own.2 with ⟨hv, _⟩ | ⟨g, cap, cur, hv, _⟩
  · exact ⟨0, 0, .inl hv⟩
  · exact ⟨g, cap, .inr (by rw [hv, hl])⟩
end Go.Proofs.YtflmkhjleifbbaaDoor
