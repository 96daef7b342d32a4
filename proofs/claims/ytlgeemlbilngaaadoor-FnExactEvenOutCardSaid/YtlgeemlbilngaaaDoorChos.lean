import Derived.OwnWalkIn
import Derived.RangeFuncNested
import Derived.RangeFuncLeaves
import Derived.Test.YtlgeemlbilngaaaDoorBkw
import Derived.Test.YtlgeemlbilngaaaDoorG1
import Derived.Test.YtlgeemlbilngaaaDoorCellsN
import Derived.Test.YtlgeemlbilngaaaDoorSpots
import Derived.Test.YtlgeemlbilngaaaDoorDark
namespace Go.Proofs.YtlgeemlbilngaaaDoor
open Go.RowKit
set_option maxRecDepth 100000
set_option linter.unusedVariables false
set_option linter.unusedSimpArgs false
def toSp {a c : Nat} (p : SpN a c) : Sp8 := mk8 p.1.1 p.1.2
theorem toSp_val {a c : Nat} (ha : a ≤ 8) (hc : c ≤ 8) (p : SpN a c) : (toSp p).1 = p.1 := mk8_x (by have := p.2.1; omega) (by have := p.2.2; omega)
theorem toSp_cells (a c : Nat) (ha : a ≤ 8) : ∀ k h, k ≤ 8 → (cellsN a c k h).map toSp = cellsL a k := fun k h hk => by
  have e1 : ((cellsN a c k h).map toSp) = ((cellsN a c k h).map (·.1)).map fun q => mk8 q.1 q.2 := by rw [List.map_map]; rfl
  have e2 : cellsL a k = ((cellsL a k).map (·.1)).map fun q => mk8 q.1 q.2 := by
    rw [List.map_map]
    conv => lhs; rw [← List.map_id (cellsL a k)]
    exact List.map_congr_left fun p _ => Subtype.ext (mk8_x p.2.1 p.2.2).symm
  rw [e1, cellsN_val, e2, cellsL_val a k ha k hk]
def fl (pb : Nat → Nat → Bool) (l : List Sp8) : List Sp8 := l.filter fun p => pb p.1.1 p.1.2
theorem fl_app (pb : Nat → Nat → Bool) (l : List Sp8) (p : Sp8) : fl pb (l ++ [p]) = fl pb l ++ (if pb p.1.1 p.1.2 then [p] else []) := by
  unfold fl; rw [List.filter_append]; congr 1; simp [List.filter_cons]
theorem fl_len (pb : Nat → Nat → Bool) (l : List Sp8) : (fl pb l).length ≤ l.length := List.length_filter_le _ _
theorem own_ex {β γ : Type} {B : Nat} {Q : γ → β → World → Prop} (h : ∀ v, OwnFrom B (Q v)) : OwnFrom B (fun s W => ∃ v, Q v s W) := fun s X Y row ⟨v, hv⟩ hg hr => ⟨v, h v s X Y row hv hg hr⟩
theorem own_one {W : World} {base size n : Nat} {t : TypeId} {v : Value} {xs : List Value} (h : W.ownsRow base t size v n xs) : v.oneCell' = true := by
  rcases h.2 with ⟨rfl, _⟩ | ⟨g, cap, cur, rfl, _⟩ <;> rfl
theorem own_rowDC {β : Type} {B b : Nat} {o : β → Obj} (hb : b < B) : OwnFrom B (fun (s : β) W => W.heap[b]? = some (o s)) := fun _ W W' row hs hg hr =>
  (hg.block b (row_lt hs) (fun e => by have := (hr b e.symm).1; omega)).trans hs
theorem own_ownsRowC {β : Type} {B base size : Nat} {t : TypeId} (v : β → Value) (n : β → Nat) (xs : β → List Value) : OwnFrom B (fun (s : β) W => W.ownsRow base t size (v s) (n s) (xs s)) := fun s W W' row hs hg hr => by
  refine hs.kept hg ?_
  rcases hs.2 with ⟨hv, _⟩ | ⟨g, cap, cur, hv, _, hgb, _⟩
  · exact .inl (by rw [hv]; rfl)
  · refine .inr fun e => ?_
    rw [hv] at e
    obtain ⟨_, o, ho, hc⟩ := hr g e.symm
    rw [hgb] at ho
    cases ho
    simp [Obj.isCells] at hc
theorem own_mono {W : World} {base base' size n : Nat} {t : TypeId} {v : Value} {xs : List Value} (hb : base' ≤ base) (h : W.ownsRow base t size v n xs) : W.ownsRow base' t size v n xs :=
  ⟨h.1, h.2.imp id (fun ⟨g, cap, cur, hv, hg, r⟩ => ⟨g, cap, cur, hv, Nat.le_trans hb hg, r⟩)⟩
theorem own_put {W : World} {base size n D : Nat} {t : TypeId} {v : Value} {xs : List Value} {q : Option (List Deferred)} {x : Obj} (hs : W.ownsRow base t size v n xs) (hd : W.heap[D]? = some (.deferred q)) : (W.putObj D x).ownsRow base t size v n xs := by
  refine hs.kept (grownBy_putObj' W D x) ?_
  rcases hs.2 with ⟨hv, _⟩ | ⟨g, cap, cur, hv, _, hgb, _⟩
  · exact .inl (by rw [hv]; rfl)
  · refine .inr fun e => ?_
    rw [hv] at e
    cases e
    rw [hgb] at hd
    cases hd
theorem keeps_own {W W' : World} {B base size n : Nat} {t : TypeId} {v : Value} {xs : List Value} (h : W.ownsRow base t size v n xs) (hg : W.grownBy W' v.ownBlock) : KeepsFrom B W W' := by
  rcases h.2 with ⟨hv, _⟩ | ⟨g, cap, cur, hv, _, hgb, _⟩
  · subst hv; exact KeepsFrom.of_grownBy hg (fun j e => by cases e)
  · subst hv; exact keeps_grown hgb hg
theorem CkB.stepK {N b1 b2 : Nat} {X Y Z : World} (h : CkB N b1 b2 X Y) (hk : KeepsFrom N Y Z) (hp : Kp2 b1 b2 Y Z) : CkB N b1 b2 X Z :=
  ⟨h.keep.trans hk, h.kp.t hp, Nat.lt_of_lt_of_le h.s1 hk.size, Nat.lt_of_lt_of_le h.s2 hk.size⟩
theorem size_sltC : (Tryd.prog.info? 96).map (·.size) = some 1 := by kernel_rfl
theorem zero_sltC : ∀ w, (zeroValue 96).run Tryd.prog w = .ok (.slice none 0 0) w := fun _ => by kernel_rfl
attribute [local go_sem] Oper.semAt_some
end Go.Proofs.YtlgeemlbilngaaaDoor
