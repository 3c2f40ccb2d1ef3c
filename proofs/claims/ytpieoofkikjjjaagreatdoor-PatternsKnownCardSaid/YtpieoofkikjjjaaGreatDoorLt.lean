/-
  Says: what a table of numbers reads as, whatever its type is made of.
-/
import Derived.Lib.LaidU8
import Derived.ProofKit
import Derived.OpenShut
import Derived.FnData
set_option linter.unusedVariables false
set_option linter.unusedSimpArgs false
namespace Go.Proofs.YtpieoofkikjjjaaGreatDoor
open Go

/-- The cells of plain data. -/
def flatD {H : Type} : Nat → DataW H → List Value
  | 0, _ => []
  | _ + 1, .lit (.int k z) => [.int k z]
  | _ + 1, .lit (.bool b) => [.bool b]
  | n + 1, .agg ds => ds.flatMap (flatD n)
  | _ + 1, _ => []
/-- Parts that lie one behind another, of good types. -/
def contT {α : Type} (P : Program) (ok : TypeId → Bool) (g : α → Nat × TypeId) : Nat → List α → Bool
  | _, [] => true
  | o, a :: r => (g a).1 == o && ok (g a).2 && contT P ok g (o + P.cellsOf (g a).2) r
def endT {α : Type} (P : Program) (g : α → Nat × TypeId) : Nat → List α → Nat
  | o, [] => o
  | o, a :: r => endT P g (o + P.cellsOf (g a).2) r
/-- Types of numbers, arrays and structs of such. -/
def flatT (P : Program) : Nat → TypeId → Bool
  | 0, _ => false
  | n + 1, t => match P.underlying t with
    | some (.int _) => P.cellsOf t == 1
    | some (.array m e) => contT P (flatT P n) (fun i => (i * P.cellsOf e, e)) 0 (List.range m) && endT P (fun i => (i * P.cellsOf e, e)) 0 (List.range m) == P.cellsOf t
    | some (.struct fs) => contT P (flatT P n) (fun f : Field => (f.offset, f.type)) 0 fs.toList && endT P (fun f : Field => (f.offset, f.type)) 0 fs.toList == P.cellsOf t
    | _ => false
section
variable {H : Type} {enc : TypeId × Value → H} {P : Program} {w : World} {base : Nat} {sp : Nat → Bool} {held : Bool}
theorem parts_of {α : Type} (g : α → Nat × TypeId) {n fuel : Nat} (ih : ∀ (t : TypeId) (cs : List Value) (x : DataW H × List MemPlace), flatT P n t = true → DataW.trod enc P w base sp held fuel t cs = some x → cs = flatD n x.1 ∧ cs.length = P.cellsOf t) (cs : List Value) :
    ∀ (L : List α) (o : Nat) (xs : List (DataW H × List MemPlace)), contT P (flatT P n) g o L = true → L.mapM (fun a => DataW.trod enc P w base sp held fuel (g a).2 ((cs.drop (g a).1).take (P.cellsOf (g a).2))) = some xs → cs.drop o = (xs.map (·.1)).flatMap (flatD n) ++ cs.drop (endT P g o L)
  | [], o, xs, _, h => by
    simp at h
    subst h
    simp [endT]
  | a :: r, o, xs, hc, h => by
    simp only [contT, Bool.and_eq_true, beq_iff_eq] at hc
    obtain ⟨⟨h1, h2⟩, h3⟩ := hc
    rw [List.mapM_cons] at h
    simp only [bind, Option.bind_eq_some_iff, pure, Option.some.injEq] at h
    obtain ⟨y, hy, ys, hys, rfl⟩ := h
    obtain ⟨e1, e2⟩ := ih _ _ _ h2 hy
    have e3 := parts_of g ih cs r _ ys h3 hys
    rw [h1] at e1 e2
    have e4 : cs.drop o = (cs.drop o).take (P.cellsOf (g a).2) ++ cs.drop (o + P.cellsOf (g a).2) := by
      rw [← List.drop_drop, List.take_append_drop]
    rw [e4, e3, e1]
    simp [endT]
theorem flat_of_trod : ∀ (n fuel : Nat) (t : TypeId) (cs : List Value) (x : DataW H × List MemPlace), flatT P n t = true → DataW.trod enc P w base sp held fuel t cs = some x → cs = flatD n x.1 ∧ cs.length = P.cellsOf t
  | 0, _, _, _, _, h, _ => by simp [flatT] at h
  | n + 1, 0, _, _, _, _, hd => by simp [DataW.trod] at hd
  | n + 1, fuel + 1, t, cs, x, h, hd => by
    unfold flatT at h
    split at h
    · rename_i k ht
      obtain ⟨z, rfl, rfl, _⟩ := DataW.trod_int ht hd
      simp at h
      exact ⟨rfl, by simp [h]⟩
    · rename_i m e ht
      simp only [Bool.and_eq_true, beq_iff_eq] at h
      rw [DataW.trod_step] at hd
      unfold DataW.trodStep at hd
      simp only [ht] at hd
      split at hd
      · rename_i hl
        simp only [Option.map_eq_some_iff] at hd
        obtain ⟨xs, hx, rfl⟩ := hd
        have e3 := parts_of (fun i : Nat => (i * P.cellsOf e, e)) (fun t cs x => flat_of_trod n fuel t cs x) cs (List.range m) 0 xs h.1 hx
        rw [h.2, ← hl, List.drop_length] at e3
        exact ⟨by simpa [flatD] using e3, hl⟩
      · cases hd
    · rename_i fs ht
      simp only [Bool.and_eq_true, beq_iff_eq] at h
      rw [DataW.trod_step] at hd
      unfold DataW.trodStep at hd
      simp only [ht] at hd
      split at hd
      · rename_i hl
        simp only [Option.map_eq_some_iff] at hd
        obtain ⟨xs, hx, rfl⟩ := hd
        have e3 := parts_of (fun f : Field => (f.offset, f.type)) (fun t cs x => flat_of_trod n fuel t cs x) cs fs.toList 0 xs h.1 hx
        rw [h.2, ← hl, List.drop_length] at e3
        exact ⟨by simpa [flatD] using e3, hl⟩
      · cases hd
    · cases h
end
/-- A laid table, cell by cell. -/
theorem tab_of_reads {P : Program} {W : World} {name : String} {d : DataW Unit} {g : Nat} {t : TypeId} {l : List Value} (hg : P.globalNamed name = some g) (hty : (P.globals[g]?).map (·.type) = some t) (hf : flatT P 8 t = true) (hl : flatD 8 d = l) (h : Lib.VarReads P W name d) : ∀ i < l.length, W.cell? ⟨g, i, none⟩ = some (l.getD i undef) := by
  obtain ⟨g', t', cs, fuel, p, hg', hty', hvar, hd⟩ := h
  obtain rfl := Option.some.inj (hg.symm.trans hg')
  obtain rfl := Option.some.inj (hty.symm.trans hty')
  obtain ⟨e, _⟩ := flat_of_trod 8 fuel t _ _ hf hd
  intro i hi
  rw [World.var?_cell hg hvar, ← Array.getElem?_toList, e, hl, List.getElem?_eq_getElem hi]
  simp [List.getD_eq_getElem?_getD, List.getElem?_eq_getElem hi]

end Go.Proofs.YtpieoofkikjjjaaGreatDoor
