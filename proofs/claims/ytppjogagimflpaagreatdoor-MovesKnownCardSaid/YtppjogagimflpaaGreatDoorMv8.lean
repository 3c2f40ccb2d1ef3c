/-
  Says: what Text of package moves gives; what Atoi gives.
-/
import Derived.Test.YtppjogagimflpaaGreatDoorMv2
import Derived.Test.YtppjogagimflpaaGreatDoorFnX
import Derived.Test.YtppjogagimflpaaGreatDoorShelfB
import Derived.Test.YtppjogagimflpaaGreatDoorMvz
import Derived.Deep.RegionHeld3
import Derived.RowKit3
set_option linter.unusedVariables false
set_option linter.unusedSimpArgs false
namespace Go.Proofs.YtppjogagimflpaaGreatDoor
open Go Go.RowKit

/-- What of the package-level variables the functions of package moves need. -/
structure Std (w : World) : Prop where
  tab : Tab w
  turns : Turns w
  es : ∃ ev, w.cell? ⟨1, 0, none⟩ = some ev ∧ (ev = .nilIface ∨ ∃ te pe, ev = .iface te pe)
  er : ∃ ev, w.cell? ⟨2, 0, none⟩ = some ev ∧ (ev = .nilIface ∨ ∃ te pe, ev = .iface te pe)
  ml : ∃ m, w.cell? ⟨4, 0, none⟩ = some (.int .i64 m)
theorem std_below {w w' : World} (h : Std w) (hb : Below w.heap.size w w') : Std w' := by
  obtain ⟨h1, h2, ⟨e1, h3, h3'⟩, ⟨e2, h4, h4'⟩, ⟨m, h5⟩⟩ := h
  exact ⟨tab_below h1 hb, turns_below h2 hb, ⟨e1, (hb.cell (World.block_lt_of_cell? _ _ h3)).trans h3, h3'⟩, ⟨e2, (hb.cell (World.block_lt_of_cell? _ _ h4)).trans h4, h4'⟩, ⟨m, (hb.cell (World.block_lt_of_cell? _ _ h5)).trans h5⟩⟩
/-- The number that Atoi gives, with whatever error. -/
def atv (l : List UInt8) : Int := match Lib.atoiAll l with
  | .ok v => v
  | .«syntax» => 0
  | .range => Lib.atoiSat l
def AtE (s : ByteArray) (w : World) (e : Ending) (w' : World) : Prop := ∃ er, e = .returned (.tuple #[.int .i64 (atv s.data.toList), er]) ∧ Below w.heap.size w w'
theorem atoi_gen (s : ByteArray) (w : World) (hS : Std w) (hl : s.size ≤ 281474976710656) : Calls Tryz.prog 62 #[.string s] w (AtE s w) := by
  cases h : Lib.atoiAll s.data.toList with
  | ok v =>
    refine (Tryz.strconv_Atoi_ok s (by omega) v h w).mono fun e w' ⟨he, hw⟩ => ⟨.nilIface, ?_, ?_⟩
    · rw [he]; unfold atv; rw [h]
    · obtain rfl | ⟨t, rfl⟩ := hw
      · exact Below.refl _ _
      · exact Lib.bytesWorld_below _ _ _
  | «syntax» =>
    obtain ⟨ev, h3, h3'⟩ := hS.es
    refine (Tryz.strconv_Atoi_syntax s hl h ev w h3 h3').mono fun e w' ⟨N, he, _, _, hb⟩ => ⟨.iface 122 (.pointer (some ⟨N, 0, none⟩)), he.trans ?_, hb⟩
    unfold atv; rw [h]
  | range =>
    obtain ⟨ev, h3, h3'⟩ := hS.er
    refine (Tryz.strconv_Atoi_range s hl h ev w h3 h3').mono fun e w' ⟨N, he, _, _, hb⟩ => ⟨.iface 122 (.pointer (some ⟨N, 0, none⟩)), he.trans ?_, hb⟩
    unfold atv; rw [h]
/-- The text of a move. -/
def textM (t X Y : Int) : List UInt8 := Lib.itoa t ++ [32] ++ Lib.itoa X ++ [32] ++ Lib.itoa Y
attribute [local go_sem] World.cell?_alloc_some frozen?_alloc_cells fz0 fz1 fz2 fz3 fz4 fz5

set_option maxRecDepth 100000 in
set_option maxHeartbeats 2000000 in
theorem mtext_ok (t X Y : Int) (w : World) (hT : Tab w) (a1 : 0 ≤ t) (a2 : t ≤ 7) (a3 : -16384 ≤ X) (a4 : X ≤ 16384) (a5 : -16384 ≤ Y) (a6 : Y ≤ 16384) (a7 : (X + Y) % 2 = 0) : Calls Tryz.prog 36 #[mv t X Y] w fun e w' => e = .returned (.string ⟨(textM t X Y).toArray⟩) ∧ Below w.heap.size w w' := by
  have HA : Hid ((X + Y) % 2 = 0) := a7
  clear a7
  have l1 := itoa_len t (by omega) (by omega)
  have l2 := itoa_len X (by omega) (by omega)
  have l3 := itoa_len Y (by omega) (by omega)
  have hA : ∀ w, (Op.stringOp .add ⟨(Lib.itoa t).toArray⟩ ⟨#[32]⟩).run Tryz.prog w = .ok (.string ⟨(Lib.itoa t ++ [32]).toArray⟩) w := fun w => run_string_add_lists w (Lib.itoa t) [32] (by omega) (by simp)
  have hB : ∀ w, (Op.stringOp .add ⟨(Lib.itoa t ++ [32]).toArray⟩ ⟨(Lib.itoa X).toArray⟩).run Tryz.prog w = .ok (.string ⟨(Lib.itoa t ++ [32] ++ Lib.itoa X).toArray⟩) w := fun w => run_string_add_lists w _ _ (by simp; omega) (by omega)
  have hC : ∀ w, (Op.stringOp .add ⟨(Lib.itoa t ++ [32] ++ Lib.itoa X).toArray⟩ ⟨#[32]⟩).run Tryz.prog w = .ok (.string ⟨(Lib.itoa t ++ [32] ++ Lib.itoa X ++ [32]).toArray⟩) w := fun w => run_string_add_lists w _ [32] (by simp; omega) (by simp)
  have hD : ∀ w, (Op.stringOp .add ⟨(Lib.itoa t ++ [32] ++ Lib.itoa X ++ [32]).toArray⟩ ⟨(Lib.itoa Y).toArray⟩).run Tryz.prog w = .ok (.string ⟨(textM t X Y).toArray⟩) w := fun w => run_string_add_lists w _ _ (by simp; omega) (by omega)
  clear l1 l2 l3
  generalize hE : Lib.itoa t ++ [32] ++ Lib.itoa X ++ [32] = E at *
  generalize hF : Lib.itoa t ++ [32] ++ Lib.itoa X = F at *
  generalize hG : Lib.itoa t ++ [32] = G at *
  clear hE hF hG
  go_enter Tryz.func36, Tryz.ntmps36
  go_wp2_with (first | (go_at_call 24; with_reducible refine (mcheck_ok t X Y _ a1 a2 a3 a4 a5 a6 HA.out).mono ?_; rintro e wx ⟨rfl, hx⟩; obtain ⟨ux, rfl⟩ := after hx; clear hx) | fail)
  refine region_later (by kernel_rfl) (by kernel_rfl) ?_
  repeat (go_big_quiet_step ((first | (go_at_call 56; with_reducible exact Calls.later (itoa_any t _ (tab_below hT (by repeat first | (with_reducible exact Below.refl _ _) | (with_reducible refine below_on ?_ _) | (with_reducible refine below_alloc ?_ _) | (with_reducible refine below_set ?_ (by simp; try omega) _))) (by omega) (by omega))) | (go_at_call 56; with_reducible exact Calls.later (itoa_any X _ (tab_below hT (by repeat first | (with_reducible exact Below.refl _ _) | (with_reducible refine below_on ?_ _) | (with_reducible refine below_alloc ?_ _) | (with_reducible refine below_set ?_ (by simp; try omega) _))) (by omega) (by omega))) | (go_at_call 56; with_reducible exact Calls.later (itoa_any Y _ (tab_below hT (by repeat first | (with_reducible exact Below.refl _ _) | (with_reducible refine below_on ?_ _) | (with_reducible refine below_alloc ?_ _) | (with_reducible refine below_set ?_ (by simp; try omega) _))) (by omega) (by omega))))))
  refine wpQuiet_nil ?_
  rintro _ ⟨u3, rfl⟩
  go_wp2
  go_ret
  exact ⟨rfl, (by repeat first | (with_reducible exact Below.refl _ _) | (with_reducible refine below_on ?_ _) | (with_reducible refine below_alloc ?_ _) | (with_reducible refine below_set ?_ (by simp; try omega) _))⟩
set_option maxRecDepth 100000 in
set_option maxHeartbeats 2000000 in
theorem mtext_bad (t X Y : Int) (w : World) (h : 7 < t ∨ X < -16384 ∨ 16384 < X ∨ Y < -16384 ∨ 16384 < Y ∨ (X + Y) % 2 ≠ 0) : Calls Tryz.prog 36 #[mv t X Y] w fun e w' => e = .returned (.string ⟨#[]⟩) ∧ Below w.heap.size w w' := by
  have H : Hid (7 < t ∨ X < -16384 ∨ 16384 < X ∨ Y < -16384 ∨ 16384 < Y ∨ (X + Y) % 2 ≠ 0) := h
  clear h
  go_enter Tryz.func36, Tryz.ntmps36
  go_wp2_with (first | (go_at_call 24; with_reducible refine (mcheck_bad t X Y _ H.out).mono ?_; rintro e wx ⟨rfl, hx⟩; obtain ⟨ux, rfl⟩ := after hx; clear hx) | fail)
  go_ret
  exact ⟨rfl, (by repeat first | (with_reducible exact Below.refl _ _) | (with_reducible refine below_on ?_ _) | (with_reducible refine below_alloc ?_ _) | (with_reducible refine below_set ?_ (by simp; try omega) _))⟩

end Go.Proofs.YtppjogagimflpaaGreatDoor
