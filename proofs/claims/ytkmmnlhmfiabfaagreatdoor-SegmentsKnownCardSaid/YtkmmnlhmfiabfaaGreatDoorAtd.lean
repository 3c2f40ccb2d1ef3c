/-
  Says: At of the reference of layer 7 over a row, as an entry of a call that is handed a row.
-/
import Derived.Test.YtkmmnlhmfiabfaaGreatDoorSg1
import Derived.Deep.RegionHeld3
import Derived.RowKit3
import Derived.BigQuiet
import Derived.Deep.QuietTactic
import Derived.Test.YtkmmnlhmfiabfaaGreatDoorKr
import Derived.Test.YtkmmnlhmfiabfaaGreatDoorKS
import Derived.KernelRfl
set_option linter.unusedVariables false
set_option linter.unusedSimpArgs false
namespace Go.Proofs.YtkmmnlhmfiabfaaGreatDoor
open Go Go.RowKit

attribute [local go_sem] World.cell?_alloc_some frozen?_alloc_cells fz0 fz1 fz2 fz3 fz4 fz5

theorem below_dn {B n : Nat} {w w' : World} (h : Below B w w') : Below B w (w'.drewN n) := h.trans ⟨rfl, rfl, rfl, Nat.le_refl _, fun _ _ => rfl⟩
theorem res_at : Tryz.f37.results = #[.cell 6 42, .tmp 7, .tmp 8] := by kernel_rfl
set_option maxRecDepth 100000 in
set_option maxHeartbeats 4000000 in
theorem at_any (u e k c a z : Nat → Int) (pa : Option Addr) (ab ao n cap : Nat) (K C F U E Z S : Int) (w : World) (hn : (n : Int) ≤ 4096) (hpa : 0 < n → pa = some ⟨ab, ao, none⟩) (hc : ∀ i : Nat, i < n → w.cell? ⟨ab, ao + i * 6, none⟩ = some (.int .i64 (u i)) ∧ w.cell? ⟨ab, ao + i * 6 + 1, none⟩ = some (.int .u8 (e i)) ∧ w.cell? ⟨ab, ao + i * 6 + 2, none⟩ = some (.int .u8 (k i)) ∧ w.cell? ⟨ab, ao + i * 6 + 3, none⟩ = some (.int .i64 (c i)) ∧ w.cell? ⟨ab, ao + i * 6 + 4, none⟩ = some (.int .i64 (a i)) ∧ w.cell? ⟨ab, ao + i * 6 + 5, none⟩ = some (.int .i64 (z i)))
    (m : Nat) (hm : m ≤ n) (hno : ∀ i : Nat, i < m → ¬ (k i = K ∧ c i = C ∧ a i = F))
    (hit : (m = n ∧ U = 0 ∧ E = 0 ∧ Z = 0 ∧ S = 0) ∨ (m < n ∧ k m = K ∧ c m = C ∧ a m = F ∧ U = u m ∧ E = e m ∧ Z = z m ∧ S = 1)) :
    Calls Tryz.prog 37 #[.slice pa n cap, .agg #[.int .u8 K, .int .i64 C], .int .i64 F] w fun r w' => r = .returned (.tuple #[.agg #[.int .i64 U, .int .u8 E], .int .i64 Z, .int .i64 S]) ∧ Below w.heap.size w w' := by
  go_enter Tryz.func37, Tryz.ntmps37
  go_wp2_with fail
  have hB0 : Below w.heap.size w ((w.alloc (.cells #[.int .u8 K, .int .i64 C] 27)).alloc (.cells #[.int .i64 0, .int .u8 0] 42)) := (by repeat first | (with_reducible exact Below.refl _ _) | (with_reducible refine below_on ?_ _) | (with_reducible refine below_alloc ?_ _) | (with_reducible refine below_set ?_ (by simp; try omega) _))
  have b0 : ((w.alloc (.cells #[.int .u8 K, .int .i64 C] 27)).alloc (.cells #[.int .i64 0, .int .u8 0] 42)).cell? ⟨w.heap.size, 0, none⟩ = some (.int .u8 K) := by simp [go_sem]
  have b1 : ((w.alloc (.cells #[.int .u8 K, .int .i64 C] 27)).alloc (.cells #[.int .i64 0, .int .u8 0] 42)).cell? ⟨w.heap.size, 1, none⟩ = some (.int .i64 C) := by simp [go_sem]
  have hU : ((w.alloc (.cells #[.int .u8 K, .int .i64 C] 27)).alloc (.cells #[.int .i64 0, .int .u8 0] 42)).heap[w.heap.size + 1]? = some (.cells #[.int .i64 0, .int .u8 0] 42) := heap_alloc2_new _ _ _
  generalize ((w.alloc (.cells #[.int .u8 K, .int .i64 C] 27)).alloc (.cells #[.int .i64 0, .int .u8 0] 42)) = W0 at *
  go_loopw [9] (fun iv wr => ∃ i : Nat, iv = .int .i64 i ∧ i ≤ m ∧ ∃ x : Later w, wr = on x ∧ (on x).cell? ⟨w.heap.size, 0, none⟩ = some (.int .u8 K) ∧ (on x).cell? ⟨w.heap.size, 1, none⟩ = some (.int .i64 C) ∧ (on x).heap[w.heap.size + 1]? = some (.cells #[.int .i64 0, .int .u8 0] 42)) (fun iv _ => (n - intOf iv).toNat)
  case atStart => exact ⟨0, rfl, Nat.zero_le _, ⟨W0, hB0⟩, rfl, b0, b1, hU⟩
  case round =>
    obtain ⟨i, rfl, hi, x, rfl, l0, l1, hu⟩ := hrel
    have hq : Below w.heap.size w (on x) := x.b
    have v0 := held_free hu 0
    have v1 := held_free hu 1
    have g0 : (on x).cell? ⟨w.heap.size + 1, 0, none⟩ = some (.int .i64 0) := held_cell hu 0
    have g1 : (on x).cell? ⟨w.heap.size + 1, 1, none⟩ = some (.int .u8 0) := held_cell hu 1
    clear hB0 b0 b1 hU
    by_cases hin : i < n
    · have hin' : (i : Int) < n := by omega
      obtain rfl := hpa (by omega)
      clear hpa
      obtain ⟨f0, f1, f2, f3, f4, f5⟩ := hc i hin
      have hf := f0
      replace f0 := (hq.cell (World.block_lt_of_cell? _ _ f0)).trans f0
      replace f1 := (hq.cell (World.block_lt_of_cell? _ _ f1)).trans f1
      replace f2 := (hq.cell (World.block_lt_of_cell? _ _ f2)).trans f2
      replace f3 := (hq.cell (World.block_lt_of_cell? _ _ f3)).trans f3
      replace f4 := (hq.cell (World.block_lt_of_cell? _ _ f4)).trans f4
      replace f5 := (hq.cell (World.block_lt_of_cell? _ _ f5)).trans f5
      clear hc
      have hab : ab ≠ w.heap.size + 1 := by
        have : ab < w.heap.size := World.block_lt_of_cell? _ _ hf
        omega
      clear hf
      by_cases him : i = m
      · subst him
        obtain ⟨h1, _⟩ | ⟨_, rfl, rfl, rfl, rfl, rfl, rfl, rfl⟩ := hit
        · exact absurd h1 (by omega)
        go_wp2_with fail
        go_quiet (fail)
        go_wp2_with fail
        go_region_with fail
        all_goals go_wp2_with fail
        all_goals (try simp only [Exit.inBlock, Exit.then])
        all_goals refine bodyPost_ret (v := .tuple #[.agg #[.int .i64 (u i), .int .u8 (e i)], .int .i64 (z i), .int .i64 1]) (by simp [results, res_at, go_sem, g0, g1]; try rfl) rfl ?_
        all_goals exact ⟨rfl, (by repeat first | (with_reducible refine below_dn ?_) | (with_reducible exact Below.refl _ _) | (with_reducible exact hq) | (with_reducible refine below_on ?_ _) | (with_reducible refine below_drew ?_) | (with_reducible refine below_alloc ?_ _) | (with_reducible refine below_set ?_ (by simp; try omega) _))⟩
      · have hi' : i < m := by omega
        have hne := hno i hi'
        clear hno hit
        by_cases q1 : k i = K
        · by_cases q2 : c i = C
          · have q3 : (a i == F) = false := by
              simp only [beq_eq_false_iff_ne]; exact fun q => hne ⟨q1, q2, q⟩
            subst q1 q2
            clear hne
            go_wp2_with fail
            go_quiet (fail)
            go_wp2_with fail
            exact ⟨⟨i + 1, by simp, by omega, ⟨_, below_dn hq⟩, rfl, l0, l1, hu⟩, by simp [intOf]; omega⟩
          · have q3 : (c i == C) = false := by simpa using q2
            subst q1
            clear hne
            go_wp2_with fail
            go_quiet (fail)
            go_wp2_with fail
            exact ⟨⟨i + 1, by simp, by omega, ⟨_, below_dn hq⟩, rfl, l0, l1, hu⟩, by simp [intOf]; omega⟩
        · have q3 : (k i == K) = false := by simpa using q1
          clear hne
          go_wp2_with fail
          go_quiet (fail)
          go_wp2_with fail
          exact ⟨⟨i + 1, by simp, by omega, ⟨_, below_dn hq⟩, rfl, l0, l1, hu⟩, by simp [intOf]; omega⟩
    · obtain ⟨rfl, rfl, rfl, rfl, rfl⟩ | h := hit
      · have hin' : ¬ (i : Int) < m := by omega
        have hmi : i = m := by omega
        subst hmi
        clear hno hc
        go_wp2_with fail
        (try simp only [Exit.inBlock, Exit.then])
        refine bodyPost_ret (v := .tuple #[.agg #[.int .i64 0, .int .u8 0], .int .i64 0, .int .i64 0]) (by simp [results, res_at, go_sem, g0, g1]; try rfl) rfl ?_
        exact ⟨rfl, (by repeat first | (with_reducible refine below_dn ?_) | (with_reducible exact Below.refl _ _) | (with_reducible exact hq) | (with_reducible refine below_on ?_ _) | (with_reducible refine below_drew ?_) | (with_reducible refine below_alloc ?_ _) | (with_reducible refine below_set ?_ (by simp; try omega) _))⟩
      · omega

end Go.Proofs.YtkmmnlhmfiabfaaGreatDoor
set_option maxRecDepth 1000000
set_option linter.unusedVariables false
set_option linter.unusedSimpArgs false
namespace Go.Proofs.YtkmmnlhmfiabfaaGreatDoor
open Go Go.Vx

open Go.RowKit
attribute [local instance] anySyms stdKeeps
theorem liesC_cons (x : LieT) (L : List LieT) : liesC (x :: L) = [.int .i64 x.u, .int .u8 x.e, .int .u8 x.k, .int .i64 x.c, .int .i64 x.a, .int .i64 x.z] ++ liesC L := rfl
theorem liesC_atoms : ∀ L : List LieT, (liesC L).all atom = true
  | [] => rfl
  | x :: L => by rw [liesC_cons, List.all_append, liesC_atoms L]; rfl
theorem liesC_get : ∀ (L : List LieT) (i : Nat) (x : LieT), L[i]? = some x → (liesC L)[i * 6]? = some (.int .i64 x.u) ∧ (liesC L)[i * 6 + 1]? = some (.int .u8 x.e) ∧ (liesC L)[i * 6 + 2]? = some (.int .u8 x.k) ∧ (liesC L)[i * 6 + 3]? = some (.int .i64 x.c) ∧ (liesC L)[i * 6 + 4]? = some (.int .i64 x.a) ∧ (liesC L)[i * 6 + 5]? = some (.int .i64 x.z)
  | [], i, x, h => by simp at h
  | y :: L, 0, x, h => by
    simp at h; subst h
    exact ⟨rfl, rfl, rfl, rfl, rfl, rfl⟩
  | y :: L, i + 1, x, h => by
    have := liesC_get L i x (by simpa using h)
    rw [liesC_cons]
    simp only [Nat.add_mul, Nat.one_mul]
    have e : ∀ j, ([Value.int .i64 y.u, .int .u8 y.e, .int .u8 y.k, .int .i64 y.c, .int .i64 y.a, .int .i64 y.z] ++ liesC L)[i * 6 + 6 + j]? = (liesC L)[i * 6 + j]? := fun j => by
      rw [List.getElem?_append_right (by simp; omega)]
      congr 1
      simp; omega
    exact ⟨(e 0).trans this.1, (e 1).trans this.2.1, (e 2).trans this.2.2.1, (e 3).trans this.2.2.2.1, (e 4).trans this.2.2.2.2.1, (e 5).trans this.2.2.2.2.2⟩
theorem hitB_iff (K C F : Int) (x : LieT) : hitB K C F x = true ↔ x.k = K ∧ x.c = C ∧ x.a = F := by
  unfold hitB
  cases h1 : Vx.eqI K x.k with
  | false =>
    have := eq_f h1
    exact ⟨fun h => (by cases h), fun h => absurd h.1.symm this⟩
  | true =>
    have e1 := eq_t h1
    cases h2 : Vx.eqI C x.c with
    | false =>
      have := eq_f h2
      exact ⟨fun h => (by cases h), fun h => absurd h.2.1.symm this⟩
    | true =>
      have e2 := eq_t h2
      cases h3 : Vx.eqI F x.a with
      | false =>
        have := eq_f h3
        exact ⟨fun h => (by cases h), fun h => absurd h.2.2.symm this⟩
      | true => exact ⟨fun _ => ⟨e1.symm, e2.symm, (eq_t h3).symm⟩, fun _ => rfl⟩
/-- The first one that fits. -/
theorem atF_spec (K C F : Int) : ∀ L : List LieT, ∃ m, m ≤ L.length ∧ (∀ i x, i < m → L[i]? = some x → ¬ (x.k = K ∧ x.c = C ∧ x.a = F)) ∧
    ((m = L.length ∧ atF K C F L = atV 0 0 0 0) ∨ ∃ x, L[m]? = some x ∧ (x.k = K ∧ x.c = C ∧ x.a = F) ∧ atF K C F L = atV x.u x.e x.z 1)
  | [] => ⟨0, Nat.le_refl _, fun i x h => by omega, .inl ⟨rfl, rfl⟩⟩
  | y :: L => by
    cases h : hitB K C F y with
    | true => exact ⟨0, Nat.zero_le _, fun i x h => by omega, .inr ⟨y, rfl, (hitB_iff _ _ _ _).1 h, by
        show Bool.rec (motive := fun _ => Value) _ _ (hitB K C F y) = _
        rw [h]⟩⟩
    | false =>
      have hn : ¬ (y.k = K ∧ y.c = C ∧ y.a = F) := fun e => by rw [(hitB_iff _ _ _ _).2 e] at h; cases h
      obtain ⟨m, h1, h2, h3⟩ := atF_spec K C F L
      have e : atF K C F (y :: L) = atF K C F L := by
        show Bool.rec (motive := fun _ => Value) _ _ (hitB K C F y) = _
        rw [h]; rfl
      refine ⟨m + 1, by simp; omega, fun i x hi hx => ?_, ?_⟩
      · cases i with
        | zero => simp at hx; subst hx; exact hn
        | succ i => exact h2 i x (by omega) (by simpa using hx)
      · rcases h3 with ⟨h3, h4⟩ | ⟨x, h3, h4, h5⟩
        · exact .inl ⟨by simp [h3], e.trans h4⟩
        · exact .inr ⟨x, by simpa using h3, h4, e.trans h5⟩
theorem VR_atV {S : Vals} {β : Nat → Ren} (u e z s : Int) : @VR S β (atV u e z s) (atV u e z s) :=
  .tuple (.cons (.agg (.cons (.atom rfl) (.cons (.atom rfl) .nil))) (.cons (.atom rfl) (.cons (.atom rfl) .nil)))
theorem atE_ok (t : Nat → TypeId) {ty cap : Nat} {L : List LieT} {C : List Value} {n : Nat} (K c F : Int) (hC : C = liesC L) (hn : n = L.length) (hl : n ≤ 4096) : DeepOk Tryz.prog (tabG t) (atE ty cap L C n K c F) := by
  subst hC hn
  refine ⟨?_, by simp [atE, liesC_atoms]⟩
  intro S w hL β hg hf hr hi args' hA cs
  obtain ⟨b, cp, sh, fz, o', z1, z2, z3⟩ := hr 0 _ rfl
  rw [size_G] at z1
  obtain ⟨pre, mid, post, fr, rfl, hp, hrr, _, _⟩ := @ObjR.inv S.s Tryz.prog _ _ _ _ _ _ _ z3
  have hmid : mid = liesC L := @VRs.of_atoms S.s.toVals _ _ _ hrr (liesC_atoms L)
  subst hmid
  have hcell : ∀ i x, L[i]? = some x → w.cell? ⟨b, sh + i * 6, none⟩ = some (.int .i64 x.u) ∧ w.cell? ⟨b, sh + i * 6 + 1, none⟩ = some (.int .u8 x.e) ∧ w.cell? ⟨b, sh + i * 6 + 2, none⟩ = some (.int .u8 x.k) ∧ w.cell? ⟨b, sh + i * 6 + 3, none⟩ = some (.int .i64 x.c) ∧ w.cell? ⟨b, sh + i * 6 + 4, none⟩ = some (.int .i64 x.a) ∧ w.cell? ⟨b, sh + i * 6 + 5, none⟩ = some (.int .i64 x.z) := fun i x hx => by
    have g := liesC_get L i x hx
    have e : ∀ j v, (liesC L)[i * 6 + j]? = some v → w.cell? ⟨b, sh + i * 6 + j, none⟩ = some v := fun j v hv => by
      have hlt := (List.getElem?_eq_some_iff.1 hv).1
      have e1 : w.cell? ⟨b, sh + i * 6 + j, none⟩ = (pre ++ (liesC L ++ post))[sh + i * 6 + j]? := by simp [World.cell?, z2]
      rw [e1, List.getElem?_append_right (by omega), hp, show sh + i * 6 + j - sh = i * 6 + j by omega, List.getElem?_append_left hlt, hv]
    exact ⟨e 0 _ g.1, e 1 _ g.2.1, e 2 _ g.2.2.1, e 3 _ g.2.2.2.1, e 4 _ g.2.2.2.2.1, e 5 _ g.2.2.2.2.2⟩
  -- what comes in
  change @VRs S.s.toVals β [.slice (some ⟨10, 0, none⟩) L.length cap, .agg ⟨[.int .u8 K, .int .i64 c]⟩, .int .i64 F] args' at hA
  cases hA with
  | cons hv1 hA =>
  cases hA with
  | cons hv2 hA =>
  cases hA with
  | cons hv3 hA =>
  cases hA
  rw [@VR.of_atom S.s.toVals _ _ _ hv3 rfl]
  cases hv2 with
  | atom h => simp [Vx.atom] at h
  | agg hl2 =>
  rw [@VRs.of_atoms S.s.toVals _ _ _ hl2 rfl]
  cases hv1 with
  | atom h => simp [Vx.atom] at h
  | slD k _ _ => rw [show (10 : Nat) = 10 + 0 from rfl, z1] at k; cases k
  | sl k _ _ =>
  rw [show (10 : Nat) = 10 + 0 from rfl, z1] at k
  cases k
  rw [Nat.zero_add]
  obtain ⟨m, hm, hno, hres⟩ := atF_spec K c F L
  have hgd : ∀ i, i < L.length → L[i]? = some (L.getD i ⟨0, 0, 0, 0, 0, 0⟩) := fun i hi => by rw [List.getD_eq_getElem?_getD, List.getElem?_eq_getElem hi]; rfl
  have key : ∃ U E Z T, atF K c F L = atV U E Z T ∧ Calls Tryz.prog 37 #[.slice (some ⟨b, sh, none⟩) L.length (capR cp cap), .agg #[.int .u8 K, .int .i64 c], .int .i64 F] w fun r w' => r = .returned (atV U E Z T) ∧ Below w.heap.size w w' := by
    rcases hres with ⟨h1, h2⟩ | ⟨x, h1, h2, h3⟩
    · exact ⟨_, _, _, _, h2, at_any (fun i => (L.getD i ⟨0, 0, 0, 0, 0, 0⟩).u) (fun i => (L.getD i ⟨0, 0, 0, 0, 0, 0⟩).e) (fun i => (L.getD i ⟨0, 0, 0, 0, 0, 0⟩).k) (fun i => (L.getD i ⟨0, 0, 0, 0, 0, 0⟩).c) (fun i => (L.getD i ⟨0, 0, 0, 0, 0, 0⟩).a) (fun i => (L.getD i ⟨0, 0, 0, 0, 0, 0⟩).z) (some ⟨b, sh, none⟩) b sh L.length (capR cp cap) K c F 0 0 0 0 w (by omega) (fun _ => rfl) (fun i hi => hcell i _ (hgd i hi)) m hm (fun i hi => hno i _ hi (hgd i (by omega))) (.inl ⟨h1, rfl, rfl, rfl, rfl⟩)⟩
    · have hlt := (List.getElem?_eq_some_iff.1 h1).1
      have hx : L.getD m ⟨0, 0, 0, 0, 0, 0⟩ = x := by rw [List.getD_eq_getElem?_getD, h1]; rfl
      exact ⟨_, _, _, _, h3, at_any (fun i => (L.getD i ⟨0, 0, 0, 0, 0, 0⟩).u) (fun i => (L.getD i ⟨0, 0, 0, 0, 0, 0⟩).e) (fun i => (L.getD i ⟨0, 0, 0, 0, 0, 0⟩).k) (fun i => (L.getD i ⟨0, 0, 0, 0, 0, 0⟩).c) (fun i => (L.getD i ⟨0, 0, 0, 0, 0, 0⟩).a) (fun i => (L.getD i ⟨0, 0, 0, 0, 0, 0⟩).z) (some ⟨b, sh, none⟩) b sh L.length (capR cp cap) K c F x.u x.e x.z 1 w (by omega) (fun _ => rfl) (fun i hi => hcell i _ (hgd i hi)) m hm (fun i hi => hno i _ hi (hgd i (by omega))) (.inr ⟨hlt, by rw [hx]; exact h2.1, by rw [hx]; exact h2.2.1, by rw [hx]; exact h2.2.2, by rw [hx], by rw [hx], by rw [hx], rfl⟩)⟩
  obtain ⟨U, E, Z, T, hval, hcall⟩ := key
  obtain ⟨r, w', fr', ⟨rfl, hb⟩, s1, s2, s3⟩ := hcall cs
  refine ⟨w', fr', _, β, s1, s2, s3, hb, fun _ _ => rfl, fun y hy => hf y hy, fun i r h => by simp [atE] at h, fun i j _ _ _ _ _ h => by simp [atE] at h, fun S' => ?_⟩
  show @VR S'.s.toVals β (atF K c F L) _
  rw [hval]
  exact VR_atV _ _ _ _
/-- All at once. -/
theorem atL_ok (t : Nat → TypeId) {ty cap : Nat} {L : List LieT} {C : List Value} {n : Nat} (hC : C = liesC L) (hn : n = L.length) (hl : n ≤ 4096) (q : List (Int × Int × Int)) : DeepsOk Tryz.prog (tabG t) (q.map fun x => atE ty cap L C n x.1 x.2.1 x.2.2) := fun e he => by
  obtain ⟨x, _, rfl⟩ := List.mem_map.1 he
  exact atE_ok t _ _ _ hC hn hl

end Go.Proofs.YtkmmnlhmfiabfaaGreatDoor
