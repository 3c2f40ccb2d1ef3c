/-
  Says: What an operation does: slices, maps, texts; all of them. What an operation does, all of them but calls.
-/
import Derived.Test.YtdnekeegpenioaaDoorVx4
set_option linter.unusedVariables false
set_option linter.unusedSimpArgs false
set_option linter.unusedSectionVars false
/-! What an operation does: slices, maps, texts; all of them. -/
namespace Go.Vx
variable [Syms]
open Go.RowKit

section
variable {P : Program} {B : Base} {β : Nat → Ren} {V : VW} {w : World}

/-! ### Slices -/
theorem run_bound {k : IntKind} {n y : Nat} (h : n ≤ y) (code : BoundsCode) : (Instr.sliceBound (.int k (n : Int)) y code).run P w = .ok n w := by
  have h1 : (n : Int) ≤ (y : Int) := by omega
  simp [Instr.sliceBound, asIntOf, h]

/-- An end of a slice: none, or a number. -/
inductive BR : Nat → Option Value → Nat → Prop where
  | none {d : Nat} : BR d none d
  | some {d n : Nat} {k : IntKind} : BR d (some (.int k (n : Int))) n

theorem loN_real {d n : Nat} {o : Option Operand} {e ρ : Rho} (h : loN d (o.map e) = some n) (hv : ∀ x, o = some x → VR β (e x) (ρ x)) : BR d (o.map ρ) n := by
  cases o with
  | none => cases h; exact .none
  | some x =>
    obtain ⟨k, hk⟩ := intN_real (h : intN (e x) = some n) (hv x rfl)
    show BR d (some (ρ x)) n
    rw [hk]; exact .some

theorem run_bounds2 {s : Bool} {len cap l h : Nat} {lo hi : Option Value} (hl : BR 0 lo l) (hh : BR len hi h) (h1 : l ≤ h) (h2 : h ≤ cap) :
    (Instr.sliceBounds s len cap lo hi none).run P w = .ok (l, h, cap) w := by
  cases hl <;> cases hh <;> simp [Instr.sliceBounds, run_bound h1, run_bound h2]

theorem run_bounds3 {s : Bool} {len cap l h m : Nat} {lo : Option Value} {k k' : IntKind} (hl : BR 0 lo l) (h1 : l ≤ h) (h2 : h ≤ m) (h3 : m ≤ cap) :
    (Instr.sliceBounds s len cap lo (some (.int k (h : Int))) (some (.int k' (m : Int)))).run P w = .ok (l, h, m) w := by
  cases hl <;> simp [Instr.sliceBounds, run_bound h1, run_bound h2, run_bound h3]

theorem run_sliceAt {t e : TypeId} {a : Option Addr} {len cap l h m sz : Nat} {lo hi mx : Option Value} (hu : P.underlying t = some (.slice e)) (hs : sizeA P e = some sz)
    (hb : (Instr.sliceBounds true len cap lo hi mx).run P w = .ok (l, h, m) w) :
    (Instr.sliceAt t (.slice a len cap) lo hi mx).run P w = .ok (.slice (if m = l then a else a.map (·.add (l * sz))) (h - l) (m - l)) w := by
  simp only [Instr.sliceAt, Sem.run_bind, run_underlying hu, Result.andThen_ok, Instr.slice, hb, run_sizeA hs, Sem.run_pure]

theorem half_eq : half = 4611686018427387904 := rfl
theorem BIG_eq : BIG = 9223372036854775808 := rfl

/-- A slice of a slice whose rest has a known end. -/
theorem sl_part {b off len cap l h m sz : Nat} {v' : Value} (hv : VR β (.slice (some ⟨b, off, none⟩) len cap) v') (hlh : l ≤ h) (hhm : h ≤ m) (hm : m ≤ len ∨ m ≤ cap ∧ cap < half) (hlen : m < half) :
    ∃ a c', v' = .slice (some a) len c' ∧ m ≤ c' ∧ VR β (.slice (some ⟨b, if m = l then off else off + l * sz, none⟩) (h - l) (m - l)) (.slice (if m = l then some a else (some a).map (·.add (l * sz))) (h - l) (m - l)) := by
  have hml : m - l < half := by omega
  cases hv with
  | atom h => simp [Vx.atom] at h
  | @sl i rb cp sh o n c e hn hc =>
    refine ⟨_, _, rfl, ?_, ?_⟩
    · rcases hm with hm | ⟨hm, hc'⟩
      · omega
      · rw [show capR cp cap = cap from if_pos hc']; exact hm
    · have hcap : capR cp (m - l) = m - l := if_pos hml
      by_cases hl : m = l
      · rw [if_pos hl, if_pos hl]
        have := VR.sl (β := β) (o := off) (n := h - l) (c := m - l) e (by rw [hcap]; omega) (fun hh => by omega)
        rw [hcap] at this; exact this
      · rw [if_neg hl, if_neg hl]
        show VR β _ (.slice (some ((⟨rb, off + sh, none⟩ : Addr).add (l * sz))) _ _)
        rw [addr_add, show off + sh + l * sz = off + l * sz + sh from by omega]
        have := VR.sl (β := β) (o := off + l * sz) (n := h - l) (c := m - l) e (by rw [hcap]; omega) (fun hh => by omega)
        rw [hcap] at this; exact this
  | slD e hn hc =>
    refine ⟨_, _, rfl, ?_, ?_⟩
    · rcases hm with hm | ⟨hm, hc'⟩
      · omega
      · rw [hc hc']; exact hm
    · by_cases hl : m = l
      · rw [if_pos hl, if_pos hl]; exact .slD e (by omega) (fun _ => rfl)
      · rw [if_neg hl, if_neg hl]; exact .slD e (by omega) (fun _ => rfl)

theorem slice_ok (h : WR P B β V w) {t : TypeId} {x : Operand} {lo hi mx : Option Operand} {e ρ : Rho} (hx : VR β (e x) (ρ x)) (hlo : ∀ y, lo = some y → VR β (e y) (ρ y)) (hhi : ∀ y, hi = some y → VR β (e y) (ρ y))
    (hmx : ∀ y, mx = some y → VR β (e y) (ρ y)) {v : Value} {V' : VW} (hp : sliceGo P t V (e x) (lo.map e) (hi.map e) (mx.map e) = .val v V') :
    ∃ v', (Instr.sliceAt t (ρ x) (lo.map ρ) (hi.map ρ) (mx.map ρ)).run P w = .ok v' w ∧ VR β v v' ∧ V' = V := by
  unfold sliceGo at hp
  split at hp
  · rename_i el sz a len cap hes hex
    obtain ⟨hu, hsz⟩ := elemS_spec hes
    rw [hex] at hx
    obtain ⟨y, hy⟩ : ∃ y, ρ x = y := ⟨_, rfl⟩
    rw [hy] at hx ⊢
    split at hp
    · rename_i l hh hlo' hhi'
      have bl := loN_real hlo' hlo
      have bh := loN_real hhi' hhi
      split at hp
      · cases hp
      · rename_i hlh
        have hlh : l ≤ hh := by simp at hlh; exact hlh
        split at hp
        · rename_i hmn
          have hmx0 : mx = none := by cases mx <;> simp_all
          subst hmx0
          split at hp
          · rename_i hcap
            have hcap := blt_lt hcap
            split at hp
            · rename_i hhc
              have hhc := Nat.le_of_ble_eq_true hhc
              split at hp
              · rename_i b off
                cases hp
                obtain ⟨a', c', hv', hmc, hr⟩ := sl_part (sz := sz) hx hlh hhc (.inr ⟨Nat.le_refl _, hcap⟩) hcap
                have hc' : c' = cap := by
                  cases hx with
                  | atom h => simp [Vx.atom] at h
                  | sl e hn hc => cases hv'; exact if_pos hcap
                  | slD e hn hc => cases hv'; exact hc hcap
                subst hc'
                refine ⟨_, by rw [hv']; exact run_sliceAt hu hsz (run_bounds2 bl bh hlh hhc), ?_, rfl⟩
                simpa using hr
              · rename_i heq
                cases hp
                have hv' : y = .slice none len cap := hx.of_atom rfl
                refine ⟨_, by rw [hv']; exact run_sliceAt hu hsz (run_bounds2 bl bh hlh hhc), ?_, rfl⟩
                by_cases hml : cap = l
                · rw [if_pos hml]; exact .atom rfl
                · rw [if_neg hml]; exact .atom rfl
              · cases hp
            · cases hp
          · rename_i hcap
            have hcap : half ≤ cap := by
              rcases Nat.lt_or_ge cap half with hc | hc
              · rw [blt_tt hc] at hcap; exact absurd rfl hcap
              · exact hc
            split at hp
            · cases hp
            · rename_i hhl
              have hhl : hh ≤ len := by simp at hhl; exact hhl
              split at hp
              · rename_i b off
                split at hp
                · rename_i hl0
                  have hl0 : l = 0 := by simpa using hl0
                  subst hl0
                  cases hp
                  cases hx with
                  | atom h => simp [Vx.atom] at h
                  | @sl i rb cp sh o n c e hn hc =>
                    refine ⟨_, run_sliceAt hu hsz (run_bounds2 bl bh hlh (by omega)), ?_, rfl⟩
                    have hadd : (if capR cp cap = 0 then (some (⟨rb, off + sh, none⟩ : Addr)) else (some (⟨rb, off + sh, none⟩ : Addr)).map (·.add (0 * sz))) = some ⟨rb, off + sh, none⟩ := by
                      split
                      · rfl
                      · simp [addr_add]
                    rw [hadd]
                    exact .sl e (by omega) hc
                  | @slD i o n c c' a' e hn hc =>
                    refine ⟨_, run_sliceAt hu hsz (run_bounds2 bl bh hlh (by omega)), ?_, rfl⟩
                    split
                    · exact .slD e (by omega) (fun hh => by omega)
                    · exact .slD e (by omega) (fun hh => by omega)
                · split at hp
                  · rename_i hl0 hcond
                    simp only [Bool.and_eq_true] at hcond
                    have hll := blt_lt hcond.1
                    have hlc := Nat.le_of_ble_eq_true hcond.2
                    cases hp
                    cases hx with
                    | atom h => simp [Vx.atom] at h
                    | @sl i rb cp sh o n c e hn hc =>
                      refine ⟨_, run_sliceAt hu hsz (run_bounds2 bl bh hlh (by omega)), ?_, rfl⟩
                      obtain ⟨hc1, hc2⟩ := hc hcap
                      have hcr : capR cp cap = cp - (BIG - cap) := if_neg (by omega)
                      have hne : ¬ capR cp cap = l := by omega
                      rw [if_neg hne]
                      show VR β _ (.slice (some ((⟨rb, off + sh, none⟩ : Addr).add (l * sz))) _ _)
                      rw [addr_add, show off + sh + l * sz = off + l * sz + sh from by omega]
                      have hcr2 : capR cp (cap - l) = capR cp cap - l := by
                        rw [hcr]; unfold capR; rw [if_neg (by omega)]; omega
                      rw [← hcr2]
                      exact .sl e (by rw [hcr2]; omega) (fun _ => ⟨by omega, by omega⟩)
                    | @slD i o n c c' a' e hn hc =>
                      refine ⟨_, run_sliceAt hu hsz (run_bounds2 bl bh hlh (by omega)), ?_, rfl⟩
                      split
                      · exact .slD e (by omega) (fun hh => by omega)
                      · exact .slD e (by omega) (fun hh => by omega)
                  · cases hp
              · cases hp
        · rename_i mv hmv
          obtain ⟨my, hmy, hmye⟩ : ∃ my, mx = some my ∧ e my = mv := by
            cases mx with
            | none => cases hmv
            | some my => cases hmv; exact ⟨my, rfl, rfl⟩
          subst hmy; subst hmye
          split at hp
          · rename_i m b off hm
            obtain ⟨km, hkm⟩ := intN_real hm (hmx my rfl)
            split at hp
            · rename_i hcond
              simp only [Bool.and_eq_true, Bool.or_eq_true] at hcond
              obtain ⟨⟨⟨hsome, hhm⟩, hmh⟩, hmm⟩ := hcond
              have hhm := Nat.le_of_ble_eq_true hhm
              have hmh := blt_lt hmh
              cases hi with
              | none => cases hsome
              | some hy' =>
                obtain ⟨kh, hkh⟩ := intN_real (hhi' : intN (e hy') = some hh) (hhi hy' rfl)
                cases hp
                have hm' : m ≤ len ∨ m ≤ cap ∧ cap < half := by
                  rcases hmm with hmm | ⟨h1, h2⟩
                  · exact .inl (Nat.le_of_ble_eq_true hmm)
                  · exact .inr ⟨Nat.le_of_ble_eq_true h1, blt_lt h2⟩
                obtain ⟨a', c', hv', hmc, hr⟩ := sl_part (sz := sz) hx hlh hhm hm' hmh
                refine ⟨.slice (if m = l then some a' else (some a').map (·.add (l * sz))) (hh - l) (m - l), ?_, ?_, rfl⟩
                · rw [hv', Option.map_some, Option.map_some, hkh, hkm]
                  exact run_sliceAt hu hsz (run_bounds3 bl hlh hhm hmc)
                · simpa using hr
            · cases hp
          · rename_i m hm
            obtain ⟨km, hkm⟩ := intN_real hm (hmx my rfl)
            split at hp
            · rename_i hcond
              simp only [Bool.and_eq_true] at hcond
              obtain ⟨⟨⟨hsome, hhm⟩, hmm⟩, hcap⟩ := hcond
              have hhm := Nat.le_of_ble_eq_true hhm
              have hmm := Nat.le_of_ble_eq_true hmm
              cases hi with
              | none => cases hsome
              | some hy' =>
                obtain ⟨kh, hkh⟩ := intN_real (hhi' : intN (e hy') = some hh) (hhi hy' rfl)
                cases hp
                have hv' : y = .slice none len cap := hx.of_atom rfl
                refine ⟨.slice (if m = l then none else (none : Option Addr).map (·.add (l * sz))) (hh - l) (m - l), ?_, ?_, rfl⟩
                · rw [hv', Option.map_some, Option.map_some, hkh, hkm]
                  exact run_sliceAt hu hsz (run_bounds3 bl hlh hhm hmm)
                · by_cases hml : m = l
                  · rw [if_pos hml]; exact .atom rfl
                  · rw [if_neg hml]; exact .atom rfl
            · cases hp
          · cases hp
    · cases hp
  · cases hp

theorem sliceA_ok {t : TypeId} {x : Operand} {lo hi : Option Operand} {e ρ : Rho} (hx : VR β (e x) (ρ x)) (hlo : ∀ y, lo = some y → VR β (e y) (ρ y)) (hhi : ∀ y, hi = some y → VR β (e y) (ρ y))
    {v : Value} (hp : sliceAGo P t (e x) (lo.map e) (hi.map e) = some v) :
    ∃ v', (Instr.sliceAt t (ρ x) (lo.map ρ) (hi.map ρ) none).run P w = .ok v' w ∧ VR β v v' := by
  unfold sliceAGo at hp
  split at hp
  · rename_i n sz b off hns hex
    obtain ⟨el, hu, hsz⟩ := arrP_spec hns
    rw [hex] at hx
    obtain ⟨y, hy⟩ : ∃ y, ρ x = y := ⟨_, rfl⟩
    rw [hy] at hx ⊢
    split at hp
    · rename_i l hh hlo' hhi'
      have bl := loN_real hlo' hlo
      have bh := loN_real hhi' hhi
      split at hp
      · rename_i hcond
        simp only [Bool.and_eq_true] at hcond
        obtain ⟨⟨h1, h2⟩, h3⟩ := hcond
        have h1 := Nat.le_of_ble_eq_true h1
        have h2 := Nat.le_of_ble_eq_true h2
        have h3 := blt_lt h3
        have hcap : ∀ c, c ≤ n → ∀ cp, capR cp c = c := fun c hc cp => if_pos (by omega)
        have hrun : ∀ a, (Instr.sliceAt t (.pointer (some a)) (lo.map ρ) (hi.map ρ) none).run P w = .ok (.slice (some (if n = l then a else a.add (l * sz))) (hh - l) (n - l)) w := by
          intro a
          simp only [Instr.sliceAt, Sem.run_bind, run_underlying hu, Result.andThen_ok, Instr.sureAddr, Sem.run_pure, run_bounds2 bl bh h1 h2, run_sizeA hsz]
        cases hx with
        | atom h => simp [Vx.atom] at h
        | @ptr i rb cp sh o e =>
          refine ⟨_, hrun _, ?_⟩
          split at hp
          · rename_i hnl
            have hnl : n = l := by simpa using hnl
            cases hp
            rw [if_pos hnl]
            have := VR.sl (β := β) (o := off) (n := hh - l) (c := 0) e (by rw [hcap 0 (by omega)]; omega) (fun hx => by have := half_eq; omega)
            rw [hcap 0 (by omega)] at this
            rw [show n - l = 0 by omega]
            exact this
          · rename_i hnl
            have hnl : ¬ n = l := by simpa using hnl
            cases hp
            rw [if_neg hnl, addr_add, show off + sh + l * sz = off + l * sz + sh from by omega]
            have := VR.sl (β := β) (o := off + l * sz) (n := hh - l) (c := n - l) e (by rw [hcap (n - l) (by omega)]; omega) (fun hx => by omega)
            rw [hcap (n - l) (by omega)] at this
            exact this
        | ptrD e =>
          refine ⟨_, hrun _, ?_⟩
          split at hp
          · rename_i hnl
            have hnl : n = l := by simpa using hnl
            cases hp
            rw [if_pos hnl, show n - l = 0 by omega]
            exact .slD e (by omega) (fun _ => rfl)
          · rename_i hnl
            have hnl : ¬ n = l := by simpa using hnl
            cases hp
            rw [if_neg hnl]
            exact .slD e (by omega) (fun _ => rfl)
      · cases hp
    · cases hp
  · cases hp

/-! ### Maps -/
theorem mapOf_spec {t : TypeId} {x : TypeId × TypeId} (h : mapOf P t = some x) : P.underlying t = some (.map x.1 x.2) := by
  unfold mapOf at h
  split at h
  · rename_i hu; cases h; exact hu
  · cases h
theorem sameNow_run {kt : TypeId} {d : TypeDesc} (hu : P.underlying kt = some d) {k k' : Value} {b : Bool} (h : Instr.sameNow d k k' = some b) : (Op.equal kt k k').run P w = .ok b w := by
  obtain ⟨n, hE⟩ := equal_succ
  rw [hE]
  unfold Instr.sameNow at h
  split at h
  · split at h
    · rename_i hk
      subst hk; cases h
      unfold Op.equalIn; rw [Sem.run_bind, run_underlying hu]; simp
    · cases h
  all_goals first | (cases h; done) | (cases h; unfold Op.equalIn; rw [Sem.run_bind, run_underlying hu]; rfl)
theorem findNow_run {kt : TypeId} {d : TypeDesc} (hu : P.underlying kt = some d) (k : Value) : ∀ (es : List MapEntry) (i : Nat) {r : Option (Nat × Value)}, Instr.findNow d k es i = some r → (Instr.findAsking kt k es i).run P w = .ok r w
  | [], i, r, h => by cases h; rfl
  | e :: es, i, r, h => by
    unfold Instr.findNow at h
    unfold Instr.findAsking
    rw [Sem.run_bind]
    split at h
    · rename_i hs; cases h; rw [sameNow_run hu hs]; rfl
    · rename_i hs; rw [sameNow_run hu hs]; exact findNow_run hu k es (i + 1) h
    · cases h
theorem findKey_run {kt : TypeId} {d : TypeDesc} (hu : P.underlying kt = some d) {k : Value} {es : List MapEntry} {r : Option (Nat × Value)} (h : (Instr.findAsking kt k es 0).run P w = .ok r w) :
    (Instr.findKey kt k es).run P w = .ok r w := by
  unfold Instr.findKey
  rw [Sem.run_bind, run_underlying hu, Result.andThen_ok]
  split
  · rename_i r' hr
    have := findNow_run (P := P) (w := w) hu k es 0 hr
    rw [h] at this; cases this; rfl
  · exact h
theorem keyEq_run {kt : TypeId} {k k' : Value} {b : Bool} (h : keyEq P kt k k' = some b) : (Op.equal kt k k').run P w = .ok b w := by
  unfold keyEq at h
  split at h
  · rename_i c hc
    cases h
    unfold eqKey at hc
    split at hc
    · rename_i n hn
      exact (eqStr_run hn (fun _ _ _ h => h) hc).1
    · cases hc
  · exact dr_run h w
theorem keyAt_ok {kt : TypeId} {k : Value} : ∀ {es es' : List MapEntry} {i : Nat} {r : Option (Nat × Value)}, EsR β es es' → keyAt P kt k es i = some r →
    ∃ r', (Instr.findAsking kt k es' i).run P w = .ok r' w ∧ (match r with
      | none => r' = none
      | some (j, v) => ∃ v', r' = some (j, v') ∧ VR β v v')
  | _, _, i, r, .nil, h => by cases h; exact ⟨none, rfl, rfl⟩
  | _, _, i, r, .cons hk hv t, h => by
    unfold keyAt at h
    unfold Instr.findAsking
    rw [Sem.run_bind]
    split at h
    · rename_i hd; cases h
      rw [keyEq_run hd]
      exact ⟨_, rfl, _, rfl, hv⟩
    · rename_i hd
      rw [keyEq_run hd]
      exact keyAt_ok t h
    · cases h
theorem keyAt_lt {kt : TypeId} {k : Value} : ∀ {es : List MapEntry} {i j : Nat} {v : Value}, keyAt P kt k es i = some (some (j, v)) → ∃ d, j = i + d ∧ ∀ old, es[d]? = some old → old.val = v
  | [], i, j, v, h => by cases h
  | x :: es, i, j, v, h => by
    unfold keyAt at h
    split at h
    · cases h
      exact ⟨0, rfl, fun old ho => by simp at ho; rw [← ho]⟩
    · obtain ⟨d, h1, h2⟩ := keyAt_lt h
      exact ⟨d + 1, by omega, fun old ho => h2 old (by simpa using ho)⟩
    · cases h
theorem keyAt_val {kt : TypeId} {k : Value} {es : List MapEntry} {i : Nat} {v : Value} (h : keyAt P kt k es 0 = some (some (i, v))) {old : MapEntry} (ho : es[i]? = some old) : old.val = v := by
  obtain ⟨d, h1, h2⟩ := keyAt_lt h
  have : i = d := by omega
  subst this
  exact h2 old ho
theorem EsR.length : ∀ {es es' : List MapEntry}, EsR β es es' → es'.length = es.length
  | _, _, .nil => rfl
  | _, _, .cons _ _ t => by simp [EsR.length t]
theorem EsR.push : ∀ {es es' : List MapEntry}, EsR β es es' → ∀ {k v v' : Value} {n : Nat}, flat k = true → VR β v v' → EsR β (es ++ [⟨k, v, n⟩]) (es' ++ [⟨k, v', n⟩])
  | _, _, .nil, _, _, _, _, hk, hv => .cons hk hv .nil
  | _, _, .cons hk' hv' t, _, _, _, _, hk, hv => .cons hk' hv' (EsR.push t hk hv)
theorem EsR.set : ∀ {es es' : List MapEntry}, EsR β es es' → ∀ {i : Nat} {old : MapEntry} {k v v' : Value}, es[i]? = some old → flat k = true → VR β v v' →
    EsR β (es.set i { old with key := k, val := v }) (es'.modify i fun e => { e with key := k, val := v' }) ∧ (es'[i]?).map (·.key) = some old.key
  | _, _, .nil, i, _, _, _, _, h, _, _ => by simp at h
  | _, _, .cons hk' hv' t, 0, old, k, v, v', h, hk, hv => by
    simp at h; subst h
    refine ⟨?_, by simp⟩
    simp only [List.set_cons_zero, List.modify_zero_cons]
    exact .cons hk hv t
  | _, _, .cons hk' hv' t, i + 1, old, k, v, v', h, hk, hv => by
    simp at h
    obtain ⟨h1, h2⟩ := EsR.set t h hk hv
    refine ⟨?_, by simpa using h2⟩
    simp only [List.set_cons_succ, List.modify_succ_cons]
    exact .cons hk' hv' h1
theorem ObjR.mapInv {cp sh : Nat} {es : List MapEntry} {clock : Nat} {o' : Obj} (h : ObjR P β cp sh (.map es clock) o') : ∃ es', o' = .map ⟨es'⟩ clock ∧ EsR β es es' := by
  cases h with
  | map h => exact ⟨_, rfl, h⟩
theorem run_getObj {r : Nat} {o : Obj} (h : w.heap[r]? = some o) (hc : ∀ c e f, o ≠ .cells c e f) : (getObj r).run P w = .ok o w := by
  simp only [getObj, Sem.run, h]
  try (cases o <;> first | rfl | exact absurd rfl (hc _ _ _))
theorem run_setObj {r : Nat} {o : Obj} (o2 : Obj) (h : w.heap[r]? = some o) (hc : ∀ c e f, o ≠ .cells c e f) : (setObj r o2).run P w = .ok () (w.putObj r o2) := by
  simp only [setObj, Sem.run, h]
  cases o <;> first | rfl | exact absurd rfl (hc _ _ _)

theorem lookup_ok (h : WR P B β V w) {t : TypeId} {m k : Operand} {ok : Bool} {e ρ : Rho} (hm : VR β (e m) (ρ m)) (hk : VR β (e k) (ρ k)) {v : Value} {V' : VW} (hp : lookupO t m k ok P e V = .val v V') :
    ∃ v', (Instr.lookup t (ρ m) (ρ k) ok).run P w = .ok v' w ∧ VR β v v' ∧ V' = V := by
  unfold lookupO at hp
  split at hp
  · rename_i kt et r hmo hem
    have hu := mapOf_spec hmo
    rw [hem] at hm
    split at hp
    · cases hp
    · rename_i hfl
      have hfl : flat (e k) = true := by simpa using hfl
      have hk' := hk.of_flat hfl
      split at hp
      · rename_i es z u1 u2 hes hz hc1 hc2
        obtain ⟨i, hi, hzv, hzf⟩ := zeroV_spec hz
        have hdk : ∃ d, P.underlying kt = some d := by
          cases hd : P.underlying kt with
          | some d => exact ⟨d, rfl⟩
          | none =>
            exfalso
            have hru := dr_run hc1 w
            have : (10000 : Nat) = 9999 + 1 := rfl
            rw [this] at hru
            unfold Instr.checkKey at hru
            simp [underlying, hd] at hru
        obtain ⟨d, hd⟩ := hdk
        have hent : ∃ es', EsR β es es' ∧ ((ρ m = .map none ∧ es' = []) ∨ ∃ rb clock, ρ m = .map (some rb) ∧ w.heap[rb]? = some (.map ⟨es'⟩ clock)) := by
          unfold entriesOf at hes
          split at hes
          · cases hes
            exact ⟨[], .nil, .inl ⟨hm.of_atom rfl, rfl⟩⟩
          · rename_i b
            split at hes
            · rename_i es0 c0 hg
              cases hes
              obtain ⟨rb, cp, sh, o', hv', _, hb, ho⟩ := h.mp hm hg nofun
              obtain ⟨es', rfl, hE⟩ := ho.mapInv
              exact ⟨es', hE, .inr ⟨rb, _, hv', hb⟩⟩
            · cases hes
        obtain ⟨es', hE, hrun⟩ := hent
        have key : ∀ r, keyAt P kt (e k) es 0 = some r → ∃ r', (Instr.findKey kt (e k) es').run P w = .ok r' w ∧ (match r with
            | none => r' = none
            | some (j, v) => ∃ v', r' = some (j, v') ∧ VR β v v') := fun r hr =>
          let ⟨r', h1, h2⟩ := keyAt_ok (w := w) hE hr
          ⟨r', findKey_run hd h1, h2⟩
        have hck : ∀ b, (Instr.checkKey b 10000 kt (e k)).run P w = .ok () w := fun b => by
          cases b
          · exact dr_run hc1 w
          · exact dr_run hc2 w
        have hgo : ∀ r', (Instr.findKey kt (e k) es').run P w = .ok r' w → (Instr.lookup t (ρ m) (ρ k) ok).run P w =
            .ok (match r' with | some (_, v) => (if ok then .tuple #[v, .bool true] else v) | none => (if ok then .tuple #[z, .bool false] else z)) w := by
          intro r' hr'
          rw [hk']
          rcases hrun with ⟨hv', rfl⟩ | ⟨rb, clock, hv', hb⟩
          · rw [hv']
            cases r' with
            | none => simp [Instr.lookup, run_underlying hu, hck, hr', run_zero hi hzv]
            | some p => obtain ⟨j, v⟩ := p; simp [Instr.lookup, run_underlying hu, hck, hr']
          · rw [hv']
            cases r' with
            | none => simp [Instr.lookup, run_underlying hu, run_getObj (P := P) hb nofun, hck, hr', run_zero hi hzv]
            | some p => obtain ⟨j, v⟩ := p; simp [Instr.lookup, run_underlying hu, run_getObj (P := P) hb nofun, hck, hr']
        split at hp
        · rename_i v0 j hka
          cases hp
          obtain ⟨r', h1, v', rfl, h2⟩ := key _ hka
          refine ⟨_, hgo _ h1, ?_, rfl⟩
          cases ok
          · exact h2
          · exact .tuple (.cons h2 (.cons (.atom rfl) .nil))
        · rename_i hka
          cases hp
          obtain ⟨r', h1, rfl⟩ := key _ hka
          refine ⟨_, hgo _ h1, ?_, rfl⟩
          cases ok
          · exact VR.flat1 hzf
          · exact .tuple (.cons (VR.flat1 hzf) (.cons (.atom rfl) .nil))
        · cases hp
      · cases hp
  · cases hp

theorem update_ok (h : WR P B β V w) {t : TypeId} {m k x : Operand} {e ρ : Rho} (hm : VR β (e m) (ρ m)) (hk : VR β (e k) (ρ k)) (hx : VR β (e x) (ρ x)) {v : Value} {V' : VW} (hp : updateO t m k x P e V = .val v V') :
    ∃ w', (Instr.mapUpdate t (ρ m) (ρ k) (ρ x)).run P w = .ok () w' ∧ WR P B β V' w' ∧ v = undef := by
  unfold updateO at hp
  split at hp
  · rename_i kt et b hmo hem
    have hu := mapOf_spec hmo
    rw [hem] at hm
    split at hp
    · cases hp
    · rename_i hfl
      have hfl : flat (e k) = true := by simpa using hfl
      have hk' := hk.of_flat hfl
      split at hp
      · rename_i es clock u1 hg hc1
        obtain ⟨rb, cp, sh, o', hv', hbe, hb, ho⟩ := h.mp hm hg nofun
        obtain ⟨es', rfl, hE⟩ := ho.mapInv
        have hdk : ∃ d, P.underlying kt = some d := by
          cases hd : P.underlying kt with
          | some d => exact ⟨d, rfl⟩
          | none =>
            exfalso
            have hru := dr_run hc1 w
            have : (10000 : Nat) = 9999 + 1 := rfl
            rw [this] at hru
            unfold Instr.checkKey at hru
            simp [underlying, hd] at hru
        obtain ⟨d, hd⟩ := hdk
        split at hp
        · cases hp
        · rename_i hfl2
          have hfl2 : V.floor ≤ b := by simpa using hfl2
          have hstart : ∀ r', (Instr.findKey kt (e k) es').run P w = .ok r' w → (Instr.mapUpdate t (ρ m) (ρ k) (ρ x)).run P w = (match r' with
              | some (i, _) => do
                let key ← Instr.keyThatStays (((((⟨es'⟩ : Array MapEntry)[i]?).map (·.key))).getD (e k)) (e k)
                setObj rb (.map ((⟨es'⟩ : Array MapEntry).modify i fun e => { e with key, val := ρ x }) clock)
              | none => setObj rb (.map ((⟨es'⟩ : Array MapEntry).push { key := e k, val := ρ x, born := clock }) (clock + 1)) : Sem Unit).run P w := by
            intro r' hr'
            rw [hv', hk']
            simp only [Instr.mapUpdate, Sem.run_bind, run_underlying hu, Result.andThen_ok, run_getObj (P := P) hb nofun, dr_run hc1 w, hr']
            cases r' with
            | none => rfl
            | some p => obtain ⟨i, v⟩ := p; simp
          split at hp
          · rename_i i v0 hka
            split at hp
            · rename_i old hold
              split at hp
              · rename_i hsame
                cases hp
                obtain ⟨r', h1, v', rfl, h2⟩ := keyAt_ok (w := w) hE hka
                obtain ⟨h3, h4⟩ := hE.set hold hfl hx
                refine ⟨w.putObj rb (.map ⟨es'.modify i fun e' => { e' with key := e k, val := ρ x }⟩ clock), ?_, h.put hbe hfl2 (.map h3), rfl⟩
                rw [hstart _ (findKey_run hd h1)]
                dsimp only
                have hkey : (((⟨es'⟩ : Array MapEntry)[i]?).map (·.key)).getD (e k) = old.key := by rw [arr_get', h4]; rfl
                rw [hkey]
                simp only [Sem.run_bind, Instr.keyThatStays, hsame, if_true, Sem.run_pure, Result.andThen_ok]
                have hmod : ((⟨es'⟩ : Array MapEntry).modify i fun e' => { e' with key := e k, val := ρ x }) = ⟨es'.modify i fun e' => { e' with key := e k, val := ρ x }⟩ := by
                  apply Array.ext'; simp
                rw [hmod]
                exact run_setObj _ hb nofun
              · cases hp
            · cases hp
          · rename_i hka
            cases hp
            obtain ⟨r', h1, rfl⟩ := keyAt_ok (w := w) hE hka
            refine ⟨w.putObj rb (.map ⟨es' ++ [{ key := e k, val := ρ x, born := clock }]⟩ (clock + 1)), ?_, h.put hbe hfl2 (.map (hE.push hfl hx)), rfl⟩
            rw [hstart _ (findKey_run hd h1)]
            have hpush : (⟨es'⟩ : Array MapEntry).push { key := e k, val := ρ x, born := clock } = ⟨es' ++ [{ key := e k, val := ρ x, born := clock }]⟩ := by
              apply Array.ext'; simp
            simp only [hpush]
            exact run_setObj _ hb nofun
          · cases hp
      · cases hp
  · cases hp

theorem EsR.val : ∀ {es es' : List MapEntry}, EsR β es es' → ∀ {i : Nat} {old : MapEntry} {v v' : Value}, es[i]? = some old → VR β v v' →
    EsR β (es.set i { old with val := v }) (es'.modify i fun e => { e with val := v' })
  | _, _, .nil, i, _, _, _, h, _ => by simp at h
  | _, _, .cons hk' hv' t, 0, old, v, v', h, hv => by
    simp at h; subst h
    simp only [List.set_cons_zero, List.modify_zero_cons]
    exact .cons hk' hv t
  | _, _, .cons hk' hv' t, i + 1, old, v, v', h, hv => by
    simp at h
    simp only [List.set_cons_succ, List.modify_succ_cons]
    exact .cons hk' hv' (EsR.val t h hv)
theorem EsR.at : ∀ {es es' : List MapEntry}, EsR β es es' → ∀ {i : Nat} {old : MapEntry}, es[i]? = some old → ∃ v', es'[i]? = some { old with val := v' } ∧ VR β old.val v'
  | _, _, .nil, i, _, h => by simp at h
  | _, _, .cons hk' hv' t, 0, old, h => by
    simp at h; subst h
    exact ⟨_, rfl, hv'⟩
  | _, _, .cons hk' hv' t, i + 1, old, h => by
    simp at h
    obtain ⟨v', h1, h2⟩ := EsR.at t h
    exact ⟨v', by simpa using h1, h2⟩
theorem bornAt_ok {n : Int} : ∀ {es es' : List MapEntry}, EsR β es es' → bornAt n es = es'.findIdx? fun e => (e.born : Int) == n
  | _, _, .nil => rfl
  | _, _, .cons (k := k) (v := v) (v' := v') (n := m) (l := l) (l' := l') hk hv t => by
    change Bool.rec (motive := fun _ => Option Nat) ((bornAt n l).map Nat.succ) (some 0) (eqI (Int.ofNat m) n) = _
    rw [List.findIdx?_cons, eqI_eq, bornAt_ok t]
    simp only []
    cases hb : ((Int.ofNat m) == n) with
    | true => rfl
    | false => rfl

theorem mapEntry_ok (h : WR P B β V w) {t : TypeId} {m k : Operand} {e ρ : Rho} (hm : VR β (e m) (ρ m)) (hk : VR β (e k) (ρ k)) {v : Value} {V' : VW} (hp : mapEntryO t m k P e V = .val v V') :
    ∃ v' w', (Instr.mapEntry t (ρ m) (ρ k)).run P w = .ok v' w' ∧ WR P B β V' w' ∧ VR β v v' := by
  unfold mapEntryO at hp
  split at hp
  · rename_i kt et b hmo hem
    have hu := mapOf_spec hmo
    rw [hem] at hm
    split at hp
    · cases hp
    · rename_i hfl
      have hfl : flat (e k) = true := by simpa using hfl
      have hk' := hk.of_flat hfl
      split at hp
      · rename_i es clock u1 hg hc1
        obtain ⟨rb, cp, sh, o', hv', hbe, hb, ho⟩ := h.mp hm hg nofun
        obtain ⟨es', rfl, hE⟩ := ho.mapInv
        have hdk : ∃ d, P.underlying kt = some d := by
          cases hd : P.underlying kt with
          | some d => exact ⟨d, rfl⟩
          | none =>
            exfalso
            have hru := dr_run hc1 w
            have : (10000 : Nat) = 9999 + 1 := rfl
            rw [this] at hru
            unfold Instr.checkKey at hru
            simp [underlying, hd] at hru
        obtain ⟨d, hd⟩ := hdk
        split at hp
        · cases hp
        · rename_i hfl2
          have hfl2 : V.floor ≤ b := by simpa using hfl2
          have hstart : ∀ r', (Instr.findKey kt (e k) es').run P w = .ok r' w → (Instr.mapEntry t (ρ m) (ρ k)).run P w = (match r' with
              | some (i, v) => do
                let key ← Instr.keyThatStays (((((⟨es'⟩ : Array MapEntry)[i]?).map (·.key))).getD (e k)) (e k)
                setObj rb (.map ((⟨es'⟩ : Array MapEntry).modify i fun e => { e with key }) clock)
                pure (.tuple #[v, goInt ((((⟨es'⟩ : Array MapEntry)[i]?).map (·.born)).getD 0)])
              | none => do
                let zero ← zeroValue et
                setObj rb (.map ((⟨es'⟩ : Array MapEntry).push { key := e k, val := zero, born := clock }) (clock + 1))
                pure (.tuple #[zero, goInt clock]) : Sem Value).run P w := by
            intro r' hr'
            rw [hv', hk']
            simp only [Instr.mapEntry, Sem.run_bind, run_underlying hu, Result.andThen_ok, run_getObj (P := P) hb nofun, dr_run hc1 w, hr']
            cases r' with
            | none => rfl
            | some p => obtain ⟨i, v⟩ := p; simp
          split at hp
          · rename_i i v0 hka
            split at hp
            · rename_i old hold
              split at hp
              · rename_i hsame
                cases hp
                obtain ⟨r', h1, v', rfl, h2⟩ := keyAt_ok (w := w) hE hka
                obtain ⟨ov, hov, _⟩ := hE.at hold
                have hv2 : (es'[i]?).map (·.val) = some v' ∨ True := .inr trivial
                obtain ⟨h3, h4⟩ := hE.set (v' := ov) hold hfl (v := old.val) (by obtain ⟨ov', a1, a2⟩ := hE.at hold; rw [hov] at a1; cases a1; exact a2)
                refine ⟨.tuple #[v', goInt old.born], w.putObj rb (.map ⟨es'.modify i fun e' => { e' with key := e k }⟩ clock), ?_, ?_, .tuple (.cons h2 (.cons (.atom rfl) .nil))⟩
                · rw [hstart _ (findKey_run hd h1)]
                  dsimp only
                  have hkey : (((⟨es'⟩ : Array MapEntry)[i]?).map (·.key)).getD (e k) = old.key := by rw [arr_get', h4]; rfl
                  have hborn : (((⟨es'⟩ : Array MapEntry)[i]?).map (fun x => (x.born : Int))).getD 0 = (old.born : Int) := by rw [arr_get', hov]; rfl
                  rw [hkey, hborn]
                  simp only [Sem.run_bind, Instr.keyThatStays, hsame, if_true, Sem.run_pure, Result.andThen_ok]
                  have hmod : ((⟨es'⟩ : Array MapEntry).modify i fun e' => { e' with key := e k }) = ⟨es'.modify i fun e' => { e' with key := e k }⟩ := by
                    apply Array.ext'; simp
                  rw [hmod, run_setObj _ hb nofun]
                  rfl
                · refine h.put hbe hfl2 (.map ?_)
                  have hval : es'.modify i (fun e' => { e' with key := e k }) = es'.modify i (fun e' => { e' with key := e k, val := ov }) := by
                    apply List.ext_getElem?
                    intro j
                    simp only [List.getElem?_modify]
                    by_cases hj : i = j
                    · subst hj; rw [hov]; rfl
                    · simp [hj]
                  rw [hval]
                  exact keyAt_val hka hold ▸ h3
              · cases hp
            · cases hp
          · rename_i hka
            split at hp
            · rename_i z hz
              cases hp
              obtain ⟨i, hi, hzv, hzf⟩ := zeroV_spec hz
              obtain ⟨r', h1, rfl⟩ := keyAt_ok (w := w) hE hka
              refine ⟨.tuple #[z, goInt clock], w.putObj rb (.map ⟨es' ++ [{ key := e k, val := z, born := clock }]⟩ (clock + 1)), ?_, h.put hbe hfl2 (.map (hE.push hfl (VR.flat1 hzf))), .tuple (.cons (VR.flat1 hzf) (.cons (.atom rfl) .nil))⟩
              rw [hstart _ (findKey_run hd h1)]
              have hpush : (⟨es'⟩ : Array MapEntry).push { key := e k, val := z, born := clock } = ⟨es' ++ [{ key := e k, val := z, born := clock }]⟩ := by
                apply Array.ext'; simp
              simp only [Sem.run_bind, run_zero hi hzv, Result.andThen_ok, hpush, run_setObj (P := P) _ hb nofun, Sem.run_pure]
            · cases hp
          · cases hp
      · cases hp
  · cases hp

theorem entryStore_ok (h : WR P B β V w) {t : TypeId} {m s x : Operand} {e ρ : Rho} (hm : VR β (e m) (ρ m)) (hs : VR β (e s) (ρ s)) (hx : VR β (e x) (ρ x)) {v : Value} {V' : VW} (hp : entryStoreO m s x P e V = .val v V') :
    ∃ w', (Instr.entryStore t (ρ m) (ρ s) (ρ x)).run P w = .ok () w' ∧ WR P B β V' w' ∧ v = undef := by
  unfold entryStoreO at hp
  split at hp
  · rename_i b ik n hem hes
    rw [hem] at hm
    rw [hes] at hs
    split at hp
    · rename_i es clock hg
      obtain ⟨rb, cp, sh, o', hv', hbe, hb, ho⟩ := h.mp hm hg nofun
      obtain ⟨es', rfl, hE⟩ := ho.mapInv
      split at hp
      · cases hp
      · rename_i hfl2
        have hfl2 : V.floor ≤ b := by simpa using hfl2
        split at hp
        · rename_i i hbo
          split at hp
          · rename_i old hold
            cases hp
            refine ⟨w.putObj rb (.map ⟨es'.modify i fun e' => { e' with val := ρ x }⟩ clock), ?_, h.put hbe hfl2 (.map (hE.val hold hx)), rfl⟩
            rw [bornAt_ok hE] at hbo
            have hidx : (⟨es'⟩ : Array MapEntry).findIdx? (fun e => (e.born : Int) == n) = some i := by simpa using hbo
            have hmod : ((⟨es'⟩ : Array MapEntry).modify i fun e' => { e' with val := ρ x }) = ⟨es'.modify i fun e' => { e' with val := ρ x }⟩ := by
              apply Array.ext'; simp
            rw [hv', hs.int']
            simp only [Instr.entryStore, Sem.run_bind, Result.andThen_ok, run_getObj (P := P) hb nofun, asInt, asIntOf, Sem.run_pure, hidx, hmod]
            exact run_setObj _ hb nofun
          · cases hp
        · cases hp
    · cases hp
  · cases hp

/-! ### A text, rune by rune -/
theorem next_ok (h : WR P B β V w) {it : Operand} {str : Bool} {ty : TypeId} {e ρ : Rho} (hi : VR β (e it) (ρ it)) {v : Value} {V' : VW} (hp : nextO it str P e V = .val v V') :
    ∃ v' w', (Instr.next (ρ it) str ty).run P w = .ok v' w' ∧ WR P B β V' w' ∧ VR β v v' := by
  unfold nextO at hp
  split at hp
  · rename_i b hei
    rw [hei] at hi
    split at hp
    · rename_i s pos hg
      obtain ⟨rb, cp, sh, o', hv', hbe, hb, ho⟩ := h.ptr hi hg nofun
      obtain ⟨rfl, rfl⟩ : o' = .stringIter s pos ∧ sh = 0 := by cases ho with | iter h0 => exact ⟨rfl, h0⟩
      rw [hv']
      split at hp
      · rename_i hlt
        have hlt := blt_lt hlt
        split at hp
        · rename_i hfl
          have hfl := Nat.le_of_ble_eq_true hfl
          cases hp
          refine ⟨_, w.putObj rb (.stringIter s (pos + (Utf8.decode s pos).2)), ?_, h.put hbe hfl (.iter rfl), .tuple (.cons (.atom rfl) (.cons (.atom rfl) (.cons (.atom rfl) .nil)))⟩
          simp [Instr.next, run_getObj (P := P) hb nofun, hlt, run_setObj (P := P) _ hb nofun]
        · cases hp
      · rename_i hlt
        have hlt : ¬ pos < s.size := fun hh => by rw [blt_tt hh] at hlt; exact hlt rfl
        cases hp
        refine ⟨_, w, ?_, h, .tuple (.cons (.atom rfl) .nil)⟩
        simp [Instr.next, run_getObj (P := P) hb nofun, hlt]
    · cases hp
  · cases hp
end
end Go.Vx
/-! What an operation does, all of them but calls. -/
namespace Go.Vx
variable [Syms]
open Go.RowKit

section
variable {P : Program} {B : Base} {β : Nat → Ren} {V : VW} {w : World}

theorem optW_spec {n : Nat} {x : Option VW} {v : Value} {V' : VW} (h : optW n x = .val v V') : x = some V' ∧ v = undef := by
  cases x with
  | none => cases h
  | some u => cases h; exact ⟨rfl, rfl⟩

theorem VRs.mapE {e ρ : Rho} {l : List Operand} (h : ∀ x ∈ l, VR β (e x) (ρ x)) : VRs β (l.map e) (l.map ρ) := VRs.map h

theorem convFast_ok {s d : TypeId} {x r : Value} (h : convFast P s d x = some r) : (convert s d x).run P w = .ok r w ∧ atom x = true ∧ atom r = true := by
  unfold convFast at h
  split at h
  · rename_i k n
    split at h
    · rename_i sd k' hs hd
      cases h
      refine ⟨?_, rfl, rfl⟩
      rw [wrapF_eq]
      simp [convert, run_underlying hs, run_underlying hd, Conv.intToInt]
    · cases h
  · cases h

theorem plain_ok (h : WR P B β V w) {o : Oper} {e ρ : Rho} (hρ : ∀ x ∈ o.op.operands, VR β (e x) (ρ x)) {v : Value} {V' : VW} (hp : plainGo P o e V = .val v V') :
    Res P B β w (execOp ρ o) v V' := by
  obtain ⟨dst, op, type, pos, after, guard⟩ := o
  cases op <;> simp only [Op.operands] at hρ
  case move x =>
    change valO x P e V = _ at hp
    cases hp; exact Res.of h rfl (hρ x (by simp))
  case assign x =>
    change valO x P e V = _ at hp
    cases hp; exact Res.of h rfl (hρ x (by simp))
  case pick c a b =>
    change pickO c a b P e V = _ at hp
    unfold pickO at hp
    have hc := hρ c (by simp)
    split at hp
    · rename_i hb; cases hp; rw [hb] at hc
      exact Res.of h (v' := ρ a) (by simp [execOp, hc.bool', asBool]) (hρ a (by simp))
    · rename_i hb; cases hp; rw [hb] at hc
      exact Res.of h (v' := ρ b) (by simp [execOp, hc.bool', asBool]) (hρ b (by simp))
    · cases hp
  case alloc t =>
    change allocO t P e V = _ at hp
    unfold allocO at hp
    split at hp
    · rename_i z hz
      obtain ⟨_, _, _, _, _, hat⟩ := zeroL_spec hz
      exact Res.new h hp 0 0 (ObjR.whole (VRs.atoms hat) (by simp)) (run_v (run_alloc hz)) fun β' hβ => .ptr hβ
    · cases hp
  case box t x =>
    change boxO t x P e V = _ at hp
    have hx := hρ x (by simp)
    exact Res.new h hp 0 0 (o' := .cells ⟨cellsL (ρ x)⟩ t (0, 0)) (ObjR.whole hx.cellsL (by simp)) (run_v (by
      simp only [Instr.box, newVar, newRow, Sem.run_bind, run_newObj_alloc, Result.andThen_ok, Sem.run_pure, cells_eq])) fun β' hβ => .ptr hβ
  case build t ps =>
    change buildO t ps P e V = _ at hp
    unfold buildO at hp
    have hps : ∀ p ∈ ps.toList, VR β (e p.2) (ρ p.2) := fun p hpm => hρ p.2 (by simp; exact ⟨p.1, by simpa using hpm⟩)
    split at hp
    · rename_i z l hz hl
      split at hp
      · rename_i ha
        split at hp
        · rename_i c hc
          cases hp
          obtain ⟨c', h1, h2⟩ := build_ok h hps hz hl ha hc
          exact Res.of h (run_v h1) (.agg h2)
        · cases hp
      · cases hp
    · cases hp
  case buildSlice t n ps =>
    change buildSliceO t n ps P e V = _ at hp
    have hps : ∀ p ∈ ps.toList, VR β (e p.2) (ρ p.2) := fun p hpm => hρ p.2 (by simp; exact ⟨p.1, by simpa using hpm⟩)
    exact buildSlice_ok h hps hp
  case insert t m k x =>
    change updateO t m k x P e V = _ at hp
    obtain ⟨w', h1, h2, rfl⟩ := update_ok h (hρ m (by simp)) (hρ k (by simp)) (hρ x (by simp)) hp
    exact ⟨β, undef, w', .refl _, h2, .undef, .inr ⟨rfl, run_u h1⟩⟩
  case mapUpdate t m k x =>
    change updateO t m k x P e V = _ at hp
    obtain ⟨w', h1, h2, rfl⟩ := update_ok h (hρ m (by simp)) (hρ k (by simp)) (hρ x (by simp)) hp
    exact ⟨β, undef, w', .refl _, h2, .undef, .inr ⟨rfl, run_u h1⟩⟩
  case mapEntry t m k =>
    change mapEntryO t m k P e V = _ at hp
    obtain ⟨v', w', h1, h2, h3⟩ := mapEntry_ok h (hρ m (by simp)) (hρ k (by simp)) hp
    exact ⟨β, v', w', .refl _, h2, h3, .inl (run_v h1)⟩
  case entryStore t m s x =>
    change entryStoreO m s x P e V = _ at hp
    obtain ⟨w', h1, h2, rfl⟩ := entryStore_ok (t := t) h (hρ m (by simp)) (hρ s (by simp)) (hρ x (by simp)) hp
    exact ⟨β, undef, w', .refl _, h2, .undef, .inr ⟨rfl, run_u h1⟩⟩
  case load t a =>
    change loadO t a P e V = _ at hp
    exact Res.ofV h hp fun u hu => by
      obtain ⟨u', h1, h2⟩ := load_ok h (hρ a (by simp)) hu
      exact ⟨u', run_v h1, h2⟩
  case store t a x =>
    change storeO t a x P e V = _ at hp
    obtain ⟨h1, rfl⟩ := optW_spec hp
    obtain ⟨w', h2, h3⟩ := store_ok h (hρ a (by simp)) (hρ x (by simp)) h1
    exact ⟨β, undef, w', .refl _, h3, .undef, .inr ⟨rfl, run_u h2⟩⟩
  case nilCheck x =>
    change nilCheckO x P e V = _ at hp
    unfold nilCheckO at hp
    have hx := hρ x (by simp)
    split at hp
    · rename_i a hb; cases hp; rw [hb] at hx
      obtain ⟨y, hy⟩ : ∃ y, ρ x = y := ⟨_, rfl⟩
      rw [hy] at hx
      have hya : ∃ a', y = .pointer (some a') := by
        cases hx with
        | atom ha => simp [Vx.atom] at ha
        | ptr e => exact ⟨_, rfl⟩
        | ptrD e => exact ⟨_, rfl⟩
      obtain ⟨a', rfl⟩ := hya
      exact Res.of h (by simp [execOp, hy]) hx
    · rename_i f a b hb; cases hp; rw [hb] at hx
      obtain ⟨y, hy⟩ : ∃ y, ρ x = y := ⟨_, rfl⟩
      rw [hy] at hx
      have hya : ∃ a' b', y = .func (.func f) a' b' := by
        cases hx with
        | atom ha => exact ⟨_, _, rfl⟩
        | func _ _ _ => exact ⟨_, _, rfl⟩
      obtain ⟨a', b', rfl⟩ := hya
      exact Res.of h (by simp [execOp, hy]) hx
    · rename_i l a b hb; cases hp; rw [hb] at hx
      obtain ⟨y, hy⟩ : ∃ y, ρ x = y := ⟨_, rfl⟩
      rw [hy] at hx
      have hya : ∃ l' a' b', y = .func (.yield l') a' b' := by
        cases hx with
        | atom ha => simp [Vx.atom] at ha
        | func hn _ _ => cases hn
        | yield e => exact ⟨_, _, _, rfl⟩
        | yieldD e => exact ⟨_, _, _, rfl⟩
      obtain ⟨l', a', b', rfl⟩ := hya
      exact Res.of h (by simp [execOp, hy]) hx
    · cases hp
  case fieldAddr t x i =>
    change fieldAddrO t x i P e V = _ at hp
    obtain ⟨v', h1, h2, rfl⟩ := fieldAddr_ok h (hρ x (by simp)) hp
    exact Res.of h (run_v h1) h2
  case field t x i =>
    change fieldO t x i P e V = _ at hp
    obtain ⟨v', h1, h2, rfl⟩ := field_ok h (hρ x (by simp)) hp
    exact Res.of h (run_v h1) h2
  case indexAddr t x i =>
    change indexAddrO t x i P e V = _ at hp
    obtain ⟨v', h1, h2, rfl⟩ := indexAddr_ok h (hρ x (by simp)) (hρ i (by simp)) hp
    exact Res.of h (run_v h1) h2
  case index t x i =>
    change indexO ⟨dst, .index t x i, type, pos, after, guard⟩ t x i P e V = _ at hp
    have hx := hρ x (by simp)
    have hi := hρ i (by simp)
    unfold indexO at hp
    split at hp
    · rename_i l hl
      rw [hl] at hx
      obtain ⟨l', he, hr⟩ := hx.agg'
      split at hp
      · rename_i n sz a j har hj
        obtain ⟨el, hu, hlay⟩ := arrE_spec har
        obtain ⟨k, hk⟩ := intN_real hj hi
        split at hp
        · rename_i hlt
          have hlt := blt_lt hlt
          refine Res.ofV h hp fun u hu' => ?_
          obtain ⟨u', h1, h2⟩ := part_ok (w := w) hlay hr hu'
          refine ⟨u', run_v ?_, h2⟩
          obtain ⟨ti, d, hi', hd, hsz, _⟩ := lay_spec hlay
          simp only at hsz hlt hu
          simp [Instr.index, asIntOf, hk, he, run_underlying hu, hlt, run_size hi', hsz, h1]
        · cases hp
      · cases hp
    · split at hp
      · rename_i hf
        simp only [Bool.and_eq_true] at hf
        refine flat_ok h (o := ⟨dst, .index t x i, type, pos, after, guard⟩) (fun cs b hh => by cases hh) (e := e) (fun y hy => hρ y hy) (fun y hy => ?_) hp
        simp only [Op.operands, List.mem_toArray, List.mem_cons, List.not_mem_nil, or_false] at hy
        rcases hy with rfl | rfl
        · exact hf.1
        · exact hf.2
      · cases hp
  case extract x i =>
    change extractO x i P e V = _ at hp
    have hx := hρ x (by simp)
    unfold extractO at hp
    split at hp
    · rename_i l hl
      rw [hl] at hx
      obtain ⟨l', he, hr⟩ := hx.tuple'
      refine Res.ofV h hp fun u hu => ?_
      rw [nthL_eq] at hu
      obtain ⟨u', h1, h2⟩ := hr.get? hu
      exact ⟨u', run_v (by simp [Instr.extract, he, h1]), h2⟩
    · cases hp
  case binOp op t x y yt =>
    change binO ⟨dst, .binOp op t x y yt, type, pos, after, guard⟩ op t x y P e V = _ at hp
    have hx := hρ x (by simp)
    have hy := hρ y (by simp)
    unfold binO at hp
    split at hp
    · rename_i r hr
      cases hp
      obtain ⟨h1, h2, h3, h4⟩ := binFast_ok (P := P) (w := w) hr t x y
      refine Res.of h (v' := v) (run_v ?_) (.atom h4)
      rw [hx.of_atom h2, hy.of_atom h3]; exact h1
    · split at hp
      · rename_i r hr
        cases hp
        obtain ⟨h1, h2⟩ := binNil_ok (w := w) hr hx hy x y
        exact Res.of h (v' := v) (run_v h1) (.atom h2)
      · split at hp
        · rename_i r hr
          cases hp
          obtain ⟨h1, h2⟩ := binStr_ok (w := w) hr hx hy x y
          exact Res.of h (v' := v) (run_v h1) (.atom h2)
        · split at hp
          · rename_i hf
            simp only [Bool.and_eq_true] at hf
            refine flat_ok h (o := ⟨dst, .binOp op t x y yt, type, pos, after, guard⟩) (fun cs b hh => by cases hh) (e := e) (fun y hy => hρ y hy) (fun z hz => ?_) hp
            simp only [Op.operands, List.mem_toArray, List.mem_cons, List.not_mem_nil, or_false] at hz
            rcases hz with rfl | rfl
            · exact hf.1
            · exact hf.2
          · exact Res.ofV h hp fun u hu => by
              obtain ⟨v', g1, g2⟩ := Syms.binOk _ _ _ _ hu β _ _ hx hy
              obtain ⟨h1, _⟩ := binFast_ok (P := P) (w := w) g2 t x y
              exact ⟨v', run_v h1, g1⟩
  case unOp op t x =>
    change unO ⟨dst, .unOp op t x, type, pos, after, guard⟩ op x P e V = _ at hp
    have hx := hρ x (by simp)
    unfold unO at hp
    split at hp
    · split at hp
      · rename_i b hb
        cases hp
        rw [hb] at hx
        exact Res.of h (v' := .bool (not b)) (run_v (by simp [hx.bool', Op.unary])) (.atom rfl)
      · cases hp
    · split at hp
      · rename_i hf
        refine flat_ok h (o := ⟨dst, .unOp op t x, type, pos, after, guard⟩) (fun cs b hh => by cases hh) (e := e) (fun y hy => hρ y hy) (fun z hz => ?_) hp
        simp only [Op.operands, List.mem_toArray, List.mem_cons, List.not_mem_nil, or_false] at hz
        subst hz; exact hf
      · cases hp
  case convert s d x =>
    change convertO ⟨dst, .convert s d x, type, pos, after, guard⟩ s d x P e V = _ at hp
    have hx := hρ x (by simp)
    unfold convertO at hp
    split at hp
    · rename_i r hr
      cases hp
      obtain ⟨h1, h2, h3⟩ := convFast_ok (w := w) hr
      refine Res.of h (v' := v) (run_v ?_) (.atom h3)
      rw [hx.of_atom h2]; exact h1
    · split at hp
      · rename_i hf
        refine flat_ok h (o := ⟨dst, .convert s d x, type, pos, after, guard⟩) (fun cs b hh => by cases hh) (e := e) (fun y hy => hρ y hy) (fun z hz => ?_) hp
        simp only [Op.operands, List.mem_toArray, List.mem_cons, List.not_mem_nil, or_false] at hz
        subst hz; exact hf
      · split at hp
        · rename_i du k hds hdd
          exact Res.ofV h hp fun u hu => by
            obtain ⟨k0, n, hx', g1⟩ := Syms.convOk _ _ _ hu β _ hx
            have hcf : convFast P s d (.int k0 n) = some (.int k (wrapF k n)) := by unfold convFast; rw [hds, hdd]
            obtain ⟨h1, _, _⟩ := convFast_ok (w := w) hcf
            rw [← hx'] at h1
            exact ⟨_, run_v h1, g1⟩
        · cases hp
  case makeFunc fn a b =>
    change makeFuncO fn a b P e V = _ at hp
    unfold makeFuncO at hp
    split at hp
    · rename_i hn
      cases hp
      rw [mapL_eq, mapL_eq]
      refine Res.of h (v' := .func fn ⟨a.toList.map ρ⟩ ⟨b.toList.map ρ⟩) ?_ (.func hn (VRs.map fun y hy => hρ y (by simp; exact .inl (by simpa using hy))) (VRs.map fun y hy => hρ y (by simp; exact .inr (by simpa using hy))))
      have ha : a.map ρ = ⟨a.toList.map ρ⟩ := by apply Array.ext'; simp
      have hb : b.map ρ = ⟨b.toList.map ρ⟩ := by apply Array.ext'; simp
      simp only [execOp, Instr.makeFunc, ha, hb]; rfl
    · cases hp
  case makeMap t r =>
    change makeMapO t r P e V = _ at hp
    unfold makeMapO at hp
    split at hp
    · exact Res.new h hp 0 0 (o' := .map ⟨[]⟩ 0) (.map .nil) (run_v (by simp [Instr.makeMap])) fun β' hβ => .map hβ
    · rename_i hint
      split at hp
      · rename_i kt k n hm hh
        have hv := hρ hint (by simp)
        rw [hh] at hv
        exact Res.new h hp 0 0 (o' := .map ⟨[]⟩ 0) (.map .nil) (run_v (by simp [Instr.makeMap, run_underlying (mapOf_spec hm), hv.int', asInt, asIntOf])) fun β' hβ => .map hβ
      · cases hp
  case makeSlice t l c =>
    change makeSliceO t l c P e V = _ at hp
    exact makeSlice_ok h (hρ l (by simp)) (hρ c (by simp)) hp
  case slice t x lo hi mx =>
    change sliceO ⟨dst, .slice t x lo hi mx, type, pos, after, guard⟩ t x lo hi mx P e V = _ at hp
    have hx := hρ x (by simp)
    have hlo : ∀ y, lo = some y → VR β (e y) (ρ y) := fun y hy => hρ y (by subst hy; simp)
    have hhi : ∀ y, hi = some y → VR β (e y) (ρ y) := fun y hy => hρ y (by subst hy; simp)
    have hmx : ∀ y, mx = some y → VR β (e y) (ρ y) := fun y hy => hρ y (by subst hy; simp)
    unfold sliceO at hp
    split at hp
    · obtain ⟨v', h1, h2, rfl⟩ := slice_ok h hx hlo hhi hmx hp
      exact Res.of h (run_v h1) h2
    · split at hp
      · rename_i hmn
        have hmn : mx = none := by simpa using hmn
        subst hmn
        refine Res.ofV h hp fun u hu => ?_
        obtain ⟨v', h1, h2⟩ := sliceA_ok (w := w) hx hlo hhi hu
        exact ⟨v', run_v h1, h2⟩
      · cases hp
    · rename_i s hs
      split at hp
      · rename_i hf
        simp only [Bool.and_eq_true] at hf
        obtain ⟨⟨hmn, hfl⟩, hfh⟩ := hf
        have hmn : mx = none := by simpa using hmn
        subst hmn
        refine flat_ok h (o := ⟨dst, .slice t x lo hi none, type, pos, after, guard⟩) (fun cs b hh => by cases hh) (e := e) (fun y hy => hρ y hy) (fun z hz => ?_) hp
        simp only [Op.operands, Array.mem_append] at hz
        rcases hz with ((hz | hz) | hz) | hz
        · simp at hz; subst hz; rw [hs]; rfl
        · cases lo with
          | none => simp at hz
          | some y => simp at hz; subst hz; exact hfl
        · cases hi with
          | none => simp at hz
          | some y => simp at hz; subst hz; exact hfh
        · simp at hz
      · cases hp
    · cases hp
  case lookup t m k ok =>
    change lookupO t m k ok P e V = _ at hp
    obtain ⟨v', h1, h2, rfl⟩ := lookup_ok h (hρ m (by simp)) (hρ k (by simp)) hp
    exact Res.of h (run_v h1) h2
  case range t x =>
    change rangeO t x P e V = _ at hp
    have hx := hρ x (by simp)
    unfold rangeO at hp
    split at hp
    · rename_i s hs
      rw [hs] at hx
      split at hp
      · rename_i hu
        have hu : P.underlying t = some .string := by
          cases hd : P.underlying t with
          | none => rw [hd] at hu; cases hu
          | some d => rw [hd] at hu; cases d <;> first | rfl | (cases hu)
        exact Res.new h hp 0 0 (o' := .stringIter s 0) (.iter rfl) (run_v (by simp [Instr.range, run_underlying hu, hx.string'])) fun β' hβ => .ptr hβ
      · cases hp
    · cases hp
  case next it str =>
    change nextO it str P e V = _ at hp
    obtain ⟨v', w', h1, h2, h3⟩ := next_ok h (ty := type) (hρ it (by simp)) hp
    exact ⟨β, v', w', .refl _, h2, h3, .inl (run_v h1)⟩
  all_goals (cases hp)
end
end Go.Vx
