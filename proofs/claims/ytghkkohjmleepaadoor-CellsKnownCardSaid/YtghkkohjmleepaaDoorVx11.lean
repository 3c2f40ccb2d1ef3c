/-
  Says: Calls, rounds of a loop over a function, and such loops.
-/
import Derived.Test.YtghkkohjmleepaaDoorVx10
/-! Calls, rounds of a loop over a function, and such loops. -/
set_option linter.unusedVariables false
set_option linter.unusedSimpArgs false
namespace Go.Vx
open Go.RowKit

section
variable {P : Program} {G : VW} {B : Base} {β : Nat → Ren} {V : VW} {w : World}

theorem step_unwind {fr : Frame} {cs : List Frame} {blk : Nat} {ds : List Deferred} (hm : fr.mode = .returning) (hd : fr.defers = { target := .collected blk, args := #[] } :: ds) (hb : w.heap[blk]? = some (.deferred (some []))) :
    step P (lone fr cs w) = .next (lone { fr with defers := ds } cs (w.putObj blk (.deferred none))) :=
  step_lone_go (by simp [stepG, unwind, hm, hd, Sem.runT_eq, run_takeDeferred (P := P) hb])

theorem DR.nil_inv {ds : List Deferred} (h : DR β [] ds) : ds = [] := by cases h; rfl

/-- A block that is there. -/
theorem RoR.obj (h : WR P B β V w) {l l' : Nat} (hr : RoR β l l') {o : VObj} (hg : V.heap.get l = some o) (hne : o ≠ .dfr true) : ∃ cp sh o', β l = .live l' cp sh ∧ w.heap[l']? = some o' ∧ ObjR P β cp sh o o' := by
  rcases hr with ⟨cp, sh, e⟩ | e
  · obtain ⟨p, p', h1, h2, h3⟩ := h.obj _ _ _ _ e
    rw [hg] at h1; cases h1
    exact ⟨cp, sh, p', e, h2, h3⟩
  · have := h.dead _ e; rw [hg] at this; cases this; exact absurd rfl hne

theorem load_asAddr {t : TypeId} {v u : Value} (h : (Instr.loadAt t v).run P w = .ok u w) : (do loadVar t (← asAddr v) : Sem Value).run P w = .ok u w := by
  cases v with
  | pointer a =>
    cases a with
    | none => simp [Instr.loadAt, Instr.sureAddr] at h
    | some a => simpa [Instr.loadAt, Instr.sureAddr, asAddr] using h
  | _ => simp [Instr.loadAt, Instr.sureAddr] at h

theorem res_ok (h : WR P B β V w) {nt : Nat} {s : St} {tmps : Array Value} (hT : TR β nt s.tm tmps) {g : ResultVar → Sem Value} (hg1 : ∀ t, g (.tmp t) = pure (tmps.getD t undef)) (hg2 : ∀ a t, g (.cell a t) = (do loadVar t (← asAddr (tmps.getD a undef)))) :
    ∀ (l : List ResultVar) {vs : List Value}, resGo P s V l = some vs → ∃ vs', (l.mapM g).run P w = .ok vs' w ∧ VRs β vs vs'
  | [], vs, hr => by cases hr; exact ⟨[], by simp, .nil⟩
  | .tmp t :: l, vs, hr => by
    unfold resGo at hr
    split at hr
    · rename_i vs0 h0
      cases hr
      obtain ⟨vs', h1, h2⟩ := res_ok h hT hg1 hg2 l h0
      refine ⟨tmps.getD t undef :: vs', ?_, .cons (hT.2 t) h2⟩
      rw [List.mapM_cons, Sem.run_bind, hg1]
      simp [h1]
    · cases hr
  | .cell a t :: l, vs, hr => by
    unfold resGo at hr
    split at hr
    · rename_i v vs0 hv h0
      cases hr
      obtain ⟨vs', h1, h2⟩ := res_ok h hT hg1 hg2 l h0
      obtain ⟨u, h3, h4⟩ := load_ok h (hT.2 a) hv
      refine ⟨u :: vs', ?_, .cons h4 h2⟩
      rw [List.mapM_cons, Sem.run_bind, hg2, load_asAddr h3]
      simp [h1]
    · cases hr

theorem results_ok (h : WR P B β V w) {nt : Nat} {s : St} {tmps : Array Value} (hT : TR β nt s.tm tmps) {fn : Func} {vs : List Value} (hr : resGo P s V fn.results.toList = some vs) :
    ∃ vs', VRs β vs vs' ∧ (results fn tmps).run P w = .ok (if h : vs'.length = 1 then vs'[0] else .tuple ⟨vs'⟩) w := by
  have key : ∃ g : ResultVar → Sem Value, (∀ t, g (.tmp t) = pure (tmps.getD t undef)) ∧ (∀ a t, g (.cell a t) = (do loadVar t (← asAddr (tmps.getD a undef)))) ∧
      results fn tmps = (do let vs ← fn.results.mapM g; pure (if h : vs.size = 1 then vs[0] else .tuple vs)) := ⟨_, fun _ => rfl, fun _ _ => rfl, rfl⟩
  obtain ⟨g, h1, h2, h3⟩ := key
  obtain ⟨vs', h4, h5⟩ := res_ok h hT h1 h2 _ hr
  refine ⟨vs', h5, ?_⟩
  rw [h3, Array.mapM_eq_mapM_toList]
  simp only [Sem.run_bind, Sem.run_map, h4, Result.andThen_ok, Sem.run_pure]
  congr 1

/-- A function is left. -/
theorem leave_ok {fn : Func} {f : FuncId} (hfn : P.funcs[f]? = some fn) {cs : List Frame} {nt : Nat} {s : St} {tmps : Array Value} (hT : TR β nt s.tm tmps) :
    ∀ (df : List Nat) (V : VW) (w : World) (ds : List Deferred) (fr : Frame) {v : Value} {V' : VW}, leaveGo P fn f s V df = .val v V' → WR P B β V w → DR β df ds →
      fr.mode = .returning → fr.tmps = tmps → fr.defers = ds → fr.kind = .normal → fr.fn = f →
      ∃ v' w' fr', WR P B β V' w' ∧ VR β v v' ∧ Steps P (lone fr cs w) (lone fr' cs w') ∧ fr'.fn = f ∧ fr'.leaving P w' (.returned v')
  | [], V, w, ds, fr, v, V', hp, hW, hD, hm, ht, hd, hk, hf => by
    have hds := hD.nil_inv
    subst hds
    have hlv : ∀ u, (results fn tmps).run P w = .ok u w → fr.leaving P w (.returned u) := fun u hu => ⟨hm, hd, hk, fn, by rw [hf]; exact hfn, by rw [ht]; exact hu⟩
    unfold leaveGo at hp
    split at hp
    · rename_i u hr
      cases hp
      obtain ⟨vs', h1, h2⟩ := results_ok hW hT hr
      cases h1 with
      | cons h3 h4 =>
        cases h4
        exact ⟨_, w, fr, hW, h3, .refl _ _, hf, hlv _ (by simpa using h2)⟩
    · rename_i vs hne hr
      cases hp
      obtain ⟨vs', h1, h2⟩ := results_ok hW hT hr
      have hl : ¬ vs'.length = 1 := fun hh => by
        rw [h1.length] at hh
        obtain ⟨u, hu⟩ := List.length_eq_one_iff.1 hh
        exact hne u hu
      rw [dif_neg hl] at h2
      exact ⟨_, w, fr, hW, .tuple h1, .refl _ _, hf, hlv _ h2⟩
    · cases hp
  | k :: df, V, w, ds, fr, v, V', hp, hW, hD, hm, ht, hd, hk, hf => by
    unfold leaveGo at hp
    split at hp
    · rename_i hg
      split at hp
      · rename_i hfl
        have hfl := Nat.le_of_ble_eq_true hfl
        cases hD with
        | @cons k b l l' hr ht' =>
          obtain ⟨cp, sh, o', e1, e2, e3⟩ := hr.obj hW hg (by simp)
          cases e3 with
          | dfr =>
            obtain ⟨v', w', fr', h1, h2, h3, h4, h5⟩ := leave_ok hfn hT df _ _ l' { fr with defers := l' } hp (hW.put e1 hfl (o' := .deferred none) .dfrT) ht' hm ht rfl hk hf
            exact ⟨v', w', fr', h1, h2, .head (step_unwind hm hd e2) h3, h4, h5⟩
      · cases hp
    · cases hp

theorem fillT_get : ∀ (l : List Value) (i : Nat) (t : T Value) (j : Nat), i + l.length ≤ top → (fillT 21 l i t).get j = if i ≤ j ∧ j < i + l.length then l[j - i]? else t.get j
  | [], i, t, j, _ => by rw [if_neg (by simp only [List.length_nil]; omega)]; rfl
  | v :: l, i, t, j, h => by
    simp only [List.length_cons] at h
    unfold fillT
    rw [fillT_get l (i + 1) _ j (by omega), T.get_put _ _ _ (by omega)]
    by_cases h1 : i + 1 ≤ j ∧ j < i + 1 + l.length
    · rw [if_pos h1, if_pos (by simp only [List.length_cons]; omega), show j - i = (j - (i + 1)) + 1 from by omega]
      simp
    · rw [if_neg h1]
      by_cases h2 : j = i
      · subst h2; rw [if_pos rfl, if_pos (by simp)]; simp
      · rw [if_neg h2, if_neg (by simp only [List.length_cons]; omega)]

theorem fillT_tr {args args' : List Value} (h : VRs β args args') {nt : Nat} (hn : args.length ≤ nt) (ht : args.length ≤ top) :
    TR β nt (fillT 21 args 0 .nil) ((⟨args'⟩ : Array Value) ++ Array.replicate (nt - (⟨args'⟩ : Array Value).size) undef) := by
  refine ⟨by simp [h.length]; omega, fun t => ?_⟩
  unfold tget orU
  rw [fillT_get args 0 .nil t (by omega)]
  simp only [Array.getD_eq_getD_getElem?, Array.getElem?_append, Nat.zero_le, true_and, Nat.zero_add, Nat.sub_zero]
  by_cases ht' : t < args.length
  · rw [if_pos ht']
    have : t < args'.length := by rw [h.length]; exact ht'
    obtain ⟨v', h1, h2⟩ := h.get? (List.getElem?_eq_getElem ht')
    rw [List.getElem?_eq_getElem ht']
    have hs : t < (⟨args'⟩ : Array Value).size := this
    rw [if_pos hs, arr_get, h1]
    exact h2
  · rw [if_neg ht']
    have hs : ¬ t < (⟨args'⟩ : Array Value).size := by show ¬ t < args'.length; rw [h.length]; exact ht'
    rw [if_neg hs, Array.getElem?_replicate]
    split
    · exact .undef
    · exact .undef

/-- A call. -/
theorem fresh_good {rec : Rec} (hG : Good P G rec) (f : FuncId) (args : List Value) (V : VW) : CallOk P G (freshT f args V P rec) f args V := by
  intro v V' hp B β w args' hB hW hA _ cs
  unfold freshT at hp
  split at hp
  · rename_i fc hfc
    obtain ⟨hfn, hbody, _, hok⟩ := fnOf_spec hfc
    obtain ⟨fn, c⟩ := fc
    simp only at hfn hbody hok
    unfold enterGo at hp
    split at hp
    · rename_i hle
      have hle := Nat.le_of_ble_eq_true hle
      rw [lenL_eq] at hle
      have hle1 : args.length ≤ fn.ntmps := Nat.le_trans hle (Nat.min_le_left _ _)
      have hle2 : args.length ≤ top := Nat.le_trans hle (Nat.min_le_right _ _)
      have hT := fillT_tr hA hle1 hle2
      let b : Frame := { fn := f, tmps := #[], todo := [], defers := [], mode := .run, kind := .normal }
      have henter : Frame.enter P f ⟨args'⟩ .normal = b.atR { tmps := (⟨args'⟩ : Array Value) ++ Array.replicate (fn.ntmps - (⟨args'⟩ : Array Value).size) undef, defers := [] } [.code c] := by
        simp [Frame.enter, Frame.atR, hfn, hbody, b]
      have hF : Frm β ⟨f, fn.ntmps, none⟩ b := ⟨rfl, rfl, fun _ => rfl, fun l hl => by cases hl⟩
      have key := fun x s1 hr => hG.code c ⟨f, fn.ntmps, none⟩ ⟨fillT 21 args 0 .nil, V, []⟩ hok x s1 hr B β ⟨(⟨args'⟩ : Array Value) ++ Array.replicate (fn.ntmps - (⟨args'⟩ : Array Value).size) undef, []⟩ w b [] cs hB hW ⟨hT, .nil⟩ hF
      have fin : ∀ (x : X) (s1 : St), rec (.code c ⟨f, fn.ntmps, none⟩ ⟨fillT 21 args 0 .nil, V, []⟩) = .fall x s1 → leaveGo P fn f s1 s1.V s1.df = .val v V' → (x = .normal ∨ x = .ret) →
          ∃ β' v' w' fr, Ext β β' ∧ WR P B β' V' w' ∧ VR β' v v' ∧ Steps P (lone (Frame.enter P f ⟨args'⟩ .normal) cs w) (lone fr cs w') ∧ fr.fn = f ∧ fr.leaving P w' (.returned v') := by
        intro x s1 hr hl hx
        obtain ⟨β1, a1, w1, e1, e2, e3, e4⟩ := key x s1 hr
        rw [henter]
        rcases hx with rfl | rfl
        · obtain ⟨v', w', fr', g1, g2, g3, g4, g5⟩ := leave_ok hfn e3.tm s1.df s1.V w1 a1.defers { b.atR a1 [] with mode := .returning } (cs := cs) hl e2 e3.df rfl rfl rfl rfl rfl
          exact ⟨β1, v', w', fr', e1, g1, g2, Steps.trans e4 (.head (stepR_end rfl) g3), g4, g5⟩
        · obtain ⟨k', e4⟩ := e4
          obtain ⟨v', w', fr', g1, g2, g3, g4, g5⟩ := leave_ok hfn e3.tm s1.df s1.V w1 a1.defers { b.atR a1 (.code .ret :: k') with mode := .returning } (cs := cs) hl e2 e3.df rfl rfl rfl rfl rfl
          exact ⟨β1, v', w', fr', e1, g1, g2, Steps.trans e4 (.head (stepR_ret rfl) g3), g4, g5⟩
      unfold startGo at hp
      split at hp
      · rename_i s1 hr; exact fin _ s1 hr hp (.inl rfl)
      · rename_i s1 hr; exact fin _ s1 hr hp (.inr rfl)
      · cases hp
      · cases hp
    · cases hp
  · cases hp

theorem setL_tr {nt : Nat} : ∀ (ps : List Tmp) (args args' : List Value) (tm : T Value) (tmps : Array Value), VRs β args args' → TR β nt tm tmps → ps.length = args.length → (ps.all fun t => Nat.blt t nt && Nat.blt t top) = true →
    TR β nt (roundGo.setL tm ps args) ((ps.zip args').foldl (fun tmps (t, a) => tmps.setIfInBounds t a) tmps)
  | [], [], _, tm, tmps, .nil, hT, _, _ => hT
  | [], _ :: _, _, _, _, _, _, h, _ => by simp at h
  | _ :: _, [], _, _, _, _, _, h, _ => by simp at h
  | t :: ps, v :: args, _, tm, tmps, .cons hv hvs, hT, h, hall => by
    simp only [List.all_cons, Bool.and_eq_true] at hall
    obtain ⟨⟨h1, h2⟩, h3⟩ := hall
    have := setL_tr ps args _ (tm.set 21 t v) (tmps.setIfInBounds t _) hvs (hT.put (blt_lt h1) (blt_lt h2) hv) (by simpa using h) h3
    simpa [roundGo.setL] using this

/-- A round. -/
theorem round_good {rec : Rec} (hG : Good P G rec) (l : Nat) (args : List Value) (V : VW) : RoundOk P G (roundGo rec l args V) l args V := by
  intro v V' hp B β w args' l' hB hW hA hl
  unfold roundGo at hp
  split at hp
  · rename_i pend0 fn nt tm ps as bd hg
    obtain ⟨cp, sh, o', e1, e2, e3⟩ := hl.obj hW hg nofun
    cases e3 with
    | @loop _ _ _ _ _ tmps _ _ _ d' hT hk =>
      obtain ⟨hka, hkb, _⟩ := hk
      split at hp
      · cases hp
      · rename_i hcond
        simp only [Bool.or_eq_true, Bool.not_eq_true', not_or, Bool.not_eq_false] at hcond
        obtain ⟨⟨hlen, hfl⟩, hall⟩ := hcond
        have hlen : ps.toList.length = args.length := by simpa using hlen
        have hfl := Nat.le_of_ble_eq_true hfl
        refine ⟨_, e2, by rw [hA.length, ← hlen]; simp, fun c cs => ?_⟩
        let bf : Frame := { fn := fn, tmps := #[], todo := [], defers := [], mode := .run, kind := .normal, roundOf := some l' }
        have hz : (ps.zip (⟨args'⟩ : Array Value)) = ⟨ps.toList.zip args'⟩ := by apply Array.ext'; simp
        have hfold : ((ps.zip (⟨args'⟩ : Array Value)).foldl (fun tmps (t, a) => tmps.setIfInBounds t a) tmps) = (ps.toList.zip args').foldl (fun tmps (t, a) => tmps.setIfInBounds t a) tmps := by
          rw [hz]; simp
        have hT1 := setL_tr ps.toList args args' tm tmps hA hT hlen hall
        have hround : Frame.round l' fn ((ps.zip (⟨args'⟩ : Array Value)).foldl (fun tmps (t, a) => tmps.setIfInBounds t a) tmps) as bd .normal =
            bf.atR ⟨(ps.toList.zip args').foldl (fun tmps (t, a) => tmps.setIfInBounds t a) tmps, []⟩ ([.code as] ++ [.beginRound, .code bd]) := by
          rw [hfold]; rfl
        have hF : ∀ β1, Ext β β1 → Frm β1 ⟨fn, nt, some l⟩ bf := fun β1 hx => ⟨rfl, rfl, fun hh => (by cases hh), fun l0 hl0 => (by cases hl0; exact ⟨l', rfl, hl.mono hx⟩)⟩
        split at hp
        · rename_i s1 hr1
          obtain ⟨β1, a1, w1, f1, f2, f3, f4⟩ := hG.code as ⟨fn, nt, some l⟩ ⟨roundGo.setL tm ps.toList args, V, []⟩ hka _ s1 hr1 B β ⟨(ps.toList.zip args').foldl (fun tmps (t, a) => tmps.setIfInBounds t a) tmps, []⟩ w bf [.beginRound, .code bd] (c :: cs) hB hW ⟨hT1, .nil⟩ (hF β (.refl _))
          split at hp
          · rename_i pend1 fn1 nt1 tm1 ps1 as1 bd1 hg1
            split at hp
            · cases hp
            · rename_i hfl1
              have hfl1 : s1.V.floor ≤ l := by simpa using hfl1
              obtain ⟨cp1, sh1, o1, g1, g2, g3⟩ := (hl.mono f1).obj f2 hg1 nofun
              cases g3 with
              | @loop _ _ _ _ _ tmps1 _ _ _ d1 hT1' hk1 =>
                have hbegin := run_beginRound (P := P) g2 rfl
                have hW2 := f2.put (o := .loop .busy pend1 fn1 nt1 tm1 ps1 as1 bd1) g1 hfl1 (.loop (d' := d1) hT1' hk1)
                have key := fun x s2 hr => hG.code bd ⟨fn, nt, some l⟩ { s1 with V := s1.V.put l (.loop .busy pend1 fn1 nt1 tm1 ps1 as1 bd1) } hkb x s2 hr B β1 a1 _ bf [] (c :: cs) hB hW2 ⟨f3.tm, f3.df⟩ (hF β1 f1)
                have hstart : Steps P (lone (Frame.round l' fn ((ps.zip (⟨args'⟩ : Array Value)).foldl (fun tmps (t, a) => tmps.setIfInBounds t a) tmps) as bd .normal) (c :: cs) w)
                    (lone (bf.atR a1 ([.code bd] ++ [])) (c :: cs) (w1.putObj l' (.loop { state := .busy, pending := pend1, fn := fn1, tmps := tmps1, params := ps1, assign := as1, body := bd1, defers := d1 }))) := by
                  rw [hround]
                  exact Steps.trans f4 (.one (stepR_beginRound rfl hbegin))
                unfold roundGo.endGo at hp
                split at hp
                · rename_i x s2 hr2
                  obtain ⟨β2, a2, w2, k1, k2, k3, k4⟩ := key x s2 hr2
                  split at hp
                  · rename_i st2 pend2 fn2 nt2 tm2 ps2 as2 bd2 hg2
                    split at hp
                    · cases hp
                    · rename_i hfl2
                      have hfl2 : s2.V.floor ≤ l := by simpa using hfl2
                      obtain ⟨cp2, sh2, o2, m1, m2, m3⟩ := ((hl.mono f1).mono k1).obj k2 hg2 nofun
                      cases m3 with
                      | @loop _ _ _ _ _ tmps2 _ _ _ d2 hT2 hk2 =>
                        obtain ⟨hk2a, hk2b, _⟩ := hk2
                        have hend : ∀ jump, (Instr.endRound l' jump).run P w2 = .ok (.bool jump.isNone) (w2.putObj l' (.loop { state := if jump.isNone then .ready else .done, pending := jump, fn := fn2, tmps := tmps2, params := ps2, assign := as2, body := bd2, defers := d2 })) := fun jump => run_endRound (P := P) jump m2
                        have out : ∀ jump : Option Code, (∀ c', jump = some c' → okCode P c' = true) → WR P B β2 (s2.V.put l (.loop (if jump.isNone then .ready else .done) jump fn2 nt2 tm2 ps2 as2 bd2)) (w2.putObj l' (.loop { state := if jump.isNone then .ready else .done, pending := jump, fn := fn2, tmps := tmps2, params := ps2, assign := as2, body := bd2, defers := d2 })) :=
                          fun jump hj => k2.put m1 hfl2 (.loop hT2 ⟨hk2a, hk2b, hj⟩)
                        cases x with
                        | normal =>
                          cases hp
                          exact ⟨β2, .bool true, _, f1.trans k1, out none (fun _ h => by cases h), .atom rfl, hstart.trans (Steps.trans k4 (.one (stepR_round_end rfl rfl (hend none))))⟩
                        | ret =>
                          cases hp
                          obtain ⟨k', k4⟩ := k4
                          exact ⟨β2, .bool false, _, f1.trans k1, out (some .ret) (fun _ h => by cases h; rfl), .atom rfl, hstart.trans (Steps.trans k4 (.one (stepR_round_ret rfl rfl (hend (some .ret)))))⟩
                        | exit i =>
                          cases hp
                          obtain ⟨k', k5, k4⟩ := k4
                          exact ⟨β2, .bool false, _, f1.trans k1, out (some (.exit i)) (fun _ h => by cases h; rfl), .atom rfl, hstart.trans (Steps.trans k4 (.one (stepR_round_exit rfl rfl (by rw [k5]; rfl) (hend (some (.exit i))))))⟩
                        | goto i =>
                          cases hp
                          obtain ⟨k', k5, k4⟩ := k4
                          exact ⟨β2, .bool false, _, f1.trans k1, out (some (.goto i)) (fun _ h => by cases h; rfl), .atom rfl, hstart.trans (Steps.trans k4 (.one (stepR_round_goto rfl rfl (by rw [k5]; rfl) (hend (some (.goto i))))))⟩
                  · cases hp
                · cases hp
                · cases hp
          · cases hp
        · cases hp
        · cases hp
  · cases hp

/-! ### A range over a function -/
theorem run_enterLoop_inner {l : Nat} {r : Loop} (h : w.heap[l]? = some (.loop r)) (fn : FuncId) (tmps : Array Value) (ps : Array Tmp) (assign body : Code) :
    (Instr.enterLoop fn tmps ps assign body (some l)).run P w =
      .ok (w.heap.size, []) (w.alloc (.loop { state := .ready, pending := none, fn, tmps, params := ps, assign, body, defers := r.defers })) := by
  unfold Instr.enterLoop
  simp only [Sem.run_bind, run_getLoop h, run_newObj_alloc, Result.andThen, Sem.run_pure]

theorem stepR_range {b : Frame} {a : Act} {k : List Item} {cs : List Frame} {f : Operand} {ps : Array Tmp} {as body : Code} {l g : Nat} {mark : List Deferred} {w1 : World} {first captured : Array Value}
    (hl : (Instr.enterLoop b.fn a.tmps ps as body b.roundOf).run P w = .ok (l, mark) w1) (hf : a.eval f = .func (.func g) first captured)
    (hr : ∀ args, (callFunc g args).run P w1 = .ok (.enter g args) w1) :
    step P (lone (b.atR a (.code (.rangeFunc f ps as body) :: k)) cs w) =
      .next (lone (Frame.enter P g ((first ++ #[.func (.yield l) #[] #[]]) ++ captured) .normal) (b.atR ⟨a.tmps, mark ++ a.defers⟩ (.inRangeFunc l :: k) :: cs) w1) := by
  have he : ({ fn := b.fn, tmps := a.tmps, todo := Item.inRangeFunc l :: k, defers := mark ++ a.defers, mode := .run, kind := b.kind, roundOf := b.roundOf } : Frame).eval = a.eval := Frame.eval_atR b ⟨a.tmps, mark ++ a.defers⟩ (.inRangeFunc l :: k)
  have hsem : (do let d ← resolve a.eval { callee := .value f, args := #[.const (.func (.yield l) #[] #[])], argTypes := #[] } 0; invoke d.target d.args : Sem Next).run P w1 = .ok (.enter g ((first ++ #[.func (.yield l) #[] #[]]) ++ captured)) w1 := by
    have hm : (#[.const (.func (.yield l) #[] #[])] : Array Operand).map a.eval = #[.func (.yield l) #[] #[]] := by simp [Act.eval]
    simp only [resolve, hm, hf, Deferred.ofValue, Sem.run_bind, Sem.run_pure, Result.andThen_ok, invoke]
    exact hr _
  refine step_lone_go ?_
  simp only [stepG, stepG.exec, Frame.atR, Sem.runT_eq, hl]
  simp only [stepG.apply, he, Sem.runT_eq, hsem]
  simp

theorem stepR_endRange {b : Frame} {a : Act} {k : List Item} {cs : List Frame} {l : Nat} {jump : Option Code} {w' : World} (h : (Instr.endLoop l).run P w = .ok jump w') :
    step P (lone (b.atR a (.endRangeFunc l :: k)) cs w) = .next (lone (b.atR a ((jump.map Item.code).toList ++ k)) cs w') :=
  step_lone_go (by simp [stepG, stepG.exec, Frame.atR, Sem.runT_eq, h])

theorem finish_range {b : Frame} {a : Act} {k : List Item} {l : Nat} {v : Value} : (b.atR a (.inRangeFunc l :: k)).finish v = b.atR a (.endRangeFunc l :: k) := by
  simp [Frame.finish, Frame.atR]

theorem rangeBack_ok {rec : Rec} (hG : Good P G rec) {E : Env} {s : St} {l l' : Nat} {df : List Nat} {r : R} {x : X} {s' : St} (hp : rangeBack rec E s l df r = .fall x s') :
    ∃ v V, r = .val v V ∧ ∀ (B : Base) (β : Nat → Ren) (w : World) (a : Act) (b : Frame) (k : List Item) (cs : List Frame), HB P G B → WR P B β V w → RoR β l l' → TR β E.nt s.tm a.tmps → DR β df a.defers → Frm β E b →
      ∃ β' a' w', Ext β β' ∧ WR P B β' s'.V w' ∧ SR β' E s' a' ∧ Way P (lone (b.atR a (.endRangeFunc l' :: k)) cs w) b k cs x a' w' := by
  unfold rangeBack at hp
  split at hp
  · rename_i v V
    refine ⟨v, V, rfl, fun B β w a b k cs hB hW hl hT hD hF => ?_⟩
    split at hp
    · rename_i st pend fn nt tm ps as bd hg
      split at hp
      · cases hp
      · rename_i hc
        simp only [Bool.or_eq_true, Bool.not_eq_true', not_or, Bool.not_eq_true, Bool.not_eq_false] at hc
        have hfl := Nat.le_of_ble_eq_true hc.2
        have hst : st ≠ .busy := fun hh => by subst hh; cases hc.1
        obtain ⟨cp, sh, o', e1, e2, e3⟩ := hl.obj hW hg nofun
        cases e3 with
        | @loop _ _ _ _ _ tmps _ _ _ d' hT' hk =>
          have hend := run_endLoop (P := P) e2 hst
          have hW' := hW.put (o := .loop .exhausted pend fn nt tm ps as bd) e1 hfl (.loop (d' := d') hT' hk)
          split at hp
          · cases hp
            exact ⟨β, a, _, .refl _, hW', ⟨hT, hD⟩, .one (stepR_endRange hend)⟩
          · rename_i c
            obtain ⟨β', a', w', f1, f2, f3, f4⟩ := hG.code c E _ (hk.2.2 c rfl) x s' hp B β a _ b k cs hB hW' ⟨hT, hD⟩ hF
            exact ⟨β', a', w', f1, f2, f3, .of_steps (.one (stepR_endRange hend)) f4⟩
    · cases hp
  · cases hp
  · cases hp

theorem range_good {rec : Rec} (hG : Good P G rec) {f : Operand} {ps : Array Tmp} {as bd : Code} {E : Env} {s : St} (hf : okO P f = true) (ha : okCode P as = true) (hb : okCode P bd = true) :
    CodeOk P G (rangeC f ps as bd rec P E s) [.code (.rangeFunc f ps as bd)] E s := by
  intro x s' he B β a w b k cs hB hW hS hF
  have hv := ev_ok hW hS.tm hf
  unfold rangeC at he
  split at he
  · rename_i g fa fc hev
    rw [hev] at hv
    have hfr : ∃ fa' fc', a.eval f = .func (.func g) ⟨fa'⟩ ⟨fc'⟩ ∧ VRs β fa fa' ∧ VRs β fc fc' := by
      obtain ⟨y, hy⟩ : ∃ y, a.eval f = y := ⟨_, rfl⟩
      rw [hy] at hv ⊢
      cases hv with
      | atom h =>
        cases fa with
        | nil => cases fc with
          | nil => exact ⟨[], [], rfl, .nil, .nil⟩
          | cons _ _ => simp [atom] at h
        | cons _ _ => simp [atom] at h
      | func _ h1 h2 => exact ⟨_, _, rfl, h1, h2⟩
    obtain ⟨fa', fc', hfe, h1, h2⟩ := hfr
    split at he
    · cases he
    · rename_i fx hfx
      obtain ⟨hfn, hbody, _, _⟩ := fnOf_spec hfx
      split at he
      · cases he
      · rename_i htop
        have htop : s.V.size + 1 < top := by
          have : Nat.blt (s.V.size + 1) top = true := by simpa using htop
          exact blt_lt this
        have harr : ∀ l, ((⟨fa'⟩ ++ #[.func (.yield l) #[] #[]]) ++ ⟨fc'⟩ : Array Value) = ⟨fa' ++ (.func (.yield l) ⟨[]⟩ ⟨[]⟩ :: fc')⟩ := fun l => by apply Array.ext'; simp
        split at he
        · rename_i hro
          -- outermost
          obtain ⟨v, V, hr, hgo⟩ := rangeBack_ok (l' := w.heap.size + 1) hG he
          obtain ⟨q1, q2⟩ := hW.alloc (by omega : s.V.size < top) 0 0 (o := .dfr false) (o' := .deferred (some [])) .dfr
          obtain ⟨q3, q4⟩ := q1.alloc (by show s.V.size + 1 < top; exact htop) 0 0 (o := .loop .ready none E.fn E.nt s.tm ps as bd)
            (o' := .loop { state := .ready, pending := none, fn := E.fn, tmps := a.tmps, params := ps, assign := as, body := bd, defers := w.heap.size }) (.loop (hS.tm.mono q2) ⟨ha, hb, fun _ hh => by cases hh⟩)
          have hx := q2.trans q4
          generalize hβ2 : upd (upd β s.V.size (.live w.heap.size 0 0)) (s.V.push (.dfr false)).size (.live (w.alloc (.deferred (some []))).heap.size 0 0) = β2 at q3 q4 hx
          have hsz : (w.alloc (.deferred (some []))).heap.size = w.heap.size + 1 := by simp
          have hl2 : β2 (s.V.size + 1) = .live (w.heap.size + 1) 0 0 := by rw [← hβ2, ← hsz]; exact upd_same _ _ _
          have hd2 : β2 s.V.size = .live w.heap.size 0 0 := by
            rw [← hβ2]; rw [upd_ne _ _ (by show s.V.size ≠ s.V.size + 1; omega)]; exact upd_same _ _ _
          have hyield : VR β2 (.func (.yield (s.V.size + 1)) ⟨[]⟩ ⟨[]⟩) (.func (.yield (w.heap.size + 1)) ⟨[]⟩ ⟨[]⟩) := .yield hl2
          rw [appL_eq] at hr
          obtain ⟨β3, v', w3, fr, e1, e2, e3, e4, _, e6⟩ := hG.call g _ _ v V hr B β2 _ _ hB q3 ((h1.mono hx).append (.cons hyield (h2.mono hx))) ⟨_, _, hfn, hbody⟩
            (b.atR ⟨a.tmps, [{ target := .collected w.heap.size, args := #[] }] ++ a.defers⟩ (.inRangeFunc (w.heap.size + 1) :: k) :: cs)
          have hent := run_enterLoop_outer (P := P) (w := w) b.fn a.tmps ps as bd
          rw [hF.fn] at hent
          have hstep := stepR_range (P := P) (b := b) (a := a) (k := k) (cs := cs) (f := f) (ps := ps) (as := as) (body := bd) (by rw [hF.fn, hF.none hro]; exact hent) hfe (fun args => run_callFunc hfx args)
          rw [harr] at hstep
          have hx3 := hx.trans e1
          have hDR : DR β3 (s.V.size :: s.df) ([{ target := .collected w.heap.size, args := #[] }] ++ a.defers) := .cons (RoR.mono e1 (.inl ⟨0, 0, hd2⟩)) (hS.df.mono hx3)
          obtain ⟨β4, a4, w4, g1, g2, g3, g4⟩ := hgo B β3 w3 ⟨a.tmps, [{ target := .collected w.heap.size, args := #[] }] ++ a.defers⟩ b k cs hB e2 (RoR.mono e1 (.inl ⟨0, 0, hl2⟩)) (hS.tm.mono hx3) hDR (hF.mono hx3)
          refine ⟨β4, a4, w4, hx3.trans g1, g2, g3, .of_steps (.head hstep (e4.trans (.one ?_))) g4⟩
          rw [← finish_range (v := v')]; exact step_leave_returned e6
        · rename_i l0 hro
          split at he
          · rename_i st0 pend0 fn0 nt0 tm0 ps0 as0 bd0 hg0
            obtain ⟨l0', hrf, hl0⟩ := hF.some l0 hro
            obtain ⟨cp0, sh0, o0, z1, z2, z3⟩ := hl0.obj hW hg0 nofun
            cases z3 with
            | @loop _ _ _ _ _ tmps0 _ _ _ d0 hT0 hk0 =>
              obtain ⟨v, V, hr, hgo⟩ := rangeBack_ok (l' := w.heap.size) hG he
              obtain ⟨q3, hx⟩ := hW.alloc (by omega : s.V.size < top) 0 0 (o := .loop .ready none E.fn E.nt s.tm ps as bd)
                (o' := .loop { state := .ready, pending := none, fn := E.fn, tmps := a.tmps, params := ps, assign := as, body := bd, defers := d0 }) (.loop hS.tm ⟨ha, hb, fun _ hh => by cases hh⟩)
              generalize hβ2 : upd β s.V.size (.live w.heap.size 0 0) = β2 at q3 hx
              have hl2 : β2 s.V.size = .live w.heap.size 0 0 := by rw [← hβ2]; exact upd_same _ _ _
              have hyield : VR β2 (.func (.yield s.V.size) ⟨[]⟩ ⟨[]⟩) (.func (.yield w.heap.size) ⟨[]⟩ ⟨[]⟩) := .yield hl2
              rw [appL_eq] at hr
              obtain ⟨β3, v', w3, fr, e1, e2, e3, e4, _, e6⟩ := hG.call g _ _ v V hr B β2 _ _ hB q3 ((h1.mono hx).append (.cons hyield (h2.mono hx))) ⟨_, _, hfn, hbody⟩
                (b.atR ⟨a.tmps, [] ++ a.defers⟩ (.inRangeFunc w.heap.size :: k) :: cs)
              have hent := run_enterLoop_inner (P := P) z2 b.fn a.tmps ps as bd
              rw [hF.fn] at hent
              have hstep := stepR_range (P := P) (b := b) (a := a) (k := k) (cs := cs) (f := f) (ps := ps) (as := as) (body := bd) (by rw [hF.fn, hrf]; exact hent) hfe (fun args => run_callFunc hfx args)
              rw [harr] at hstep
              have hx3 := hx.trans e1
              obtain ⟨β4, a4, w4, g1, g2, g3, g4⟩ := hgo B β3 w3 ⟨a.tmps, [] ++ a.defers⟩ b k cs hB e2 (RoR.mono e1 (.inl ⟨0, 0, hl2⟩)) (hS.tm.mono hx3) (hS.df.mono hx3) (hF.mono hx3)
              refine ⟨β4, a4, w4, hx3.trans g1, g2, g3, .of_steps (.head hstep (e4.trans (.one ?_))) g4⟩
              rw [← finish_range (v := v')]; exact step_leave_returned e6
          · cases he
  · cases he
end
end Go.Vx
