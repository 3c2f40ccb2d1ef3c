/-
  Says: Regions whose operations come in any order: a load, a store, a new variable, whatever else.
-/
import Derived.Test.YtghkkohjmleepaaDoorVx16
/-! Regions whose operations come in any order: a load, a store, a new variable, whatever else. -/
set_option linter.unusedVariables false
set_option linter.unusedSimpArgs false
namespace Go.Vx
open Go.RowKit

section
variable {P : Program} {G : VW} {rec : Rec} {E : Env} {ops : Array Oper} {S : Nat → St} {B : Base} {D : Nat → Prop} {β : Nat → Ren} {a : Act} {w : World}

theorem no_wr {i : Nat} (hi : i < ops.size) (h3 : clsOf ops[i].op ≠ 3) (h4 : clsOf ops[i].op ≠ 4) (x : Nat) : ¬ Wr ops S i x := fun h => by
  rcases wr_cls hi h with ⟨_, h⟩ | ⟨_, h⟩
  · exact h4 h
  · exact h3 h
theorem no_five {i : Nat} (hi : i < ops.size) (h4 : clsOf ops[i].op ≠ 4) : (clsL ops.toList)[i]? ≠ some 5 := fun h5 => by
  rcases clsL_of hi h5 with ⟨_, h⟩ | ⟨_, h⟩
  · exact h rfl
  · exact h4 h
theorem no_store {i : Nat} (hi : i < ops.size) (h3 : clsOf ops[i].op ≠ 3) (x : Nat) : foot ops.toList ops[i] (S i).tm ≠ some (x, true) := fun h => h3 (foot_store h)

theorem size_glob (F : Facts P G rec E ops S B) {i : Nat} (hi : i ≤ ops.size) : P.globals.size ≤ (S i).V.size := by
  have := size_le F i 0 (by omega) hi
  have := F.gsz
  have := F.gfl
  omega

/-- The block of a pointer, at its place in the order. -/
theorem block_at (F : Facts P G rec E ops S B) (I : Inv P E ops S B D β a w) {i : Nat} (hr : ReadyD ops.toList D i) (hi : i < ops.size) (hc : 2 ≤ clsOf ops[i].op) {x : Operand} (hx : x ∈ ops[i].op.operands) {y off : Nat} {s : Bool}
    (hev : ev (S i).tm x = .pointer (some ⟨y, off, none⟩)) (hf : foot ops.toList ops[i] (S i).tm = some (y, s)) (hg : (S i).V.heap.get y ≠ some (.dfr true)) :
    ∃ b cp sh o o', a.eval x = .pointer (some ⟨b, off + sh, none⟩) ∧ β y = .live b cp sh ∧ y < (S i).V.size ∧ Settled ops S D i y ∧ (S i).V.heap.get y = some o ∧ w.heap[b]? = some o' ∧ ObjR P β cp sh o o' := by
  have hv := look_op F I hr hi x hx
  have hv' := look_cut F I hr hi x hx
  rw [hev] at hv hv'
  have hlt := idx_ptr (N := (S i).V.size) (fun y hy => cutR_ge hy) hv'
  have hs := settled_foot F I hr hi hc hf
  generalize a.eval x = z at hv ⊢
  cases hv with
  | atom h => simp [atom] at h
  | ptr e =>
    obtain ⟨o, o', h1, h2, h3⟩ := mem_at F I (Nat.le_of_lt hi) e hs hlt
    exact ⟨_, _, _, o, o', rfl, e, hlt, hs, h1, h2, h3⟩
  | ptrD e => exact absurd (dead_at F I (Nat.le_of_lt hi) e hs hlt) hg

theorem load_step (F : Facts P G rec E ops S B) (I : Inv P E ops S B D β a w) {i : Nat} (hr : ReadyD ops.toList D i) (hi : i < ops.size) {t : TypeId} {ad : Operand} (hop : ops[i].op = .load t ad) {v : Value}
    (hput : (ops[i].dst = none ∧ (S (i + 1)).tm = (S i).tm) ∨ ∃ t, ops[i].dst = some t ∧ t < E.nt ∧ t < top ∧ (S (i + 1)).tm = (S i).tm.set 21 t v)
    (hw : wantGo ops.toList ops[i] (S i).tm = true) {V' : VW} (hp : plainGo P ops[i] (ev (S i).tm) (upV (S i).V) = .val v V') :
    ∃ v', RunsTo P (execOp a.eval ops[i]) w v' w ∧ Inv P E ops S B (fun j => D j ∨ j = i) β (a.put ops[i].dst v') w := by
  have hc : clsOf ops[i].op = 2 := by rw [hop]; rfl
  have hp' : loadO t ad P (ev (S i).tm) (upV (S i).V) = .val v V' := by
    unfold plainGo opK at hp; rw [hop] at hp; exact hp
  obtain ⟨hl, _⟩ := ofV_spec (show ofV _ _ = _ from hp')
  have hl2 := hl
  unfold loadGo at hl
  split at hl
  · rename_i bo hbo
    have hev := blockOf_spec hbo
    split at hl
    · rename_i c hrow
      obtain ⟨e, fz, hg⟩ := rowOf_spec hrow
      have hg : (S i).V.heap.get bo.1 = some (.cells c e fz) := hg
      have hf : foot ops.toList ops[i] (S i).tm = some (bo.1, false) := by
        unfold foot; rw [hw, hop]; simp only [footOf, hbo]; rfl
      obtain ⟨b, cp, sh, o, o', h1, h2, h3, h4, h5, h6, h7⟩ := block_at F I hr hi (by omega) (x := ad) (by rw [hop]; simp [Op.operands]) hev hf (by rw [hg]; nofun)
      rw [hev] at hl2
      obtain ⟨v', g1, g2⟩ := load_core (V := upV (S i).V) h5 h6 h7 hl2
      refine ⟨v', .inl ?_, inv_same F I hr hi (.refl _ _) g2 hput (fun x _ => .inl (no_wr hi (by omega) (by omega) x)) (fun h5 => absurd h5 (no_five hi (by omega))) (fun x h => absurd h (no_store hi (by omega) x))⟩
      have : execOp a.eval ops[i] = (do pure (Next.value (← Instr.loadAt t (a.eval ad))) : Sem Next) := by
        unfold execOp; rw [hop]
      rw [this, h1]
      exact run_v g1
    · cases hl
  · cases hl

theorem store_step (F : Facts P G rec E ops S B) (I : Inv P E ops S B D β a w) {i : Nat} (hr : ReadyD ops.toList D i) (hi : i < ops.size) (hc : clsOf ops[i].op = 3) {v : Value}
    (hput : (ops[i].dst = none ∧ (S (i + 1)).tm = (S i).tm) ∨ ∃ t, ops[i].dst = some t ∧ t < E.nt ∧ t < top ∧ (S (i + 1)).tm = (S i).tm.set 21 t v)
    (hw : wantGo ops.toList ops[i] (S i).tm = true) {V' : VW} (hp : opGo rec P E ops[i] (S i) (S i).V = .val v V') (hV : (S (i + 1)).V.heap = V'.heap) :
    ∃ v' w', RunsTo P (execOp a.eval ops[i]) w v' w' ∧ Inv P E ops S B (fun j => D j ∨ j = i) β (a.put ops[i].dst v') w' := by
  obtain ⟨t, ad, xv, hop⟩ := clsOf_three hc
  obtain ⟨y, off, l, c, e, hev, hf, hg, hfl, hle, rfl, rfl, rfl, hsz, hone⟩ := store_foot hop hw hp
  obtain ⟨b, cp, sh, o, o', h1, h2, h3, h4, h5, h6, h7⟩ := block_at F I hr hi (by omega) (x := ad) (by rw [hop]; simp [Op.operands]) hev hf (by rw [hg]; nofun)
  rw [hg] at h5
  cases h5
  have hxv := look_op F I hr hi xv (by rw [hop]; simp [Op.operands])
  obtain ⟨o2, g1, g2⟩ := store_core h6 h7 hxv hle hsz hone
  have hyt : y < top := Nat.lt_of_lt_of_le h3 (F.top i (Nat.le_of_lt hi))
  have hfl0 : (S 0).V.floor ≤ y := by rw [← F.floor i (Nat.le_of_lt hi)]; exact hfl
  have hnw : ∀ x, x ≠ y → ¬ Wr ops S i x := fun x hx h => by
    rcases wr_cls hi h with ⟨_, h⟩ | ⟨h, _⟩
    · omega
    · rw [hf] at h; cases h; exact hx rfl
  refine ⟨undef, w.putObj b o2, .inr ⟨rfl, ?_⟩, inv_step F I hr hi (.refl _) .undef hput (fun _ _ => rfl) (fun _ h => .inl h) (fun x b' cp' sh' he => ?_) (fun x he => ?_) I.inj I.own
    (Below.putObj I.base (I.own _ _ _ _ h2 hfl0).1 _) (fun b' hb' => ?_) (fun h5 => absurd h5 (no_five hi (by omega))) (fun x h => ?_)⟩
  · have : execOp a.eval ops[i] = (do Instr.storeAt t (a.eval ad) (a.eval xv); pure Next.skip : Sem Next) := by
      unfold execOp; rw [hop]
    rw [this, h1]
    exact run_u g1
  · by_cases hx : x = y
    · subst hx
      rw [h2] at he; cases he
      exact ⟨i + 1, hi, settled_succ hr.2.1 h4, Nat.lt_of_lt_of_le h3 (F.size i hi), _, o2, by rw [hV, VW.get_put hyt, if_pos rfl], heap_put_same h6, g2⟩
    · obtain ⟨k, k1, k2, k3, p, p', k4, k5, k6⟩ := I.mem x b' cp' sh' he
      refine ⟨k, k1, settled_same k2 (hnw x hx), k3, p, p', k4, ?_, k6⟩
      rw [World.putObj_heap_other]; · exact k5
      intro hb; subst hb; exact hx (I.inj _ _ _ _ _ _ _ he h2)
  · have hx : x ≠ y := fun hh => by subst hh; rw [h2] at he; cases he
    obtain ⟨k, k1, k2, k3, k4⟩ := I.dead x he
    exact ⟨k, k1, settled_same k2 (hnw x hx), k3, k4⟩
  · obtain ⟨k1, k2⟩ := I.kept b' hb'
    have hne : b' ≠ b := fun hh => by subst hh; exact (I.own _ _ _ _ h2 hfl0).2 hb'
    exact ⟨by simpa using k1, by rw [World.putObj_heap_other hne]; exact k2⟩
  · rw [hf] at h; cases h; rw [h2]; nofun

/-- What the order makes later is not there yet. -/
theorem new_fresh (F : Facts P G rec E ops S B) (I : Inv P E ops S B D β a w) {i : Nat} (hDi : ¬ D i) (hi : i < ops.size) {x : Nat} (h1 : (S i).V.size ≤ x) (h2 : x < (S (i + 1)).V.size) : β x = .fresh := by
  cases hb : β x with
  | fresh => rfl
  | _ =>
    rcases I.vis x (by rw [hb]; nofun) with h | ⟨j, hD, hj, h3, h4⟩
    · have := size_le F i 0 (by omega) (by omega); omega
    · rcases Nat.lt_trichotomy j i with h | h | h
      · have := size_le F i (j + 1) (by omega) (by omega); omega
      · subst h; exact absurd hD hDi
      · have := size_le F j (i + 1) (by omega) (by omega); omega

theorem ev_bd (F : Facts P G rec E ops S B) {j : Nat} (hj : j < ops.size) {x : Operand} (hx : x ∈ ops[j].op.operands) : ∃ β0 v0, (∀ y, (S j).V.size ≤ y → β0 y = .fresh) ∧ VR β0 (ev (S j).tm x) v0 := by
  have hok := okOp_mem (okOps_mem F.ok ops[j] (by simp)) x hx
  cases x with
  | tmp t => exact F.tmps j (Nat.le_of_lt hj) t
  | const v => exact ⟨fun _ => .fresh, v, fun _ _ => rfl, VR.flat hok⟩
  | global g =>
    have hg : g < P.globals.size := blt_lt hok
    have := size_glob F (Nat.le_of_lt hj)
    exact ⟨cutR (S j).V.size fun y => .live y 0 0, _, fun y hy => cutR_ge hy, VR.ptr (o := 0) (by rw [cutR_lt (by omega)])⟩
  | func f => exact ⟨fun _ => .fresh, _, fun _ _ => rfl, .atom rfl⟩

theorem foot_lt (F : Facts P G rec E ops S B) {j : Nat} (hj : j < ops.size) {x : Nat} {s : Bool} (h : foot ops.toList ops[j] (S j).tm = some (x, s)) : x < (S j).V.size := by
  have key : ∀ ad, ad ∈ ops[j].op.operands → ∀ s', (blockOf (ev (S j).tm ad)).map (fun bo => (bo.1, s')) = some (x, s) → x < (S j).V.size := by
    intro ad hm s' hb
    cases hbo : blockOf (ev (S j).tm ad) with
    | none => rw [hbo] at hb; cases hb
    | some bo =>
      rw [hbo] at hb
      cases hb
      obtain ⟨β0, v0, h1, h2⟩ := ev_bd F hj hm
      rw [blockOf_spec hbo] at h2
      exact idx_ptr h1 h2
  unfold foot at h
  split at h
  · unfold footOf at h
    split at h
    · rename_i t ad hq; exact key ad (by rw [hq]; simp [Op.operands]) false h
    · rename_i t ad xv hq; exact key ad (by rw [hq]; simp [Op.operands]) true h
    · cases h
  · cases h

theorem wr_later (F : Facts P G rec E ops S B) {i j x : Nat} (hj : j < ops.size) (hx : (S i).V.size ≤ x) (hi : i < ops.size) (h : Wr ops S j x) : i < j := by
  rcases Nat.lt_or_ge i j with h' | h'
  · exact h'
  · have hs := size_le F i j h' (by omega)
    rcases h with ⟨_, _, h⟩ | ⟨o, h1, h2⟩
    · omega
    · rw [Array.getElem?_eq_getElem hj] at h1; cases h1
      have := foot_lt F hj h2; omega
end
end Go.Vx
