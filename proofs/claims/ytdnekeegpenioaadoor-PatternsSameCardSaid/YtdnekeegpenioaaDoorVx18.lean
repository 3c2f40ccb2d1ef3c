/-
  Says: Regions whose operations come in any order: new variables, whatever else. Regions whose operations come in any order: the whole.
-/
import Derived.Test.YtdnekeegpenioaaDoorVx16
set_option linter.unusedVariables false
set_option linter.unusedSimpArgs false
set_option linter.unusedSectionVars false
/-! Regions whose operations come in any order: new variables, whatever else. -/
namespace Go.Vx
variable [Syms]
variable [Keeps]
open Go.RowKit

section
variable {P : Program} {G : VW} {rec : Rec} {E : Env} {ops : Array Oper} {S : Nat → St} {B : Base} {D : Nat → Prop} {β : Nat → Ren} {a : Act} {w : World}

theorem last_five (D : Nat → Prop) (l : List Nat) (i : Nat) : ∀ n, i + 1 ≤ n → ∃ k, i + 1 ≤ k ∧ k ≤ n ∧ (k = i + 1 ∨ ∃ m, k = m + 1 ∧ i < m ∧ D m ∧ l[m]? = some 5) ∧ ∀ j, k ≤ j → j < n → D j → l[j]? ≠ some 5 := by
  intro n
  induction n with
  | zero => intro h; omega
  | succ n ih =>
    intro h
    rcases Nat.lt_or_ge i n with h' | h'
    · by_cases hn : D n ∧ l[n]? = some 5
      · exact ⟨n + 1, by omega, Nat.le_refl _, .inr ⟨n, rfl, h', hn⟩, fun j h1 h2 => by omega⟩
      · obtain ⟨k, h1, h2, h3, h4⟩ := ih h'
        refine ⟨k, h1, by omega, h3, fun j g1 g2 hD h5 => ?_⟩
        rcases Nat.lt_or_ge j n with g | g
        · exact h4 j g1 g hD h5
        · have : j = n := by omega
          subst this; exact hn ⟨hD, h5⟩
    · exact ⟨i + 1, by omega, h, .inl rfl, fun j h1 h2 => by omega⟩

theorem alloc_spec {o : Oper} (hc : clsOf o.op = 1) {e ρ : Rho} {V V' : VW} {v : Value} (hρ : ∀ x ∈ o.op.operands, VR β (e x) (ρ x)) (hp : plainGo P o e V = .val v V') :
    ∃ c ty c', V.size < top ∧ v = .pointer (some ⟨V.size, 0, none⟩) ∧ V' = V.push (.cells c ty false) ∧ VRs β c c' ∧ RunsTo P (execOp ρ o) w (.pointer (some ⟨w.heap.size, 0, none⟩)) (w.alloc (.cells ⟨c'⟩ ty (0, 0))) := by
  obtain ⟨dst, op, type, pos, after, guard⟩ := o
  cases op <;> first | (simp [clsOf, quiet] at hc; done) | skip
  case alloc t =>
    change allocO t P e V = _ at hp
    unfold allocO at hp
    split at hp
    · rename_i z hz
      obtain ⟨_, _, _, _, _, hat⟩ := zeroL_spec hz
      obtain ⟨h1, h2, h3⟩ := newGo_spec hp
      exact ⟨z, t, z, h1, h2, h3, VRs.atoms hat, .inl (run_v (run_alloc hz))⟩
    · cases hp
  case box t x =>
    change boxO t x P e V = _ at hp
    have hx := hρ x (by simp [Op.operands])
    obtain ⟨h1, h2, h3⟩ := newGo_spec hp
    exact ⟨cellsL (e x), t, cellsL (ρ x), h1, h2, h3, hx.cellsL, .inl (run_v (by
      simp only [Instr.box, newVar, newRow, Sem.run_bind, run_newObj_alloc, Result.andThen_ok, Sem.run_pure, cells_eq]))⟩

theorem alloc_step (F : Facts P G rec E ops S B) (I : Inv P E ops S B D β a w) {i : Nat} (hr : ReadyD ops.toList D i) (hi : i < ops.size) (hc : clsOf ops[i].op = 1) {v : Value}
    (hput : (ops[i].dst = none ∧ (S (i + 1)).tm = (S i).tm) ∨ ∃ t, ops[i].dst = some t ∧ t < E.nt ∧ t < top ∧ (S (i + 1)).tm = (S i).tm.set 21 t v)
    {V' : VW} (hp : plainGo P ops[i] (ev (S i).tm) (upV (S i).V) = .val v V') (hV : (S (i + 1)).V.heap = V'.heap) (hVs : (S (i + 1)).V.size = V'.size) :
    ∃ β' v' w', Ext β β' ∧ RunsTo P (execOp a.eval ops[i]) w v' w' ∧ Inv P E ops S B (fun j => D j ∨ j = i) β' (a.put ops[i].dst v') w' := by
  obtain ⟨c, ty, c', h1, rfl, rfl, h4, h5⟩ := alloc_spec (w := w) hc (look_op F I hr hi) hp
  have h1 : (S i).V.size < top := h1
  have hN1 : (S (i + 1)).V.size = (S i).V.size + 1 := hVs
  obtain ⟨N, hN⟩ : ∃ N, (S i).V.size = N := ⟨_, rfl⟩
  have hget : ∀ x, (S (i + 1)).V.heap.get x = if x = N then some (.cells c ty false) else (S i).V.heap.get x := fun x => by
    rw [hV, ← hN]; exact VW.get_push (V := upV (S i).V) h1 _ x
  have hf : β N = .fresh := new_fresh F I hr.2.1 hi (by omega) (by omega)
  have hx := Ext.fresh hf (.live w.heap.size 0 0)
  have hnw : ∀ x, ¬ Wr ops S i x := no_wr hi (by omega) (by omega)
  have hfN : (S 0).V.floor ≤ N := by
    have := size_le F i 0 (by omega) (by omega)
    have := F.gsz
    omega
  have hnew : ∃ k, k ≤ ops.size ∧ Settled ops S (fun j => D j ∨ j = i) k N ∧ N < (S k).V.size ∧ (S k).V.heap.get N = some (.cells c ty false) := by
    obtain ⟨k, k1, k2, k3, k4⟩ := last_five D (clsL ops.toList) i ops.size hi
    have hDj : ∀ j, j < ops.size → Wr ops S j N → D j → (clsL ops.toList)[j]? = some 5 := fun j hj hw hD => by
      rcases wr_cls hj hw with ⟨h, _⟩ | ⟨h, _⟩
      · exact h
      · exact absurd hf (I.wrd j hD _ N (Array.getElem?_eq_getElem hj) h)
    have hback : ∀ j, j < ops.size → i < j → j < k → Wr ops S j N → D j := by
      intro j hj hij hjk hw
      rcases k3 with h | ⟨m, rfl, him, hDm, h5⟩
      · omega
      · by_cases hjm : j = m
        · subst hjm; exact hDm
        · have hms : m < ops.size := by omega
          have h2 : 2 ≤ clsOf ops[j].op := by rcases wr_cls hj hw with ⟨_, h⟩ | ⟨_, h⟩ <;> omega
          have hord : ordB (ancsL ops.toList) m j = true := by
            rcases F.drawn.five m (by simpa using hms) h5 j (by simpa using hj) (fun hh => hjm hh.symm) (by simpa using h2) with h | ⟨h, _⟩
            · exact h
            · have := wr_nolook F hj hw
              simp only [Array.getElem_toList] at h
              rw [h] at this; cases this
          rw [ordB_lt (by omega)] at hord
          exact anc_in F.drawn.ord I.closed (m + 1) m (by omega) (by simpa using hms) j hord (I.closed m (by simpa using hms) hDm)
    refine ⟨k, k2, fun j hj hw => ?_, ?_, ?_⟩
    · have hij := wr_later F hj (by omega : (S i).V.size ≤ N) hi hw
      constructor
      · rintro (hD | rfl)
        · rcases Nat.lt_or_ge j k with h | h
          · exact h
          · exact absurd (hDj j hj hw hD) (k4 j h hj hD)
        · omega
      · intro hjk
        exact .inl (hback j hj hij hjk hw)
    · have := size_le F k (i + 1) k1 k2; omega
    · rw [chain_le F (x := N) (k := i + 1) (by omega) k k1 k2 fun j g1 g2 => ?_, hget, if_pos rfl]
      have hj : j < ops.size := by omega
      by_cases hw : Wr ops S j N
      · have hD := hback j hj (by omega) g2 hw
        have := size_le F j (i + 1) g1 (by omega)
        exact .inr (I.frs j hD (hDj j hj hw hD) N (by omega) hf)
      · exact .inl hw
  have hvr : VR (upd β N (.live w.heap.size 0 0)) (.pointer (some ⟨(upV (S i).V).size, 0, none⟩)) (.pointer (some ⟨w.heap.size, 0, none⟩)) :=
    VR.ptr (o := 0) (cp := 0) (sh := 0) (by show upd β N _ (S i).V.size = _; rw [hN]; exact upd_same _ _ _)
  refine ⟨upd β N (.live w.heap.size 0 0), _, _, hx, h5, inv_step F I hr hi hx hvr hput (fun x hxl => upd_ne _ _ (by omega)) (fun x hxf => ?_) (fun x b cp sh he => ?_) (fun x he => ?_) ?_ ?_
    (I.base.alloc I.base.size _) (fun b hb => ?_) (fun h5 => absurd h5 (no_five hi (by omega))) (fun x h => absurd h (no_store hi (by omega) x))⟩
  · by_cases hxN : x = N
    · exact .inr (by omega)
    · rw [upd_ne _ _ hxN] at hxf; exact .inl hxf
  · by_cases hxN : x = N
    · subst hxN
      rw [upd_same] at he; cases he
      obtain ⟨k, k1, k2, k3, k4⟩ := hnew
      exact ⟨k, k1, k2, k3, _, _, k4, World.alloc_heap_new w _, (ObjR.whole h4 (by simp)).mono hx⟩
    · rw [upd_ne _ _ hxN] at he
      obtain ⟨k, k1, k2, k3, p, p', k4, k5, k6⟩ := I.mem x b cp sh he
      exact ⟨k, k1, settled_same k2 (hnw x), k3, p, p', k4, by rw [Below.heap_alloc _ _ _ (block_lt k5)]; exact k5, k6.mono hx⟩
  · by_cases hxN : x = N
    · subst hxN; rw [upd_same] at he; cases he
    · rw [upd_ne _ _ hxN] at he
      obtain ⟨k, k1, k2, k3, k4⟩ := I.dead x he
      exact ⟨k, k1, settled_same k2 (hnw x), k3, k4⟩
  · intro x y b cp1 sh1 cp2 sh2 e1 e2
    have old : ∀ y cp sh, β y ≠ .live w.heap.size cp sh := fun y cp sh he => by
      obtain ⟨_, _, _, _, _, p', _, hb, _⟩ := I.mem y _ _ _ he
      have := block_lt hb; omega
    by_cases hxN : x = N
    · by_cases hyN : y = N
      · omega
      · subst hxN; rw [upd_same] at e1; rw [upd_ne _ _ hyN] at e2; cases e1; exact absurd e2 (old _ _ _)
    · rw [upd_ne _ _ hxN] at e1
      by_cases hyN : y = N
      · subst hyN; rw [upd_same] at e2; cases e2; exact absurd e1 (old _ _ _)
      · rw [upd_ne _ _ hyN] at e2; exact I.inj _ _ _ _ _ _ _ e1 e2
  · intro x b cp sh he hxl
    by_cases hxN : x = N
    · subst hxN; rw [upd_same] at he; cases he
      exact ⟨I.base.size, fun hp => absurd (I.kept _ hp).1 (Nat.lt_irrefl _)⟩
    · rw [upd_ne _ _ hxN] at he; exact I.own _ _ _ _ he hxl
  · obtain ⟨k1, k2⟩ := I.kept b hb
    exact ⟨by simp; omega, by rw [Below.heap_alloc _ _ _ k1]; exact k2⟩

/-- Where a look into a map stands, if what is ordered to all others has come before it. -/
theorem look_place (F : Facts P G rec E ops S B) (I : Inv P E ops S B D β a w) {i : Nat} (hr : ReadyD ops.toList D i) (hi : i < ops.size) (h4 : (clsL ops.toList)[i]? = some 4) (hl : isLook ops[i].op = true) :
    ∃ k, i + 1 ≤ k ∧ k ≤ ops.size ∧ (∀ x, Settled ops S D k x) ∧ (k = i + 1 ∨ ∃ m, k = m + 1 ∧ i < m ∧ m < ops.size ∧ (clsL ops.toList)[m]? = some 5 ∧ bit (ancsL ops.toList) m i = false) := by
  obtain ⟨k, k1, k2, k3, k4⟩ := last_five D (clsL ops.toList) i ops.size hi
  have hc4 : clsOf ops[i].op = 4 := by
    rcases clsL_of hi h4 with ⟨h, _⟩ | ⟨h, _⟩
    · omega
    · cases h
  have hord3 : ∀ j, j < ops.size → (clsL ops.toList)[j]? = some 3 → (D j ↔ j < i) := fun j hj h3 => by
    refine ord_settle F I hr hj (fun hh => ?_) (F.drawn.four i j (lenAt_of hi (by obtain ⟨t, m, k, ok, hh⟩ := (show ∃ t m k ok, ops[i].op = .lookup t m k ok by cases hq : ops[i].op <;> rw [hq] at hl <;> simp [isLook] at hl; exact ⟨_, _, _, _, rfl⟩); rw [hh]; rfl)) h4 h3)
    subst hh; rw [h4] at h3; cases h3
  have hfive : ∀ j, j < ops.size → (clsL ops.toList)[j]? = some 5 → j < i → D j := fun j hj h5 hji => by
    rcases F.drawn.five j (by simpa using hj) h5 i (by simpa using hi) (by omega) (by simp only [Array.getElem_toList]; omega) with h | ⟨_, h⟩
    · rw [ordB_comm] at h
      exact (ord_settle F I hr hj (by omega) h).2 hji
    · omega
  refine ⟨k, k1, k2, fun x j hj hw => ?_, ?_⟩
  · have hwc := wr_cls hj hw
    have hnl := wr_nolook F hj hw
    have hji : j ≠ i := fun hh => by subst hh; rw [hl] at hnl; cases hnl
    -- what comes before the last that has run, has run
    have hdown : j < k → i < j → D j := by
      intro hjk hij
      rcases k3 with h | ⟨m, rfl, him, hDm, h5⟩
      · omega
      · by_cases hjm : j = m
        · subst hjm; exact hDm
        · have hms : m < ops.size := by omega
          have h2 : 2 ≤ clsOf ops[j].op := by rcases hwc with ⟨_, h⟩ | ⟨_, h⟩ <;> omega
          rcases F.drawn.five m (by simpa using hms) h5 j (by simpa using hj) (fun hh => hjm hh.symm) (by simpa using h2) with h | ⟨h, _⟩
          · rw [ordB_lt (by omega)] at h
            exact anc_in F.drawn.ord I.closed (m + 1) m (by omega) (by simpa using hms) j h (I.closed m (by simpa using hms) hDm)
          · simp only [Array.getElem_toList] at h
            rw [h] at hnl; cases hnl
    rcases hwc with ⟨h5, _⟩ | ⟨_, h3⟩
    · constructor
      · intro hD
        rcases Nat.lt_or_ge j k with h | h
        · exact h
        · exact absurd h5 (k4 j h hj hD)
      · intro hjk
        rcases Nat.lt_or_ge j i with h | h
        · exact hfive j hj h5 h
        · exact hdown hjk (by omega)
    · have h3' := cls_of_three hj h3
      constructor
      · intro hD
        have := (hord3 j hj h3').1 hD
        omega
      · intro hjk
        rcases Nat.lt_or_ge j i with h | h
        · exact (hord3 j hj h3').2 h
        · exact hdown hjk (by omega)
  · rcases k3 with h | ⟨m, rfl, him, hDm, h5⟩
    · exact .inl h
    · refine .inr ⟨m, rfl, him, by omega, h5, ?_⟩
      cases hb : bit (ancsL ops.toList) m i with
      | false => rfl
      | true =>
        exfalso
        have := (ord_settle F I hr (by omega) (by omega) (show ordB (ancsL ops.toList) i m = true by rw [ordB_comm, ordB_lt him]; exact hb)).1 hDm
        omega

/-- The world, as it stands at a place of the order. -/
theorem wr_at (F : Facts P G rec E ops S B) (I : Inv P E ops S B D β a w) {k : Nat} (hk : k ≤ ops.size) (hall : ∀ x, Settled ops S D k x) :
    WR P ⟨w, upV (S k).V, cutR (S k).V.size β, w, fun _ => False⟩ (cutR (S k).V.size β) (upV (S k).V) w := by
  obtain ⟨N, hN⟩ : ∃ N, (S k).V.size = N := ⟨_, rfl⟩
  have hglN := size_glob F hk
  have hcut : ∀ x b cp sh, cutR N β x = .live b cp sh → x < N ∧ β x = .live b cp sh := fun x b cp sh h => by
    rcases Nat.lt_or_ge x N with h' | h'
    · rw [cutR_lt h'] at h; exact ⟨h', h⟩
    · rw [cutR_ge h'] at h; cases h
  have hcutD : ∀ x, cutR N β x = .dead → x < N ∧ β x = .dead := fun x h => by
    rcases Nat.lt_or_ge x N with h' | h'
    · rw [cutR_lt h'] at h; exact ⟨h', h⟩
    · rw [cutR_ge h'] at h; cases h
  rw [hN]
  refine ⟨fun g hg => by rw [cutR_lt (by omega)]; exact I.glob g hg, by show _ ≤ (S k).V.size; omega, Nat.le_refl _, F.top k hk, fun x hx => cutR_ge (by have : (S k).V.size ≤ x := hx; omega), fun x b cp sh he => ?_, fun x he => ?_,
    fun x y b cp sh cp' sh' h1 h2 => I.inj x y b cp sh cp' sh' (hcut _ _ _ _ h1).2 (hcut _ _ _ _ h2).2,
    fun x b cp sh he hx => absurd (hcut _ _ _ _ he).1 (by have : (S k).V.size ≤ x := hx; omega), fun _ _ => rfl, rfl, fun _ _ => rfl, Nat.le_refl _, .refl _ _, fun _ hq => hq.elim, fun _ _ hf => ⟨hf, rfl⟩, F.bd k hk⟩
  · obtain ⟨h1, h2⟩ := hcut _ _ _ _ he
    obtain ⟨o, o', g1, g2, g3⟩ := mem_at F I hk h2 (hall x) (by omega)
    have hbd := F.bd k hk x o g1
    rw [hN] at hbd
    exact ⟨o, o', g1, g2, g3.cut hbd⟩
  · obtain ⟨h1, h2⟩ := hcutD _ he
    exact dead_at F I hk h2 (hall x) (by omega)

theorem cut_up {n m : Nat} (h : n ≤ m) (β : Nat → Ren) : Ext (cutR n β) (cutR m β) := by
  refine ⟨fun j b cp sh e => ?_, fun j e => ?_⟩ <;> (rcases Nat.lt_or_ge j n with h' | h') <;> first | (rw [cutR_lt h'] at e; rw [cutR_lt (by omega)]; first | exact .inl e | exact e) | (rw [cutR_ge h'] at e; cases e)

theorem isLook_spec {o : Op} (h : isLook o = true) : ∃ t m k ok, o = .lookup t m k ok := by
  cases o <;> first | exact ⟨_, _, _, _, rfl⟩ | cases h

/-- A look into a map, behind what it is not ordered to. -/
theorem look_step (F : Facts P G rec E ops S B) (I : Inv P E ops S B D β a w) {i : Nat} (hr : ReadyD ops.toList D i) (hi : i < ops.size) (h4 : (clsL ops.toList)[i]? = some 4) (hl : isLook ops[i].op = true) {v : Value}
    (hput : (ops[i].dst = none ∧ (S (i + 1)).tm = (S i).tm) ∨ ∃ t, ops[i].dst = some t ∧ t < E.nt ∧ t < top ∧ (S (i + 1)).tm = (S i).tm.set 21 t v)
    (hw : wantGo ops.toList ops[i] (S i).tm = true) {V' : VW} (hp : plainGo P ops[i] (ev (S i).tm) (upV (S i).V) = .val v V') (hV : (S (i + 1)).V.heap = V'.heap) (hVs : (S (i + 1)).V.size = V'.size) :
    ∃ v', RunsTo P (execOp a.eval ops[i]) w v' w ∧ Inv P E ops S B (fun j => D j ∨ j = i) β (a.put ops[i].dst v') w := by
  obtain ⟨t, mo, ko, ok, hop⟩ := isLook_spec hl
  have hc4 : clsOf ops[i].op = 4 := by rw [hop]; rfl
  obtain ⟨k, k1, k2, hall, k3⟩ := look_place F I hr hi h4 hl
  have hW := wr_at F I k2 hall
  have hrun : ∀ V v V', plainGo P ops[i] (ev (S i).tm) V = .val v V' ↔ lookupO t mo ko ok P (ev (S i).tm) V = .val v V' := fun V v V' => by
    unfold plainGo opK; rw [hop]; rfl
  have hsame : ∀ V v V', lookupO t mo ko ok P (ev (S i).tm) V = .val v V' → V' = V := fun V v V' h => by
    unfold lookupO at h
    split at h
    · split at h
      · cases h
      · split at h
        · split at h
          · cases h; rfl
          · cases h; rfl
          · cases h
        · cases h
    · cases h
  have hpk : ∃ V2, lookupO t mo ko ok P (ev (S i).tm) (upV (S k).V) = .val v V2 := by
    rcases k3 with h | ⟨m, h, him, hm, h5, hb⟩
    · have hp0 := (hrun _ _ _).1 hp
      have e1 := hsame _ _ _ hp0
      refine ⟨V', ?_⟩
      have : upV (S k).V = upV (S i).V := by
        subst h
        unfold upV
        rw [hV, hVs, e1]
        rfl
      rw [this]; exact hp0
    · subst h
      rcases F.look i hi m him hm h5 hl hw with h | h
      · rw [hb] at h; cases h
      · unfold lkChk at h
        split at h
        · rename_i d hd
          unfold sameV at h
          split at h
          · rename_i u V2 hu
            have hv : tget (S (i + 1)).tm d = v := by
              rcases hput with ⟨hn, _⟩ | ⟨t', hd', _, htop, htm⟩
              · rw [hn] at hd; cases hd
              · rw [hd'] at hd; cases hd
                rw [htm, tget_set htop, if_pos rfl]
            have he := eqw_eq h
            rw [hv] at he
            subst he
            exact ⟨V2, (hrun _ _ _).1 hu⟩
          · cases h
        · cases h
  obtain ⟨V2, hpk⟩ := hpk
  have hρ := look_cut F I hr hi
  have hsz := size_le F k i (by omega) k2
  have hm := (hρ mo (by rw [hop]; simp [Op.operands])).mono (cut_up hsz β)
  have hk := (hρ ko (by rw [hop]; simp [Op.operands])).mono (cut_up hsz β)
  obtain ⟨v', g1, g2, _⟩ := lookup_ok hW hm hk hpk
  have hnw : ∀ x, ¬ Wr ops S i x := fun x h => by
    have := wr_nolook F hi h
    rw [hl] at this; cases this
  refine ⟨v', .inl ?_, inv_same F I hr hi (.refl _ _) (g2.mono (cut_ext _ _)) hput (fun x _ => .inl (hnw x)) (fun h5 => ?_) (fun x h => ?_)⟩
  · have : execOp a.eval ops[i] = (do pure (Next.value (← Instr.lookup t (a.eval mo) (a.eval ko) ok)) : Sem Next) := by
      unfold execOp; rw [hop]
    rw [this]
    exact run_v g1
  · have := F.drawn.nolook i (by simpa using hi) h5
    simp only [Array.getElem_toList] at this
    rw [hl] at this; cases this
  · have := foot_store h; omega

/-- Whatever stands in order to all that writes. -/
theorem whole_step (hG : Good P G rec) (F : Facts P G rec E ops S B) (I : Inv P E ops S B D β a w) {i : Nat} (hr : ReadyD ops.toList D i) (hi : i < ops.size) (hc : clsOf ops[i].op = 4)
    (hall : ∀ x, Settled ops S D i x) (hlater : ∀ j, j < ops.size → i < j → ∀ x, Wr ops S j x → (S i).V.size ≤ x → ¬ D j)
    {W0 : World} {V : VW} (hVh : V.heap = (S i).V.heap) (hVs : V.size = (S i).V.size) (hVf : (S 0).V.floor ≤ V.floor) (hVn : V.floor ≤ (S i).V.size)
    (hown : ∀ x b cp sh, x < (S i).V.size → β x = .live b cp sh → V.floor ≤ x → W0.heap.size ≤ b ∧ ¬ B.prot b) (hb0 : Below W0.heap.size W0 w) (hsz0 : B.w0.heap.size ≤ W0.heap.size) (hW0 : ∀ w1, Below W0.heap.size W0 w1 → Below B.w0.heap.size B.w0 w1)
    {s1 : St} (hgo : oneGo rec P E ops.toList ops[i] (S i) V = .fall .normal s1) (hs1 : (S (i + 1)).tm = s1.tm ∧ (S (i + 1)).V.heap = s1.V.heap ∧ (S (i + 1)).V.size = s1.V.size)
    {b : Frame} {rest : List Nat} {k : List Item} {cs : List Frame} :
    ∃ β' v' w', Ext β β' ∧ Inv P E ops S B (fun j => D j ∨ j = i) β' (a.put ops[i].dst v') w' ∧ Steps P (lone (b.atR a (.inRegion ops (i :: rest) :: k)) cs w) (lone (b.atR (a.put ops[i].dst v') (.inRegion ops rest :: k)) cs w') := by
  obtain ⟨N, hN⟩ : ∃ N, (S i).V.size = N := ⟨_, rfl⟩
  have hglN := size_glob F (Nat.le_of_lt hi)
  have hcut : ∀ x b cp sh, cutR N β x = .live b cp sh → x < N ∧ β x = .live b cp sh := fun x b cp sh h => by
    rcases Nat.lt_or_ge x N with h' | h'
    · rw [cutR_lt h'] at h; exact ⟨h', h⟩
    · rw [cutR_ge h'] at h; cases h
  have hcutD : ∀ x, cutR N β x = .dead → x < N ∧ β x = .dead := fun x h => by
    rcases Nat.lt_or_ge x N with h' | h'
    · rw [cutR_lt h'] at h; exact ⟨h', h⟩
    · rw [cutR_ge h'] at h; cases h
  let B' : Base := ⟨W0, V, cutR N β, w, fun q => B.prot q ∨ ∃ x cp sh, N ≤ x ∧ β x = .live q cp sh⟩
  have hW : WR P B' (cutR N β) V w := by
    refine ⟨fun g hg => by rw [cutR_lt (by omega)]; exact I.glob g hg, Nat.le_trans F.gfl hVf, by omega, by rw [hVs]; exact F.top i (Nat.le_of_lt hi), fun x hx => cutR_ge (by omega), fun x b cp sh he => ?_, fun x he => ?_, fun x y b cp sh cp' sh' h1 h2 => I.inj x y b cp sh cp' sh' (hcut _ _ _ _ h1).2 (hcut _ _ _ _ h2).2,
      fun x b cp sh he hx => ?_, fun _ _ => rfl, rfl, fun _ _ => rfl, Nat.le_refl _, hb0, fun q hq => ?_, fun _ _ hf => ⟨hf, rfl⟩, fun x o ho => ?_⟩
    · obtain ⟨h1, h2⟩ := hcut _ _ _ _ he
      obtain ⟨o, o', g1, g2, g3⟩ := mem_at F I (Nat.le_of_lt hi) h2 (hall x) (by omega)
      have hbd := F.bd i (Nat.le_of_lt hi) x o g1
      rw [hN] at hbd
      exact ⟨o, o', by rw [hVh]; exact g1, g2, g3.cut hbd⟩
    · obtain ⟨h1, h2⟩ := hcutD _ he
      rw [hVh]; exact dead_at F I (Nat.le_of_lt hi) h2 (hall x) (by omega)
    · obtain ⟨h1, h2⟩ := hcut _ _ _ _ he
      obtain ⟨g1, g2⟩ := hown x b cp sh (by omega) h2 hx
      refine ⟨g1, fun hp => ?_⟩
      rcases hp with hp | ⟨y, cp', sh', hy, hye⟩
      · exact g2 hp
      · have := I.inj _ _ _ _ _ _ _ h2 hye; omega
    · rcases hq with hq | ⟨y, cp', sh', hy, hye⟩
      · exact ⟨(I.kept q hq).1, rfl⟩
      · obtain ⟨_, _, _, _, _, p', _, hb, _⟩ := I.mem y _ _ _ hye
        exact ⟨block_lt hb, rfl⟩
    · rw [hVh] at ho; rw [hVs]; exact F.bd i (Nat.le_of_lt hi) x o ho
  have hB : HB P G B' := ⟨fun g hg => by
    show V.heap.get g = _
    have := F.gfl
    rw [hVh, F.keep0 i (Nat.le_of_lt hi) g (by omega), ← F.keep0 0 (Nat.zero_le _) g (by omega)]
    exact F.hb g hg, Keeps.keep _ _ F.ki (hW0 _ (.refl _ _))⟩
  have hρ := look_cut F I hr hi
  rw [hN] at hρ
  obtain ⟨v, V', hput, β1, v', w1, e1, e2, e3, e4⟩ := one_ok hG hgo hB hW (look_want F I hr hi) hρ (b := b) (rest := rest) (k := k) (cs := cs) (Array.getElem?_eq_getElem hi)
  obtain ⟨_, hV1, _, htm⟩ := put_ok hput
  obtain ⟨N1, hN1⟩ : ∃ n, V'.size = n := ⟨_, rfl⟩
  have hS1 : (S (i + 1)).V.size = N1 := by rw [hs1.2.2, hV1, hN1]
  have hSh : (S (i + 1)).V.heap = V'.heap := by rw [hs1.2.1, hV1]
  have hNN : N ≤ N1 := by have := F.size i hi; omega
  have hfl1 : V'.floor = V.floor := e2.flo
  have hlow1 : ∀ x, x < V.floor → β1 x = β x := fun x hx => by
    rw [e2.low x (by omega)]
    show cutR N β x = β x
    exact cutR_lt (by omega)
  have hnew : ∀ x, N ≤ x → x < N1 → β x = .fresh := fun x h1 h2 => new_fresh F I hr.2.1 hi (by omega) (by omega)
  obtain ⟨β', hβ'⟩ : ∃ β' : Nat → Ren, ∀ x, β' x = if x < N1 then β1 x else β x := ⟨_, fun _ => rfl⟩
  have hlt : ∀ x, x < N1 → β' x = β1 x := fun x h => by rw [hβ', if_pos h]
  have hge : ∀ x, N1 ≤ x → β' x = β x := fun x h => by rw [hβ', if_neg (by omega)]
  have hx : Ext β β' := by
    refine ⟨fun x b cp sh he => ?_, fun x he => ?_⟩ <;> rcases Nat.lt_or_ge x N1 with h | h
    · rw [hlt x h]
      rcases Nat.lt_or_ge x N with h' | h'
      · exact e1.1 x b cp sh (by rw [cutR_lt h']; exact he)
      · rw [hnew x h' h] at he; cases he
    · rw [hge x h]; exact .inl he
    · rw [hlt x h]
      rcases Nat.lt_or_ge x N with h' | h'
      · exact e1.2 x (by rw [cutR_lt h']; exact he)
      · rw [hnew x h' h] at he; cases he
    · rw [hge x h]; exact he
  have hx1 : Ext β1 β' := by
    have hout : ∀ x, N1 ≤ x → β1 x = .fresh := fun x h => e2.out x (by omega)
    refine ⟨fun x b cp sh he => ?_, fun x he => ?_⟩ <;> rcases Nat.lt_or_ge x N1 with h | h
    · rw [hlt x h]; exact .inl he
    · rw [hout x h] at he; cases he
    · rw [hlt x h]; exact he
    · rw [hout x h] at he; cases he
  have hnwg : ∀ x, N ≤ x → ¬ Wr ops S i x := fun x hxN h => by
    have := wr_later F hi (by omega : (S i).V.size ≤ x) hi h
    omega
  have hset : ∀ x, x < N1 → Settled ops S (fun j => D j ∨ j = i) (i + 1) x := fun x hx1 => by
    rcases Nat.lt_or_ge x N with h | h
    · exact settled_succ hr.2.1 (hall x)
    · intro j hj hw
      have hij := wr_later F hj (by omega : (S i).V.size ≤ x) hi hw
      constructor
      · rintro (hD | rfl)
        · exact absurd hD (hlater j hj hij x hw (by omega))
        · omega
      · intro h'; omega
  refine ⟨β', v', w1, hx, inv_step F I hr hi hx (e3.mono hx1) (by rw [hs1.1]; exact htm) (fun x hxl => ?_) (fun x hxf => ?_) (fun x b cp sh he => ?_) (fun x he => ?_) ?_ ?_ (hW0 _ e2.base) (fun q hq => ?_) (fun _ x hxs hf => ?_) (fun x h => absurd h (no_store hi (by omega) x)), e4⟩
  · have := F.gsz
    have := size_le F i 0 (by omega) (by omega)
    rw [hlt x (by omega)]; exact hlow1 x (by omega)
  · rcases Nat.lt_or_ge x N1 with h | h
    · rcases Nat.lt_or_ge x N with h' | h'
      · refine .inl fun hf => hxf ?_
        rw [hlt x h]
        exact (e2.frz x (by show x < V.size; omega) (by show cutR N β x = _; rw [cutR_lt h']; exact hf)).1
      · exact .inr (by omega)
    · rw [hge x h] at hxf; exact .inl hxf
  · rcases Nat.lt_or_ge x N1 with h | h
    · rw [hlt x h] at he
      obtain ⟨o, o', g1, g2, g3⟩ := e2.obj x b cp sh he
      exact ⟨i + 1, hi, hset x h, by omega, o, o', by rw [hSh]; exact g1, g2, g3.mono hx1⟩
    · rw [hge x h] at he
      obtain ⟨k, k1, k2, k3, p, p', k4, k5, k6⟩ := I.mem x b cp sh he
      refine ⟨k, k1, settled_same k2 (hnwg x (by omega)), k3, p, p', k4, ?_, k6.mono hx⟩
      rw [(e2.kept b (.inr ⟨x, cp, sh, by omega, he⟩)).2]; exact k5
  · rcases Nat.lt_or_ge x N1 with h | h
    · rw [hlt x h] at he
      exact ⟨i + 1, hi, hset x h, by omega, by rw [hSh]; exact e2.dead x he⟩
    · rw [hge x h] at he
      obtain ⟨k, k1, k2, k3, k4⟩ := I.dead x he
      exact ⟨k, k1, settled_same k2 (hnwg x (by omega)), k3, k4⟩
  · have mixed : ∀ x y b cp sh cp' sh', x < N1 → N1 ≤ y → β1 x = .live b cp sh → β y = .live b cp' sh' → x = y := by
      intro x y b cp sh cp' sh' h1 h2 g1 g2
      rcases Nat.lt_or_ge x V.floor with h | h
      · rw [hlow1 x h] at g1; exact I.inj _ _ _ _ _ _ _ g1 g2
      · exact absurd (.inr ⟨y, cp', sh', by omega, g2⟩) (e2.own x b cp sh g1 (by omega)).2
    intro x y b cp sh cp' sh' g1 g2
    rcases Nat.lt_or_ge x N1 with h | h <;> rcases Nat.lt_or_ge y N1 with h' | h'
    · rw [hlt x h] at g1; rw [hlt y h'] at g2; exact e2.inj _ _ _ _ _ _ _ g1 g2
    · rw [hlt x h] at g1; rw [hge y h'] at g2; exact mixed x y _ _ _ _ _ h h' g1 g2
    · rw [hge x h] at g1; rw [hlt y h'] at g2; exact (mixed y x _ _ _ _ _ h' h g2 g1).symm
    · rw [hge x h] at g1; rw [hge y h'] at g2; exact I.inj _ _ _ _ _ _ _ g1 g2
  · intro x b cp sh he hxl
    rcases Nat.lt_or_ge x N1 with h | h
    · rw [hlt x h] at he
      rcases Nat.lt_or_ge x V.floor with h' | h'
      · rw [hlow1 x h'] at he; exact I.own _ _ _ _ he hxl
      · obtain ⟨g1, g2⟩ := e2.own x b cp sh he (by omega)
        exact ⟨Nat.le_trans hsz0 g1, fun hp => g2 (.inl hp)⟩
    · rw [hge x h] at he; exact I.own _ _ _ _ he hxl
  · obtain ⟨k1, k2⟩ := e2.kept q (.inl hq)
    exact ⟨k1, k2.trans (I.kept q hq).2⟩
  · rw [hSh, ← hVh]
    have hfb := hx.back hf
    exact (e2.frz x (by show x < V.size; omega) (by show cutR N β x = _; rw [cutR_lt (by omega)]; exact hfb)).2
end
end Go.Vx
/-! Regions whose operations come in any order: the whole. -/
namespace Go.Vx
variable [Syms]
variable [Keeps]
open Go.RowKit

section
variable {P : Program} {G : VW} {rec : Rec} {E : Env} {ops : Array Oper} {S : Nat → St} {B : Base} {D : Nat → Prop} {β : Nat → Ren} {a : Act} {w : World}

theorem ord_later (F : Facts P G rec E ops S B) (I : Inv P E ops S B D β a w) {i j : Nat} (hr : ReadyD ops.toList D i) (hj : j < ops.size) (hij : i < j) (ho : ordB (ancsL ops.toList) i j = true) : ¬ D j := fun hD => by
  rw [ordB_comm, ordB_lt hij] at ho
  exact hr.2.1 (anc_in F.drawn.ord I.closed (j + 1) j (by omega) (by simpa using hj) i ho (I.closed j (by simpa using hj) hD))

theorem later_five (F : Facts P G rec E ops S B) (I : Inv P E ops S B D β a w) {i : Nat} (hr : ReadyD ops.toList D i) (h5 : (clsL ops.toList)[i]? = some 5) (hi : i < ops.size) :
    ∀ j, j < ops.size → i < j → ∀ x, Wr ops S j x → (S i).V.size ≤ x → ¬ D j := by
  intro j hj hij x hw _
  have h2 : 2 ≤ clsOf ops[j].op := by rcases wr_cls hj hw with ⟨_, h⟩ | ⟨_, h⟩ <;> omega
  rcases F.drawn.five i (by simpa using hi) h5 j (by simpa using hj) (by omega) (by simpa using h2) with h | ⟨_, h⟩
  · exact ord_later F I hr hj hij h
  · omega
theorem later_four (F : Facts P G rec E ops S B) (I : Inv P E ops S B D β a w) {i : Nat} (hr : ReadyD ops.toList D i) (h4 : (clsL ops.toList)[i]? = some 4) (hc : clsOf (ops.toList[i]'hr.1).op = 4) (hl : isLook (ops.toList[i]'hr.1).op = false) (hll : lenS P (ops.toList[i]'hr.1).op = false) :
    ∀ j, j < ops.size → i < j → ∀ x, Wr ops S j x → (S i).V.size ≤ x → ¬ D j := by
  intro j hj hij x hw _
  refine ord_later F I hr hj hij ?_
  rcases wr_cls hj hw with ⟨h5, _⟩ | ⟨_, h3⟩
  · rw [ordB_comm]
    rcases F.drawn.five j (by simpa using hj) h5 i hr.1 (by omega) (by omega) with h | ⟨h, _⟩
    · exact h
    · rw [h] at hl; cases hl
  · exact F.drawn.four i j (lenAt_of (by simpa using hr.1) (by simpa using hll)) h4 (cls_of_three hj h3)

theorem cls_le (o : Op) : clsOf o ≤ 4 := by cases o <;> simp [clsOf, quiet]
theorem cls_quiet {o : Op} (h : clsOf o = 0) : quiet o = true := by cases o <;> simp [clsOf, quiet] at h ⊢
theorem cls_load {o : Op} (h : clsOf o = 2) : ∃ t a, o = .load t a := by
  cases o <;> first | exact ⟨_, _, rfl⟩ | (simp [clsOf, quiet] at h; done)
theorem cls_call {o : Op} (h : clsOf o ≠ 4) : (∀ c, o ≠ .call c) ∧ ∀ c, o ≠ .defer c := by
  refine ⟨fun c hc => ?_, fun c hc => ?_⟩ <;> (rw [hc] at h; exact absurd rfl h)

/-- The length of a slice. -/
theorem len_any {o : Oper} (hl : lenS P o.op = true) {s : St} {V V' : VW} {v : Value} (hp : opGo rec P E o s V = .val v V') : V' = V ∧ ∃ c, o.op = .call c ∧ c.callee = .builtin .len ∧ ∀ V2, biGo .len rec P E o c (ev s.tm) V2 = .val v V2 := by
  obtain ⟨dst, op, type, pos, after, guard⟩ := o
  cases op with
  | call c =>
    obtain ⟨callee, args, argTypes⟩ := c
    change lenC P _ = true at hl
    unfold lenC at hl
    simp only at hl
    split at hl
    · rename_i x hx
      change biGo .len rec P E _ _ (ev s.tm) V = _ at hp
      have key : ∀ V2, biGo .len rec P E ⟨dst, .call ⟨.builtin .len, args, argTypes⟩, type, pos, after, guard⟩ ⟨.builtin .len, args, argTypes⟩ (ev s.tm) V2 = lenGo P ⟨dst, .call ⟨.builtin .len, args, argTypes⟩, type, pos, after, guard⟩ ⟨.builtin .len, args, argTypes⟩ x E (ev s.tm) V2 := fun V2 => by
        unfold biGo
        simp only [hx]
      rw [key] at hp
      have fin : V' = V ∧ ∀ V2, lenGo P ⟨dst, .call ⟨.builtin .len, args, argTypes⟩, type, pos, after, guard⟩ ⟨.builtin .len, args, argTypes⟩ x E (ev s.tm) V2 = .val v V2 := by
        unfold lenGo at hp ⊢
        simp only at hp ⊢
        split at hp
        · rename_i h1 h2
          cases hp
          exact ⟨rfl, fun V2 => rfl⟩
        · rename_i h1 h2
          rw [h2] at hl
          cases hl
        · split at hp
          · rename_i h1 h2 h3
            unfold ofV at hp
            split at hp
            · rename_i u hu
              cases hp
              refine ⟨rfl, fun V2 => ?_⟩
              rw [if_pos h3, hu]; rfl
            · cases hp
          · cases hp
      exact ⟨fin.1, _, rfl, rfl, fun V2 => by rw [key]; exact fin.2 V2⟩
    · cases hl
  | _ => cases hl

/-- What looks at no memory, a call of len among it. -/
theorem free_ok {β : Nat → Ren} {N : Nat} (hN : N ≤ top) (hgl : ∀ g, g < P.globals.size → β g = .live g 0 0) (hgN : P.globals.size ≤ N) (hout : ∀ x, N ≤ x → β x = .fresh)
    (hlive : ∀ x b cp sh, β x = .live b cp sh → b < w.heap.size) (hinj : ∀ i j b cp sh cp' sh', β i = .live b cp sh → β j = .live b cp' sh' → i = j)
    {o : Oper} {ρ : Rho} {v : Value} (hp : ∀ {B : Base} {V2 : VW}, WR P B β V2 w → Res P B β w (execOp ρ o) v V2) :
    ∃ v' w', VR β v v' ∧ RunsTo P (execOp ρ o) w v' w' ∧ Below w.heap.size w w' := by
  obtain ⟨t, ht⟩ := blank N hN
  have hW : WR P ⟨w, ⟨t, N, N⟩, β, w, fun _ => False⟩ β ⟨t, N, N⟩ w := by
    refine ⟨hgl, hgN, Nat.le_refl _, hN, hout, ?_, ?_, hinj, ?_, fun _ _ => rfl, rfl, fun _ _ => rfl, Nat.le_refl _, .refl _ _, fun _ hp => hp.elim, fun _ _ hf => ⟨hf, rfl⟩, ?_⟩
    · intro i b cp sh he
      have hi : i < N := by
        rcases Nat.lt_or_ge i N with h | h
        · exact h
        · rw [hout i h] at he; cases he
      have hb := hlive i b cp sh he
      exact ⟨_, _, (ht i).1 hi, Array.getElem?_eq_getElem hb, .dfrT⟩
    · intro i he
      have hi : i < N := by
        rcases Nat.lt_or_ge i N with h | h
        · exact h
        · rw [hout i h] at he; cases he
      exact (ht i).1 hi
    · intro i b cp sh he hi
      have : N ≤ i := hi
      rw [hout i this] at he; cases he
    · intro i o ho
      rcases Nat.lt_or_ge i N with h | h
      · have := (ht i).1 h
        have ho' : t.get i = some o := ho
        rw [this] at ho'; cases ho'; exact .dead P _
      · have := (ht i).2 h
        have ho' : t.get i = some o := ho
        rw [this] at ho'; cases ho'
  obtain ⟨β', v', w', h1, h2, h3, h4⟩ := hp hW
  have hlow : ∀ i, i < N → β' i = β i := h2.low
  have hout' : ∀ i, N ≤ i → β' i = .fresh := h2.out
  have heq : β' = β := by
    funext x
    rcases Nat.lt_or_ge x N with h | h
    · exact hlow x h
    · rw [hout' x h, hout x h]
  rw [heq] at h3
  exact ⟨v', w', h3, h4, h2.base⟩
theorem len_step (F : Facts P G rec E ops S B) (I : Inv P E ops S B D β a w) {i : Nat} (hr : ReadyD ops.toList D i) (hi : i < ops.size) (hl : lenS P ops[i].op = true) (hc : clsOf ops[i].op = 4) (hk : (clsL ops.toList)[i]? = some 4)
    (hone : oneDraw rec P E ops.toList ops[i] 4 (S i) = .fall .normal (S (i + 1)))
    {b : Frame} {rest : List Nat} {k : List Item} {cs : List Frame} :
    ∃ β' a' w', Ext β β' ∧ Inv P E ops S B (fun j => D j ∨ j = i) β' a' w' ∧ Steps P (lone (b.atR a (.inRegion ops (i :: rest) :: k)) cs w) (lone (b.atR a' (.inRegion ops rest :: k)) cs w') := by
  have hoi : ops[i]? = some ops[i] := Array.getElem?_eq_getElem hi
  obtain ⟨_, v, V', hV, _, hput, hcase⟩ := draw_put hone
  have hVh : (S (i + 1)).V.heap = V'.heap := by rw [hV]
  rcases hcase with ⟨hw, hop⟩ | ⟨hw, rfl, hV2⟩
  · have hwd : Region.wanted ops[i] (yielded ops a.tmps) = true := by rw [← look_want F I hr hi]; exact hw
    obtain ⟨hVV, c, hoc, hcc, hall⟩ := len_any hl hop
    have hnd : ∀ c, ops[i].op ≠ .defer c := fun c h => by rw [hoc] at h; cases h
    have hN : P.globals.size ≤ (S i).V.size := by
      have := size_le F i 0 (by omega) (by omega)
      have := F.gsz
      have := F.gfl
      omega
    have hcut : ∀ x b cp sh, cutR (S i).V.size β x = .live b cp sh → β x = .live b cp sh := fun x b cp sh h => by
      rcases Nat.lt_or_ge x (S i).V.size with h' | h'
      · rw [cutR_lt h'] at h; exact h
      · rw [cutR_ge h'] at h; cases h
    have hρ : ∀ x ∈ c.args, VR (cutR (S i).V.size β) (ev (S i).tm x) (a.eval x) := fun x hx => look_cut F I hr hi x (by rw [hoc]; simp [Op.operands, Call.operands, hcc]; exact hx)
    obtain ⟨v', w', h1, h2, h3⟩ := free_ok (β := cutR (S i).V.size β) (N := (S i).V.size) (w := w) (v := v) (ρ := a.eval) (o := ops[i]) (F.top i (by omega)) (fun g hg => by rw [cutR_lt (by omega)]; exact I.glob g hg) hN (fun x hx => cutR_ge hx)
      (fun x b cp sh h => by obtain ⟨k, _, _, _, o, o', _, h5, _⟩ := I.mem x b cp sh (hcut _ _ _ _ h); exact block_lt h5)
      (fun x y b cp sh cp' sh' h1 h2 => I.inj x y b cp sh cp' sh' (hcut _ _ _ _ h1) (hcut _ _ _ _ h2)) (fun hW => bi_ok hW hoc hcc hρ (hall _))
    have hnw : ∀ x, ¬ Wr ops S i x := fun x h => by
      rcases wr_cls hi h with ⟨h, _⟩ | ⟨_, h⟩
      · rw [hk] at h; cases h
      · omega
    refine ⟨β, _, w', .refl _, inv_same F I hr hi h3 (h1.mono (cut_ext _ _)) hput (fun x _ => .inl (hnw x)) (fun h5 => ?_) (fun x h => ?_), .one (stepR_value hoi hwd hnd h2)⟩
    · rw [hk] at h5; cases h5
    · have := foot_store h; omega
  · have hwd : Region.wanted ops[i] (yielded ops a.tmps) = false := by rw [← look_want F I hr hi]; exact hw
    refine ⟨β, _, w, .refl _, skip_ok F I hr hi hput hw ?_, .one ?_⟩
    · rw [hVh, hV2]; split <;> rfl
    · have h := stepR_op_skip (P := P) (b := b) (a := a) (k := k) (cs := cs) (w := w) (ops := ops) (i := i) (rest := rest) (by rw [hoi]; simpa using hwd)
      rw [hoi] at h; exact h

theorem step_any (hG : Good P G rec) (F : Facts P G rec E ops S B) (I : Inv P E ops S B D β a w) {i : Nat} (hr : ReadyD ops.toList D i) (hi : i < ops.size) {b : Frame} {rest : List Nat} {k : List Item} {cs : List Frame} :
    ∃ β' a' w', Ext β β' ∧ Inv P E ops S B (fun j => D j ∨ j = i) β' a' w' ∧ Steps P (lone (b.atR a (.inRegion ops (i :: rest) :: k)) cs w) (lone (b.atR a' (.inRegion ops rest :: k)) cs w') := by
  obtain ⟨kk, hk, hone⟩ := F.run i hi
  have hoi : ops[i]? = some ops[i] := Array.getElem?_eq_getElem hi
  have hflr := F.floor i (Nat.le_of_lt hi)
  have hfl : (S 0).V.floor ≤ (S i).V.size := by
    have := size_le F i 0 (by omega) (by omega)
    have := F.gsz
    omega
  by_cases hc4 : clsOf ops[i].op = 4
  · rcases clsL_of hi hk with ⟨h, h5⟩ | ⟨h, _⟩
    · rw [hc4] at h
      subst h
      cases hlook : isLook ops[i].op with
      | true =>
        obtain ⟨_, v, V', hV, _, hput, hcase⟩ := draw_put hone
        have hVh : (S (i + 1)).V.heap = V'.heap := by rw [hV]
        have hVs : (S (i + 1)).V.size = V'.size := by rw [hV]
        rcases hcase with ⟨hw, hop⟩ | ⟨hw, rfl, hV2⟩
        · have hwd : Region.wanted ops[i] (yielded ops a.tmps) = true := by rw [← look_want F I hr hi]; exact hw
          obtain ⟨t, mo, ko, ok, hlk⟩ := isLook_spec hlook
          have hnc : (∀ c, ops[i].op ≠ .call c) ∧ ∀ c, ops[i].op ≠ .defer c := ⟨fun c h => (by rw [hlk] at h; cases h), fun c h => (by rw [hlk] at h; cases h)⟩
          rw [opGo_plain hnc.1, if_neg (by omega)] at hop
          obtain ⟨v', g1, g2⟩ := look_step F I hr hi hk hlook hput hw hop hVh hVs
          exact ⟨_, _, _, .refl _, g2, .one (stepR_value hoi hwd hnc.2 g1)⟩
        · have hwd : Region.wanted ops[i] (yielded ops a.tmps) = false := by rw [← look_want F I hr hi]; exact hw
          refine ⟨β, _, w, .refl _, skip_ok F I hr hi hput hw ?_, .one ?_⟩
          · rw [hVh, hV2]; split <;> rfl
          · have h := stepR_op_skip (P := P) (b := b) (a := a) (k := k) (cs := cs) (w := w) (ops := ops) (i := i) (rest := rest) (by rw [hoi]; simpa using hwd)
            rw [hoi] at h; exact h
      | false =>
      rcases oneDraw_cases hone with ⟨hk35, _⟩ | ⟨_, t, hgo, hs1⟩
      · omega
      · cases hll : lenS P ops[i].op with
        | true => exact len_step F I hr hi hll hc4 hk hone (b := b) (rest := rest) (k := k) (cs := cs)
        | false =>
        obtain ⟨β', v', w', h1, h2, h3⟩ := whole_step hG F I hr hi hc4 (settled_four F I hr hi hk hlook hll) (later_four F I hr hk (by simpa using hc4) (by simpa using hlook) (by simpa using hll)) (W0 := w) (V := upV (S i).V) rfl rfl hfl (Nat.le_refl _)
          (fun x b cp sh hx _ hf => absurd hx (by have : (S i).V.size ≤ x := hf; omega)) (.refl _ _) I.base.size (fun w1 hb => I.base.trans (hb.mono I.base.size)) hgo (by rw [hs1]; exact ⟨rfl, rfl, rfl⟩) (b := b) (rest := rest) (k := k) (cs := cs)
        exact ⟨β', _, w', h1, h2, h3⟩
    · subst h
      rcases oneDraw_cases hone with ⟨_, hgo⟩ | ⟨hk35, _⟩
      · obtain ⟨β', v', w', h1, h2, h3⟩ := whole_step hG F I hr hi hc4 (settled_five F I hr hi hk) (later_five F I hr hk hi) (W0 := B.w0) (V := (S i).V) rfl rfl (by omega) (by omega)
          (fun x b cp sh _ he hf => I.own x b cp sh he (by omega)) I.base (Nat.le_refl _) (fun w1 hb => hb) hgo ⟨rfl, rfl, rfl⟩ (b := b) (rest := rest) (k := k) (cs := cs)
        exact ⟨β', _, w', h1, h2, h3⟩
      · omega
  · have hkc : kk = clsOf ops[i].op := by
      rcases clsL_of hi hk with ⟨h, _⟩ | ⟨_, h⟩
      · exact h
      · exact absurd h hc4
    obtain ⟨_, v, V', hV, _, hput, hcase⟩ := draw_put hone
    have hVh : (S (i + 1)).V.heap = V'.heap := by rw [hV]
    have hVs : (S (i + 1)).V.size = V'.size := by rw [hV]
    rcases hcase with ⟨hw, hop⟩ | ⟨hw, rfl, hV2⟩
    · have hwd : Region.wanted ops[i] (yielded ops a.tmps) = true := by rw [← look_want F I hr hi]; exact hw
      obtain ⟨hnc, hnd⟩ := cls_call hc4
      have hop2 := hop
      rw [opGo_plain hnc] at hop
      have hle := cls_le ops[i].op
      have done : ∀ {β' : Nat → Ren} {v' : Value} {w' : World}, Ext β β' → RunsTo P (execOp a.eval ops[i]) w v' w' → Inv P E ops S B (fun j => D j ∨ j = i) β' (a.put ops[i].dst v') w' →
          ∃ β' a' w', Ext β β' ∧ Inv P E ops S B (fun j => D j ∨ j = i) β' a' w' ∧ Steps P (lone (b.atR a (.inRegion ops (i :: rest) :: k)) cs w) (lone (b.atR a' (.inRegion ops rest :: k)) cs w') :=
        fun h1 h2 h3 => ⟨_, _, _, h1, h3, .one (stepR_value hoi hwd hnd h2)⟩
      by_cases h0 : clsOf ops[i].op = 0
      · obtain ⟨v', w', g1, g2⟩ := quiet_step F I hr hi h0 hput (cls_quiet h0) hop
        exact done (.refl _) g1 g2
      · by_cases h1 : clsOf ops[i].op = 1
        · rw [if_neg (by omega)] at hop
          obtain ⟨β', v', w', g0, g1, g2⟩ := alloc_step F I hr hi h1 hput hop hVh hVs
          exact done g0 g1 g2
        · by_cases h2 : clsOf ops[i].op = 2
          · rw [if_neg (by omega)] at hop
            obtain ⟨t, ad, hld⟩ := cls_load h2
            obtain ⟨v', g1, g2⟩ := load_step F I hr hi hld hput hw hop
            exact done (.refl _) g1 g2
          · have h3 : clsOf ops[i].op = 3 := by omega
            rw [if_pos (by omega)] at hop2
            obtain ⟨v', w', g1, g2⟩ := store_step F I hr hi h3 hput hw hop2 hVh
            exact done (.refl _) g1 g2
    · have hwd : Region.wanted ops[i] (yielded ops a.tmps) = false := by rw [← look_want F I hr hi]; exact hw
      refine ⟨β, _, w, .refl _, skip_ok F I hr hi hput hw ?_, .one ?_⟩
      · rw [hVh, hV2]; split <;> rfl
      · have h := stepR_op_skip (P := P) (b := b) (a := a) (k := k) (cs := cs) (w := w) (ops := ops) (i := i) (rest := rest) (by rw [hoi]; simpa using hwd)
        rw [hoi] at h; exact h

/-! ### All of them -/
def unl (f : Nat → Bool) : Nat → Nat
  | 0 => 0
  | n + 1 => unl f n + (if f n then 0 else 1)
theorem unl_le (f : Nat → Bool) : ∀ n, unl f n ≤ n
  | 0 => Nat.le_refl _
  | n + 1 => by have := unl_le f n; simp only [unl]; split <;> omega
theorem unl_zero {f : Nat → Bool} : ∀ n, unl f n = 0 → ∀ j, j < n → f j = true
  | n + 1, h, j, hj => by
    simp only [unl] at h
    rcases Nat.lt_or_ge j n with h' | h'
    · exact unl_zero n (by omega) j h'
    · have : j = n := by omega
      subst this
      split at h
      · assumption
      · omega
theorem unl_congr {f g : Nat → Bool} : ∀ n, (∀ j, j < n → f j = g j) → unl f n = unl g n
  | 0, _ => rfl
  | n + 1, h => by simp only [unl]; rw [unl_congr n fun j hj => h j (by omega), h n (by omega)]
theorem unl_set {f g : Nat → Bool} {i : Nat} (hfi : f i = false) (hgi : g i = true) (ho : ∀ j, j ≠ i → g j = f j) : ∀ n, i < n → unl g n + 1 = unl f n
  | n + 1, h => by
    simp only [unl]
    rcases Nat.lt_or_ge i n with h' | h'
    · have := unl_set hfi hgi ho n h'
      rw [ho n (by omega)]; omega
    · have : n = i := by omega
      subst this
      rw [hfi, hgi, unl_congr n fun j hj => ho j (by omega)]
      simp

theorem ready_mem {listed : Array Bool} {i : Nat} (h : i ∈ Region.ready .any ops listed) (hs : listed.size = ops.size) : i < ops.size ∧ ReadyD ops.toList (fun j => listed.getD j false = true) i := by
  simp only [Region.ready, List.mem_filter, List.mem_range, Bool.and_eq_true, Bool.not_eq_true'] at h
  obtain ⟨h1, h2, h3⟩ := h
  refine ⟨h1, by simpa using h1, fun hD => ?_, fun e he hb => ?_⟩
  · have hl : i < listed.size := by omega
    simp [Array.getD, hl] at h2 hD
    rw [h2] at hD; cases hD
  · rw [Array.getElem?_eq_getElem h1] at h3
    simp only [Option.map_some, Option.getD_some] at h3
    have := Array.all_eq_true_iff_forall_mem.1 h3 e (by simpa using he)
    rw [hb] at this
    simpa using this

theorem ready_none (hD : Drawn P ops.toList) {listed : Array Bool} (hs : listed.size = ops.size) (h : Region.ready .any ops listed = []) : ∀ n j, j < n → j < ops.size → listed.getD j false = true := by
  intro n
  induction n with
  | zero => intro j hj; omega
  | succ n ih =>
    intro j hjn hj
    cases hb : listed.getD j false with
    | true => rfl
    | false =>
      exfalso
      have hm : j ∈ Region.ready .any ops listed := by
        simp only [Region.ready, List.mem_filter, List.mem_range, Bool.and_eq_true, Bool.not_eq_true']
        refine ⟨hj, ?_, ?_⟩
        · have hl : j < listed.size := by omega
          simp [Array.getD, hl] at hb ⊢
          exact hb
        · rw [Array.getElem?_eq_getElem hj]
          simp only [Option.map_some, Option.getD_some]
          refine Array.all_eq_true_iff_forall_mem.2 fun e he => ?_
          cases hbd : Region.binds .any e with
          | false => rfl
          | true =>
            have hlt := hD.ord j (by simpa using hj) e (by simpa using he) hbd
            simpa using ih e.on (by omega) (by omega)
      rw [h] at hm; cases hm

theorem go_ok (hG : Good P G rec) (F : Facts P G rec E ops S B) {b : Frame} {k : List Item} {cs : List Frame} : ∀ (fuel t : Nat) (listed : Array Bool) (β : Nat → Ren) (a : Act) (w : World), listed.size = ops.size → unl (fun j => listed.getD j false) ops.size ≤ fuel →
    Inv P E ops S B (fun j => listed.getD j false = true) β a w →
    ∃ β' a' w' D', Ext β β' ∧ Inv P E ops S B D' β' a' w' ∧ (∀ j, j < ops.size → D' j) ∧ Steps P (lone (b.atR a (.inRegion ops (Region.linearise.go .any ops fuel t listed []) :: k)) cs w) (lone (b.atR a' (.inRegion ops [] :: k)) cs w') := by
  intro fuel
  induction fuel with
  | zero =>
    intro t listed β a w hs hf I
    refine ⟨β, a, w, _, .refl _, I, fun j hj => unl_zero (f := fun j => listed.getD j false) ops.size (by omega) j hj, ?_⟩
    simp only [Region.linearise.go, List.reverse_nil]
    exact .refl _ _
  | succ fuel ih =>
    intro t listed β a w hs hf I
    simp only [Region.linearise.go]
    change ∃ β' a' w' D', _ ∧ _ ∧ _ ∧ Steps P (lone (b.atR a (.inRegion ops (match (Region.ready .any ops listed)[t % (Region.ready .any ops listed).length]? with
      | some i => Region.linearise.go .any ops fuel (t / (Region.ready .any ops listed).length) (listed.setIfInBounds i true) [i]
      | none => [].reverse) :: k)) cs w) _
    cases hi : (Region.ready .any ops listed)[t % (Region.ready .any ops listed).length]? with
    | none =>
      have hnil : Region.ready .any ops listed = [] := by
        cases hr : Region.ready .any ops listed with
        | nil => rfl
        | cons x xs =>
          rw [hr] at hi
          have hlt : t % (x :: xs).length < (x :: xs).length := Nat.mod_lt _ (by simp)
          simp at hi
          simp at hlt
          omega
      exact ⟨β, a, w, _, .refl _, I, fun j hj => ready_none F.drawn hs hnil (j + 1) j (Nat.lt_succ_self j) hj, .refl _ _⟩
    | some i =>
      simp only []
      rw [linearise_go_acc, List.reverse_singleton, List.singleton_append]
      obtain ⟨hil, hr⟩ := ready_mem (List.mem_of_getElem? hi) hs
      obtain ⟨β1, a1, w1, h1, h2, h3⟩ := step_any hG F I hr hil (b := b) (rest := Region.linearise.go .any ops fuel (t / (Region.ready .any ops listed).length) (listed.setIfInBounds i true) []) (k := k) (cs := cs)
      have hset : ∀ j, (listed.setIfInBounds i true).getD j false = true ↔ (listed.getD j false = true ∨ j = i) := fun j => by
        have hl : i < listed.size := by omega
        simp only [Array.getD_eq_getD_getElem?, Array.getElem?_setIfInBounds]
        by_cases hij : i = j
        · subst hij; simp [hl]
        · have : ¬ j = i := fun h => hij h.symm
          simp [hij, this]
      have hpred : (fun j => (listed.getD j false = true ∨ j = i)) = fun j => (listed.setIfInBounds i true).getD j false = true := funext fun j => propext (hset j).symm
      rw [hpred] at h2
      have hun := unl_set (f := fun j => listed.getD j false) (g := fun j => (listed.setIfInBounds i true).getD j false) (i := i) (by have := hr.2.1; simpa using this) ((hset i).2 (.inr rfl)) (fun j hj => by
        have := hset j
        cases h : listed.getD j false with
        | true => exact this.2 (.inl h)
        | false =>
          cases h' : (listed.setIfInBounds i true).getD j false with
          | false => rfl
          | true => rcases this.1 h' with h'' | h''
                    · rw [h] at h''; cases h''
                    · exact absurd h'' hj) ops.size hil
      obtain ⟨β2, a2, w2, D2, g1, g2, g3, g4⟩ := ih (t / (Region.ready .any ops listed).length) (listed.setIfInBounds i true) β1 a1 w1 (by simpa using hs) (by omega) h2
      exact ⟨β2, a2, w2, D2, h1.trans g1, g2, g3, h3.trans g4⟩

/-! ### Before and behind -/
theorem inv_start (F : Facts P G rec E ops S B) (hW : WR P B β (S 0).V w) (hS : SR β E (S 0) a) (hD : ∀ j, ¬ D j) : Inv P E ops S B D β a w := by
  have hset : ∀ x, Settled ops S D 0 x := fun x j _ _ => ⟨fun h => absurd h (hD j), fun h => by omega⟩
  refine ⟨fun i h hd => absurd hd (hD i), hS.tm.1, fun t i hi h => ?_, hS.df, hW.glob, fun x hx => .inl ?_, fun x b cp sh he => ?_, fun x he => ⟨0, Nat.zero_le _, hset x, hW.ltD he, hW.dead x he⟩, hW.inj, hW.own, hW.low, hW.base, hW.kept, fun x h1 h2 => (hW.frz x h1 h2).1, fun j hd => absurd hd (hD j), fun j hd => absurd hd (hD j)⟩
  · have : ∀ m, m ≤ i → tget (S m).tm t = tget (S 0).tm t := by
      intro m
      induction m with
      | zero => intro _; rfl
      | succ m ih =>
        intro hm
        have hml : m < ops.size := by omega
        rw [step_tm F hml, ih (by omega)]
        intro hd
        exact absurd ((h m hml _ (Array.getElem?_eq_getElem hml) hd).2 (by omega)) (hD m)
    rw [this i (Nat.le_refl _)]; exact hS.tm.2 t
  · rcases Nat.lt_or_ge x (S 0).V.size with h | h
    · exact h
    · exact absurd (hW.out x h) hx
  · obtain ⟨o, o', h1, h2, h3⟩ := hW.obj x b cp sh he
    exact ⟨0, Nat.zero_le _, hset x, hW.lt he, o, o', h1, h2, h3⟩

theorem inv_end (F : Facts P G rec E ops S B) (I : Inv P E ops S B D β a w) (hD : ∀ j, j < ops.size → D j) : WR P B β (S ops.size).V w ∧ SR β E (S ops.size) a := by
  have hn := Nat.le_refl ops.size
  have hset : ∀ x, Settled ops S D ops.size x := fun x j hj _ => ⟨fun _ => hj, fun _ => hD j hj⟩
  have hs0 := size_le F ops.size 0 (by omega) hn
  have hfl := F.floor ops.size hn
  have := F.gsz
  have := F.gfl
  have := F.grow
  have hvis : ∀ x, β x ≠ .fresh → x < (S ops.size).V.size := fun x hx => by
    rcases I.vis x hx with h | ⟨j, _, hj, _, h⟩
    · omega
    · have := size_le F ops.size (j + 1) hj hn; omega
  refine ⟨⟨I.glob, by omega, by omega, F.top _ hn, fun x hx => ?_, fun x b cp sh he => mem_at F I hn he (hset x) (hvis x (by rw [he]; nofun)), fun x he => dead_at F I hn he (hset x) (hvis x (by rw [he]; nofun)), I.inj, fun x b cp sh he hx => I.own x b cp sh he (by omega),
    fun x hx => F.keep0 _ hn x (by omega), by rw [hfl]; exact F.flo, fun x hx => I.low x (by omega), by omega, I.base, I.kept, fun x h1 h2 => ⟨I.frz x h1 h2, F.frz _ hn x h1 h2⟩, F.bd _ hn⟩,
    ⟨⟨I.size, fun t => I.tmp t _ hn fun j hj _ _ _ => ⟨fun _ => hj, fun _ => hD j hj⟩⟩, by rw [F.df _ hn]; exact I.df⟩⟩
  cases hb : β x with
  | fresh => rfl
  | _ => have := hvis x (by rw [hb]; nofun); omega
end

section
variable {P : Program} {G : VW} {rec : Rec}
theorem pair_get {l : List Oper} {j : Nat} (h : j < (pairL l).length) : ∃ h' : j < l.length, ((pairL l)[j]).1 = l[j] ∧ (clsL l)[j]? = some ((pairL l)[j]).2 := by
  unfold pairL at h ⊢
  have h1 : j < l.length := by simp at h; omega
  have h2 : j < (clsL l).length := by simp at h; omega
  exact ⟨h1, by simp, by simp [h2]⟩
theorem pair_length (l : List Oper) : (pairL l).length = l.length := by unfold pairL; simp [cls_length]

theorem foot_cls {o : Oper} {tm : T Value} {all : List Oper} {x : Nat} {wr : Bool} (h : foot all o tm = some (x, wr)) : (wr = true ∧ clsOf o.op = 3) ∨ (wr = false ∧ clsOf o.op = 2) := by
  unfold foot at h
  split at h
  · unfold footOf at h
    split at h
    · rename_i hq
      cases hb : blockOf (ev tm _) <;> rw [hb] at h <;> cases h
      exact .inr ⟨rfl, by rw [hq]; rfl⟩
    · rename_i hq
      cases hb : blockOf (ev tm _) <;> rw [hb] at h <;> cases h
      exact .inl ⟨rfl, by rw [hq]; rfl⟩
    · cases h
  · cases h

theorem cls_new {o : Op} (h : clsOf o = 1) : (∃ t, o = .alloc t) ∨ ∃ t x, o = .box t x := by
  cases o <;> first | exact .inl ⟨_, rfl⟩ | exact .inr ⟨_, _, rfl⟩ | (simp [clsOf, quiet] at h; done)

/-- A new variable, a load and what is quiet do not ask how high the floor is. -/
theorem any_floor {o : Oper} (hc : clsOf o.op ≤ 2) {e : Rho} {V V' : VW} {v : Value} (hp : plainGo P o e V = .val v V') : V'.floor = V.floor ∧ plainGo P o e ((upV V)) = .val v ⟨V'.heap, V'.size, V.size⟩ := by
  by_cases h0 : clsOf o.op = 0
  · obtain ⟨rfl, h⟩ := quiet_any (cls_quiet h0) hp
    exact ⟨rfl, h _⟩
  · have new : ∀ (ob : VObj) (k : Nat → Value), newGo V ob k = .val v V' → V'.floor = V.floor ∧ newGo (upV V) ob k = .val v ⟨V'.heap, V'.size, V.size⟩ := fun ob k h => by
      unfold newGo at h
      split at h
      · rename_i hlt
        cases h
        refine ⟨rfl, ?_⟩
        have e : (upV V).size = V.size := rfl
        unfold newGo
        rw [e, if_pos hlt]
        simp only [VW.push, upV, Nat.add_eq, Nat.add_zero]
      · cases h
    have hrun : ∀ W, plainGo P o e W = (opC o o.op).run P e W := fun _ => rfl
    rcases (by omega : clsOf o.op = 1 ∨ clsOf o.op = 2) with h1 | h2
    · rcases cls_new h1 with ⟨t, hq⟩ | ⟨t, y, hq⟩
      · have hr : ∀ W, plainGo P o e W = allocO t P e W := fun W => by rw [hrun, hq]; rfl
        rw [hr] at hp ⊢
        unfold allocO at hp ⊢
        split at hp
        · exact new _ _ hp
        · cases hp
      · have hr : ∀ W, plainGo P o e W = boxO t y P e W := fun W => by rw [hrun, hq]; rfl
        rw [hr] at hp ⊢
        exact new _ _ hp
    · obtain ⟨t, y, hq⟩ := cls_load h2
      have hr : ∀ W, plainGo P o e W = ofV W (loadGo P t W (e y)) := fun W => by rw [hrun, hq]; rfl
      rw [hr] at hp ⊢
      obtain ⟨h1, rfl⟩ := ofV_spec hp
      refine ⟨rfl, ?_⟩
      have : loadGo P t (upV V') (e y) = loadGo P t V' (e y) := rfl
      rw [this, h1]
      rfl

theorem calm_one {E : Env} {all : List Oper} {o : Oper} {k : Nat} (hk : (k = clsOf o.op ∧ k ≠ 4) ∨ (k = 5 ∧ clsOf o.op = 4)) {s s1 : St} {x : X} (h : oneGo rec P E all o s s.V = .fall x s1) : oneDraw rec P E all o k s = .fall x s1 := by
  unfold oneDraw
  by_cases h35 : k = 3 ∨ k = 5
  · have : (Nat.beq k 3 || Nat.beq k 5) = true := by rcases h35 with rfl | rfl <;> rfl
    rw [this]; exact h
  · have hb : (Nat.beq k 3 || Nat.beq k 5) = false := by
      cases hbb : (Nat.beq k 3 || Nat.beq k 5) with
      | false => rfl
      | true =>
        simp only [Bool.or_eq_true] at hbb
        rcases hbb with hh | hh
        · exact absurd (.inl (Nat.eq_of_beq_eq_true hh)) h35
        · exact absurd (.inr (Nat.eq_of_beq_eq_true hh)) h35
    rw [hb]
    have hc2 : clsOf o.op ≤ 2 := by
      rcases hk with ⟨rfl, h4⟩ | ⟨rfl, _⟩
      · have := cls_le o.op
        have : clsOf o.op ≠ 3 := fun hh => h35 (.inl hh)
        omega
      · exact absurd (.inr rfl) h35
    obtain ⟨v, V', hput, hcase⟩ := one_put h
    obtain ⟨hx, hV, hdf, htm⟩ := put_ok hput
    have key : ∀ V2 : VW, V2.heap = V'.heap → V2.size = V'.size → V'.floor = s.V.floor → floorDown s.V.floor (putGo E o.dst v s V2) = .fall x s1 := by
      intro V2 e1 e2 e3
      have hp2 : ∀ W : VW, ∃ s2, putGo E o.dst v s W = .fall .normal s2 ∧ s2.V = W ∧ s2.tm = s1.tm ∧ s2.df = s1.df := by
        intro W
        cases hd : o.dst with
        | none =>
          rw [hd] at hput
          cases hput
          exact ⟨_, rfl, rfl, rfl, rfl⟩
        | some t =>
          rw [hd] at hput
          change Bool.rec (motive := fun _ => R) (badE 91 E) (putS t v s V') (okT t E.nt) = _ at hput
          cases hok : okT t E.nt with
          | false => rw [hok] at hput; cases hput
          | true =>
            rw [hok] at hput
            cases hput
            refine ⟨⟨s.tm.set 21 t v, W, s.df⟩, ?_, rfl, rfl, rfl⟩
            change Bool.rec (motive := fun _ => R) (badE 91 E) (putS t v s W) (okT t E.nt) = _
            rw [hok]
            rfl
      obtain ⟨s2, g1, g2, g3, g4⟩ := hp2 V2
      rw [g1]
      subst hx
      obtain ⟨tm2, ⟨hp, sz, fl⟩, df2⟩ := s2
      obtain ⟨tm1, ⟨hp1, sz1, fl1⟩, df1⟩ := s1
      simp only at g2 g3 g4 hV
      subst g3 g4 g2
      obtain ⟨h3, s3, f3⟩ := V'
      simp only at e1 e2 e3
      cases hV
      subst e1 e2 e3
      rfl
    rcases hcase with ⟨hw, hop⟩ | ⟨hw, rfl, rfl⟩
    · have hnc := (cls_call (o := o.op) (by omega)).1
      rw [opGo_plain hnc] at hop
      obtain ⟨e1, e2⟩ := any_floor hc2 hop
      have : oneGo rec P E all o s (floorUp s) = putGo E o.dst v s ⟨V'.heap, V'.size, s.V.size⟩ := by
        unfold oneGo
        rw [hw]
        change afterGo E o.dst s (opGo rec P E o s (floorUp s)) = _
        rw [opGo_plain hnc]
        have e2' : plainGo P o (ev s.tm) (floorUp s) = .val v ⟨V'.heap, V'.size, s.V.size⟩ := e2
        rw [e2']
        rfl
      simp only [this]
      exact key _ rfl rfl e1
    · have : oneGo rec P E all o s (floorUp s) = putGo E o.dst undef s (floorUp s) := by
        unfold oneGo
        rw [hw]
      simp only [this]
      exact key _ rfl rfl rfl

theorem calm_draw {E : Env} {all : List Oper} {a : List Nat} : ∀ (l : List (Oper × Nat)) (i : Nat) (acc : List (Nat × Option (Nat × Bool))) (s s' : St) (x : X),
    (∀ p ∈ l, ((p.2 = clsOf p.1.op ∧ p.2 ≠ 4) ∨ (p.2 = 5 ∧ clsOf p.1.op = 4)) ∧ isLook p.1.op = false) →
    (∀ t (ht : t < l.length) u (hu : u < t), ((l[t].2 = 3 ∧ ((l[u]'(by omega)).2 = 2 ∨ (l[u]'(by omega)).2 = 3)) ∨ (l[t].2 = 2 ∧ (l[u]'(by omega)).2 = 3)) → bit a (i + t) (i + u) = true) →
    (∀ g ∈ acc, ∀ h, g.2 = some h → ∀ t (ht : t < l.length), (l[t].2 = 3 ∨ (h.2 = true ∧ l[t].2 = 2)) → bit a (i + t) g.1 = true) →
    opsGo rec P E all (l.map (·.1)) s = .fall x s' → drawGo rec P E all a l i acc [] s = .fall x s'
  | [], i, acc, s, s', x, _, _, _, h => h
  | o :: l, i, acc, s, s', x, hk, hb, ha, h => by
    change thenOps (opsGo rec P E all (l.map (·.1))) (oneGo rec P E all o.1 s s.V) = _ at h
    obtain ⟨y, s1, h1, h2⟩ := thenOps_fall h
    have hko := hk o List.mem_cons_self
    have hd := calm_one hko.1 h1
    have hfk : ∀ b wr, foot all o.1 s.tm = some (b, wr) → (wr = true ∧ o.2 = 3) ∨ (wr = false ∧ o.2 = 2) := fun b wr hf => by
      rcases foot_cls hf with ⟨h1, h2⟩ | ⟨h1, h2⟩
      · rcases hko.1 with ⟨h3, _⟩ | ⟨_, h3⟩
        · exact .inl ⟨h1, by omega⟩
        · omega
      · rcases hko.1 with ⟨h3, _⟩ | ⟨_, h3⟩
        · exact .inr ⟨h1, by omega⟩
        · omega
    have hap : apartF a i (foot all o.1 s.tm) acc = true := by
      unfold apartF
      cases hf : foot all o.1 s.tm with
      | none => rfl
      | some f =>
        obtain ⟨b, wr⟩ := f
        have hfc := hfk b wr hf
        simp only
        refine List.all_eq_true.2 fun g hg => ?_
        cases hg2 : g.2 with
        | none => rfl
        | some q =>
          simp only
          cases hs : (wr || q.2) with
          | false => rfl
          | true =>
            have := ha g hg q hg2 0 (by simp) (by
              rcases hfc with ⟨rfl, h3⟩ | ⟨rfl, h3⟩
              · exact .inl h3
              · exact .inr ⟨by simpa using hs, h3⟩)
            simp only [Nat.add_zero] at this
            rw [this]; simp
    have hst : drawStep rec P E all a o.1 o.2 i acc s = .fall y s1 := by unfold drawStep; rw [hap]; exact hd
    change thenOps (fun s1 => drawGo rec P E all a l (i + 1) ((i, foot all o.1 s.tm) :: acc) (addLk P all o.1 i s s1 []) s1) (lkStep a i o.2 [] E (drawStep rec P E all a o.1 o.2 i acc s)) = _
    have hlk : lkStep a i o.2 [] E (drawStep rec P E all a o.1 o.2 i acc s) = .fall y s1 := by
      rw [hst]
      unfold lkStep
      split <;> rfl
    rw [hlk]
    have hadd : addLk P all o.1 i s s1 [] = [] := by unfold addLk; rw [hko.2]
    change drawGo rec P E all a l (i + 1) ((i, foot all o.1 s.tm) :: acc) (addLk P all o.1 i s s1 []) s1 = _
    rw [hadd]
    refine calm_draw l (i + 1) _ s1 s' x (fun p hp => hk p (List.mem_cons_of_mem _ hp)) (fun t ht u hu hc => ?_) (fun g hg q hq t ht hc => ?_) h2
    · have := hb (t + 1) (by simpa using ht) (u + 1) (by omega) (by simpa using hc)
      rw [show i + 1 + t = i + (t + 1) from by omega, show i + 1 + u = i + (u + 1) from by omega]; exact this
    · rcases List.mem_cons.1 hg with rfl | hg
      · obtain ⟨b, wr⟩ := q
        have hfc := hfk b wr hq
        have := hb (t + 1) (by simpa using ht) 0 (by omega) (by
          simp only [List.getElem_cons_succ, List.getElem_cons_zero]
          rcases hc with hc | ⟨hw, hc⟩
          · refine .inl ⟨hc, ?_⟩
            rcases hfc with ⟨_, h3⟩ | ⟨_, h3⟩
            · exact .inr h3
            · exact .inl h3
          · refine .inr ⟨hc, ?_⟩
            rcases hfc with ⟨_, h3⟩ | ⟨h4, _⟩
            · exact h3
            · simp only at hw; rw [h4] at hw; cases hw)
        rw [show i + 1 + t = i + (t + 1) from by omega]; simpa using this
      · have := ha g hg q hq (t + 1) (by simpa using ht) (by simpa using hc)
        rw [show i + 1 + t = i + (t + 1) from by omega]; exact this

theorem calm_ok {ops : Array Oper} {E : Env} {s s' : St} {x : X} (hc : calm P ops = true) (h : opsGo rec P E ops.toList ops.toList s = .fall x s') : drawD ops rec P E s = .fall x s' := by
  unfold calm at hc
  simp only [Bool.and_eq_true] at hc
  obtain ⟨hd, hc⟩ := hc
  unfold calmL at hc
  simp only [Bool.and_eq_true] at hc
  obtain ⟨hc1, hc2⟩ := hc
  unfold drawD
  rw [hd]
  have hdo : drawOk P ops.toList = true := by unfold drawable at hd; simp only [Bool.and_eq_true] at hd; exact hd.2
  have hpl : (pairL ops.toList).length = ops.size := by rw [pair_length]; simp
  have hmap : (pairL ops.toList).map (·.1) = ops.toList := by
    apply List.ext_getElem
    · simp [hpl]
    · intro n h1 h2
      have hp : n < (pairL ops.toList).length := by simpa using h1
      obtain ⟨h', g1, _⟩ := pair_get hp
      simp only [List.getElem_map]
      exact g1
  have hcl : ∀ n (h : n < (clsL ops.toList).length), (clsL ops.toList)[n] ≠ 4 := fun n h => by
    have := List.all_eq_true.1 hc1 _ (List.getElem_mem h)
    simpa using this
  have hel : ∀ n (hp : n < (pairL ops.toList).length), ∃ h : n < (clsL ops.toList).length, ((pairL ops.toList)[n]).2 = (clsL ops.toList)[n] := fun n hp => by
    obtain ⟨_, _, g2⟩ := pair_get hp
    obtain ⟨h, g3⟩ := List.getElem?_eq_some_iff.1 g2
    exact ⟨h, g3.symm⟩
  refine calm_draw (pairL ops.toList) 0 [] s s' x (fun p hp => ?_) (fun t ht u hu hcc => ?_) (fun g hg => by cases hg) (by rw [hmap]; exact h)
  · obtain ⟨n, hn, rfl⟩ := List.mem_iff_getElem.1 hp
    obtain ⟨h', g1, g2⟩ := pair_get hn
    obtain ⟨hcn, hce⟩ := hel n hn
    have hno : n < ops.size := by omega
    have hg := clsL_of hno g2
    have hne := hcl n hcn
    rw [← hce] at hne
    have e1 : ((pairL ops.toList)[n]).1 = ops[n] := by rw [g1]; simp
    rw [e1]
    refine ⟨?_, ?_⟩
    · rcases hg with ⟨h1, h2⟩ | ⟨h1, h2⟩
      · exact .inl ⟨h1, hne⟩
      · exact .inr ⟨h1, h2⟩
    · cases hl : isLook ops[n].op with
      | false => rfl
      | true =>
        exfalso
        have h4 : clsOf ops[n].op = 4 := by cases hq : ops[n].op <;> rw [hq] at hl <;> first | rfl | cases hl
        rcases hg with ⟨h1, _⟩ | ⟨h1, _⟩
        · omega
        · have := (drawn_of hdo).nolook n h' (by rw [g2, h1])
          simp only [Array.getElem_toList] at this
          rw [hl] at this; cases this
  · obtain ⟨h1, e1⟩ := hel t ht
    obtain ⟨h2, e2⟩ := hel u (by omega)
    rw [e1, e2] at hcc
    have := zipIdx_all hc2 t h1
    have := zipIdx_all this u h2
    simp only [Bool.or_eq_true, Bool.not_eq_true'] at this
    rcases this with (h3 | h3) | h3
    · rw [blt_tt hu] at h3; cases h3
    · exfalso
      rcases hcc with ⟨h4, h5⟩ | ⟨h4, h5⟩
      · rcases h5 with h5 | h5 <;> simp [h4, h5] at h3
      · simp [h4, h5] at h3
    · simpa using h3

theorem draw_good (hG : Good P G rec) {ops : Array Oper} {E : Env} {s : St} (hok : okOps P ops.toList = true) {id : Nat} : CodeOk P G (drawC ops rec P E s) [.code (.region id ops true)] E s := by
  intro x s' he B β a w b k cs hB hW hS hF
  have he : drawD ops rec P E s = .fall x s' := by
    unfold drawC at he
    split at he
    · rename_i hc; exact calm_ok hc he
    · exact he
  unfold drawD at he
  split at he
  · rename_i hdr
    unfold drawable at hdr
    simp only [Bool.and_eq_true] at hdr
    obtain ⟨hm, hdk⟩ := hdr
    have hD := drawn_of hdk
    obtain ⟨rfl, S, hS0, hSn, hrun⟩ := draw_run _ _ _ _ _ _ _ he
    have hpl : (pairL ops.toList).length = ops.size := by rw [pair_length]; simp
    rw [hpl] at hSn
    have hWd : WR P B β (S 0).V { w with drawn := w.drawn + 1 } := by rw [hS0]; exact hW.drew rfl rfl rfl rfl
    have hSd : SR β E (S 0) a := by rw [hS0]; exact hS
    have F : Facts P G rec E ops S B := by
      refine facts_of hG hB hok hD hWd hSd (fun i h => ?_) (fun i h j hj bb s1 s2 f1 f2 hs => ?_) (fun i h j hij hj h5 hl hw => ?_)
      · have hp : i < (pairL ops.toList).length := by omega
        obtain ⟨h', g1, g2⟩ := pair_get hp
        obtain ⟨r1, _, _⟩ := hrun i hp
        rw [g1] at r1
        exact ⟨_, g2, by simpa using r1⟩
      · have hp : i < (pairL ops.toList).length := by omega
        obtain ⟨h', g1, _⟩ := pair_get hp
        have hpj : j < (pairL ops.toList).length := by omega
        obtain ⟨hj', g1j, _⟩ := pair_get hpj
        obtain ⟨_, _, r3, _⟩ := hrun i hp
        have := r3 j hj bb s1 s2 (by rw [g1]; simpa using f1) (by simp only [g1j]; simpa using f2) hs
        simpa using this
      · have hp : i < (pairL ops.toList).length := by omega
        obtain ⟨h', g1, _⟩ := pair_get hp
        have hpj : j < (pairL ops.toList).length := by omega
        obtain ⟨hj', _, g2j⟩ := pair_get hpj
        obtain ⟨_, _, _, _, r5⟩ := hrun j hpj
        rw [h5] at g2j
        have := r5 i hij (Option.some.inj g2j).symm (by rw [g1]; simpa using hl) (by rw [g1]; simpa using hw)
        rw [g1] at this
        simpa using this
    have I0 : Inv P E ops S B (fun j => (Array.replicate ops.size false).getD j false = true) β a { w with drawn := w.drawn + 1 } := by
      refine inv_start F hWd hSd fun j h => ?_
      by_cases hj : j < ops.size
      · simp [Array.getD, hj] at h
      · simp [Array.getD, hj] at h
    obtain ⟨β', a', w', D', h1, h2, h3, h4⟩ := go_ok hG F (b := b) (k := k) (cs := cs) ops.size (w.tape w.drawn (.order b.fn id)) _ β a _ (by simp) (unl_le _ _) I0
    obtain ⟨e2, e3⟩ := inv_end F h2 h3
    rw [hSn] at e2 e3
    refine ⟨β', a', w', h1, e2, e3, .head stepR_region_draw ?_⟩
    simp only [Region.schedule, hm, Bool.true_or, if_true]
    exact h4.trans (.one stepR_region_end)
  · cases he
end
end Go.Vx
