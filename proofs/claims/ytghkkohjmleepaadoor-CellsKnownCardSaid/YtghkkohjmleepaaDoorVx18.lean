/-
  Says: Regions whose operations come in any order: new variables, whatever else.
-/
import Derived.Test.YtghkkohjmleepaaDoorVx17
/-! Regions whose operations come in any order: new variables, whatever else. -/
set_option linter.unusedVariables false
set_option linter.unusedSimpArgs false
namespace Go.Vx
open Go.RowKit

section
variable {P : Program} {G : VW} {rec : Rec} {E : Env} {ops : Array Oper} {S : Nat → St} {B : Base} {D : Nat → Prop} {β : Nat → Ren} {a : Act} {w : World}

theorem last_five (D : Nat → Prop) (l : List Nat) (i : Nat) : ∀ n, i + 1 ≤ n → ∃ k, i + 1 ≤ k ∧ k ≤ n ∧ (k = i + 1 ∨ ∃ m, k = m + 1 ∧ i < m ∧ D m ∧ l[m]? = some 5) ∧ ∀ j, k ≤ j → j < n → D j → l[j]? ≠ some 5 := by
  intro n
  induction n with
  | zero => intro h; omega
  | succ n ih =>
    intro h
    rcases Nat.lt_or_ge i n with h' | h'
    · by_cases hn : D n ∧ l[n]? = some 5
      · exact ⟨n + 1, by omega, Nat.le_refl _, .inr ⟨n, rfl, h', hn⟩, fun j h1 h2 => by omega⟩
      · obtain ⟨k, h1, h2, h3, h4⟩ := ih h'
        refine ⟨k, h1, by omega, h3, fun j g1 g2 hD h5 => ?_⟩
        rcases Nat.lt_or_ge j n with g | g
        · exact h4 j g1 g hD h5
        · have : j = n := by omega
          subst this; exact hn ⟨hD, h5⟩
    · exact ⟨i + 1, by omega, h, .inl rfl, fun j h1 h2 => by omega⟩

theorem alloc_spec {o : Oper} (hc : clsOf o.op = 1) {e ρ : Rho} {V V' : VW} {v : Value} (hρ : ∀ x ∈ o.op.operands, VR β (e x) (ρ x)) (hp : plainGo P o e V = .val v V') :
    ∃ c ty c', V.size < top ∧ v = .pointer (some ⟨V.size, 0, none⟩) ∧ V' = V.push (.cells c ty false) ∧ VRs β c c' ∧ RunsTo P (execOp ρ o) w (.pointer (some ⟨w.heap.size, 0, none⟩)) (w.alloc (.cells ⟨c'⟩ ty (0, 0))) := by
  obtain ⟨dst, op, type, pos, after, guard⟩ := o
  cases op <;> first | (simp [clsOf, quiet] at hc; done) | skip
  case alloc t =>
    change allocO t P e V = _ at hp
    unfold allocO at hp
    split at hp
    · rename_i z hz
      obtain ⟨_, _, _, _, _, hat⟩ := zeroL_spec hz
      obtain ⟨h1, h2, h3⟩ := newGo_spec hp
      exact ⟨z, t, z, h1, h2, h3, VRs.atoms hat, .inl (run_v (run_alloc hz))⟩
    · cases hp
  case box t x =>
    change boxO t x P e V = _ at hp
    have hx := hρ x (by simp [Op.operands])
    obtain ⟨h1, h2, h3⟩ := newGo_spec hp
    exact ⟨cellsL (e x), t, cellsL (ρ x), h1, h2, h3, hx.cellsL, .inl (run_v (by
      simp only [Instr.box, newVar, newRow, Sem.run_bind, run_newObj_alloc, Result.andThen_ok, Sem.run_pure, cells_eq]))⟩

theorem alloc_step (F : Facts P G rec E ops S B) (I : Inv P E ops S B D β a w) {i : Nat} (hr : ReadyD ops.toList D i) (hi : i < ops.size) (hc : clsOf ops[i].op = 1) {v : Value}
    (hput : (ops[i].dst = none ∧ (S (i + 1)).tm = (S i).tm) ∨ ∃ t, ops[i].dst = some t ∧ t < E.nt ∧ t < top ∧ (S (i + 1)).tm = (S i).tm.set 21 t v)
    {V' : VW} (hp : plainGo P ops[i] (ev (S i).tm) (upV (S i).V) = .val v V') (hV : (S (i + 1)).V.heap = V'.heap) (hVs : (S (i + 1)).V.size = V'.size) :
    ∃ β' v' w', Ext β β' ∧ RunsTo P (execOp a.eval ops[i]) w v' w' ∧ Inv P E ops S B (fun j => D j ∨ j = i) β' (a.put ops[i].dst v') w' := by
  obtain ⟨c, ty, c', h1, rfl, rfl, h4, h5⟩ := alloc_spec (w := w) hc (look_op F I hr hi) hp
  have h1 : (S i).V.size < top := h1
  have hN1 : (S (i + 1)).V.size = (S i).V.size + 1 := hVs
  obtain ⟨N, hN⟩ : ∃ N, (S i).V.size = N := ⟨_, rfl⟩
  have hget : ∀ x, (S (i + 1)).V.heap.get x = if x = N then some (.cells c ty false) else (S i).V.heap.get x := fun x => by
    rw [hV, ← hN]; exact VW.get_push (V := upV (S i).V) h1 _ x
  have hf : β N = .fresh := new_fresh F I hr.2.1 hi (by omega) (by omega)
  have hx := Ext.fresh hf (.live w.heap.size 0 0)
  have hnw : ∀ x, ¬ Wr ops S i x := no_wr hi (by omega) (by omega)
  have hfN : (S 0).V.floor ≤ N := by
    have := size_le F i 0 (by omega) (by omega)
    have := F.gsz
    omega
  have hnew : ∃ k, k ≤ ops.size ∧ Settled ops S (fun j => D j ∨ j = i) k N ∧ N < (S k).V.size ∧ (S k).V.heap.get N = some (.cells c ty false) := by
    obtain ⟨k, k1, k2, k3, k4⟩ := last_five D (clsL ops.toList) i ops.size hi
    have hDj : ∀ j, j < ops.size → Wr ops S j N → D j → (clsL ops.toList)[j]? = some 5 := fun j hj hw hD => by
      rcases wr_cls hj hw with ⟨h, _⟩ | ⟨h, _⟩
      · exact h
      · exact absurd hf (I.wrd j hD _ N (Array.getElem?_eq_getElem hj) h)
    have hback : ∀ j, j < ops.size → i < j → j < k → Wr ops S j N → D j := by
      intro j hj hij hjk hw
      rcases k3 with h | ⟨m, rfl, him, hDm, h5⟩
      · omega
      · by_cases hjm : j = m
        · subst hjm; exact hDm
        · have hms : m < ops.size := by omega
          have hord := F.drawn.five m (by simpa using hms) h5 j (by simpa using hj) (fun hh => hjm hh.symm) (by
            rcases wr_cls hj hw with ⟨_, h⟩ | ⟨_, h⟩ <;> simp only [Array.getElem_toList] <;> omega)
          rw [ordB_lt (by omega)] at hord
          exact anc_in F.drawn.ord I.closed (m + 1) m (by omega) (by simpa using hms) j hord (I.closed m (by simpa using hms) hDm)
    refine ⟨k, k2, fun j hj hw => ?_, ?_, ?_⟩
    · have hij := wr_later F hj (by omega : (S i).V.size ≤ N) hi hw
      constructor
      · rintro (hD | rfl)
        · rcases Nat.lt_or_ge j k with h | h
          · exact h
          · exact absurd (hDj j hj hw hD) (k4 j h hj hD)
        · omega
      · intro hjk
        exact .inl (hback j hj hij hjk hw)
    · have := size_le F k (i + 1) k1 k2; omega
    · rw [chain_le F (x := N) (k := i + 1) (by omega) k k1 k2 fun j g1 g2 => ?_, hget, if_pos rfl]
      have hj : j < ops.size := by omega
      by_cases hw : Wr ops S j N
      · have hD := hback j hj (by omega) g2 hw
        have := size_le F j (i + 1) g1 (by omega)
        exact .inr (I.frs j hD (hDj j hj hw hD) N (by omega) hf)
      · exact .inl hw
  have hvr : VR (upd β N (.live w.heap.size 0 0)) (.pointer (some ⟨(upV (S i).V).size, 0, none⟩)) (.pointer (some ⟨w.heap.size, 0, none⟩)) :=
    VR.ptr (o := 0) (cp := 0) (sh := 0) (by show upd β N _ (S i).V.size = _; rw [hN]; exact upd_same _ _ _)
  refine ⟨upd β N (.live w.heap.size 0 0), _, _, hx, h5, inv_step F I hr hi hx hvr hput (fun x hxl => upd_ne _ _ (by omega)) (fun x hxf => ?_) (fun x b cp sh he => ?_) (fun x he => ?_) ?_ ?_
    (I.base.alloc I.base.size _) (fun b hb => ?_) (fun h5 => absurd h5 (no_five hi (by omega))) (fun x h => absurd h (no_store hi (by omega) x))⟩
  · by_cases hxN : x = N
    · exact .inr (by omega)
    · rw [upd_ne _ _ hxN] at hxf; exact .inl hxf
  · by_cases hxN : x = N
    · subst hxN
      rw [upd_same] at he; cases he
      obtain ⟨k, k1, k2, k3, k4⟩ := hnew
      exact ⟨k, k1, k2, k3, _, _, k4, World.alloc_heap_new w _, (ObjR.whole h4 (by simp)).mono hx⟩
    · rw [upd_ne _ _ hxN] at he
      obtain ⟨k, k1, k2, k3, p, p', k4, k5, k6⟩ := I.mem x b cp sh he
      exact ⟨k, k1, settled_same k2 (hnw x), k3, p, p', k4, by rw [Below.heap_alloc _ _ _ (block_lt k5)]; exact k5, k6.mono hx⟩
  · by_cases hxN : x = N
    · subst hxN; rw [upd_same] at he; cases he
    · rw [upd_ne _ _ hxN] at he
      obtain ⟨k, k1, k2, k3, k4⟩ := I.dead x he
      exact ⟨k, k1, settled_same k2 (hnw x), k3, k4⟩
  · intro x y b cp1 sh1 cp2 sh2 e1 e2
    have old : ∀ y cp sh, β y ≠ .live w.heap.size cp sh := fun y cp sh he => by
      obtain ⟨_, _, _, _, _, p', _, hb, _⟩ := I.mem y _ _ _ he
      have := block_lt hb; omega
    by_cases hxN : x = N
    · by_cases hyN : y = N
      · omega
      · subst hxN; rw [upd_same] at e1; rw [upd_ne _ _ hyN] at e2; cases e1; exact absurd e2 (old _ _ _)
    · rw [upd_ne _ _ hxN] at e1
      by_cases hyN : y = N
      · subst hyN; rw [upd_same] at e2; cases e2; exact absurd e1 (old _ _ _)
      · rw [upd_ne _ _ hyN] at e2; exact I.inj _ _ _ _ _ _ _ e1 e2
  · intro x b cp sh he hxl
    by_cases hxN : x = N
    · subst hxN; rw [upd_same] at he; cases he
      exact ⟨I.base.size, fun hp => absurd (I.kept _ hp).1 (Nat.lt_irrefl _)⟩
    · rw [upd_ne _ _ hxN] at he; exact I.own _ _ _ _ he hxl
  · obtain ⟨k1, k2⟩ := I.kept b hb
    exact ⟨by simp; omega, by rw [Below.heap_alloc _ _ _ k1]; exact k2⟩

/-- Whatever stands in order to all that writes. -/
theorem whole_step (hG : Good P G rec) (F : Facts P G rec E ops S B) (I : Inv P E ops S B D β a w) {i : Nat} (hr : ReadyD ops.toList D i) (hi : i < ops.size) (hc : clsOf ops[i].op = 4)
    (hall : ∀ x, Settled ops S D i x) (hlater : ∀ j, j < ops.size → i < j → ∀ x, Wr ops S j x → (S i).V.size ≤ x → ¬ D j)
    {W0 : World} {V : VW} (hVh : V.heap = (S i).V.heap) (hVs : V.size = (S i).V.size) (hVf : (S 0).V.floor ≤ V.floor) (hVn : V.floor ≤ (S i).V.size)
    (hown : ∀ x b cp sh, x < (S i).V.size → β x = .live b cp sh → V.floor ≤ x → W0.heap.size ≤ b ∧ ¬ B.prot b) (hb0 : Below W0.heap.size W0 w) (hsz0 : B.w0.heap.size ≤ W0.heap.size) (hW0 : ∀ w1, Below W0.heap.size W0 w1 → Below B.w0.heap.size B.w0 w1)
    {s1 : St} (hgo : oneGo rec P E ops.toList ops[i] (S i) V = .fall .normal s1) (hs1 : (S (i + 1)).tm = s1.tm ∧ (S (i + 1)).V.heap = s1.V.heap ∧ (S (i + 1)).V.size = s1.V.size)
    {b : Frame} {rest : List Nat} {k : List Item} {cs : List Frame} :
    ∃ β' v' w', Ext β β' ∧ Inv P E ops S B (fun j => D j ∨ j = i) β' (a.put ops[i].dst v') w' ∧ Steps P (lone (b.atR a (.inRegion ops (i :: rest) :: k)) cs w) (lone (b.atR (a.put ops[i].dst v') (.inRegion ops rest :: k)) cs w') := by
  obtain ⟨N, hN⟩ : ∃ N, (S i).V.size = N := ⟨_, rfl⟩
  have hglN := size_glob F (Nat.le_of_lt hi)
  have hcut : ∀ x b cp sh, cutR N β x = .live b cp sh → x < N ∧ β x = .live b cp sh := fun x b cp sh h => by
    rcases Nat.lt_or_ge x N with h' | h'
    · rw [cutR_lt h'] at h; exact ⟨h', h⟩
    · rw [cutR_ge h'] at h; cases h
  have hcutD : ∀ x, cutR N β x = .dead → x < N ∧ β x = .dead := fun x h => by
    rcases Nat.lt_or_ge x N with h' | h'
    · rw [cutR_lt h'] at h; exact ⟨h', h⟩
    · rw [cutR_ge h'] at h; cases h
  let B' : Base := ⟨W0, V, cutR N β, w, fun q => B.prot q ∨ ∃ x cp sh, N ≤ x ∧ β x = .live q cp sh⟩
  have hW : WR P B' (cutR N β) V w := by
    refine ⟨fun g hg => by rw [cutR_lt (by omega)]; exact I.glob g hg, Nat.le_trans F.gfl hVf, by omega, by rw [hVs]; exact F.top i (Nat.le_of_lt hi), fun x hx => cutR_ge (by omega), fun x b cp sh he => ?_, fun x he => ?_, fun x y b cp sh cp' sh' h1 h2 => I.inj x y b cp sh cp' sh' (hcut _ _ _ _ h1).2 (hcut _ _ _ _ h2).2,
      fun x b cp sh he hx => ?_, fun _ _ => rfl, rfl, fun _ _ => rfl, Nat.le_refl _, hb0, fun q hq => ?_, fun _ _ hf => ⟨hf, rfl⟩, fun x o ho => ?_⟩
    · obtain ⟨h1, h2⟩ := hcut _ _ _ _ he
      obtain ⟨o, o', g1, g2, g3⟩ := mem_at F I (Nat.le_of_lt hi) h2 (hall x) (by omega)
      have hbd := F.bd i (Nat.le_of_lt hi) x o g1
      rw [hN] at hbd
      exact ⟨o, o', by rw [hVh]; exact g1, g2, g3.cut hbd⟩
    · obtain ⟨h1, h2⟩ := hcutD _ he
      rw [hVh]; exact dead_at F I (Nat.le_of_lt hi) h2 (hall x) (by omega)
    · obtain ⟨h1, h2⟩ := hcut _ _ _ _ he
      obtain ⟨g1, g2⟩ := hown x b cp sh (by omega) h2 hx
      refine ⟨g1, fun hp => ?_⟩
      rcases hp with hp | ⟨y, cp', sh', hy, hye⟩
      · exact g2 hp
      · have := I.inj _ _ _ _ _ _ _ h2 hye; omega
    · rcases hq with hq | ⟨y, cp', sh', hy, hye⟩
      · exact ⟨(I.kept q hq).1, rfl⟩
      · obtain ⟨_, _, _, _, _, p', _, hb, _⟩ := I.mem y _ _ _ hye
        exact ⟨block_lt hb, rfl⟩
    · rw [hVh] at ho; rw [hVs]; exact F.bd i (Nat.le_of_lt hi) x o ho
  have hB : HB P G B' := fun g hg => by
    show V.heap.get g = _
    have := F.gfl
    rw [hVh, F.keep0 i (Nat.le_of_lt hi) g (by omega), ← F.keep0 0 (Nat.zero_le _) g (by omega)]
    exact F.hb g hg
  have hρ := look_cut F I hr hi
  rw [hN] at hρ
  obtain ⟨v, V', hput, β1, v', w1, e1, e2, e3, e4⟩ := one_ok hG hgo hB hW (look_want F I hr hi) hρ (b := b) (rest := rest) (k := k) (cs := cs) (Array.getElem?_eq_getElem hi)
  obtain ⟨_, hV1, _, htm⟩ := put_ok hput
  obtain ⟨N1, hN1⟩ : ∃ n, V'.size = n := ⟨_, rfl⟩
  have hS1 : (S (i + 1)).V.size = N1 := by rw [hs1.2.2, hV1, hN1]
  have hSh : (S (i + 1)).V.heap = V'.heap := by rw [hs1.2.1, hV1]
  have hNN : N ≤ N1 := by have := F.size i hi; omega
  have hfl1 : V'.floor = V.floor := e2.flo
  have hlow1 : ∀ x, x < V.floor → β1 x = β x := fun x hx => by
    rw [e2.low x (by omega)]
    show cutR N β x = β x
    exact cutR_lt (by omega)
  have hnew : ∀ x, N ≤ x → x < N1 → β x = .fresh := fun x h1 h2 => new_fresh F I hr.2.1 hi (by omega) (by omega)
  obtain ⟨β', hβ'⟩ : ∃ β' : Nat → Ren, ∀ x, β' x = if x < N1 then β1 x else β x := ⟨_, fun _ => rfl⟩
  have hlt : ∀ x, x < N1 → β' x = β1 x := fun x h => by rw [hβ', if_pos h]
  have hge : ∀ x, N1 ≤ x → β' x = β x := fun x h => by rw [hβ', if_neg (by omega)]
  have hx : Ext β β' := by
    refine ⟨fun x b cp sh he => ?_, fun x he => ?_⟩ <;> rcases Nat.lt_or_ge x N1 with h | h
    · rw [hlt x h]
      rcases Nat.lt_or_ge x N with h' | h'
      · exact e1.1 x b cp sh (by rw [cutR_lt h']; exact he)
      · rw [hnew x h' h] at he; cases he
    · rw [hge x h]; exact .inl he
    · rw [hlt x h]
      rcases Nat.lt_or_ge x N with h' | h'
      · exact e1.2 x (by rw [cutR_lt h']; exact he)
      · rw [hnew x h' h] at he; cases he
    · rw [hge x h]; exact he
  have hx1 : Ext β1 β' := by
    have hout : ∀ x, N1 ≤ x → β1 x = .fresh := fun x h => e2.out x (by omega)
    refine ⟨fun x b cp sh he => ?_, fun x he => ?_⟩ <;> rcases Nat.lt_or_ge x N1 with h | h
    · rw [hlt x h]; exact .inl he
    · rw [hout x h] at he; cases he
    · rw [hlt x h]; exact he
    · rw [hout x h] at he; cases he
  have hnwg : ∀ x, N ≤ x → ¬ Wr ops S i x := fun x hxN h => by
    have := wr_later F hi (by omega : (S i).V.size ≤ x) hi h
    omega
  have hset : ∀ x, x < N1 → Settled ops S (fun j => D j ∨ j = i) (i + 1) x := fun x hx1 => by
    rcases Nat.lt_or_ge x N with h | h
    · exact settled_succ hr.2.1 (hall x)
    · intro j hj hw
      have hij := wr_later F hj (by omega : (S i).V.size ≤ x) hi hw
      constructor
      · rintro (hD | rfl)
        · exact absurd hD (hlater j hj hij x hw (by omega))
        · omega
      · intro h'; omega
  refine ⟨β', v', w1, hx, inv_step F I hr hi hx (e3.mono hx1) (by rw [hs1.1]; exact htm) (fun x hxl => ?_) (fun x hxf => ?_) (fun x b cp sh he => ?_) (fun x he => ?_) ?_ ?_ (hW0 _ e2.base) (fun q hq => ?_) (fun _ x hxs hf => ?_) (fun x h => absurd h (no_store hi (by omega) x)), e4⟩
  · have := F.gsz
    have := size_le F i 0 (by omega) (by omega)
    rw [hlt x (by omega)]; exact hlow1 x (by omega)
  · rcases Nat.lt_or_ge x N1 with h | h
    · rcases Nat.lt_or_ge x N with h' | h'
      · refine .inl fun hf => hxf ?_
        rw [hlt x h]
        exact (e2.frz x (by show x < V.size; omega) (by show cutR N β x = _; rw [cutR_lt h']; exact hf)).1
      · exact .inr (by omega)
    · rw [hge x h] at hxf; exact .inl hxf
  · rcases Nat.lt_or_ge x N1 with h | h
    · rw [hlt x h] at he
      obtain ⟨o, o', g1, g2, g3⟩ := e2.obj x b cp sh he
      exact ⟨i + 1, hi, hset x h, by omega, o, o', by rw [hSh]; exact g1, g2, g3.mono hx1⟩
    · rw [hge x h] at he
      obtain ⟨k, k1, k2, k3, p, p', k4, k5, k6⟩ := I.mem x b cp sh he
      refine ⟨k, k1, settled_same k2 (hnwg x (by omega)), k3, p, p', k4, ?_, k6.mono hx⟩
      rw [(e2.kept b (.inr ⟨x, cp, sh, by omega, he⟩)).2]; exact k5
  · rcases Nat.lt_or_ge x N1 with h | h
    · rw [hlt x h] at he
      exact ⟨i + 1, hi, hset x h, by omega, by rw [hSh]; exact e2.dead x he⟩
    · rw [hge x h] at he
      obtain ⟨k, k1, k2, k3, k4⟩ := I.dead x he
      exact ⟨k, k1, settled_same k2 (hnwg x (by omega)), k3, k4⟩
  · have mixed : ∀ x y b cp sh cp' sh', x < N1 → N1 ≤ y → β1 x = .live b cp sh → β y = .live b cp' sh' → x = y := by
      intro x y b cp sh cp' sh' h1 h2 g1 g2
      rcases Nat.lt_or_ge x V.floor with h | h
      · rw [hlow1 x h] at g1; exact I.inj _ _ _ _ _ _ _ g1 g2
      · exact absurd (.inr ⟨y, cp', sh', by omega, g2⟩) (e2.own x b cp sh g1 (by omega)).2
    intro x y b cp sh cp' sh' g1 g2
    rcases Nat.lt_or_ge x N1 with h | h <;> rcases Nat.lt_or_ge y N1 with h' | h'
    · rw [hlt x h] at g1; rw [hlt y h'] at g2; exact e2.inj _ _ _ _ _ _ _ g1 g2
    · rw [hlt x h] at g1; rw [hge y h'] at g2; exact mixed x y _ _ _ _ _ h h' g1 g2
    · rw [hge x h] at g1; rw [hlt y h'] at g2; exact (mixed y x _ _ _ _ _ h' h g2 g1).symm
    · rw [hge x h] at g1; rw [hge y h'] at g2; exact I.inj _ _ _ _ _ _ _ g1 g2
  · intro x b cp sh he hxl
    rcases Nat.lt_or_ge x N1 with h | h
    · rw [hlt x h] at he
      rcases Nat.lt_or_ge x V.floor with h' | h'
      · rw [hlow1 x h'] at he; exact I.own _ _ _ _ he hxl
      · obtain ⟨g1, g2⟩ := e2.own x b cp sh he (by omega)
        exact ⟨Nat.le_trans hsz0 g1, fun hp => g2 (.inl hp)⟩
    · rw [hge x h] at he; exact I.own _ _ _ _ he hxl
  · obtain ⟨k1, k2⟩ := e2.kept q (.inl hq)
    exact ⟨k1, k2.trans (I.kept q hq).2⟩
  · rw [hSh, ← hVh]
    have hfb := hx.back hf
    exact (e2.frz x (by show x < V.size; omega) (by show cutR N β x = _; rw [cutR_lt (by omega)]; exact hfb)).2
end
end Go.Vx
