/-
  Says: Regions whose operations come in any order: the whole.
-/
import Derived.Test.YtghkkohjmleepaaDoorVx18
/-! Regions whose operations come in any order: the whole. -/
set_option linter.unusedVariables false
set_option linter.unusedSimpArgs false
namespace Go.Vx
open Go.RowKit

section
variable {P : Program} {G : VW} {rec : Rec} {E : Env} {ops : Array Oper} {S : Nat → St} {B : Base} {D : Nat → Prop} {β : Nat → Ren} {a : Act} {w : World}

theorem ord_later (F : Facts P G rec E ops S B) (I : Inv P E ops S B D β a w) {i j : Nat} (hr : ReadyD ops.toList D i) (hj : j < ops.size) (hij : i < j) (ho : ordB (ancsL ops.toList) i j = true) : ¬ D j := fun hD => by
  rw [ordB_comm, ordB_lt hij] at ho
  exact hr.2.1 (anc_in F.drawn.ord I.closed (j + 1) j (by omega) (by simpa using hj) i ho (I.closed j (by simpa using hj) hD))

theorem later_five (F : Facts P G rec E ops S B) (I : Inv P E ops S B D β a w) {i : Nat} (hr : ReadyD ops.toList D i) (h5 : (clsL ops.toList)[i]? = some 5) (hi : i < ops.size) :
    ∀ j, j < ops.size → i < j → ∀ x, Wr ops S j x → (S i).V.size ≤ x → ¬ D j := by
  intro j hj hij x hw _
  refine ord_later F I hr hj hij (F.drawn.five i (by simpa using hi) h5 j (by simpa using hj) (by omega) ?_)
  rcases wr_cls hj hw with ⟨_, h⟩ | ⟨_, h⟩ <;> simp only [Array.getElem_toList] <;> omega
theorem later_four (F : Facts P G rec E ops S B) (I : Inv P E ops S B D β a w) {i : Nat} (hr : ReadyD ops.toList D i) (h4 : (clsL ops.toList)[i]? = some 4) (hc : clsOf (ops.toList[i]'hr.1).op = 4) :
    ∀ j, j < ops.size → i < j → ∀ x, Wr ops S j x → (S i).V.size ≤ x → ¬ D j := by
  intro j hj hij x hw _
  refine ord_later F I hr hj hij ?_
  rcases wr_cls hj hw with ⟨h5, _⟩ | ⟨_, h3⟩
  · rw [ordB_comm]
    exact F.drawn.five j (by simpa using hj) h5 i hr.1 (by omega) (by omega)
  · exact F.drawn.four i j h4 (cls_of_three hj h3)

theorem cls_le (o : Op) : clsOf o ≤ 4 := by cases o <;> simp [clsOf, quiet]
theorem cls_quiet {o : Op} (h : clsOf o = 0) : quiet o = true := by cases o <;> simp [clsOf, quiet] at h ⊢
theorem cls_load {o : Op} (h : clsOf o = 2) : ∃ t a, o = .load t a := by
  cases o <;> first | exact ⟨_, _, rfl⟩ | (simp [clsOf, quiet] at h; done)
theorem cls_call {o : Op} (h : clsOf o ≠ 4) : (∀ c, o ≠ .call c) ∧ ∀ c, o ≠ .defer c := by
  refine ⟨fun c hc => ?_, fun c hc => ?_⟩ <;> (rw [hc] at h; exact absurd rfl h)

theorem step_any (hG : Good P G rec) (F : Facts P G rec E ops S B) (I : Inv P E ops S B D β a w) {i : Nat} (hr : ReadyD ops.toList D i) (hi : i < ops.size) {b : Frame} {rest : List Nat} {k : List Item} {cs : List Frame} :
    ∃ β' a' w', Ext β β' ∧ Inv P E ops S B (fun j => D j ∨ j = i) β' a' w' ∧ Steps P (lone (b.atR a (.inRegion ops (i :: rest) :: k)) cs w) (lone (b.atR a' (.inRegion ops rest :: k)) cs w') := by
  obtain ⟨kk, hk, hone⟩ := F.run i hi
  have hoi : ops[i]? = some ops[i] := Array.getElem?_eq_getElem hi
  have hflr := F.floor i (Nat.le_of_lt hi)
  have hfl : (S 0).V.floor ≤ (S i).V.size := by
    have := size_le F i 0 (by omega) (by omega)
    have := F.gsz
    omega
  by_cases hc4 : clsOf ops[i].op = 4
  · rcases clsL_of hi hk with ⟨h, h5⟩ | ⟨h, _⟩
    · rw [hc4] at h
      subst h
      rcases oneDraw_cases hone with ⟨hk35, _⟩ | ⟨_, t, hgo, hs1⟩
      · omega
      · obtain ⟨β', v', w', h1, h2, h3⟩ := whole_step hG F I hr hi hc4 (settled_four F I hr hi hk) (later_four F I hr hk (by simpa using hc4)) (W0 := w) (V := upV (S i).V) rfl rfl hfl (Nat.le_refl _)
          (fun x b cp sh hx _ hf => absurd hx (by have : (S i).V.size ≤ x := hf; omega)) (.refl _ _) I.base.size (fun w1 hb => I.base.trans (hb.mono I.base.size)) hgo (by rw [hs1]; exact ⟨rfl, rfl, rfl⟩) (b := b) (rest := rest) (k := k) (cs := cs)
        exact ⟨β', _, w', h1, h2, h3⟩
    · subst h
      rcases oneDraw_cases hone with ⟨_, hgo⟩ | ⟨hk35, _⟩
      · obtain ⟨β', v', w', h1, h2, h3⟩ := whole_step hG F I hr hi hc4 (settled_five F I hr hi hk) (later_five F I hr hk hi) (W0 := B.w0) (V := (S i).V) rfl rfl (by omega) (by omega)
          (fun x b cp sh _ he hf => I.own x b cp sh he (by omega)) I.base (Nat.le_refl _) (fun w1 hb => hb) hgo ⟨rfl, rfl, rfl⟩ (b := b) (rest := rest) (k := k) (cs := cs)
        exact ⟨β', _, w', h1, h2, h3⟩
      · omega
  · have hkc : kk = clsOf ops[i].op := by
      rcases clsL_of hi hk with ⟨h, _⟩ | ⟨_, h⟩
      · exact h
      · exact absurd h hc4
    obtain ⟨_, v, V', hV, _, hput, hcase⟩ := draw_put hone
    have hVh : (S (i + 1)).V.heap = V'.heap := by rw [hV]
    have hVs : (S (i + 1)).V.size = V'.size := by rw [hV]
    rcases hcase with ⟨hw, hop⟩ | ⟨hw, rfl, hV2⟩
    · have hwd : Region.wanted ops[i] (yielded ops a.tmps) = true := by rw [← look_want F I hr hi]; exact hw
      obtain ⟨hnc, hnd⟩ := cls_call hc4
      have hop2 := hop
      rw [opGo_plain hnc] at hop
      have hle := cls_le ops[i].op
      have done : ∀ {β' : Nat → Ren} {v' : Value} {w' : World}, Ext β β' → RunsTo P (execOp a.eval ops[i]) w v' w' → Inv P E ops S B (fun j => D j ∨ j = i) β' (a.put ops[i].dst v') w' →
          ∃ β' a' w', Ext β β' ∧ Inv P E ops S B (fun j => D j ∨ j = i) β' a' w' ∧ Steps P (lone (b.atR a (.inRegion ops (i :: rest) :: k)) cs w) (lone (b.atR a' (.inRegion ops rest :: k)) cs w') :=
        fun h1 h2 h3 => ⟨_, _, _, h1, h3, .one (stepR_value hoi hwd hnd h2)⟩
      by_cases h0 : clsOf ops[i].op = 0
      · obtain ⟨v', w', g1, g2⟩ := quiet_step F I hr hi h0 hput (cls_quiet h0) hop
        exact done (.refl _) g1 g2
      · by_cases h1 : clsOf ops[i].op = 1
        · rw [if_neg (by omega)] at hop
          obtain ⟨β', v', w', g0, g1, g2⟩ := alloc_step F I hr hi h1 hput hop hVh hVs
          exact done g0 g1 g2
        · by_cases h2 : clsOf ops[i].op = 2
          · rw [if_neg (by omega)] at hop
            obtain ⟨t, ad, hld⟩ := cls_load h2
            obtain ⟨v', g1, g2⟩ := load_step F I hr hi hld hput hw hop
            exact done (.refl _) g1 g2
          · have h3 : clsOf ops[i].op = 3 := by omega
            rw [if_pos (by omega)] at hop2
            obtain ⟨v', w', g1, g2⟩ := store_step F I hr hi h3 hput hw hop2 hVh
            exact done (.refl _) g1 g2
    · have hwd : Region.wanted ops[i] (yielded ops a.tmps) = false := by rw [← look_want F I hr hi]; exact hw
      refine ⟨β, _, w, .refl _, skip_ok F I hr hi hput hw ?_, .one ?_⟩
      · rw [hVh, hV2]; split <;> rfl
      · have h := stepR_op_skip (P := P) (b := b) (a := a) (k := k) (cs := cs) (w := w) (ops := ops) (i := i) (rest := rest) (by rw [hoi]; simpa using hwd)
        rw [hoi] at h; exact h

/-! ### All of them -/
def unl (f : Nat → Bool) : Nat → Nat
  | 0 => 0
  | n + 1 => unl f n + (if f n then 0 else 1)
theorem unl_le (f : Nat → Bool) : ∀ n, unl f n ≤ n
  | 0 => Nat.le_refl _
  | n + 1 => by have := unl_le f n; simp only [unl]; split <;> omega
theorem unl_zero {f : Nat → Bool} : ∀ n, unl f n = 0 → ∀ j, j < n → f j = true
  | n + 1, h, j, hj => by
    simp only [unl] at h
    rcases Nat.lt_or_ge j n with h' | h'
    · exact unl_zero n (by omega) j h'
    · have : j = n := by omega
      subst this
      split at h
      · assumption
      · omega
theorem unl_congr {f g : Nat → Bool} : ∀ n, (∀ j, j < n → f j = g j) → unl f n = unl g n
  | 0, _ => rfl
  | n + 1, h => by simp only [unl]; rw [unl_congr n fun j hj => h j (by omega), h n (by omega)]
theorem unl_set {f g : Nat → Bool} {i : Nat} (hfi : f i = false) (hgi : g i = true) (ho : ∀ j, j ≠ i → g j = f j) : ∀ n, i < n → unl g n + 1 = unl f n
  | n + 1, h => by
    simp only [unl]
    rcases Nat.lt_or_ge i n with h' | h'
    · have := unl_set hfi hgi ho n h'
      rw [ho n (by omega)]; omega
    · have : n = i := by omega
      subst this
      rw [hfi, hgi, unl_congr n fun j hj => ho j (by omega)]
      simp

theorem ready_mem {listed : Array Bool} {i : Nat} (h : i ∈ Region.ready .any ops listed) (hs : listed.size = ops.size) : i < ops.size ∧ ReadyD ops.toList (fun j => listed.getD j false = true) i := by
  simp only [Region.ready, List.mem_filter, List.mem_range, Bool.and_eq_true, Bool.not_eq_true'] at h
  obtain ⟨h1, h2, h3⟩ := h
  refine ⟨h1, by simpa using h1, fun hD => ?_, fun e he hb => ?_⟩
  · have hl : i < listed.size := by omega
    simp [Array.getD, hl] at h2 hD
    rw [h2] at hD; cases hD
  · rw [Array.getElem?_eq_getElem h1] at h3
    simp only [Option.map_some, Option.getD_some] at h3
    have := Array.all_eq_true_iff_forall_mem.1 h3 e (by simpa using he)
    rw [hb] at this
    simpa using this

theorem ready_none (hD : Drawn ops.toList) {listed : Array Bool} (hs : listed.size = ops.size) (h : Region.ready .any ops listed = []) : ∀ n j, j < n → j < ops.size → listed.getD j false = true := by
  intro n
  induction n with
  | zero => intro j hj; omega
  | succ n ih =>
    intro j hjn hj
    cases hb : listed.getD j false with
    | true => rfl
    | false =>
      exfalso
      have hm : j ∈ Region.ready .any ops listed := by
        simp only [Region.ready, List.mem_filter, List.mem_range, Bool.and_eq_true, Bool.not_eq_true']
        refine ⟨hj, ?_, ?_⟩
        · have hl : j < listed.size := by omega
          simp [Array.getD, hl] at hb ⊢
          exact hb
        · rw [Array.getElem?_eq_getElem hj]
          simp only [Option.map_some, Option.getD_some]
          refine Array.all_eq_true_iff_forall_mem.2 fun e he => ?_
          cases hbd : Region.binds .any e with
          | false => rfl
          | true =>
            have hlt := hD.ord j (by simpa using hj) e (by simpa using he) hbd
            simpa using ih e.on (by omega) (by omega)
      rw [h] at hm; cases hm

theorem go_ok (hG : Good P G rec) (F : Facts P G rec E ops S B) {b : Frame} {k : List Item} {cs : List Frame} : ∀ (fuel t : Nat) (listed : Array Bool) (β : Nat → Ren) (a : Act) (w : World), listed.size = ops.size → unl (fun j => listed.getD j false) ops.size ≤ fuel →
    Inv P E ops S B (fun j => listed.getD j false = true) β a w →
    ∃ β' a' w' D', Ext β β' ∧ Inv P E ops S B D' β' a' w' ∧ (∀ j, j < ops.size → D' j) ∧ Steps P (lone (b.atR a (.inRegion ops (Region.linearise.go .any ops fuel t listed []) :: k)) cs w) (lone (b.atR a' (.inRegion ops [] :: k)) cs w') := by
  intro fuel
  induction fuel with
  | zero =>
    intro t listed β a w hs hf I
    refine ⟨β, a, w, _, .refl _, I, fun j hj => unl_zero (f := fun j => listed.getD j false) ops.size (by omega) j hj, ?_⟩
    simp only [Region.linearise.go, List.reverse_nil]
    exact .refl _ _
  | succ fuel ih =>
    intro t listed β a w hs hf I
    simp only [Region.linearise.go]
    change ∃ β' a' w' D', _ ∧ _ ∧ _ ∧ Steps P (lone (b.atR a (.inRegion ops (match (Region.ready .any ops listed)[t % (Region.ready .any ops listed).length]? with
      | some i => Region.linearise.go .any ops fuel (t / (Region.ready .any ops listed).length) (listed.setIfInBounds i true) [i]
      | none => [].reverse) :: k)) cs w) _
    cases hi : (Region.ready .any ops listed)[t % (Region.ready .any ops listed).length]? with
    | none =>
      have hnil : Region.ready .any ops listed = [] := by
        cases hr : Region.ready .any ops listed with
        | nil => rfl
        | cons x xs =>
          rw [hr] at hi
          have hlt : t % (x :: xs).length < (x :: xs).length := Nat.mod_lt _ (by simp)
          simp at hi
          simp at hlt
          omega
      exact ⟨β, a, w, _, .refl _, I, fun j hj => ready_none F.drawn hs hnil (j + 1) j (Nat.lt_succ_self j) hj, .refl _ _⟩
    | some i =>
      simp only []
      rw [linearise_go_acc, List.reverse_singleton, List.singleton_append]
      obtain ⟨hil, hr⟩ := ready_mem (List.mem_of_getElem? hi) hs
      obtain ⟨β1, a1, w1, h1, h2, h3⟩ := step_any hG F I hr hil (b := b) (rest := Region.linearise.go .any ops fuel (t / (Region.ready .any ops listed).length) (listed.setIfInBounds i true) []) (k := k) (cs := cs)
      have hset : ∀ j, (listed.setIfInBounds i true).getD j false = true ↔ (listed.getD j false = true ∨ j = i) := fun j => by
        have hl : i < listed.size := by omega
        simp only [Array.getD_eq_getD_getElem?, Array.getElem?_setIfInBounds]
        by_cases hij : i = j
        · subst hij; simp [hl]
        · have : ¬ j = i := fun h => hij h.symm
          simp [hij, this]
      have hpred : (fun j => (listed.getD j false = true ∨ j = i)) = fun j => (listed.setIfInBounds i true).getD j false = true := funext fun j => propext (hset j).symm
      rw [hpred] at h2
      have hun := unl_set (f := fun j => listed.getD j false) (g := fun j => (listed.setIfInBounds i true).getD j false) (i := i) (by have := hr.2.1; simpa using this) ((hset i).2 (.inr rfl)) (fun j hj => by
        have := hset j
        cases h : listed.getD j false with
        | true => exact this.2 (.inl h)
        | false =>
          cases h' : (listed.setIfInBounds i true).getD j false with
          | false => rfl
          | true => rcases this.1 h' with h'' | h''
                    · rw [h] at h''; cases h''
                    · exact absurd h'' hj) ops.size hil
      obtain ⟨β2, a2, w2, D2, g1, g2, g3, g4⟩ := ih (t / (Region.ready .any ops listed).length) (listed.setIfInBounds i true) β1 a1 w1 (by simpa using hs) (by omega) h2
      exact ⟨β2, a2, w2, D2, h1.trans g1, g2, g3, h3.trans g4⟩

/-! ### Before and behind -/
theorem inv_start (F : Facts P G rec E ops S B) (hW : WR P B β (S 0).V w) (hS : SR β E (S 0) a) (hD : ∀ j, ¬ D j) : Inv P E ops S B D β a w := by
  have hset : ∀ x, Settled ops S D 0 x := fun x j _ _ => ⟨fun h => absurd h (hD j), fun h => by omega⟩
  refine ⟨fun i h hd => absurd hd (hD i), hS.tm.1, fun t i hi h => ?_, hS.df, hW.glob, fun x hx => .inl ?_, fun x b cp sh he => ?_, fun x he => ⟨0, Nat.zero_le _, hset x, hW.ltD he, hW.dead x he⟩, hW.inj, hW.own, hW.low, hW.base, hW.kept, fun x h1 h2 => (hW.frz x h1 h2).1, fun j hd => absurd hd (hD j), fun j hd => absurd hd (hD j)⟩
  · have : ∀ m, m ≤ i → tget (S m).tm t = tget (S 0).tm t := by
      intro m
      induction m with
      | zero => intro _; rfl
      | succ m ih =>
        intro hm
        have hml : m < ops.size := by omega
        rw [step_tm F hml, ih (by omega)]
        intro hd
        exact absurd ((h m hml _ (Array.getElem?_eq_getElem hml) hd).2 (by omega)) (hD m)
    rw [this i (Nat.le_refl _)]; exact hS.tm.2 t
  · rcases Nat.lt_or_ge x (S 0).V.size with h | h
    · exact h
    · exact absurd (hW.out x h) hx
  · obtain ⟨o, o', h1, h2, h3⟩ := hW.obj x b cp sh he
    exact ⟨0, Nat.zero_le _, hset x, hW.lt he, o, o', h1, h2, h3⟩

theorem inv_end (F : Facts P G rec E ops S B) (I : Inv P E ops S B D β a w) (hD : ∀ j, j < ops.size → D j) : WR P B β (S ops.size).V w ∧ SR β E (S ops.size) a := by
  have hn := Nat.le_refl ops.size
  have hset : ∀ x, Settled ops S D ops.size x := fun x j hj _ => ⟨fun _ => hj, fun _ => hD j hj⟩
  have hs0 := size_le F ops.size 0 (by omega) hn
  have hfl := F.floor ops.size hn
  have := F.gsz
  have := F.gfl
  have := F.grow
  have hvis : ∀ x, β x ≠ .fresh → x < (S ops.size).V.size := fun x hx => by
    rcases I.vis x hx with h | ⟨j, _, hj, _, h⟩
    · omega
    · have := size_le F ops.size (j + 1) hj hn; omega
  refine ⟨⟨I.glob, by omega, by omega, F.top _ hn, fun x hx => ?_, fun x b cp sh he => mem_at F I hn he (hset x) (hvis x (by rw [he]; nofun)), fun x he => dead_at F I hn he (hset x) (hvis x (by rw [he]; nofun)), I.inj, fun x b cp sh he hx => I.own x b cp sh he (by omega),
    fun x hx => F.keep0 _ hn x (by omega), by rw [hfl]; exact F.flo, fun x hx => I.low x (by omega), by omega, I.base, I.kept, fun x h1 h2 => ⟨I.frz x h1 h2, F.frz _ hn x h1 h2⟩, F.bd _ hn⟩,
    ⟨⟨I.size, fun t => I.tmp t _ hn fun j hj _ _ _ => ⟨fun _ => hj, fun _ => hD j hj⟩⟩, by rw [F.df _ hn]; exact I.df⟩⟩
  cases hb : β x with
  | fresh => rfl
  | _ => have := hvis x (by rw [hb]; nofun); omega
end

section
variable {P : Program} {G : VW} {rec : Rec}
theorem pair_get {l : List Oper} {j : Nat} (h : j < (pairL l).length) : ∃ h' : j < l.length, ((pairL l)[j]).1 = l[j] ∧ (clsL l)[j]? = some ((pairL l)[j]).2 := by
  unfold pairL at h ⊢
  have h1 : j < l.length := by simp at h; omega
  have h2 : j < (clsL l).length := by simp at h; omega
  exact ⟨h1, by simp, by simp [h2]⟩
theorem pair_length (l : List Oper) : (pairL l).length = l.length := by unfold pairL; simp [cls_length]

theorem draw_good (hG : Good P G rec) {ops : Array Oper} {E : Env} {s : St} (hok : okOps P ops.toList = true) {id : Nat} : CodeOk P G (drawC ops rec P E s) [.code (.region id ops true)] E s := by
  intro x s' he B β a w b k cs hB hW hS hF
  unfold drawC at he
  split at he
  · rename_i hdr
    unfold drawable at hdr
    simp only [Bool.and_eq_true] at hdr
    obtain ⟨hm, hdk⟩ := hdr
    have hD := drawn_of hdk
    obtain ⟨rfl, S, hS0, hSn, hrun⟩ := draw_run _ _ _ _ _ _ he
    have hpl : (pairL ops.toList).length = ops.size := by rw [pair_length]; simp
    rw [hpl] at hSn
    have hWd : WR P B β (S 0).V { w with drawn := w.drawn + 1 } := by rw [hS0]; exact hW.drew rfl rfl rfl rfl
    have hSd : SR β E (S 0) a := by rw [hS0]; exact hS
    have F : Facts P G rec E ops S B := by
      refine facts_of hG hB hok hD hWd hSd (fun i h => ?_) (fun i h j hj bb s1 s2 f1 f2 hs => ?_)
      · have hp : i < (pairL ops.toList).length := by omega
        obtain ⟨h', g1, g2⟩ := pair_get hp
        obtain ⟨r1, _, _⟩ := hrun i hp
        rw [g1] at r1
        exact ⟨_, g2, by simpa using r1⟩
      · have hp : i < (pairL ops.toList).length := by omega
        obtain ⟨h', g1, _⟩ := pair_get hp
        have hpj : j < (pairL ops.toList).length := by omega
        obtain ⟨hj', g1j, _⟩ := pair_get hpj
        obtain ⟨_, _, r3⟩ := hrun i hp
        have := r3 j hj bb s1 s2 (by rw [g1]; simpa using f1) (by simp only [g1j]; simpa using f2) hs
        simpa using this
    have I0 : Inv P E ops S B (fun j => (Array.replicate ops.size false).getD j false = true) β a { w with drawn := w.drawn + 1 } := by
      refine inv_start F hWd hSd fun j h => ?_
      by_cases hj : j < ops.size
      · simp [Array.getD, hj] at h
      · simp [Array.getD, hj] at h
    obtain ⟨β', a', w', D', h1, h2, h3, h4⟩ := go_ok hG F (b := b) (k := k) (cs := cs) ops.size (w.tape w.drawn (.order b.fn id)) _ β a _ (by simp) (unl_le _ _) I0
    obtain ⟨e2, e3⟩ := inv_end F h2 h3
    rw [hSn] at e2 e3
    refine ⟨β', a', w', h1, e2, e3, .head stepR_region_draw ?_⟩
    simp only [Region.schedule, hm, Bool.true_or, if_true]
    exact h4.trans (.one stepR_region_end)
  · cases he
end
end Go.Vx
