/-
  Says: What looks at memory.
-/
import Derived.Test.YtghkkohjmleepaaDoorVx2
import Derived.Laws.Cells
import Derived.Laws.CopyRow
import Derived.Laws.Append
import Derived.Laws.Tables
import Derived.Orders
/-! What looks at memory. -/
set_option linter.unusedVariables false
set_option linter.unusedSimpArgs false
namespace Go.Vx
open Go.RowKit

theorem dr_run {α : Type} {P : Program} : ∀ {s : Sem α} {x : α}, dr P s = some x → ∀ w, s.run P w = .ok x w := by
  intro s
  induction s with
  | pure a => intro x h w; cases h; rfl
  | program k ih => intro x h w; exact ih P h w
  | mark m k ih => intro x h w; exact ih h w
  | load => intro x h; cases h
  | store => intro x h; cases h
  | new => intro x h; cases h
  | shape => intro x h; cases h
  | freeze => intro x h; cases h
  | frozen => intro x h; cases h
  | getObj => intro x h; cases h
  | setObj => intro x h; cases h
  | choose => intro x h; cases h
  | sys => intro x h; cases h
  | halt => intro x h; cases h

/-! ### Types -/
section
variable {P : Program} {w : World}
theorem run_info {t : TypeId} {i : TypeInfo} (h : P.info? t = some i) : (typeInfo t).run P w = .ok i w := by simp [typeInfo, h]
theorem run_size {t : TypeId} {i : TypeInfo} (h : P.info? t = some i) : (sizeOf t).run P w = .ok i.size w := by simp [sizeOf, run_info h]
theorem run_sizeA {t : TypeId} {n : Nat} (h : sizeA P t = some n) : (sizeOf t).run P w = .ok n w := by
  unfold sizeA at h
  cases hi : P.info? t with
  | none => simp [hi] at h
  | some i => simp [hi] at h; rw [run_size hi, h]
theorem run_isAgg {t : TypeId} {d : TypeDesc} (h : P.underlying t = some d) : (isAgg t).run P w = .ok (isAggD d) w := by
  simp only [isAgg, Sem.run_bind, run_underlying h, Result.andThen_ok]
  cases d <;> rfl
theorem lay_spec {t : TypeId} {n : Nat} {g : Bool} (h : lay P t = some (n, g)) : ∃ i d, P.info? t = some i ∧ P.underlying t = some d ∧ i.size = n ∧ isAggD d = g := by
  unfold lay at h
  split at h
  · rename_i i d hi hd; cases h; exact ⟨i, d, hi, hd, rfl, rfl⟩
  · cases h
theorem run_zero {t : TypeId} {i : TypeInfo} {z : Value} (h : P.info? t = some i) (hz : i.zero = some z) : (zeroValue t).run P w = .ok z w := by
  simp [zeroValue, run_info h, hz]
theorem zeroL_spec {t : TypeId} {l : List Value} (h : zeroL P t = some l) : ∃ i z, P.info? t = some i ∧ i.zero = some z ∧ cellsL z = l ∧ l.all atom = true := by
  unfold zeroL at h
  split at h
  · rename_i i hi
    split at h
    · rename_i z hz
      split at h
      · rename_i ha; cases h; exact ⟨i, z, hi, hz, rfl, ha⟩
      · cases h
    · cases h
  · cases h
theorem zeroV_spec {t : TypeId} {z : Value} (h : zeroV P t = some z) : ∃ i, P.info? t = some i ∧ i.zero = some z ∧ flat1 z = true := by
  unfold zeroV at h
  split at h
  · rename_i i hi
    split at h
    · rename_i z hz
      split at h
      · rename_i ha; cases h; exact ⟨i, hi, hz, ha⟩
      · cases h
    · cases h
  · cases h
theorem elemS_spec {t e : TypeId} {n : Nat} (h : elemS P t = some (e, n)) : P.underlying t = some (.slice e) ∧ sizeA P e = some n := by
  unfold elemS at h
  split at h
  · rename_i e' he
    cases hs : sizeA P e' with
    | none => simp [hs] at h
    | some m => simp [hs] at h; obtain ⟨rfl, rfl⟩ := h; exact ⟨he, hs⟩
  · cases h
theorem arrP_spec {t : TypeId} {n s : Nat} (h : arrP P t = some (n, s)) : ∃ e, P.underlying t = some (.array n e) ∧ sizeA P e = some s := by
  unfold arrP at h
  split at h
  · rename_i m e he
    cases hs : sizeA P e with
    | none => simp [hs] at h
    | some k => simp [hs] at h; obtain ⟨rfl, rfl⟩ := h; exact ⟨e, he, hs⟩
  · cases h
theorem sizeA_spec {t : TypeId} {n : Nat} (h : sizeA P t = some n) : ∃ i, P.info? t = some i ∧ i.size = n := by
  unfold sizeA at h
  cases hi : P.info? t with
  | none => simp [hi] at h
  | some i => simp [hi] at h; exact ⟨i, rfl, h⟩
end

theorem cells_eq (v : Value) : v.cells = ⟨cellsL v⟩ := by cases v <;> rfl
theorem cells_toList (v : Value) : v.cells.toList = cellsL v := by rw [cells_eq]
theorem arr_get (l : List Value) (i : Nat) : (⟨l⟩ : Array Value)[i]? = l[i]? := by simp
theorem addr_add (b off j : Nat) : (⟨b, off, none⟩ : Addr).add j = ⟨b, off + j, none⟩ := by unfold Addr.add; split <;> simp_all

/-! ### Blocks -/
section
variable {P : Program} {B : Base} {β : Nat → Ren} {V : VW} {w : World}

theorem WR.ptr (h : WR P B β V w) {i o : Nat} {v' : Value} (hv : VR β (.pointer (some ⟨i, o, none⟩)) v') {ob : VObj} (hg : V.heap.get i = some ob) (hne : ob ≠ .dfr true) :
    ∃ b cp sh o', v' = .pointer (some ⟨b, o + sh, none⟩) ∧ β i = .live b cp sh ∧ w.heap[b]? = some o' ∧ ObjR P β cp sh ob o' := by
  cases hv with
  | atom h' => simp [atom] at h'
  | ptr e => obtain ⟨p, p', h1, h2, h3⟩ := h.obj _ _ _ _ e; rw [hg] at h1; cases h1; exact ⟨_, _, _, _, rfl, e, h2, h3⟩
  | ptrD e => have := h.dead _ e; rw [hg] at this; cases this; exact absurd rfl hne

theorem WR.sl (h : WR P B β V w) {i o n c : Nat} {v' : Value} (hv : VR β (.slice (some ⟨i, o, none⟩) n c) v') {ob : VObj} (hg : V.heap.get i = some ob) (hne : ob ≠ .dfr true) :
    ∃ b cp sh o', v' = .slice (some ⟨b, o + sh, none⟩) n (capR cp c) ∧ β i = .live b cp sh ∧ w.heap[b]? = some o' ∧ ObjR P β cp sh ob o' ∧ n ≤ capR cp c ∧ (half ≤ c → c ≤ BIG ∧ BIG - c ≤ cp) := by
  cases hv with
  | atom h' => simp [atom] at h'
  | sl e hn hc => obtain ⟨p, p', h1, h2, h3⟩ := h.obj _ _ _ _ e; rw [hg] at h1; cases h1; exact ⟨_, _, _, _, rfl, e, h2, h3, hn, hc⟩
  | slD e _ _ => have := h.dead _ e; rw [hg] at this; cases this; exact absurd rfl hne

theorem WR.mp (h : WR P B β V w) {i : Nat} {v' : Value} (hv : VR β (.map (some i)) v') {ob : VObj} (hg : V.heap.get i = some ob) (hne : ob ≠ .dfr true) :
    ∃ b cp sh o', v' = .map (some b) ∧ β i = .live b cp sh ∧ w.heap[b]? = some o' ∧ ObjR P β cp sh ob o' := by
  cases hv with
  | atom h' => simp [atom] at h'
  | map e => obtain ⟨p, p', h1, h2, h3⟩ := h.obj _ _ _ _ e; rw [hg] at h1; cases h1; exact ⟨_, _, _, _, rfl, e, h2, h3⟩
  | mapD e => have := h.dead _ e; rw [hg] at this; cases this; exact absurd rfl hne

theorem ObjR.inv {cp sh : Nat} {c : List Value} {e : TypeId} {fz : Bool} {o' : Obj} (h : ObjR P β cp sh (.cells c e fz) o') :
    ∃ pre mid post fr, o' = .cells ⟨pre ++ (mid ++ post)⟩ e fr ∧ pre.length = sh ∧ VRs β c mid ∧ cp * sizeT P e ≤ mid.length + post.length ∧ (fz = false → fr = (0, 0)) := by
  cases h with
  | cells hp hr hcap hfz => exact ⟨_, _, _, _, rfl, hp, hr, hcap, hfz⟩

theorem ObjR.whole {cp : Nat} {c c' : List Value} {e : TypeId} (hr : VRs β c c') (hcap : cp * sizeT P e ≤ c'.length) : ObjR P β cp 0 (.cells c e false) (.cells ⟨c'⟩ e (0, 0)) := by
  have := ObjR.cells (P := P) (β := β) (cp := cp) (sh := 0) (e := e) (fz := false) (pre := []) (mid := c') (post := []) (fr := (0, 0)) rfl hr (by simpa using hcap) (fun _ => rfl)
  simpa using this

theorem VRs.of_get : ∀ {l l' : List Value}, l'.length = l.length → (∀ (i : Nat) (v : Value), l[i]? = some v → ∃ v', l'[i]? = some v' ∧ VR β v v') → VRs β l l'
  | [], [], _, _ => .nil
  | [], _ :: _, h, _ => by simp at h
  | _ :: _, [], h, _ => by simp at h
  | x :: l, y :: l', h, k => by
    obtain ⟨v', h1, h2⟩ := k 0 x (by simp)
    simp at h1; subst h1
    exact .cons h2 (VRs.of_get (by simpa using h) (fun i v hi => by simpa using k (i + 1) v (by simpa using hi)))

/-- The cells of a row that lie from a place on. -/
theorem row_cell {b : Nat} {pre mid post : List Value} {e : TypeId} {fr : Nat × Nat} (hb : w.heap[b]? = some (.cells ⟨pre ++ (mid ++ post)⟩ e fr)) (off : Nat) {j : Nat} {v : Value}
    (h : (mid.drop off)[j]? = some v) : w.cell? ((⟨b, off + pre.length, none⟩ : Addr).add j) = some v := by
  rw [addr_add]
  simp only [World.cell?, hb, Option.isSome_none, Bool.false_eq_true, if_false]
  rw [List.getElem?_drop] at h
  have hlt : off + j < mid.length := by
    rcases Nat.lt_or_ge (off + j) mid.length with h' | h'
    · exact h'
    · rw [List.getElem?_eq_none h'] at h; cases h
  rw [arr_get]
  rw [List.getElem?_append_right (by omega), show off + pre.length + j - pre.length = off + j from by omega, List.getElem?_append_left hlt]
  exact h

theorem row_load {b : Nat} {pre mid post : List Value} {e : TypeId} {fr : Nat × Nat} (hb : w.heap[b]? = some (.cells ⟨pre ++ (mid ++ post)⟩ e fr)) (off n : Nat) (hn : off + n ≤ mid.length) :
    (loadCells ⟨b, off + pre.length, none⟩ n).run P w = .ok ⟨(mid.drop off).take n⟩ w := by
  have hl : ((mid.drop off).take n).length = n := by simp; omega
  have := run_loadCells_list (P := P) w ⟨b, off + pre.length, none⟩ ((mid.drop off).take n) (fun j v hv => row_cell hb off (by
    rw [List.getElem?_take] at hv
    split at hv
    · exact hv
    · cases hv))
  rw [hl] at this
  exact this

theorem blockOf_spec {v : Value} {bo : Nat × Nat} (h : blockOf v = some bo) : v = .pointer (some ⟨bo.1, bo.2, none⟩) := by
  unfold blockOf at h
  split at h
  · cases h; rfl
  · cases h
theorem rowOf_spec {x : Option VObj} {c : List Value} (h : rowOf x = some c) : ∃ e fz, x = some (.cells c e fz) := by
  unfold rowOf at h
  split at h
  · cases h; exact ⟨_, _, rfl⟩
  · cases h
theorem loadAt_spec {la : Nat × Bool} {off : Nat} {c : List Value} {u : Value} (h : loadAt la off c = some u) :
    (la.2 = true ∧ off + la.1 ≤ c.length ∧ u = .agg ⟨(c.drop off).take la.1⟩) ∨ (la.2 = false ∧ c[off]? = some u) := by
  unfold loadAt at h
  split at h
  · rename_i h2
    split at h
    · rename_i h3
      rw [lenL_eq] at h3
      cases h
      exact .inl ⟨h2, Nat.le_of_ble_eq_true h3, by rw [takeL_eq, dropL_eq]⟩
    · cases h
  · rename_i h2
    rw [nthL_eq] at h
    exact .inr ⟨h2, h⟩

theorem load_ok (h : WR P B β V w) {t : TypeId} {v v' u : Value} (hv : VR β v v') (hl : loadGo P t V v = some u) : ∃ u', (Instr.loadAt t v').run P w = .ok u' w ∧ VR β u u' := by
  unfold loadGo at hl
  split at hl
  · rename_i bo hbo
    obtain ⟨b, off⟩ := bo
    have hv0 := blockOf_spec hbo
    subst hv0
    simp only at hl
    split at hl
    · rename_i c hrow
      obtain ⟨e, fz, hg⟩ := rowOf_spec hrow
      obtain ⟨rb, cp, sh, o', rfl, hbe, hb, ho⟩ := h.ptr hv hg nofun
      obtain ⟨pre, mid, post, fr, rfl, rfl, hr, _, _⟩ := ho.inv
      split at hl
      · rename_i la hlay
        obtain ⟨n, g⟩ := la
        obtain ⟨i, d, hi, hd, rfl, rfl⟩ := lay_spec hlay
        rcases loadAt_spec hl with ⟨hag, hle, rfl⟩ | ⟨hag, hu⟩
        · simp only at hag hle
          refine ⟨.agg ⟨(mid.drop off).take i.size⟩, ?_, .agg ((hr.drop off).take _)⟩
          have hll := row_load (P := P) hb off i.size (by rw [hr.length]; exact hle)
          simp [Instr.loadAt, Instr.sureAddr, loadVar, run_isAgg hd, hag, run_size hi, hll]
        · simp only at hag hu
          obtain ⟨u', h1, h2⟩ := hr.get? hu
          refine ⟨u', ?_, h2⟩
          have hc := row_cell hb off (j := 0) (v := u') (by rw [List.getElem?_drop]; exact h1)
          rw [addr_add] at hc
          simp only [Nat.add_zero] at hc
          simp [Instr.loadAt, Instr.sureAddr, loadVar, run_isAgg hd, hag, hc]
      · cases hl
    · cases hl
  · cases hl

theorem putObj_setRow {b : Nat} {cs new : Array Value} {e : TypeId} {fr : Nat × Nat} (hb : w.heap[b]? = some (.cells cs e fr)) : w.setRow b new = w.putObj b (.cells new e fr) := by
  unfold World.setRow World.putObj
  congr 1
  apply Array.ext_getElem?
  intro k
  rw [Array.getElem?_modify]
  by_cases hk : b = k
  · subst hk
    rw [if_pos rfl, hb, Array.getElem?_setIfInBounds_self_of_lt (block_lt hb)]
    rfl
  · rw [if_neg hk, Array.getElem?_setIfInBounds_ne hk]

theorem splice_row (pre mid post l : List Value) (off : Nat) (h : off + l.length ≤ mid.length) :
    (pre ++ (mid ++ post)).take (off + pre.length) ++ l ++ (pre ++ (mid ++ post)).drop (off + pre.length + l.length) = pre ++ (splice mid off l ++ post) := by
  rw [splice_eq, List.take_append, List.take_of_length_le (by omega : pre.length ≤ off + pre.length), show off + pre.length - pre.length = off from by omega, List.take_append_of_le_length (by omega : off ≤ mid.length)]
  rw [List.drop_append, List.drop_eq_nil_of_le (by omega : pre.length ≤ off + pre.length + l.length), show off + pre.length + l.length - pre.length = off + l.length from by omega,
    List.drop_append_of_le_length (by omega : off + l.length ≤ mid.length)]
  simp

theorem splice_length (c l : List Value) (off : Nat) (h : off + l.length ≤ c.length) : (splice c off l).length = c.length := by
  rw [splice_eq]; simp; omega

theorem writeAt_spec {b off : Nat} {l : List Value} {x : Option VObj} {V' : VW} (h : writeAt V b off l x = some V') :
    ∃ c e, x = some (.cells c e false) ∧ V.floor ≤ b ∧ off + l.length ≤ c.length ∧ V' = V.put b (.cells (splice c off l) e false) := by
  unfold writeAt at h
  split at h
  · rename_i c e
    split at h
    · rename_i h1
      split at h
      · rename_i h2
        rw [lenL_eq, lenL_eq] at h2
        cases h
        exact ⟨c, e, rfl, Nat.le_of_ble_eq_true h1, Nat.le_of_ble_eq_true h2, rfl⟩
      · cases h
    · cases h
  · cases h

/-- Cells are stored. -/
theorem write_ok (h : WR P B β V w) {i off b cp sh : Nat} {l l' : List Value} {V' : VW} (hw : writeGo V i off l = some V') (hb : β i = .live b cp sh) (hl : VRs β l l') (h1 : l.all Value.oneCell' = true) :
    ∃ w', (storeCells ⟨b, off + sh, none⟩ l').run P w = .ok () w' ∧ WR P B β V' w' := by
  obtain ⟨c, e, hg, hfl, hle, rfl⟩ := writeAt_spec hw
  obtain ⟨o, o', ho1, ho2, ho3⟩ := h.obj _ _ _ _ hb
  rw [hg] at ho1; cases ho1
  obtain ⟨pre, mid, post, fr, rfl, rfl, hr, hcap, hfz⟩ := ho3.inv
  have hfr := hfz rfl
  subst hfr
  have hll : off + l'.length ≤ mid.length := by rw [hl.length, hr.length]; exact hle
  have hrun := run_storeCells_at P b (off + pre.length) e l' 0 _ w ho2 (by simp; omega) (by
    have := hl.one h1
    simpa using this)
  simp only [Nat.add_zero] at hrun
  refine ⟨_, hrun, ?_⟩
  rw [putObj_setRow ho2, splice_row _ _ _ _ _ hll]
  exact h.put hb hfl (.cells rfl (hr.splice hl off) (by rw [splice_length _ _ _ hll]; exact hcap) (fun _ => rfl))

theorem store_ok (h : WR P B β V w) {t : TypeId} {a a' v v' : Value} {V' : VW} (ha : VR β a a') (hv : VR β v v') (hs : storeGo P t V a v = some V') :
    ∃ w', (Instr.storeAt t a' v').run P w = .ok () w' ∧ WR P B β V' w' := by
  unfold storeGo at hs
  split at hs
  · rename_i bo hbo
    obtain ⟨b, off⟩ := bo
    have ha0 := blockOf_spec hbo
    subst ha0
    simp only at hs
    split at hs
    · rename_i n hn
      split at hs
      · rename_i hc
        have hc := Nat.eq_of_beq_eq_true hc
        rw [lenL_eq] at hc
        split at hs
        · rename_i h1
          rw [allL_eq] at h1
          obtain ⟨c, e, hg, _⟩ := writeAt_spec hs
          obtain ⟨rb, cp, sh, o', rfl, hbe, _, _⟩ := h.ptr ha hg nofun
          obtain ⟨w', h1, h2⟩ := write_ok h hs hbe hv.cellsL h1
          refine ⟨w', ?_, h2⟩
          simp [Instr.storeAt, Instr.sureAddr, storeVar, run_sizeA hn, cells_eq, hv.cellsL.length, hc, h1]
        · cases hs
      · cases hs
    · cases hs
  · cases hs

theorem new_ok (h : WR P B β V w) (hs : V.size < top) {o : VObj} {o' : Obj} (cp sh : Nat) (ho : ObjR P β cp sh o o') :
    ∃ β', Ext β β' ∧ WR P B β' (V.push o) (w.alloc o') ∧ β' V.size = .live w.heap.size cp sh :=
  let ⟨a, b⟩ := h.alloc hs cp sh ho
  ⟨_, b, a, upd_same _ _ _⟩
end

end Go.Vx
