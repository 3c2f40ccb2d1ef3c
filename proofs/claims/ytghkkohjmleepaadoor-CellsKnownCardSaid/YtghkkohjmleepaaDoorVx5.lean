/-
  Says: What an operation does: the rest but calls.
-/
import Derived.Test.YtghkkohjmleepaaDoorVx4
/-! What an operation does: the rest but calls. -/
set_option linter.unusedVariables false
set_option linter.unusedSimpArgs false
namespace Go.Vx
open Go.RowKit

section
variable {P : Program} {B : Base} {β : Nat → Ren} {V : VW} {w : World}

theorem arr_get' {α : Type} (l : List α) (i : Nat) : (⟨l⟩ : Array α)[i]? = l[i]? := by simp
theorem zeroA {z : Value} {l : List Value} (h : cellsL z = l) : z.cells = ⟨l⟩ := by rw [cells_eq, h]

theorem run_alloc {t : TypeId} {l : List Value} (h : zeroL P t = some l) : (Instr.alloc t true (.tuple #[])).run P w = .ok (.pointer (some ⟨w.heap.size, 0, none⟩)) (w.alloc (.cells ⟨l⟩ t)) := by
  obtain ⟨i, z, hi, hz, hl, _⟩ := zeroL_spec h
  simp only [Instr.alloc, Sem.run_bind, run_zero hi hz, Result.andThen_ok, newVar, newRow, zeroA hl, run_newObj_alloc, Sem.run_pure]

theorem rep_length (z : List Value) : ∀ n, (rep z n).length = n * z.length
  | 0 => by simp [rep]
  | n + 1 => by simp [rep, rep_length z n, Nat.succ_mul, Nat.add_comm]

theorem rep_get (z : List Value) (hz : 0 < z.length) : ∀ n j, j < n * z.length → (rep z n)[j]? = z[j % z.length]?
  | 0, j, h => by simp at h
  | n + 1, j, h => by
    unfold rep
    rcases Nat.lt_or_ge j z.length with hj | hj
    · rw [List.getElem?_append_left hj, Nat.mod_eq_of_lt hj]
    · rw [List.getElem?_append_right hj, rep_get z hz n _ (by rw [Nat.succ_mul] at h; omega), ← Nat.mod_eq_sub_mod hj]

theorem rep_eq (z : List Value) (hz : 0 < z.length) (n : Nat) : ((Array.range (n * z.length)).map fun k => (⟨z⟩ : Array Value)[k % (⟨z⟩ : Array Value).size]!) = ⟨rep z n⟩ := by
  apply Array.ext'
  apply List.ext_getElem?
  intro j
  simp only [Array.toList_map, Array.toList_range]
  rw [List.getElem?_map]
  rcases Nat.lt_or_ge j (n * z.length) with hj | hj
  · rw [List.getElem?_range hj, rep_get z hz n j hj]
    have hm : j % z.length < z.length := Nat.mod_lt _ hz
    simp [List.getElem?_eq_getElem hm, hm]
  · rw [List.getElem?_eq_none (by simpa using hj), List.getElem?_eq_none (by rw [rep_length]; exact hj)]
    rfl

theorem places_ok : ∀ (fs : List Field), (∀ f ∈ fs, (P.info? f.type).isSome = true) → ∃ places, fs.mapM (fun f => (P.info? f.type).map fun i => (f.offset, i.size)) = some places ∧
    ∀ (i : Nat), places[i]? = (fs[i]?).bind fun (f : Field) => (sizeA P f.type).map fun n => (f.offset, n)
  | [], _ => ⟨[], by simp, by simp⟩
  | f :: fs, h => by
    obtain ⟨pl, h1, h2⟩ := places_ok fs (fun g hg => h g (by simp [hg]))
    obtain ⟨i, hi⟩ := Option.isSome_iff_exists.1 (h f (by simp))
    refine ⟨(f.offset, i.size) :: pl, by simp [List.mapM_cons, hi, h1], fun k => ?_⟩
    cases k with
    | zero => simp [sizeA, hi]
    | succ k => simpa using h2 k

theorem build_ok (h : WR P B β V w) {t : TypeId} {ps : Array (Nat × Operand)} {e ρ : Operand → Value} (hρ : ∀ p ∈ ps.toList, VR β (e p.2) (ρ p.2))
    {z : List Value} (hz : zeroL P t = some z) {l : List (Nat × Nat × List Value)} (hl : partsL (placeOf P t) e ps.toList = some l) (ha : allFieldsOk P t = true) {c : List Value} (hc : fillL z l = some c) :
    ∃ c', (Instr.build t (ps.map fun (i, x) => (i, ρ x))).run P w = .ok (.agg ⟨c'⟩) w ∧ VRs β c c' := by
  obtain ⟨i, zv, hi, hzv, hcl, hat⟩ := zeroL_spec hz
  obtain ⟨c', h1, h2⟩ := fill_ok ps.toList hρ hl hc (VRs.atoms hat)
  refine ⟨c', ?_, h2⟩
  have h1' : Instr.fill (placeOf P t) ⟨z⟩ (ps.toList.map fun x => (x.1, ρ x.2)) = some ⟨c'⟩ := by simpa using h1
  unfold allFieldsOk at ha
  split at ha
  · rename_i fs hu
    obtain ⟨pl, h3, h4⟩ := places_ok (P := P) fs.toList (fun f hf => by
      have := Array.all_eq_true_iff_forall_mem.1 ha f (by simpa using hf)
      exact this)
    have h5 : (fun i => (⟨pl⟩ : Array (Nat × Nat))[i]?) = placeOf P t := by
      funext k
      rw [arr_get', h4 k]
      unfold placeOf
      rw [hu]
      simp only [Array.getElem?_toList]
      cases fs[k]? <;> rfl
    have h6 := run_places (P := P) w _ _ h3
    simp only [Instr.build, Sem.run_bind, run_zero hi hzv, Result.andThen_ok, run_underlying hu, zeroA hcl, Array.mapM_eq_mapM_toList]
    have h5' : (fun i => pl[i]?) = placeOf P t := by rw [← h5]; funext k; exact (arr_get' pl k).symm
    simp [h6, h5', h1']
  · rename_i n el hu
    have h5 : ∃ s, sizeA P el = some s := Option.isSome_iff_exists.1 ha
    obtain ⟨s, hs⟩ := h5
    have h6 : (fun i => some (i * s, s)) = placeOf P t := by
      funext k
      unfold placeOf
      rw [hu]; simp [hs]
    simp only [Instr.build, Sem.run_bind, run_zero hi hzv, Result.andThen_ok, run_underlying hu, zeroA hcl]
    simp [run_sizeA hs, h6, h1']
  · cases ha

theorem fieldOf_spec {t : TypeId} {i : Nat} {f : Nat × Nat × Bool} (h : fieldOf P t i = some f) :
    ∃ fs fd, P.underlying t = some (.struct fs) ∧ fs[i]? = some fd ∧ fd.offset = f.1 ∧ lay P fd.type = some (f.2.1, f.2.2) := by
  unfold fieldOf at h
  split at h
  · rename_i fs hu
    split at h
    · rename_i fd hfd
      cases hl : lay P fd.type with
      | none => simp [hl] at h
      | some la => simp [hl] at h; subst h; exact ⟨fs, fd, hu, hfd, rfl, hl⟩
    · cases h
  · cases h
theorem arrE_spec {t : TypeId} {x : Nat × Nat × Bool} (h : arrE P t = some x) : ∃ el, P.underlying t = some (.array x.1 el) ∧ lay P el = some (x.2.1, x.2.2) := by
  unfold arrE at h
  split at h
  · rename_i n el hu
    cases hl : lay P el with
    | none => simp [hl] at h
    | some la => simp [hl] at h; subst h; exact ⟨el, hu, hl⟩
  · cases h
theorem aggOf_spec {v : Value} {l : List Value} (h : aggOf v = some l) : v = .agg ⟨l⟩ := by
  unfold aggOf at h
  split at h
  · cases h; rfl
  · cases h
theorem sliceOf_spec {v : Value} {s : (Nat × Nat) × Nat} (h : sliceOf v = some s) : ∃ c, v = .slice (some ⟨s.1.1, s.1.2, none⟩) s.2 c := by
  unfold sliceOf at h
  split at h
  · cases h; exact ⟨_, rfl⟩
  · cases h
theorem VR.agg' {l : List Value} {v' : Value} (h : VR β (.agg ⟨l⟩) v') : ∃ l', v' = .agg ⟨l'⟩ ∧ VRs β l l' := by
  cases h with
  | atom h => simp [Vx.atom] at h
  | agg h => exact ⟨_, rfl, h⟩
theorem VR.tuple' {l : List Value} {v' : Value} (h : VR β (.tuple ⟨l⟩) v') : ∃ l', v' = .tuple ⟨l'⟩ ∧ VRs β l l' := by
  cases h with
  | atom h => simp [Vx.atom] at h
  | tuple h => exact ⟨_, rfl, h⟩
theorem VR.bool' {b : Bool} {v' : Value} (h : VR β (.bool b) v') : v' = .bool b := h.of_atom rfl
theorem VR.int' {k : IntKind} {n : Int} {v' : Value} (h : VR β (.int k n) v') : v' = .int k n := h.of_atom rfl
theorem VR.string' {s : ByteArray} {v' : Value} (h : VR β (.string s) v') : v' = .string s := h.of_atom rfl
/-- A pointer, alive or dead, moved on. -/
theorem VR.ptr_add {b off d : Nat} {v' : Value} (h : VR β (.pointer (some ⟨b, off, none⟩)) v') : ∃ a, v' = .pointer (some a) ∧ VR β (.pointer (some ⟨b, off + d, none⟩)) (.pointer (some (a.add d))) := by
  cases h with
  | atom h => simp [Vx.atom] at h
  | @ptr i rb cp sh o e =>
    refine ⟨_, rfl, ?_⟩
    rw [addr_add, show off + sh + d = off + d + sh from by omega]
    exact .ptr e
  | ptrD e => exact ⟨_, rfl, .ptrD e⟩
theorem VR.sl_add {b off n c d : Nat} {v' : Value} (h : VR β (.slice (some ⟨b, off, none⟩) n c) v') : ∃ a c', v' = .slice (some a) n c' ∧ VR β (.pointer (some ⟨b, off + d, none⟩)) (.pointer (some (a.add d))) := by
  cases h with
  | atom h => simp [Vx.atom] at h
  | @sl i rb cp sh o n c e hn hc =>
    refine ⟨_, _, rfl, ?_⟩
    rw [addr_add, show off + sh + d = off + d + sh from by omega]
    exact .ptr e
  | slD e _ _ => exact ⟨_, _, rfl, .ptrD e⟩

theorem Res.ofV (h : WR P B β V w) {s : Sem Next} {x : Option Value} {v : Value} {V' : VW} (hx : Vx.ofV V x = .val v V') (hk : ∀ u, x = some u → ∃ u', s.run P w = .ok (.value u') w ∧ VR β u u') : Res P B β w s v V' := by
  obtain ⟨h1, rfl⟩ := ofV_spec hx
  obtain ⟨u', h2, h3⟩ := hk v h1
  exact Res.of h h2 h3

theorem run_nilCheck_ptr {a : Addr} {o : Oper} {x : Operand} (ho : o.op = .nilCheck x) {ρ : Rho} (hx : ρ x = .pointer (some a)) : (execOp ρ o).run P w = .ok (.value (.pointer (some a))) w := by
  unfold execOp; simp only [ho, hx]; rfl

/-- Numbers of an index. -/
theorem intN_real {v v' : Value} {n : Nat} (h : intN v = some n) (hv : VR β v v') : ∃ k, v' = .int k (n : Int) := by
  obtain ⟨k, rfl⟩ := intN_spec h
  exact ⟨k, hv.int'⟩

theorem fieldAddr_ok (h : WR P B β V w) {t : TypeId} {x : Operand} {i : Nat} {e ρ : Rho} (hx : VR β (e x) (ρ x)) {v : Value} {V' : VW} (hp : fieldAddrO t x i P e V = .val v V') :
    ∃ v', (Instr.fieldAt t (ρ x) i).run P w = .ok v' w ∧ VR β v v' ∧ V' = V := by
  unfold fieldAddrO at hp
  split at hp
  · rename_i f hf
    obtain ⟨fs, fd, hu, hfd, ho, hl⟩ := fieldOf_spec hf
    obtain ⟨ti, d, hi, hd, hsz, hag⟩ := lay_spec hl
    split at hp
    · rename_i bo hbo
      split at hp
      · cases hp
      · rename_i hn
        cases hp
        have hn : ¬ f.2.1 = 0 := fun e => by rw [e] at hn; simp at hn
        rw [blockOf_spec hbo] at hx
        obtain ⟨a, ha, hr⟩ := hx.ptr_add (d := f.1)
        rw [ha]
        refine ⟨_, ?_, hr, rfl⟩
        simp [Instr.fieldAt, run_underlying hu, hfd, Instr.sureAddr, fieldPlace, run_size hi, hsz, hn, ho]
    · cases hp
  · cases hp

theorem field_ok (h : WR P B β V w) {t : TypeId} {x : Operand} {i : Nat} {e ρ : Rho} (hx : VR β (e x) (ρ x)) {v : Value} {V' : VW} (hp : fieldO t x i P e V = .val v V') :
    ∃ v', (Instr.field t (ρ x) i).run P w = .ok v' w ∧ VR β v v' ∧ V' = V := by
  unfold fieldO at hp
  split at hp
  · rename_i f hf
    obtain ⟨fs, fd, hu, hfd, ho, hl⟩ := fieldOf_spec hf
    split at hp
    · rename_i l hl2
      obtain ⟨h1, rfl⟩ := ofV_spec hp
      rw [aggOf_spec hl2] at hx
      obtain ⟨l', e', hr⟩ := hx.agg'
      obtain ⟨v', h2, h3⟩ := part_ok (w := w) hl hr h1
      refine ⟨v', ?_, h3, rfl⟩
      simp [Instr.field, run_underlying hu, hfd, e', asAgg, ho, h2]
    · cases hp
  · cases hp

theorem indexAddr_ok (h : WR P B β V w) {t : TypeId} {x i : Operand} {e ρ : Rho} (hx : VR β (e x) (ρ x)) (hi : VR β (e i) (ρ i)) {v : Value} {V' : VW} (hp : indexAddrO t x i P e V = .val v V') :
    ∃ v', (Instr.indexAt t (ρ x) (ρ i)).run P w = .ok v' w ∧ VR β v v' ∧ V' = V := by
  unfold indexAddrO at hp
  split at hp
  · cases hp
  · rename_i j hj
    obtain ⟨k, hk⟩ := intN_real hj hi
    split at hp
    · rename_i es hes
      obtain ⟨el, sz⟩ := es
      obtain ⟨hu, hsz⟩ := elemS_spec hes
      split at hp
      · rename_i s hs
        split at hp
        · rename_i hlt
          have hlt := blt_lt hlt
          cases hp
          obtain ⟨c, hc⟩ := sliceOf_spec hs
          rw [hc] at hx
          obtain ⟨a, c', ha, hr⟩ := hx.sl_add (d := j * sz)
          rw [ha, hk]
          refine ⟨_, ?_, hr, rfl⟩
          simp [Instr.indexAt, asIntOf, run_underlying hu, run_sizeA hsz, hlt]
        · cases hp
      · cases hp
    · split at hp
      · rename_i ns hns
        obtain ⟨n, sz⟩ := ns
        obtain ⟨el, hu, hsz⟩ := arrP_spec hns
        split at hp
        · rename_i s hs
          split at hp
          · rename_i hlt
            have hlt := blt_lt hlt
            cases hp
            rw [blockOf_spec hs] at hx
            obtain ⟨a, ha, hr⟩ := hx.ptr_add (d := j * sz)
            rw [ha, hk]
            refine ⟨_, ?_, hr, rfl⟩
            simp only at hlt
            simp [Instr.indexAt, asIntOf, run_underlying hu, run_sizeA hsz, hlt, Instr.sureAddr]
          · cases hp
        · cases hp
      · cases hp

theorem buildSlice_ok (h : WR P B β V w) {t : TypeId} {n : Nat} {ps : Array (Nat × Operand)} {e ρ : Rho} (hρ : ∀ p ∈ ps.toList, VR β (e p.2) (ρ p.2)) {v : Value} {V' : VW} (hp : buildSliceO t n ps P e V = .val v V') :
    Res P B β w (do pure (Next.value (← Instr.buildSlice t n (ps.map fun (i, x) => (i, ρ x))))) v V' := by
  unfold buildSliceO at hp
  split at hp
  · rename_i el sz hes
    obtain ⟨hu, hsz⟩ := elemS_spec hes
    split at hp
    · rename_i z l hz hl
      split at hp
      · rename_i hc
        simp only [Bool.and_eq_true, beq_iff_eq] at hc
        have h0 := blt_lt hc.1.2
        have hb := Nat.le_of_ble_eq_true hc.2
        have hzl := hc.1.1
        split at hp
        · rename_i c hf
          obtain ⟨i, zv, hi, hzv, hcl, hat⟩ := zeroL_spec hz
          obtain ⟨c', h1, h2⟩ := fill_ok ps.toList hρ hl hf ((VRs.atoms (β := β) hat).rep n)
          have hm : (ps.map fun (i, x) => (i, ρ x)).toList = ps.toList.map fun (i, x) => (i, ρ x) := by simp
          have hrun : (Instr.buildSlice t n (ps.map fun (i, x) => (i, ρ x))).run P w = .ok (.slice (some ⟨w.heap.size, 0, none⟩) n n) (w.alloc (.cells ⟨c'⟩ el)) := by
            have hbig : ¬ (n * sz > 2 ^ 24) := by have : (2 : Nat) ^ 24 = 16777216 := rfl; omega
            have hrep : ((Array.range (n * sz)).map fun k => zv.cells[k % zv.cells.size]!) = ⟨rep z n⟩ := by
              rw [zeroA hcl, ← hzl]; exact rep_eq z (by omega) n
            simp only [Instr.buildSlice, Sem.run_bind, run_underlying hu, Result.andThen_ok, run_sizeA hsz, if_neg hbig, hm]
            by_cases hn : n * sz = 0
            · have hn0 : n = 0 := by rcases Nat.mul_eq_zero.1 hn with h | h <;> omega
              subst hn0
              simp only [rep] at h1 h2
              have h1'' : Instr.fill (fun i => some (i * sz, sz)) #[] (ps.toList.map fun x => (x.1, ρ x.2)) = some ⟨c'⟩ := by simpa using h1
              have hr0 : (Array.range 0 : Array Nat) = #[] := rfl
              simp only [Nat.zero_mul, hr0] at *
              simp [h1'', newRow]
            · rw [if_neg hn]
              simp only [Sem.run_bind, run_zero hi hzv, Result.andThen_ok, Sem.run_pure, hrep, h1, newRow, run_newObj_alloc]
          refine Res.new h hp 0 0 (ObjR.whole h2 (by simp)) (run_v hrun) fun β' hβ => ?_
          have hle : ¬ half ≤ n ∨ half ≤ n := by omega
          have : n < half := by
            have : n ≤ n * sz := Nat.le_mul_of_pos_right _ h0
            have : half = 4611686018427387904 := rfl
            omega
          have hcap : capR 0 n = n := if_pos this
          have := VR.sl (β := β') (i := V.size) (o := 0) (n := n) (c := n) hβ (by rw [hcap]; exact Nat.le_refl _) (fun hh => by omega)
          rw [hcap] at this
          exact this
        · cases hp
      · cases hp
    · cases hp
  · cases hp

theorem makeSlice_ok (h : WR P B β V w) {t : TypeId} {l c : Operand} {e ρ : Rho} (hl : VR β (e l) (ρ l)) (hc : VR β (e c) (ρ c)) {v : Value} {V' : VW} (hp : makeSliceO t l c P e V = .val v V') :
    Res P B β w (do pure (Next.value (← Instr.makeSlice t (ρ l) (ρ c)))) v V' := by
  unfold makeSliceO at hp
  split at hp
  · rename_i el sz ln cn hes hln hcn
    obtain ⟨hu, hsz⟩ := elemS_spec hes
    obtain ⟨kl, hl'⟩ := intN_real hln hl
    obtain ⟨kc, hc'⟩ := intN_real hcn hc
    split at hp
    · rename_i z hz
      split at hp
      · rename_i hcond
        simp only [Bool.and_eq_true, beq_iff_eq] at hcond
        obtain ⟨⟨⟨⟨hzl, h0⟩, hlc⟩, hbig⟩, hby⟩ := hcond
        have h0 := blt_lt h0
        have hlc := Nat.le_of_ble_eq_true hlc
        have hbig := Nat.le_of_ble_eq_true hbig
        have hby := Nat.le_of_ble_eq_true hby
        obtain ⟨i, zv, hi, hzv, hcl, hat⟩ := zeroL_spec hz
        have hbytes : i.bytes ≤ 4096 := by simpa [bytesA, hi] using hby
        have hcs : cn ≤ cn * sz := Nat.le_mul_of_pos_right _ h0
        have hmul : i.bytes * cn ≤ 4096 * 65536 := Nat.mul_le_mul hbytes (by omega)
        have hsi : i.size = sz := by
          have := hsz; simp [sizeA, hi] at this; exact this
        have hrun : (Instr.makeSlice t (ρ l) (ρ c)).run P w = .ok (.slice (some ⟨w.heap.size, 0, none⟩) ln cn) (w.alloc (.cells ⟨rep z cn⟩ el)) := by
          have wl : IntKind.i64.wrap (ln : Int) = (ln : Int) := by exact wrap_pos (k := .i64) (m := ln) (by simp only [posL]; omega)
          have wc : IntKind.i64.wrap (cn : Int) = (cn : Int) := by exact wrap_pos (k := .i64) (m := cn) (by simp only [posL]; omega)
          have n1 : ¬ ((cn : Int) < 0) := by omega
          have n2 : ¬ ((2 : Int) ^ 48 < (i.bytes : Int) * (cn : Int)) := by
            have e48 : (2 : Int) ^ 48 = 281474976710656 := rfl
            have : ((i.bytes * cn : Nat) : Int) = (i.bytes : Int) * (cn : Int) := by simp
            rw [← this, e48]; omega
          have n3 : ¬ ((ln : Int) < 0) := by omega
          have n4 : ¬ ((cn : Int) < (ln : Int)) := by omega
          have hrep : ((Array.range (cn * sz)).map fun k => zv.cells[k % zv.cells.size]!) = ⟨rep z cn⟩ := by
            rw [zeroA hcl, ← hzl]; exact rep_eq z (by omega) cn
          rw [hl', hc']
          simp only [Instr.makeSlice, Sem.run_bind, run_underlying hu, Result.andThen_ok, asInt, asIntOf, Sem.run_pure, run_info hi, wl, wc, gt_iff_lt, n1, n2, n3, n4, decide_false, Bool.or_false, Bool.false_or,
            Bool.false_eq_true, if_false, run_askRoom, run_sizeA hsz, Int.toNat_natCast]
          by_cases hn : cn * sz = 0
          · have hn0 : cn = 0 := by rcases Nat.mul_eq_zero.1 hn with h | h <;> omega
            subst hn0
            have hr0 : (Array.range 0 : Array Nat) = #[] := rfl
            simp only [Nat.zero_mul, hr0] at *
            simp [newRow, rep]
          · rw [if_neg hn]
            simp only [Sem.run_bind, run_zero hi hzv, Result.andThen_ok, Sem.run_pure, hrep, newRow, run_newObj_alloc]
        refine Res.new h hp 0 0 (ObjR.whole ((VRs.atoms (β := β) hat).rep cn) (by simp)) (run_v hrun) fun β' hβ => ?_
        have : cn < half := by have : half = 4611686018427387904 := rfl; omega
        have hcap : capR 0 cn = cn := if_pos this
        have := VR.sl (β := β') (i := V.size) (o := 0) (n := ln) (c := cn) hβ (by rw [hcap]; exact hlc) (fun hh => by omega)
        rw [hcap] at this
        exact this
      · cases hp
    · cases hp
  · cases hp
end
end Go.Vx
