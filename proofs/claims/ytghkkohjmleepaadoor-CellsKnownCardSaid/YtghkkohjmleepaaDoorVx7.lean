/-
  Says: What an operation does, all of them but calls.
-/
import Derived.Test.YtghkkohjmleepaaDoorVx6
/-! What an operation does, all of them but calls. -/
set_option linter.unusedVariables false
set_option linter.unusedSimpArgs false
namespace Go.Vx
open Go.RowKit

section
variable {P : Program} {B : Base} {β : Nat → Ren} {V : VW} {w : World}

theorem optW_spec {n : Nat} {x : Option VW} {v : Value} {V' : VW} (h : optW n x = .val v V') : x = some V' ∧ v = undef := by
  cases x with
  | none => cases h
  | some u => cases h; exact ⟨rfl, rfl⟩

theorem VRs.mapE {e ρ : Rho} {l : List Operand} (h : ∀ x ∈ l, VR β (e x) (ρ x)) : VRs β (l.map e) (l.map ρ) := VRs.map h

theorem convFast_ok {s d : TypeId} {x r : Value} (h : convFast P s d x = some r) : (convert s d x).run P w = .ok r w ∧ atom x = true ∧ atom r = true := by
  unfold convFast at h
  split at h
  · rename_i k n
    split at h
    · rename_i sd k' hs hd
      cases h
      refine ⟨?_, rfl, rfl⟩
      rw [wrapF_eq]
      simp [convert, run_underlying hs, run_underlying hd, Conv.intToInt]
    · cases h
  · cases h

theorem plain_ok (h : WR P B β V w) {o : Oper} {e ρ : Rho} (hρ : ∀ x ∈ o.op.operands, VR β (e x) (ρ x)) {v : Value} {V' : VW} (hp : plainGo P o e V = .val v V') :
    Res P B β w (execOp ρ o) v V' := by
  obtain ⟨dst, op, type, pos, after, guard⟩ := o
  cases op <;> simp only [Op.operands] at hρ
  case move x =>
    change valO x P e V = _ at hp
    cases hp; exact Res.of h rfl (hρ x (by simp))
  case assign x =>
    change valO x P e V = _ at hp
    cases hp; exact Res.of h rfl (hρ x (by simp))
  case pick c a b =>
    change pickO c a b P e V = _ at hp
    unfold pickO at hp
    have hc := hρ c (by simp)
    split at hp
    · rename_i hb; cases hp; rw [hb] at hc
      exact Res.of h (v' := ρ a) (by simp [execOp, hc.bool', asBool]) (hρ a (by simp))
    · rename_i hb; cases hp; rw [hb] at hc
      exact Res.of h (v' := ρ b) (by simp [execOp, hc.bool', asBool]) (hρ b (by simp))
    · cases hp
  case alloc t =>
    change allocO t P e V = _ at hp
    unfold allocO at hp
    split at hp
    · rename_i z hz
      obtain ⟨_, _, _, _, _, hat⟩ := zeroL_spec hz
      exact Res.new h hp 0 0 (ObjR.whole (VRs.atoms hat) (by simp)) (run_v (run_alloc hz)) fun β' hβ => .ptr hβ
    · cases hp
  case box t x =>
    change boxO t x P e V = _ at hp
    have hx := hρ x (by simp)
    exact Res.new h hp 0 0 (o' := .cells ⟨cellsL (ρ x)⟩ t (0, 0)) (ObjR.whole hx.cellsL (by simp)) (run_v (by
      simp only [Instr.box, newVar, newRow, Sem.run_bind, run_newObj_alloc, Result.andThen_ok, Sem.run_pure, cells_eq])) fun β' hβ => .ptr hβ
  case build t ps =>
    change buildO t ps P e V = _ at hp
    unfold buildO at hp
    have hps : ∀ p ∈ ps.toList, VR β (e p.2) (ρ p.2) := fun p hpm => hρ p.2 (by simp; exact ⟨p.1, by simpa using hpm⟩)
    split at hp
    · rename_i z l hz hl
      split at hp
      · rename_i ha
        split at hp
        · rename_i c hc
          cases hp
          obtain ⟨c', h1, h2⟩ := build_ok h hps hz hl ha hc
          exact Res.of h (run_v h1) (.agg h2)
        · cases hp
      · cases hp
    · cases hp
  case buildSlice t n ps =>
    change buildSliceO t n ps P e V = _ at hp
    have hps : ∀ p ∈ ps.toList, VR β (e p.2) (ρ p.2) := fun p hpm => hρ p.2 (by simp; exact ⟨p.1, by simpa using hpm⟩)
    exact buildSlice_ok h hps hp
  case insert t m k x =>
    change updateO t m k x P e V = _ at hp
    obtain ⟨w', h1, h2, rfl⟩ := update_ok h (hρ m (by simp)) (hρ k (by simp)) (hρ x (by simp)) hp
    exact ⟨β, undef, w', .refl _, h2, .undef, .inr ⟨rfl, run_u h1⟩⟩
  case mapUpdate t m k x =>
    change updateO t m k x P e V = _ at hp
    obtain ⟨w', h1, h2, rfl⟩ := update_ok h (hρ m (by simp)) (hρ k (by simp)) (hρ x (by simp)) hp
    exact ⟨β, undef, w', .refl _, h2, .undef, .inr ⟨rfl, run_u h1⟩⟩
  case load t a =>
    change loadO t a P e V = _ at hp
    exact Res.ofV h hp fun u hu => by
      obtain ⟨u', h1, h2⟩ := load_ok h (hρ a (by simp)) hu
      exact ⟨u', run_v h1, h2⟩
  case store t a x =>
    change storeO t a x P e V = _ at hp
    obtain ⟨h1, rfl⟩ := optW_spec hp
    obtain ⟨w', h2, h3⟩ := store_ok h (hρ a (by simp)) (hρ x (by simp)) h1
    exact ⟨β, undef, w', .refl _, h3, .undef, .inr ⟨rfl, run_u h2⟩⟩
  case nilCheck x =>
    change nilCheckO x P e V = _ at hp
    unfold nilCheckO at hp
    have hx := hρ x (by simp)
    split at hp
    · rename_i a hb; cases hp; rw [hb] at hx
      obtain ⟨y, hy⟩ : ∃ y, ρ x = y := ⟨_, rfl⟩
      rw [hy] at hx
      have hya : ∃ a', y = .pointer (some a') := by
        cases hx with
        | atom ha => simp [Vx.atom] at ha
        | ptr e => exact ⟨_, rfl⟩
        | ptrD e => exact ⟨_, rfl⟩
      obtain ⟨a', rfl⟩ := hya
      exact Res.of h (by simp [execOp, hy]) hx
    · rename_i f a b hb; cases hp; rw [hb] at hx
      obtain ⟨y, hy⟩ : ∃ y, ρ x = y := ⟨_, rfl⟩
      rw [hy] at hx
      have hya : ∃ a' b', y = .func (.func f) a' b' := by
        cases hx with
        | atom ha => exact ⟨_, _, rfl⟩
        | func _ _ _ => exact ⟨_, _, rfl⟩
      obtain ⟨a', b', rfl⟩ := hya
      exact Res.of h (by simp [execOp, hy]) hx
    · rename_i l a b hb; cases hp; rw [hb] at hx
      obtain ⟨y, hy⟩ : ∃ y, ρ x = y := ⟨_, rfl⟩
      rw [hy] at hx
      have hya : ∃ l' a' b', y = .func (.yield l') a' b' := by
        cases hx with
        | atom ha => simp [Vx.atom] at ha
        | func hn _ _ => cases hn
        | yield e => exact ⟨_, _, _, rfl⟩
        | yieldD e => exact ⟨_, _, _, rfl⟩
      obtain ⟨l', a', b', rfl⟩ := hya
      exact Res.of h (by simp [execOp, hy]) hx
    · cases hp
  case fieldAddr t x i =>
    change fieldAddrO t x i P e V = _ at hp
    obtain ⟨v', h1, h2, rfl⟩ := fieldAddr_ok h (hρ x (by simp)) hp
    exact Res.of h (run_v h1) h2
  case field t x i =>
    change fieldO t x i P e V = _ at hp
    obtain ⟨v', h1, h2, rfl⟩ := field_ok h (hρ x (by simp)) hp
    exact Res.of h (run_v h1) h2
  case indexAddr t x i =>
    change indexAddrO t x i P e V = _ at hp
    obtain ⟨v', h1, h2, rfl⟩ := indexAddr_ok h (hρ x (by simp)) (hρ i (by simp)) hp
    exact Res.of h (run_v h1) h2
  case index t x i =>
    change indexO ⟨dst, .index t x i, type, pos, after, guard⟩ t x i P e V = _ at hp
    have hx := hρ x (by simp)
    have hi := hρ i (by simp)
    unfold indexO at hp
    split at hp
    · rename_i l hl
      rw [hl] at hx
      obtain ⟨l', he, hr⟩ := hx.agg'
      split at hp
      · rename_i n sz a j har hj
        obtain ⟨el, hu, hlay⟩ := arrE_spec har
        obtain ⟨k, hk⟩ := intN_real hj hi
        split at hp
        · rename_i hlt
          have hlt := blt_lt hlt
          refine Res.ofV h hp fun u hu' => ?_
          obtain ⟨u', h1, h2⟩ := part_ok (w := w) hlay hr hu'
          refine ⟨u', run_v ?_, h2⟩
          obtain ⟨ti, d, hi', hd, hsz, _⟩ := lay_spec hlay
          simp only at hsz hlt hu
          simp [Instr.index, asIntOf, hk, he, run_underlying hu, hlt, run_size hi', hsz, h1]
        · cases hp
      · cases hp
    · split at hp
      · rename_i hf
        simp only [Bool.and_eq_true] at hf
        refine flat_ok h (o := ⟨dst, .index t x i, type, pos, after, guard⟩) (fun cs b hh => by cases hh) (e := e) (fun y hy => hρ y hy) (fun y hy => ?_) hp
        simp only [Op.operands, List.mem_toArray, List.mem_cons, List.not_mem_nil, or_false] at hy
        rcases hy with rfl | rfl
        · exact hf.1
        · exact hf.2
      · cases hp
  case extract x i =>
    change extractO x i P e V = _ at hp
    have hx := hρ x (by simp)
    unfold extractO at hp
    split at hp
    · rename_i l hl
      rw [hl] at hx
      obtain ⟨l', he, hr⟩ := hx.tuple'
      refine Res.ofV h hp fun u hu => ?_
      rw [nthL_eq] at hu
      obtain ⟨u', h1, h2⟩ := hr.get? hu
      exact ⟨u', run_v (by simp [Instr.extract, he, h1]), h2⟩
    · cases hp
  case binOp op t x y yt =>
    change binO ⟨dst, .binOp op t x y yt, type, pos, after, guard⟩ op t x y P e V = _ at hp
    have hx := hρ x (by simp)
    have hy := hρ y (by simp)
    unfold binO at hp
    split at hp
    · rename_i r hr
      cases hp
      obtain ⟨h1, h2, h3, h4⟩ := binFast_ok (P := P) (w := w) hr t x y
      refine Res.of h (v' := v) (run_v ?_) (.atom h4)
      rw [hx.of_atom h2, hy.of_atom h3]; exact h1
    · split at hp
      · rename_i r hr
        cases hp
        obtain ⟨h1, h2⟩ := binNil_ok (w := w) hr hx hy x y
        exact Res.of h (v' := v) (run_v h1) (.atom h2)
      · split at hp
        · rename_i hf
          simp only [Bool.and_eq_true] at hf
          refine flat_ok h (o := ⟨dst, .binOp op t x y yt, type, pos, after, guard⟩) (fun cs b hh => by cases hh) (e := e) (fun y hy => hρ y hy) (fun z hz => ?_) hp
          simp only [Op.operands, List.mem_toArray, List.mem_cons, List.not_mem_nil, or_false] at hz
          rcases hz with rfl | rfl
          · exact hf.1
          · exact hf.2
        · cases hp
  case unOp op t x =>
    change unO ⟨dst, .unOp op t x, type, pos, after, guard⟩ op x P e V = _ at hp
    have hx := hρ x (by simp)
    unfold unO at hp
    split at hp
    · split at hp
      · rename_i b hb
        cases hp
        rw [hb] at hx
        exact Res.of h (v' := .bool (not b)) (run_v (by simp [hx.bool', Op.unary])) (.atom rfl)
      · cases hp
    · split at hp
      · rename_i hf
        refine flat_ok h (o := ⟨dst, .unOp op t x, type, pos, after, guard⟩) (fun cs b hh => by cases hh) (e := e) (fun y hy => hρ y hy) (fun z hz => ?_) hp
        simp only [Op.operands, List.mem_toArray, List.mem_cons, List.not_mem_nil, or_false] at hz
        subst hz; exact hf
      · cases hp
  case convert s d x =>
    change convertO ⟨dst, .convert s d x, type, pos, after, guard⟩ s d x P e V = _ at hp
    have hx := hρ x (by simp)
    unfold convertO at hp
    split at hp
    · rename_i r hr
      cases hp
      obtain ⟨h1, h2, h3⟩ := convFast_ok (w := w) hr
      refine Res.of h (v' := v) (run_v ?_) (.atom h3)
      rw [hx.of_atom h2]; exact h1
    · split at hp
      · rename_i hf
        refine flat_ok h (o := ⟨dst, .convert s d x, type, pos, after, guard⟩) (fun cs b hh => by cases hh) (e := e) (fun y hy => hρ y hy) (fun z hz => ?_) hp
        simp only [Op.operands, List.mem_toArray, List.mem_cons, List.not_mem_nil, or_false] at hz
        subst hz; exact hf
      · cases hp
  case makeFunc fn a b =>
    change makeFuncO fn a b P e V = _ at hp
    unfold makeFuncO at hp
    split at hp
    · rename_i hn
      cases hp
      rw [mapL_eq, mapL_eq]
      refine Res.of h (v' := .func fn ⟨a.toList.map ρ⟩ ⟨b.toList.map ρ⟩) ?_ (.func hn (VRs.map fun y hy => hρ y (by simp; exact .inl (by simpa using hy))) (VRs.map fun y hy => hρ y (by simp; exact .inr (by simpa using hy))))
      have ha : a.map ρ = ⟨a.toList.map ρ⟩ := by apply Array.ext'; simp
      have hb : b.map ρ = ⟨b.toList.map ρ⟩ := by apply Array.ext'; simp
      simp only [execOp, Instr.makeFunc, ha, hb]; rfl
    · cases hp
  case makeMap t r =>
    change makeMapO t r P e V = _ at hp
    unfold makeMapO at hp
    split at hp
    · exact Res.new h hp 0 0 (o' := .map ⟨[]⟩ 0) (.map .nil) (run_v (by simp [Instr.makeMap])) fun β' hβ => .map hβ
    · rename_i hint
      split at hp
      · rename_i kt k n hm hh
        have hv := hρ hint (by simp)
        rw [hh] at hv
        exact Res.new h hp 0 0 (o' := .map ⟨[]⟩ 0) (.map .nil) (run_v (by simp [Instr.makeMap, run_underlying (mapOf_spec hm), hv.int', asInt, asIntOf])) fun β' hβ => .map hβ
      · cases hp
  case makeSlice t l c =>
    change makeSliceO t l c P e V = _ at hp
    exact makeSlice_ok h (hρ l (by simp)) (hρ c (by simp)) hp
  case slice t x lo hi mx =>
    change sliceO ⟨dst, .slice t x lo hi mx, type, pos, after, guard⟩ t x lo hi mx P e V = _ at hp
    have hx := hρ x (by simp)
    have hlo : ∀ y, lo = some y → VR β (e y) (ρ y) := fun y hy => hρ y (by subst hy; simp)
    have hhi : ∀ y, hi = some y → VR β (e y) (ρ y) := fun y hy => hρ y (by subst hy; simp)
    have hmx : ∀ y, mx = some y → VR β (e y) (ρ y) := fun y hy => hρ y (by subst hy; simp)
    unfold sliceO at hp
    split at hp
    · obtain ⟨v', h1, h2, rfl⟩ := slice_ok h hx hlo hhi hmx hp
      exact Res.of h (run_v h1) h2
    · split at hp
      · rename_i hmn
        have hmn : mx = none := by simpa using hmn
        subst hmn
        refine Res.ofV h hp fun u hu => ?_
        obtain ⟨v', h1, h2⟩ := sliceA_ok (w := w) hx hlo hhi hu
        exact ⟨v', run_v h1, h2⟩
      · cases hp
    · rename_i s hs
      split at hp
      · rename_i hf
        simp only [Bool.and_eq_true] at hf
        obtain ⟨⟨hmn, hfl⟩, hfh⟩ := hf
        have hmn : mx = none := by simpa using hmn
        subst hmn
        refine flat_ok h (o := ⟨dst, .slice t x lo hi none, type, pos, after, guard⟩) (fun cs b hh => by cases hh) (e := e) (fun y hy => hρ y hy) (fun z hz => ?_) hp
        simp only [Op.operands, Array.mem_append] at hz
        rcases hz with ((hz | hz) | hz) | hz
        · simp at hz; subst hz; rw [hs]; rfl
        · cases lo with
          | none => simp at hz
          | some y => simp at hz; subst hz; exact hfl
        · cases hi with
          | none => simp at hz
          | some y => simp at hz; subst hz; exact hfh
        · simp at hz
      · cases hp
    · cases hp
  case lookup t m k ok =>
    change lookupO t m k ok P e V = _ at hp
    obtain ⟨v', h1, h2, rfl⟩ := lookup_ok h (hρ m (by simp)) (hρ k (by simp)) hp
    exact Res.of h (run_v h1) h2
  case range t x =>
    change rangeO t x P e V = _ at hp
    have hx := hρ x (by simp)
    unfold rangeO at hp
    split at hp
    · rename_i s hs
      rw [hs] at hx
      split at hp
      · rename_i hu
        have hu : P.underlying t = some .string := by
          cases hd : P.underlying t with
          | none => rw [hd] at hu; cases hu
          | some d => rw [hd] at hu; cases d <;> first | rfl | (cases hu)
        exact Res.new h hp 0 0 (o' := .stringIter s 0) (.iter rfl) (run_v (by simp [Instr.range, run_underlying hu, hx.string'])) fun β' hβ => .ptr hβ
      · cases hp
    · cases hp
  case next it str =>
    change nextO it str P e V = _ at hp
    obtain ⟨v', w', h1, h2, h3⟩ := next_ok h (ty := type) (hρ it (by simp)) hp
    exact ⟨β, v', w', .refl _, h2, h3, .inl (run_v h1)⟩
  all_goals (cases hp)
end
end Go.Vx
