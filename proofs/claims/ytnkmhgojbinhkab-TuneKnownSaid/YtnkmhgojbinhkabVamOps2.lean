/- The plain machine (VamOps2): part of a proof by a machine of plain values that is proved right. -/
import Derived.Test.YtnkmhgojbinhkabVamWrite
namespace Vam
set_option linter.unusedVariables false
set_option linter.unusedSimpArgs false
open Go
variable {P : Program} {φ : Phi} {H H' : CH} {w : World} {v : V}

theorem Sim.skip {s : Sem Unit} {w' : World} {φ' : Phi} (hs : s.run P w = .ok () w') (h : Rel P φ' H' w') (he : Ext φ H w φ' H' w') :
    Sim P φ H w (do s; Pure.pure Next.skip) undef H' :=
  ⟨φ', w', Go.undef, .inr ⟨by simp [hs], rfl⟩, h, he, vr_undef φ'⟩

theorem skip1_ok {o : Option CH} (h : skip1 o = .ok v H') : o = some H' ∧ v = undef := by
  cases o with
  | none => cases h
  | some x => cases h; exact ⟨rfl, rfl⟩

theorem oneCell_cells {x : Value} (h : x.oneCell' = true) : x.cells = #[x] := by cases x <;> first | rfl | cases h

theorem storeV_rel (h : Rel P φ H w) {t : TypeId} {x : V} {xv : Value} (hx : VR φ x xv) {b : Id} {k : Loc} (hb : φ b = some k) {off : Nat}
    (hr : storeV P t x H b off = some H') : ∃ w', (storeVar t ⟨k.r, k.o + off, none⟩ xv).run P w = .ok () w' ∧ Rel P φ H' w' ∧ Ext φ H w φ H' w' := by
  have key : ∀ (vs : V) (ys : List Value), LR φ vs ys → xv.cells.toList = ys → P.cellsOf t = ys.length → (∃ i, P.info? t = some i) → writeCells H b off vs = some H' →
      ∃ w', (storeVar t ⟨k.r, k.o + off, none⟩ xv).run P w = .ok () w' ∧ Rel P φ H' w' ∧ Ext φ H w φ H' w' := by
    intro vs ys hl hcs hn hi hwr
    obtain ⟨arr, el, a1, a2, a3, a4, a5⟩ := h.write hb hl hwr
    refine ⟨_, ?_, a4, a5⟩
    have hsz : xv.cells.size = P.cellsOf t := by rw [hn, ← hcs]; simp
    have := run_storeCells (P := P) ⟨k.r, k.o + off, none⟩ k.r (k.o + off) el ys 0 w arr (fun j => addr_add _ _ _) a1 a3 (by simpa using a2)
    simp [storeVar, sizeOf_run hi w, hsz, hcs, this]
  unfold storeV at hr
  cases hs : shOf P t with
  | bad => rw [hs] at hr; cases hr
  | one =>
    rw [hs] at hr
    obtain ⟨hi, hn, _⟩ := shOf_one hs
    have hl : LR φ (.cons x .nil) [xv] := .cons _ _ _ _ hx .nil
    obtain ⟨_, _, _, _, _, _, g2, _⟩ := writeCells_some hr
    have h1 := allOne_rel hl g2 xv (by simp)
    exact key _ [xv] hl (by rw [oneCell_cells h1]) (by simpa using hn) hi hr
  | many n =>
    rw [hs] at hr
    obtain ⟨l, rfl, h1⟩ := onAgg_ok (no := none) hr (by simp)
    obtain ⟨h2, h3⟩ := cond_ok h1 (by simp)
    obtain ⟨hi, hn, _⟩ := shOf_many hs
    cases hx with
    | agg _ cs hl =>
      refine key l cs.toList hl rfl ?_ hi h3
      rw [hn, ← LR.len hl, ← beq_eq h2, lenV_eq]; rfl

theorem sim_store (h : Rel P φ H w) {t : TypeId} {p x : V} {pv xv : Value} (hp : VR φ p pv) (hx : VR φ x xv) (hr : onPtr .no (oStore P t x H) p = .ok v H') :
    Sim P φ H w (do Instr.storeAt t pv xv; pure Next.skip) v H' := by
  obtain ⟨b, o, rfl, h1⟩ := onPtr_ok hr R.ok_ne
  obtain ⟨h2, rfl⟩ := skip1_ok h1
  cases hp with
  | ptr _ _ k hk =>
    obtain ⟨w', h3, h4, h5⟩ := storeV_rel h hx hk h2
    exact Sim.skip (by simp [Instr.storeAt, Instr.sureAddr, h3]) h4 h5

theorem sized_iff {t : TypeId} (h : sized P t = true) : (∃ i, P.info? t = some i) ∧ ∃ d, P.underlying t = some d := by
  unfold sized at h
  rw [Bool.and_eq_true] at h
  exact ⟨Option.isSome_iff_exists.1 h.1, Option.isSome_iff_exists.1 h.2⟩

theorem tyOf_struct {t : TypeId} {fs : List Field} (h : tyOf P t = .struct fs) : ∃ F : Array Field, P.underlying t = some (.struct F) ∧ F.toList = fs ∧ ∀ f ∈ fs, sized P f.type = true := by
  unfold tyOf at h
  split at h <;> (try split at h) <;> cases h
  rename_i F hu hall
  exact ⟨F, hu, rfl, fun f hf => List.all_eq_true.1 hall f hf⟩
theorem tyOf_array {t : TypeId} {n : Nat} {e : TypeId} (h : tyOf P t = .array n e) : P.underlying t = some (.array n e) ∧ sized P e = true := by
  unfold tyOf at h
  split at h <;> (try split at h) <;> cases h
  exact ⟨by assumption, by assumption⟩
theorem tyOf_slice {t : TypeId} {e : TypeId} (h : tyOf P t = .slice e) : P.underlying t = some (.slice e) ∧ sized P e = true := by
  unfold tyOf at h
  split at h <;> (try split at h) <;> cases h
  exact ⟨by assumption, by assumption⟩
theorem tyOf_map {t : TypeId} {k e : TypeId} (h : tyOf P t = .map k e) : P.underlying t = some (.map k e) ∧ sized P k = true ∧ sized P e = true := by
  unfold tyOf at h
  split at h <;> (try split at h) <;> cases h
  exact ⟨by assumption, (Bool.and_eq_true _ _).mp (by assumption)⟩
theorem tyOf_string {t : TypeId} (h : tyOf P t = .string) : P.underlying t = some .string := by
  unfold tyOf at h
  split at h <;> (try split at h) <;> cases h
  assumption
theorem tyOf_int {t : TypeId} {k : IntKind} (h : tyOf P t = .int k) : P.underlying t = some (.int k) := by
  unfold tyOf at h
  split at h <;> (try split at h) <;> cases h
  assumption
theorem tyOf_bool {t : TypeId} (h : tyOf P t = .bool) : P.underlying t = some .bool := by
  unfold tyOf at h
  split at h <;> (try split at h) <;> cases h
  assumption
theorem tyOf_pointer {t : TypeId} (h : tyOf P t = .pointer) : ∃ e, P.underlying t = some (.pointer e) := by
  unfold tyOf at h
  split at h <;> (try split at h) <;> cases h
  exact ⟨_, by assumption⟩
theorem tyOf_func {t : TypeId} (h : tyOf P t = .func) : ∃ a b c, P.underlying t = some (.func a b c) := by
  unfold tyOf at h
  split at h <;> (try split at h) <;> cases h
  exact ⟨_, _, _, by assumption⟩

theorem nthO_eq {α : Type} (l : List α) : ∀ n, nthO l n = l[n]? := by
  induction l with
  | nil => intro n; rfl
  | cons x l ih =>
    intro n
    cases n with
    | zero => rfl
    | succ n => exact (ih n).trans (by simp)

theorem fieldOf_some {t : TypeId} {f off : Nat} {ft : TypeId} (h : fieldOf P t f = some (off, ft)) :
    ∃ (F : Array Field) (fd : Field), P.underlying t = some (.struct F) ∧ F[f]? = some fd ∧ fd.offset = off ∧ fd.type = ft ∧ P.cellsOf ft ≠ 0 ∧ sized P ft = true := by
  unfold fieldOf at h
  split at h
  · rename_i fs hfs
    obtain ⟨F, h1, h2, h3⟩ := tyOf_struct hfs
    split at h
    · rename_i fd hfd
      split at h
      · cases h
      · rename_i hz
        cases h
        rw [nthO_eq, ← h2] at hfd
        refine ⟨F, fd, h1, by simpa using hfd, rfl, rfl, hz, h3 fd ?_⟩
        rw [← h2]; exact List.mem_of_getElem? hfd
    · cases h
  · cases h

theorem sim_fieldAddr (h : Rel P φ H w) {t : TypeId} {x : V} {xv : Value} {f : Nat} (hx : VR φ x xv) (hr : oFieldAddr x H (fieldOf P t f) = .ok v H') :
    Sim P φ H w (do pure (.value (← Instr.fieldAt t xv f))) v H' := by
  obtain ⟨⟨off, ft⟩, h1, h2⟩ := opt_ok hr R.ok_ne
  obtain ⟨b, o, rfl, h3⟩ := onPtr_ok h2 R.ok_ne
  cases h3
  obtain ⟨F, fd, g1, g2, rfl, rfl, g5, g6⟩ := fieldOf_some h1
  cases hx with
  | ptr _ _ k hk =>
    refine Sim.pure h (x := .pointer (some ⟨k.r, k.o + (o + fd.offset), none⟩)) ?_ (.ptr b _ k hk)
    have hs := sizeOf_run (sized_iff g6).1 w
    simp [Instr.fieldAt, run_underlying g1, g2, Instr.sureAddr, fieldPlace, hs, g5, addr_add, Nat.add_assoc]

theorem idx_ok {α : Type} {no r : α} {len : Nat} {f : Nat → α} {ix : V} (h : idx no len f ix = r) (hr : r ≠ no) : ∃ kd i, ix = .int kd (.ofNat i) ∧ i < len ∧ f i = r := by
  obtain ⟨kd, i, rfl, h1⟩ := natOf_ok h hr
  obtain ⟨h2, h3⟩ := cond_ok h1 hr
  exact ⟨kd, i, rfl, Nat.le_of_ble_eq_true h2, h3⟩

theorem sim_indexAddr (h : Rel P φ H w) {t : TypeId} {x ix : V} {xv iv : Value} (hx : VR φ x xv) (hi : VR φ ix iv) (hr : oIndexAddr P t x ix H = .ok v H') :
    Sim P φ H w (do pure (.value (← Instr.indexAt t xv iv))) v H' := by
  unfold oIndexAddr at hr
  cases ht : tyOf P t with
  | array n e =>
    rw [ht] at hr
    obtain ⟨b, o, rfl, h3⟩ := onPtr_ok hr R.ok_ne
    obtain ⟨kd, i, rfl, h4, h5⟩ := idx_ok h3 R.ok_ne
    cases h5
    obtain ⟨g1, g2⟩ := tyOf_array ht
    cases hi
    cases hx with
    | ptr _ _ k hk =>
      refine Sim.pure h (x := .pointer (some ⟨k.r, k.o + (o + i * P.cellsOf e), none⟩)) ?_ (.ptr b _ k hk)
      have hs := sizeOf_run (sized_iff g2).1 w
      simp [Instr.indexAt, run_underlying g1, Instr.sureAddr, asIntOf, hs, h4, addr_add, Nat.add_assoc]
  | slice e =>
    rw [ht] at hr
    rcases onSlice_ok hr R.ok_ne with ⟨b, o, l, c, s, rfl, h3⟩ | ⟨_, h3⟩
    · obtain ⟨kd, i, rfl, h4, h5⟩ := idx_ok h3 R.ok_ne
      cases h5
      obtain ⟨g1, g2⟩ := tyOf_slice ht
      cases hi
      cases hx with
      | slice _ _ _ _ _ cap k hk hc =>
        refine Sim.pure h (x := .pointer (some ⟨k.r, k.o + (o + i * P.cellsOf e), none⟩)) ?_ (.ptr b _ k hk)
        have hs := sizeOf_run (sized_iff g2).1 w
        simp [Instr.indexAt, run_underlying g1, asIntOf, hs, h4, addr_add, Nat.add_assoc]
    · cases h3
  | _ => rw [ht] at hr; cases hr

theorem partV_rel {t : TypeId} {cs : V} {xs : List Value} (hl : LR φ cs xs) {off : Nat} {x : V} (hr : partV P t cs off = some x) (w : World) :
    ∃ u, (part t xs.toArray off).run P w = .ok u w ∧ VR φ x u := by
  unfold partV at hr
  cases hs : shOf P t with
  | bad => rw [hs] at hr; cases hr
  | one =>
    rw [hs] at hr
    obtain ⟨_, _, h3⟩ := shOf_one hs
    obtain ⟨u, h4, h5⟩ := LR.nth hl hr
    exact ⟨u, by simp [part, h3 w, h4], h5⟩
  | many n =>
    rw [hs] at hr
    obtain ⟨l, h0, h1⟩ := opt_ok (no := none) hr (by simp)
    cases h1
    obtain ⟨hi, hn, h3⟩ := shOf_many hs
    obtain ⟨h7, h8, h9⟩ := LR.take n (LR.drop hl off) h0
    refine ⟨.agg (xs.toArray.extract off (off + n)), by simp [part, h3 w, sizeOf_run hi w, hn], .agg _ _ ?_⟩
    have e : (xs.toArray.extract off (off + n)).toList = (xs.drop off).take n := by
      simp [List.extract_eq_take_drop]
    rw [e]; exact h8

theorem sim_field (h : Rel P φ H w) {t : TypeId} {x : V} {xv : Value} {f : Nat} (hx : VR φ x xv) (hr : oField P x H (fieldOf P t f) = .ok v H') :
    Sim P φ H w (do pure (.value (← Instr.field t xv f))) v H' := by
  obtain ⟨⟨off, ft⟩, h1, h2⟩ := opt_ok hr R.ok_ne
  obtain ⟨l, rfl, h3⟩ := onAgg_ok h2 R.ok_ne
  obtain ⟨h4, rfl⟩ := pure1_ok h3
  obtain ⟨F, fd, g1, g2, rfl, rfl, g5, g6⟩ := fieldOf_some h1
  cases hx with
  | agg _ cs hl =>
    obtain ⟨u, h5, h6⟩ := partV_rel hl h4 w
    refine Sim.pure h ?_ h6
    simp at h5
    simp [Instr.field, run_underlying g1, g2, asAgg, h5]

theorem bytes_get {s : ByteArray} {i : Nat} {b : Nat} (h : (bytesOf s)[i]? = some b) : ∃ u : UInt8, s[i]? = some u ∧ u.toNat = b := by
  unfold bytesOf at h
  rw [List.getElem?_map] at h
  cases hx : s.data.toList[i]? with
  | none => rw [hx] at h; cases h
  | some u =>
    rw [hx] at h
    refine ⟨u, ?_, by simpa using h⟩
    have hi : i < s.size := by
      have := (List.getElem?_eq_some_iff.1 hx).1
      simpa using this
    have hv : s.data[i]? = some u := by simpa using hx
    have : s[i] = u := by
      have := (Array.getElem?_eq_some_iff.1 hv).2
      exact this
    simp [hi, this]

theorem bytes_len (s : ByteArray) : (bytesOf s).length = s.size := by simp [bytesOf]

theorem sim_index (h : Rel P φ H w) {t : TypeId} {x ix : V} {xv iv : Value} (hx : VR φ x xv) (hi : VR φ ix iv) (hr : oIndex P t x ix H = .ok v H') :
    Sim P φ H w (do pure (.value (← Instr.index t xv iv))) v H' := by
  unfold oIndex at hr
  cases ht : tyOf P t with
  | array n e =>
    rw [ht] at hr
    obtain ⟨l, rfl, h3⟩ := onAgg_ok hr R.ok_ne
    obtain ⟨kd, i, rfl, h4, h5⟩ := idx_ok h3 R.ok_ne
    obtain ⟨h6, rfl⟩ := pure1_ok h5
    obtain ⟨g1, g2⟩ := tyOf_array ht
    cases hi
    cases hx with
    | agg _ cs hl =>
      obtain ⟨u, h7, h8⟩ := partV_rel hl h6 w
      refine Sim.pure h ?_ h8
      have hs := sizeOf_run (sized_iff g2).1 w
      simp at h7
      simp [Instr.index, asIntOf, run_underlying g1, h4, hs, h7]
  | string =>
    rw [ht] at hr
    obtain ⟨s, rfl, h3⟩ := onStr_ok hr R.ok_ne
    obtain ⟨kd, i, rfl, h4, h5⟩ := idx_ok h3 R.ok_ne
    obtain ⟨b, h6, h7⟩ := opt_ok h5 R.ok_ne
    cases h7
    have g1 := tyOf_string ht
    cases hi
    cases hx with
    | str s =>
      rw [nthO_eq] at h6
      obtain ⟨u, h8, rfl⟩ := bytes_get h6
      refine Sim.pure h (x := .int .u8 u.toNat) ?_ (.int _ _)
      simp [Instr.index, asIntOf, run_underlying g1, h8]
  | _ => rw [ht] at hr; cases hr
end Vam
