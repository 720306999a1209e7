/- The plain machine (VamDraw5): part of a proof by a machine of plain values that is proved right. -/
import Derived.Test.YtnkmhgojbinhkabVamDraw4
namespace Vam
set_option linter.unusedVariables false
set_option linter.unusedSimpArgs false
open Go
variable {P : Program} {φ : Phi} {H H' K : CH} {w : World} {v : V} {E : Ev}

/-! ## A step, its slots, and the world behind it -/

theorem step_ok {all : List Oper} {p : Oper × Md} {tm tm₁ : TT} (h : drawStep P E all p tm H = .ok tm₁ H') :
    (wantO all tm p.1.guard = true ∧ ∃ v, drawOp P E tm H p.2 p.1.op = .ok v H' ∧ tm₁ = setT tm p.1.dst v) ∨ (wantO all tm p.1.guard = false ∧ H' = H ∧ tm₁ = setT tm p.1.dst undef) := by
  unfold drawStep at h
  cases hw : wantO all tm p.1.guard with
  | true =>
    rw [hw] at h
    have h : drawGo p.1.dst tm (drawOp P E tm H p.2 p.1.op) = .ok tm₁ H' := h
    unfold drawGo at h
    cases q : drawOp P E tm H p.2 p.1.op with
    | no => rw [q] at h; cases h
    | ok x J => rw [q] at h; cases h; exact .inl ⟨rfl, x, rfl, rfl⟩
  | false => rw [hw] at h; cases h; exact .inr ⟨rfl, rfl, rfl⟩

theorem step_go {all : List Oper} {p : Oper × Md} {tm : TT} (hw : wantO all tm p.1.guard = true) (h : drawOp P E tm H p.2 p.1.op = .ok v H') : drawStep P E all p tm H = .ok (setT tm p.1.dst v) H' := by
  unfold drawStep drawGo; rw [hw, h]; rfl
theorem step_skip {all : List Oper} {p : Oper × Md} {tm : TT} (hw : wantO all tm p.1.guard = false) : drawStep P E all p tm H = .ok (setT tm p.1.dst undef) H := by
  unfold drawStep; rw [hw]; rfl

theorem wantO_eq {ops : Array Oper} {tm : TT} {tmps : Array Value} (htm : TmR φ tm tmps) (hok : ops.toList.all (okOper tmps.size) = true) (o : Oper) : Region.wanted o (yielded ops tmps) = wantO ops.toList tm o.guard := by
  cases hg : o.guard with
  | none => simp [Region.wanted, hg, wantO, opt]
  | some g => rw [wantB_eq htm hok o g hg]; rfl

/-- ONE STEP, in the world. -/
theorem step_wp (hC : SoundCall P E) (hD : SoundCode P E) (hG : CongPure P E) {ops : Array Oper} {φ₀ : Phi} {H₀ : CH} {w₀ : World} {l l' : List (Oper × Md)} (hb : Rel P φ₀ H₀ w₀) (hI : DInv P φ₀ H₀ w₀ l φ H w) {p : Oper × Md} (hp : p ∈ l)
    (hs : ∀ q ∈ l', q ∈ l) (hk : Keeps p l') {tm tm₁ : TT} {a : Act} (htm : TmR φ tm a.tmps) (hall : ops.toList.all (okOper a.tmps.size) = true) {i : Nat} (hi : ops[i]? = some p.1) (hr : drawStep P E ops.toList p tm H = .ok tm₁ H')
    {K : Act → World → Prop} {Q : Exit → Act → World → Prop} {r : Option Nat}
    (hnext : ∀ a' φ' w', DInv P φ₀ H₀ w₀ l' φ' H' w' → φ.le φ' → Later φ H H' → TmR φ' tm₁ a'.tmps → a'.tmps.size = a.tmps.size → a'.defers = a.defers → K a' w') : wpOpIn (wideAt r) 0 P ops Q i K a w := by
  have hok : okOper a.tmps.size p.1 = true := List.all_eq_true.1 hall p.1 (by simpa using Array.mem_of_getElem? hi)
  have hdst : okDst a.tmps.size p.1.dst = true := (Bool.and_eq_true_iff.1 hok).1
  unfold wpOpIn
  simp only [hi]
  rw [wantO_eq htm hall]
  rcases step_ok hr with ⟨h1, v, h2, rfl⟩ | ⟨h1, rfl, rfl⟩
  · rw [if_pos h1]
    refine draw_wp hC hD hG hb hI hp hs hk htm hok h2 (fun φ' w' x k1 k2 k4 k3 => ?_)
    obtain ⟨p1, p2, p3⟩ := (htm.mono k2).put hdst k3
    exact hnext _ φ' w' k1 k2 k4 p1 p2 p3
  · rw [if_neg (by rw [h1]; simp)]
    obtain ⟨p1, p2, p3⟩ := htm.put hdst (vr_undef φ)
    exact ⟨fun _ _ => trivial, hnext _ φ w (hI.less hs) (Phi.le_refl _) (.of_agree rfl (fun _ _ _ => rfl)) p1 p2 p3⟩

/-- and that there is such a world -/
theorem step_ghost (hC : SoundCall P E) (hD : SoundCode P E) (hG : CongPure P E) {ops : Array Oper} {φ₀ : Phi} {H₀ : CH} {w₀ : World} {l l' : List (Oper × Md)} (hb : Rel P φ₀ H₀ w₀) (hI : DInv P φ₀ H₀ w₀ l φ H w) {p : Oper × Md} (hp : p ∈ l)
    (hs : ∀ q ∈ l', q ∈ l) (hk : Keeps p l') {tm tm₁ : TT} {tmps : Array Value} (htm : TmR φ tm tmps) (hall : ops.toList.all (okOper tmps.size) = true) {i : Nat} (hi : ops[i]? = some p.1) (hr : drawStep P E ops.toList p tm H = .ok tm₁ H') :
    ∃ φ' w' tmps', DInv P φ₀ H₀ w₀ l' φ' H' w' ∧ φ.le φ' ∧ Later φ H H' ∧ TmR φ' tm₁ tmps' ∧ tmps'.size = tmps.size := by
  obtain ⟨a', w', φ', h1, h4, h5, h2, h3⟩ := wpOp_exists (r := none) (step_wp hC hD hG hb hI hp hs hk (a := ⟨tmps, []⟩) htm hall hi hr (K := fun a' w' => ∃ φ', DInv P φ₀ H₀ w₀ l' φ' H' w' ∧ φ.le φ' ∧ Later φ H H' ∧ TmR φ' tm₁ a'.tmps ∧ a'.tmps.size = tmps.size)
    (fun a' φ' w' h1 h4 h5 h2 h3 _ => ⟨φ', h1, h4, h5, h2, h3⟩))
  exact ⟨φ', w', a'.tmps, h1, h4, h5, h2, h3⟩

theorem op_exists (hC : SoundCall P E) (hD : SoundCode P E) (h : Rel P φ H w) {tm : TT} {tmps : Array Value} (htm : TmR φ tm tmps) {o : Oper} (hok : okOper tmps.size o = true) (hr : evOp P E tm H o.op = .ok v H') :
    ∃ φ' w', Rel P φ' H' w' ∧ Ext φ H w φ' H' w' := by
  have := op_wp hC hD h (a := ⟨tmps, []⟩) htm hok hr (next := fun _ w' => ∃ φ', Rel P φ' H' w' ∧ Ext φ H w φ' H' w') (Q := NoQ) (r := none) (fun φ' w' x h1 h2 _ => ⟨φ', h1, h2⟩)
  obtain ⟨_, w', φ', h1⟩ := upon_exists this.2
  exact ⟨φ', w', h1⟩

/-! ## Slots that the other one does not name -/

/-- the slots of a region lie within the frame -/
def Lows (all : List Oper) (o : Oper) : Prop := (∀ d, o.dst = some d → d < 1024) ∧ ∀ t ∈ namesOf all o, t < 1024

theorem lows {ops : Array Oper} {n : Nat} (hn : n ≤ 1024) (hall : ops.toList.all (okOper n) = true) {o : Oper} (ho : o ∈ ops.toList) : Lows ops.toList o := by
  have hdst : ∀ (o : Oper), o ∈ ops.toList → ∀ d, o.dst = some d → d < 1024 := by
    intro o ho d hd
    have := (Bool.and_eq_true_iff.1 (List.all_eq_true.1 hall o ho)).1
    rw [hd] at this
    exact Nat.lt_of_lt_of_le (blt_lt this) hn
  refine ⟨hdst o ho, ?_⟩
  intro t ht
  unfold namesOf at ht
  simp only [List.mem_append] at ht
  rcases ht with (ht | ht) | ht
  · exact hdst o ho t (by cases hd : o.dst <;> simp_all)
  · have h1 := mem_tmpsOf.1 ht
    have h2 := List.all_eq_true.1 (Bool.and_eq_true_iff.1 (List.all_eq_true.1 hall o ho)).2 _ (by simpa using h1)
    exact Nat.lt_of_lt_of_le (blt_lt h2) hn
  · split at ht
    · rename_i g b hg
      split at ht
      · rename_i p hp
        exact hdst p (List.mem_of_getElem? hp) t (by cases hd : p.dst <;> simp_all)
      · simp at ht
    · simp at ht

theorem wantO_set {all : List Oper} {o : Oper} (hl : Lows all o) {tm : TT} {d : Option Nat} {x : V} (hd : ∀ i, d = some i → i < 1024 ∧ i ∉ namesOf all o) : wantO all (setT tm d x) o.guard = wantO all tm o.guard := by
  cases hg : o.guard with
  | none => rfl
  | some g =>
    show wantB all (setT tm d x) g = wantB all tm g
    unfold wantB
    have : yieldedL all (setT tm d x) g.1 = yieldedL all tm g.1 := by
      unfold yieldedL
      rw [nthO_get]
      cases hp : all[g.1]? with
      | none => rfl
      | some p =>
        show opt none (fun d => onBool none (fun b => some b) ((setT tm _ x).get d)) p.dst = opt none (fun d => onBool none (fun b => some b) (tm.get d)) p.dst
        cases hpd : p.dst with
        | none => rfl
        | some e =>
          have hmem : e ∈ namesOf all o := by
            unfold namesOf
            rw [hg]
            simp only [List.mem_append]
            right
            simp [hp, hpd]
          show onBool none (fun b => some b) ((setT tm d x).get e) = onBool none (fun b => some b) (tm.get e)
          rw [setT_get x tm (fun i hi => (hd i hi).1) (hl.2 e hmem) (fun hde => (hd e hde).2 hmem)]
    rw [this]

theorem drawOp_set {all : List Oper} {o : Oper} (hl : Lows all o) {md : Md} {tm : TT} {d : Option Nat} {x : V} (hd : ∀ i, d = some i → i < 1024 ∧ i ∉ namesOf all o) : drawOp P E (setT tm d x) H md o.op = drawOp P E tm H md o.op := by
  have hs : ∀ K : CH, evOp P E (setT tm d x) K o.op = evOp P E tm K o.op := by
    intro K
    refine evOp_same (fun t ht => ?_)
    have hmem : t ∈ namesOf all o := by unfold namesOf; simp only [List.mem_append]; exact .inl (.inr ht)
    exact setT_get x tm (fun i hi => (hd i hi).1) (hl.2 t hmem) (fun hde => (hd t hde).2 hmem)
  cases md with
  | plain => exact hs H
  | quiet => show thawR H.fz (evOp P E (setT tm d x) H.freeze o.op) = thawR H.fz (evOp P E tm H.freeze o.op); rw [hs]
  | read ld =>
    show R.rec (motive := fun _ => R) .no (fun v _ => cond (cond ld true (flatV v)) (.ok v H) .no) (evOp P E (setT tm d x) H o.op) = R.rec (motive := fun _ => R) .no (fun v _ => cond (cond ld true (flatV v)) (.ok v H) .no) (evOp P E tm H o.op)
    rw [hs]
  | pre i => rfl
  | lay i =>
    show R.rec (motive := fun _ => R) .no (fun v K => .ok v (K.named H.n)) (evOp P E (setT tm d x) (H.named i) o.op) = R.rec (motive := fun _ => R) .no (fun v K => .ok v (K.named H.n)) (evOp P E tm (H.named i) o.op)
    rw [hs]

/-! ## Two operations in either order -/

theorem Tr.put_comm (x y : Option Blk) (t : Tr) (a b c d e a' b' c' d' e' : D) (h : ¬ (a = a' ∧ b = b' ∧ c = c' ∧ d = d' ∧ e = e')) :
    Tr.put x (Tr.put y t a' b' c' d' e') a b c d e = Tr.put y (Tr.put x t a b c d e) a' b' c' d' e' := by
  simp only [Tr.put, Tr.put1, Tr.put2, Tr.put3, Tr.put4]
  by_cases ha : a = a'
  · subst ha
    simp only [Tr.get_set, if_true, Tr.set_set]
    congr 1
    by_cases hb : b = b'
    · subst hb
      simp only [Tr4.get_set, if_true, Tr4.set_set]
      congr 1
      by_cases hc : c = c'
      · subst hc
        simp only [Tr3.get_set, if_true, Tr3.set_set]
        congr 1
        by_cases hd : d = d'
        · subst hd
          simp only [Tr2.get_set, if_true, Tr2.set_set]
          congr 1
          exact Tr1.set_comm _ _ _ _ (fun he => h ⟨rfl, rfl, rfl, rfl, he⟩) _
        · simp only [Tr2.get_set, if_neg hd, if_neg (Ne.symm hd)]; rw [Tr2.set_comm _ _ _ _ hd]
      · simp only [Tr3.get_set, if_neg hc, if_neg (Ne.symm hc)]; rw [Tr3.set_comm _ _ _ _ hc]
    · simp only [Tr4.get_set, if_neg hb, if_neg (Ne.symm hb)]; rw [Tr4.set_comm _ _ _ _ hb]
  · rw [Tr.get_set, if_neg ha, Tr.get_set, if_neg (Ne.symm ha), Tr.set_comm _ _ _ _ ha]
end Vam
