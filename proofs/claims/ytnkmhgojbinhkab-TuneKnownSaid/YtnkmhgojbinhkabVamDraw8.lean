/- The plain machine (VamDraw8): part of a proof by a machine of plain values that is proved right. -/
import Derived.Test.YtnkmhgojbinhkabVamDraw7
namespace Vam
set_option linter.unusedVariables false
set_option linter.unusedSimpArgs false
open Go
variable {P : Program} {φ : Phi} {H H' K : CH} {w : World} {v : V} {E : Ev}

/-! ## The operations by their numbers -/

noncomputable def dflt : Oper × Md := (default, .plain)
noncomputable def its (F : List (Oper × Md)) (I : List Nat) : List (Oper × Md) := I.map fun k => F.getD k dflt

/-- the region, and how each of its operations is done -/
structure Reg (P : Program) (ops : Array Oper) (F : List (Oper × Md)) : Prop where
  ok : DrawOk P ops.toList
  at' : ∀ k o, ops[k]? = some o → ∃ d, F.getD k dflt = (o, d) ∧ MdOf (modeOf P ops.toList k o) d
  len : F.length = ops.size
  apart : ∀ i j, i < ops.size → j < ops.size → i ≠ j → ∀ a b, Named (F.getD i dflt) a → Named (F.getD j dflt) b → a ≠ b

/-- in increasing order, and of this region -/
def Incr (n : Nat) (I : List Nat) : Prop := I.Pairwise (· < ·) ∧ ∀ k ∈ I, k < n

theorem mode_cases {ops : List Oper} {k : Nat} {o : Oper} (h : modeOf P ops k o ≠ .plain) : modeOf P ops k o = looseMode P o ∧ heapy o.op = true := by
  unfold modeOf at h ⊢
  split at h
  · rename_i hc; rw [if_pos hc]; exact ⟨rfl, (Bool.and_eq_true_iff.1 hc).1⟩
  · exact absurd rfl h

theorem loose_pre {o : Oper} (h : looseMode P o = .pre) : tied o = false ∧ ∃ e, o.op = .alloc e := by
  unfold looseMode at h
  cases ho : o.op with
  | alloc e =>
    rw [ho] at h
    have h : (if (!tied o && o.guard.isNone && o.dst.isSome) = true then M0.pre else .quiet) = .pre := h
    split at h
    · rename_i hc
      rw [Bool.and_eq_true_iff, Bool.and_eq_true_iff] at hc
      exact ⟨by simpa using hc.1.1, e, rfl⟩
    · cases h
  | call c =>
    rw [ho] at h
    have h : callMode P o.type c.callee = .pre := h
    unfold callMode at h
    split at h <;> first | cases h | (split at h <;> cases h)
  | _ => rw [ho] at h; cases h

theorem loose_lay {o : Oper} (h : looseMode P o = .lay) : ∃ t n ps, o.op = .buildSlice t n ps := by
  unfold looseMode at h
  cases ho : o.op with
  | buildSlice t n ps => exact ⟨t, n, ps, rfl⟩
  | alloc e =>
    rw [ho] at h
    have h : (if (!tied o && o.guard.isNone && o.dst.isSome) = true then M0.pre else .quiet) = .lay := h
    split at h <;> cases h
  | call c =>
    rw [ho] at h
    have h : callMode P o.type c.callee = .lay := h
    unfold callMode at h
    split at h <;> first | cases h | (split at h <;> cases h)
  | _ => rw [ho] at h; cases h

theorem mode_pre {ops : List Oper} {k : Nat} {o : Oper} (h : modeOf P ops k o = .pre) : tied o = false ∧ heapy o.op = true := by
  obtain ⟨h1, h2⟩ := mode_cases (P := P) (ops := ops) (k := k) (o := o) (by rw [h]; simp)
  exact ⟨(loose_pre (h1.symm.trans h)).1, h2⟩
theorem mode_lay {ops : List Oper} {k : Nat} {o : Oper} (h : modeOf P ops k o = .lay) : ∃ t n ps, o.op = .buildSlice t n ps := by
  obtain ⟨h1, _⟩ := mode_cases (P := P) (ops := ops) (k := k) (o := o) (by rw [h]; simp)
  exact loose_lay (h1.symm.trans h)

/-! ### What two operations of the text that are not ordered are -/

theorem still_ne {m : M0} {d : Md} (hm : MdOf m d) (h : still m = true) : d ≠ .plain := by
  cases hm <;> first | (cases h; done) | (intro e; cases e)
theorem isRead_ex {m : M0} {d : Md} (hm : MdOf m d) (h : isRead m = true) : ∃ ld, d = .read ld ∧ m = .read ld := by
  cases hm <;> first | (cases h; done) | exact ⟨_, rfl, rfl⟩
theorem isPre_ex {m : M0} {d : Md} (hm : MdOf m d) (h : isPre m = true) : ∃ i, d = .pre i ∧ m = .pre := by
  cases hm <;> first | (cases h; done) | exact ⟨_, rfl, rfl⟩
theorem isLay_ex {m : M0} {d : Md} (hm : MdOf m d) (h : isLay m = true) : ∃ i, d = .lay i ∧ m = .lay := by
  cases hm <;> first | (cases h; done) | exact ⟨_, rfl, rfl⟩

inductive Beside (ops : List Oper) (i j : Nat) (p q : Oper × Md) : Prop where
  | coldL : p.2 = .plain → heapy p.1.op = false → Beside ops i j p q
  | coldR : q.2 = .plain → heapy q.1.op = false → Beside ops i j p q
  | preL (a : Id) : p.2 = .pre a → q.2 ≠ .plain → Beside ops i j p q
  | preR (a : Id) : q.2 = .pre a → p.2 ≠ .plain → Beside ops i j p q
  | readL (ld : Bool) : p.2 = .read ld → q.2 ≠ .plain → Beside ops i j p q
  | readR (ld : Bool) : q.2 = .read ld → p.2 ≠ .plain → Beside ops i j p q
  | lays (a b : Id) : p.2 = .lay a → q.2 = .lay b → Beside ops i j p q
  | places (t : TypeId) (a : Nat) (t' : TypeId) (b : Nat) (y : Operand) : p.1.op = .load t (.tmp a) → p.2 = .read true → q.1.op = .store t' (.tmp b) y → q.2 = .plain → fixedSlot ops a i = true → fixedSlot ops b j = true → Beside ops i j p q

theorem cold_plain {ops : List Oper} {k : Nat} {o : Oper} {d : Md} (hm : MdOf (modeOf P ops k o) d) (h : heapy o.op = false) : d = .plain := by
  have : modeOf P ops k o = .plain := by unfold modeOf; rw [h]; rfl
  rw [this] at hm
  cases hm; rfl

theorem beside {ops : List Oper} (hd : DrawOk P ops) {i j : Nat} {oi oj : Oper} {di dj : Md} (hij : i < j) (hi : ops[i]? = some oi) (hj : ops[j]? = some oj) (hmi : MdOf (modeOf P ops i oi) di) (hmj : MdOf (modeOf P ops j oj) dj)
    (hno : ordered ops i j = false) : (∀ d, oi.dst = some d → d ∉ namesOf ops oj) ∧ (∀ d, oj.dst = some d → d ∉ namesOf ops oi) ∧ Beside ops i j (oi, di) (oj, dj) := by
  have h := hd.pair i j oi oj hij hi hj
  unfold okPair at h
  rw [hno, Bool.false_or, Bool.and_eq_true_iff, Bool.and_eq_true_iff] at h
  obtain ⟨⟨h1, h2⟩, h3⟩ := h
  have free : ∀ {x y : Oper}, freeOf ops x y = true → ∀ d, x.dst = some d → d ∉ namesOf ops y := by
    intro x y hf d hx
    unfold freeOf at hf
    rw [hx] at hf
    simpa using hf
  refine ⟨free h1, free h2, ?_⟩
  unfold okModes at h3
  simp only [Bool.or_eq_true] at h3
  rcases h3 with ((((((h3 | h3) | h3) | h3) | h3) | h3) | h3) | h3
  · exact .coldL (cold_plain hmi (by simpa using h3)) (by simpa using h3)
  · exact .coldR (cold_plain hmj (by simpa using h3)) (by simpa using h3)
  · obtain ⟨h4, h5⟩ := Bool.and_eq_true_iff.1 h3
    obtain ⟨a, rfl, _⟩ := isPre_ex hmi h4
    exact .preL a rfl (still_ne hmj h5)
  · obtain ⟨h4, h5⟩ := Bool.and_eq_true_iff.1 h3
    obtain ⟨a, rfl, _⟩ := isPre_ex hmj h4
    exact .preR a rfl (still_ne hmi h5)
  · obtain ⟨h4, h5⟩ := Bool.and_eq_true_iff.1 h3
    obtain ⟨ld, rfl, _⟩ := isRead_ex hmi h4
    exact .readL ld rfl (still_ne hmj h5)
  · obtain ⟨h4, h5⟩ := Bool.and_eq_true_iff.1 h3
    obtain ⟨ld, rfl, _⟩ := isRead_ex hmj h4
    exact .readR ld rfl (still_ne hmi h5)
  · obtain ⟨h4, h5⟩ := Bool.and_eq_true_iff.1 h3
    obtain ⟨a, rfl, _⟩ := isLay_ex hmi h4
    obtain ⟨b, rfl, _⟩ := isLay_ex hmj h5
    exact .lays a b rfl rfl
  · obtain ⟨h4, h5⟩ := Bool.and_eq_true_iff.1 h3
    obtain ⟨ld, rfl, hmi'⟩ := isRead_ex hmi h4
    have hro := mode_read hmi'
    unfold okPlaces placesOf at h5
    split at h5
    · rename_i p hp
      split at hp
      · rename_i t a t' b y h6 h7
        cases hp
        obtain ⟨h8, h9⟩ := Bool.and_eq_true_iff.1 h5
        obtain rfl : ld = true := by unfold ReadOp at hro; rw [h6] at hro; exact hro
        by_cases hp : dj = .plain
        · exact .places t a t' b y h6 rfl h7 hp h8 h9
        · exact .readL true rfl hp
      · cases hp
    · cases h5

/-! ### What is kept for those to come -/

theorem keeps_of {ops : Array Oper} {F : List (Oper × Md)} (hR : Reg P ops F) {k : Nat} (hk : k < ops.size) {I : List Nat} (hI : ∀ m ∈ I, m < ops.size ∧ m ≠ k ∧ (m < k → ordered ops.toList m k = false)) : Keeps (F.getD k dflt) (its F I) := by
  refine ⟨?_, ?_⟩
  · intro q hq i j hi hj
    obtain ⟨m, hm, rfl⟩ := List.mem_map.1 hq
    exact hR.apart k m hk (hI m hm).1 (hI m hm).2.1.symm i j hi hj
  · intro q hq i hi
    obtain ⟨m, hm, rfl⟩ := List.mem_map.1 hq
    obtain ⟨h1, h2, h3⟩ := hI m hm
    have hok : ops.toList[k]? = some ops[k] := by simp [hk]
    have hom : ops.toList[m]? = some ops[m] := by simp [h1]
    obtain ⟨dk, e1, e2⟩ := hR.at' k ops[k] (by simp [hk])
    obtain ⟨dm, e3, e4⟩ := hR.at' m ops[m] (by simp [h1])
    rw [e1]
    rw [e3] at hi
    cases (show dm = .pre i from hi)
    have hmode : modeOf P ops.toList m ops[m] = .pre := by
      generalize modeOf P ops.toList m ops[m] = x at e4
      cases e4; rfl
    obtain ⟨ht, hh⟩ := mode_pre hmode
    rcases Nat.lt_or_gt_of_ne h2 with hlt | hgt
    · obtain ⟨_, _, hb⟩ := beside hR.ok hlt hom hok e4 e2 (h3 hlt)
      cases hb with
      | coldL e _ => cases e
      | coldR _ e => exact .inr e
      | preL a _ hne => exact .inl hne
      | preR a e _ => exact .inl (by rw [show dk = _ from e]; simp)
      | readL ld e _ => cases e
      | readR ld e _ => exact .inl (by rw [show dk = _ from e]; simp)
      | lays a b e _ => cases e
      | places _ _ _ _ _ _ e => cases e
    · obtain ⟨_, _, hb⟩ := beside hR.ok hgt hok hom e2 e4 (untied hom ht hgt)
      cases hb with
      | coldL _ e => exact .inr e
      | coldR e _ => cases e
      | preL a e _ => exact .inl (by rw [show dk = _ from e]; simp)
      | preR a _ hne => exact .inl hne
      | readL ld e _ => exact .inl (by rw [show dk = _ from e]; simp)
      | readR ld e _ => cases e
      | lays a b _ e => cases e
      | places _ _ _ _ _ _ e => exact .inl (by rw [show dk = _ from e]; simp)

/-! ## Runs -/

theorem run_cons {all : List Oper} {p : Oper × Md} {l : List (Oper × Md)} {tm tm' : TT} (h : evDraw P E all (p :: l) tm H = .ok tm' H') : ∃ tm₁ H₁, drawStep P E all p tm H = .ok tm₁ H₁ ∧ evDraw P E all l tm₁ H₁ = .ok tm' H' := by
  have h : RO.rec (motive := fun _ => RO) .no (evDraw P E all l) (drawStep P E all p tm H) = .ok tm' H' := h
  cases q : drawStep P E all p tm H with
  | no => rw [q] at h; cases h
  | ok tm₁ H₁ => rw [q] at h; exact ⟨tm₁, H₁, rfl, h⟩
theorem run_cons' {all : List Oper} {p : Oper × Md} {l : List (Oper × Md)} {tm tm₁ : TT} {H₁ : CH} (h : drawStep P E all p tm H = .ok tm₁ H₁) : evDraw P E all (p :: l) tm H = evDraw P E all l tm₁ H₁ := by
  show RO.rec (motive := fun _ => RO) .no (evDraw P E all l) (drawStep P E all p tm H) = _
  rw [h]

theorem step_get {all : List Oper} {p : Oper × Md} {tm tm₁ : TT} {H₁ : CH} {a : Nat} (h : drawStep P E all p tm H = .ok tm₁ H₁) (hl : Lows all p.1) (ha : a < 1024) (hne : p.1.dst ≠ some a) : tm₁.get a = tm.get a := by
  rcases step_ok h with ⟨_, v, _, rfl⟩ | ⟨_, _, rfl⟩
  · exact setT_get _ _ (fun i hi => hl.1 i hi) ha hne
  · exact setT_get _ _ (fun i hi => hl.1 i hi) ha hne

theorem run_get {all : List Oper} {a : Nat} (ha : a < 1024) : ∀ (l : List (Oper × Md)) {tm tm' : TT} {H H' : CH}, evDraw P E all l tm H = .ok tm' H' → (∀ p ∈ l, Lows all p.1 ∧ p.1.dst ≠ some a) → tm'.get a = tm.get a := by
  intro l
  induction l with
  | nil => intro tm tm' H H' h _; cases (show RO.ok tm H = .ok tm' H' from h); rfl
  | cons p l ih =>
    intro tm tm' H H' h hp
    obtain ⟨tm₁, H₁, h1, h2⟩ := run_cons h
    rw [ih h2 (fun q hq => hp q (by simp [hq])), step_get h1 (hp p (by simp)).1 ha (hp p (by simp)).2]

theorem its_cons (F : List (Oper × Md)) (k : Nat) (I : List Nat) : its F (k :: I) = F.getD k dflt :: its F I := rfl
theorem its_append (F : List (Oper × Md)) (I J : List Nat) : its F (I ++ J) = its F I ++ its F J := by simp [its]

theorem its_sub {F : List (Oper × Md)} {I J : List Nat} (h : ∀ k ∈ I, k ∈ J) : ∀ q ∈ its F I, q ∈ its F J := by
  intro q hq
  obtain ⟨m, hm, rfl⟩ := List.mem_map.1 hq
  exact List.mem_map.2 ⟨m, h m hm, rfl⟩

/-- A RUN TO ITS END, in some world. -/
theorem run_ghost (hC : SoundCall P E) (hD : SoundCode P E) (hG : CongPure P E) {ops : Array Oper} {F : List (Oper × Md)} (hR : Reg P ops F) {φ₀ : Phi} {H₀ : CH} {w₀ : World} (hb : Rel P φ₀ H₀ w₀) : ∀ (I : List Nat) {φ : Phi} {H H' : CH} {w : World} {tm tm' : TT} {tmps : Array Value},
    Incr ops.size I → DInv P φ₀ H₀ w₀ (its F I) φ H w → TmR φ tm tmps → ops.toList.all (okOper tmps.size) = true → evDraw P E ops.toList (its F I) tm H = .ok tm' H' → Later φ H H' := by
  intro I
  induction I with
  | nil =>
    intro φ H H' w tm tm' tmps _ _ _ _ h
    cases (show RO.ok tm H = .ok tm' H' from h)
    exact .of_agree rfl (fun _ _ _ => rfl)
  | cons k I ih =>
    intro φ H H' w tm tm' tmps hin hI htm hall h
    rw [its_cons] at h
    obtain ⟨tm₁, H₁, h1, h2⟩ := run_cons h
    obtain ⟨hpw, hlt⟩ := hin
    have hk := hlt k (by simp)
    obtain ⟨dk, e1, e2⟩ := hR.at' k ops[k] (by simp [hk])
    have hk1 := List.pairwise_cons.1 hpw
    have hkeep : Keeps (F.getD k dflt) (its F I) := keeps_of hR hk (fun m hm => ⟨hlt m (by simp [hm]), Nat.ne_of_gt (hk1.1 m hm), fun hlt' => absurd hlt' (Nat.not_lt.2 (Nat.le_of_lt (hk1.1 m hm)))⟩)
    obtain ⟨φ', w', tmps', g1, g2, g3, g4, g5⟩ := step_ghost hC hD hG hb hI (p := F.getD k dflt) (l' := its F I) (by rw [its_cons]; simp) (its_sub (fun m hm => by simp [hm])) hkeep htm hall (i := k) (by rw [e1]; simp [hk]) h1
    exact g3.trans g2 (ih ⟨hk1.2, fun m hm => hlt m (by simp [hm])⟩ g1 g4 (by rw [g5]; exact hall) h2)

/-- TWO STEPS IN EITHER ORDER. -/
theorem swap_step (hC : SoundCall P E) (hD : SoundCode P E) (hG : CongPure P E) {φ₀ : Phi} {H₀ : CH} {w₀ : World} {l : List (Oper × Md)} (hI : DInv P φ₀ H₀ w₀ l φ H w) {p q : Oper × Md} (hp : p ∈ l) (hq : q ∈ l)
    {all : List Oper} {tm : TT} {tmps : Array Value} (htm : TmR φ tm tmps) (hokp : okOper tmps.size p.1 = true) (hokq : okOper tmps.size q.1 = true) (hlp : Lows all p.1) (hlq : Lows all q.1)
    (f1 : ∀ d, p.1.dst = some d → d ∉ namesOf all q.1) (f2 : ∀ d, q.1.dst = some d → d ∉ namesOf all p.1) {H₁ H₂ : CH} {tm₁ tm₂ : TT}
    (h1 : drawStep P E all p tm H = .ok tm₁ H₁) (h2 : drawStep P E all q tm₁ H₁ = .ok tm₂ H₂) (hsw : Swaps tm H₂ p q) :
    ∃ tm₁' H₁', drawStep P E all q tm H = .ok tm₁' H₁' ∧ drawStep P E all p tm₁' H₁' = .ok tm₂ H₂ := by
  have hdp : ∀ i, p.1.dst = some i → i < 1024 ∧ i ∉ namesOf all q.1 := fun i hi => ⟨hlp.1 i hi, f1 i hi⟩
  have hdq : ∀ i, q.1.dst = some i → i < 1024 ∧ i ∉ namesOf all p.1 := fun i hi => ⟨hlq.1 i hi, f2 i hi⟩
  have hne : ∀ i, p.1.dst = some i → q.1.dst ≠ some i := by
    intro i hi hqi
    refine f1 i hi ?_
    unfold namesOf
    simp only [List.mem_append]
    exact .inl (.inl (by rw [hqi]; simp))
  have comm : ∀ x y, setT (setT tm p.1.dst x) q.1.dst y = setT (setT tm q.1.dst y) p.1.dst x := fun x y =>
    setT_comm y x tm (fun i hi => hlq.1 i hi) (fun i hi => hlp.1 i hi) (fun i hi hpi => hne i hpi hi)
  rcases step_ok h1 with ⟨w1, vp, d1, rfl⟩ | ⟨w1, rfl, rfl⟩
  · rcases step_ok h2 with ⟨w2, vq, d2, rfl⟩ | ⟨w2, rfl, rfl⟩
    · rw [wantO_set hlq hdp] at w2
      rw [drawOp_set hlq hdp] at d2
      obtain ⟨J, d3, d4⟩ := swap_op hC hD hG hI hp hq htm hokp hokq d1 d2 hsw
      refine ⟨_, J, step_go w2 d3, ?_⟩
      rw [comm]
      refine step_go (by rw [wantO_set hlp hdq]; exact w1) (by rw [drawOp_set hlp hdq]; exact d4)
    · rw [wantO_set hlq hdp] at w2
      refine ⟨_, H, step_skip w2, ?_⟩
      rw [comm]
      exact step_go (by rw [wantO_set hlp hdq]; exact w1) (by rw [drawOp_set hlp hdq]; exact d1)
  · rcases step_ok h2 with ⟨w2, vq, d2, rfl⟩ | ⟨w2, rfl, rfl⟩
    · rw [wantO_set hlq hdp] at w2
      rw [drawOp_set hlq hdp] at d2
      refine ⟨_, H₂, step_go w2 d2, ?_⟩
      rw [comm]
      exact step_skip (by rw [wantO_set hlp hdq]; exact w1)
    · rw [wantO_set hlq hdp] at w2
      refine ⟨_, H₂, step_skip w2, ?_⟩
      rw [comm]
      exact step_skip (by rw [wantO_set hlp hdq]; exact w1)
end Vam
