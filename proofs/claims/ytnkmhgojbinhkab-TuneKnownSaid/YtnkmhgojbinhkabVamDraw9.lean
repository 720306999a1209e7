/- The plain machine (VamDraw9): part of a proof by a machine of plain values that is proved right. -/
import Derived.Test.YtnkmhgojbinhkabVamDraw8
namespace Vam
set_option linter.unusedVariables false
set_option linter.unusedSimpArgs false
open Go
variable {P : Program} {φ : Phi} {H H' K : CH} {w : World} {v : V} {E : Ev}

theorem apart1_ok {tm : TT} {a b : Nat} (h : apart1 tm H (a, b) = true) : ∃ b₁ o₁ b₂ o₂ cs e sh, tm.get a = .ptr b₁ o₁ ∧ tm.get b = .ptr b₂ o₂ ∧ b₁ ≠ b₂ ∧ H.get b₁ = some (.cells cs e 0 sh) := by
  unfold apart1 at h
  obtain ⟨b₁, o₁, e1, h1⟩ := onPtr_ok (no := false) h (by simp)
  obtain ⟨b₂, o₂, e2, h2⟩ := onPtr_ok (no := false) h1 (by simp)
  obtain ⟨h3, h4⟩ := cond_ok' (no := false) h2 (by simp)
  cases hg : H.get b₁ with
  | none => rw [hg] at h4; cases h4
  | some x =>
    rw [hg] at h4
    cases x with
    | cells cs e st sh =>
      have h4 : cond (Nat.beq st 2) false (Nat.beq st 0) = true := h4
      obtain ⟨_, h5⟩ := cond_ok' (no := false) h4 (by simp)
      obtain rfl := beq_eq h5
      exact ⟨b₁, o₁, b₂, o₂, cs, e, sh, e1, e2, (fun hb => by rw [hb, show Nat.beq b₂.num b₂.num = true from Nat.beq_refl _] at h3; cases h3), hg⟩
    | arg cs => cases h4
    | _ => cases h4

theorem fixed_ok {ops : List Oper} {a y k : Nat} {o : Oper} (h : fixedSlot ops a y = true) (ho : ops[k]? = some o) (hd : o.dst = some a) : k < y ∧ ordered ops k y = true := by
  unfold fixedSlot at h
  have := List.all_eq_true.1 h (o, k) (List.mem_zipIdx_iff_getElem?.2 ho)
  have this : (!(o.dst == some a) || (Nat.blt k y && ordered ops k y)) = true := this
  rw [hd] at this
  simp only [BEq.rfl, Bool.not_true, Bool.false_or] at this
  obtain ⟨h1, h2⟩ := Bool.and_eq_true_iff.1 this
  exact ⟨blt_lt h1, h2⟩

/-- what was found at the end of places that must lie apart -/
def Apart (ops : List Oper) (tm : TT) (H : CH) : Prop := ∀ i j oi oj p, i < j → ops[i]? = some oi → ops[j]? = some oj → ordered ops i j = false → placesOf oi.op oj.op = some p → apart1 tm H p = true

theorem Incr.sub {n : Nat} {I J : List Nat} (h : Incr n J) (hs : List.Sublist I J) : Incr n I := ⟨h.1.sublist hs, fun k hk => h.2 k (hs.subset hk)⟩

/-- AN OPERATION THAT CAN BE FIRST, TAKEN FIRST. -/
theorem bubble (hC : SoundCall P E) (hD : SoundCode P E) (hG : CongPure P E) {ops : Array Oper} {F : List (Oper × Md)} (hR : Reg P ops F) {φ₀ : Phi} {H₀ : CH} {w₀ : World} (hb : Rel P φ₀ H₀ w₀) {tm' : TT} (hfin : Apart ops.toList tm' H') (j : Nat) (I₂ : List Nat) :
    ∀ (I₁ : List Nat) {φ : Phi} {H : CH} {w : World} {tm : TT} {tmps : Array Value}, Incr ops.size (I₁ ++ j :: I₂) → (∀ i ∈ I₁, ordered ops.toList i j = false) → DInv P φ₀ H₀ w₀ (its F (I₁ ++ j :: I₂)) φ H w → TmR φ tm tmps →
      ops.toList.all (okOper tmps.size) = true → evDraw P E ops.toList (its F (I₁ ++ j :: I₂)) tm H = .ok tm' H' →
      ∃ tm₁ H₁, drawStep P E ops.toList (F.getD j dflt) tm H = .ok tm₁ H₁ ∧ evDraw P E ops.toList (its F (I₁ ++ I₂)) tm₁ H₁ = .ok tm' H' := by
  intro I₁
  induction I₁ with
  | nil =>
    intro φ H w tm tmps _ _ _ _ _ h
    exact run_cons (by rw [List.nil_append, its_cons] at h; exact h)
  | cons i I₁ ih =>
    intro φ H w tm tmps hin hno hI htm hall h
    have hin' : Incr ops.size (I₁ ++ j :: I₂) := hin.sub (by simp)
    have hin'' : Incr ops.size (I₁ ++ I₂) := hin'.sub (by simp)
    rw [List.cons_append, its_cons] at h
    obtain ⟨tmi, Hi, h1, h2⟩ := run_cons h
    have hpw := List.pairwise_cons.1 (show (i :: (I₁ ++ j :: I₂)).Pairwise (· < ·) from hin.1)
    have hi : i < ops.size := hin.2 i (by simp)
    have hj : j < ops.size := hin.2 j (by simp)
    have hij : i < j := hpw.1 j (by simp)
    have hnoij : ordered ops.toList i j = false := hno i (by simp)
    have goi : ops.toList[i]? = some ops[i] := by simp [hi]
    have goj : ops.toList[j]? = some ops[j] := by simp [hj]
    obtain ⟨di, e1, e2⟩ := hR.at' i ops[i] (by simp [hi])
    obtain ⟨dj, e3, e4⟩ := hR.at' j ops[j] (by simp [hj])
    have mi : F.getD i dflt ∈ its F (i :: I₁ ++ j :: I₂) := by rw [List.cons_append, its_cons]; simp
    have mj : F.getD j dflt ∈ its F (i :: I₁ ++ j :: I₂) := List.mem_map.2 ⟨j, by simp, rfl⟩
    have mj' : F.getD j dflt ∈ its F (I₁ ++ j :: I₂) := List.mem_map.2 ⟨j, by simp, rfl⟩
    have keepi : Keeps (F.getD i dflt) (its F (I₁ ++ j :: I₂)) := keeps_of hR hi (fun m hm => ⟨hin'.2 m hm, Nat.ne_of_gt (hpw.1 m hm), fun hlt => absurd hlt (Nat.not_lt.2 (Nat.le_of_lt (hpw.1 m hm)))⟩)
    obtain ⟨φi, wi, tmpsi, g1, g2, g3, g4, g5⟩ := step_ghost hC hD hG hb hI mi (its_sub (fun m hm => by simp at hm ⊢; exact .inr hm)) keepi htm hall (i := i) (by rw [e1]; simp [hi]) h1
    have hall' : ops.toList.all (okOper tmpsi.size) = true := by rw [g5]; exact hall
    obtain ⟨tm₂, H₂, k1, k2⟩ := ih hin' (fun m hm => hno m (by simp [hm])) g1 g4 hall' h2
    -- the other ones behind j
    have keepj : Keeps (F.getD j dflt) (its F (I₁ ++ I₂)) := by
      refine keeps_of hR hj (fun m hm => ?_)
      rcases List.mem_append.1 hm with hm | hm
      · have hmj : m < j := by
          have := List.pairwise_append.1 hin'.1
          exact this.2.2 m hm j (by simp)
        exact ⟨hin''.2 m (by simp [hm]), Nat.ne_of_lt hmj, fun _ => hno m (by simp [hm])⟩
      · have hjm : j < m := (List.pairwise_cons.1 (List.pairwise_append.1 hin'.1).2.1).1 m hm
        exact ⟨hin''.2 m (by simp [hm]), Nat.ne_of_gt hjm, fun hlt => absurd hlt (Nat.not_lt.2 (Nat.le_of_lt hjm))⟩
    obtain ⟨φ₂, w₂, tmps₂, q1, q2, q3, q4, q5⟩ := step_ghost hC hD hG hb g1 mj' (its_sub (fun m hm => by simp at hm ⊢; rcases hm with hm | hm; exact .inl hm; exact .inr (.inr hm))) keepj g4 hall' (i := j) (by rw [e3]; simp [hj]) k1
    have hlater := run_ghost hC hD hG hR hb (I₁ ++ I₂) hin'' q1 q4 (by rw [q5]; exact hall') k2
    -- why they can change places
    obtain ⟨f1, f2, hbs⟩ := beside hR.ok hij goi goj e2 e4 hnoij
    have oki : okOper tmps.size ops[i] = true := List.all_eq_true.1 hall _ (by simp)
    have okj : okOper tmps.size ops[j] = true := List.all_eq_true.1 hall _ (by simp)
    have low : ∀ o ∈ ops.toList, Lows ops.toList o := fun o ho => lows htm.1 hall ho
    have hsw : Swaps tm H₂ (F.getD i dflt) (F.getD j dflt) := by
      rw [e1, e3]
      cases hbs with
      | coldL a b => exact .coldL a b
      | coldR a b => exact .coldR a b
      | preL a b _ => exact .preL a b
      | preR a b _ => exact .preR a b
      | readL ld a b => exact .readL ld a b
      | readR ld a b => exact .readR ld a b
      | lays a b c d =>
        refine .lays a b c d ?_
        refine hR.apart i j hi hj (Nat.ne_of_lt hij) a b ?_ ?_
        · rw [e1]; exact .inr c
        · rw [e3]; exact .inr d
      | places t a t' b y p1 p2 p3 p4 p5 p6 =>
        have hap := hfin i j _ _ (a, b) hij goi goj hnoij (by
          show placesOf ops[i].op ops[j].op = _
          rw [show ops[i].op = .load t (.tmp a) from p1, show ops[j].op = .store t' (.tmp b) y from p3]; rfl)
        obtain ⟨b₁, o₁, b₂, o₂, cs, e, sh, s1, s2, s3, s4⟩ := apart1_ok hap
        have haLow : a < 1024 := (low ops[i] (by simp)).2 a (by
          unfold namesOf; simp only [List.mem_append]
          exact .inl (.inr (mem_tmpsOf.2 (by rw [show ops[i].op = .load t (.tmp a) from p1]; simp [Op.operands]))))
        have hbLow : b < 1024 := (low ops[j] (by simp)).2 b (by
          unfold namesOf; simp only [List.mem_append]
          exact .inl (.inr (mem_tmpsOf.2 (by rw [show ops[j].op = .store t' (.tmp b) y from p3]; simp [Op.operands]))))
        have hdstA : ∀ k o, ops.toList[k]? = some o → i ≤ k → o.dst ≠ some a := fun k o ho hk hd => by
          have := (fixed_ok p5 ho hd).1; omega
        have hdstB : ∀ k o, ops.toList[k]? = some o → (j ≤ k ∨ ordered ops.toList k j = false) → o.dst ≠ some b := fun k o ho hk hd => by
          obtain ⟨c1, c2⟩ := fixed_ok p6 ho hd
          rcases hk with hk | hk
          · omega
          · rw [hk] at c2; cases c2
        have restAt : ∀ p ∈ its F (I₁ ++ I₂), ∃ m, ops.toList[m]? = some p.1 ∧ i ≤ m ∧ (j ≤ m ∨ ordered ops.toList m j = false) := by
          intro p hp
          obtain ⟨m, hm, rfl⟩ := List.mem_map.1 hp
          have hm1 := hin''.2 m hm
          obtain ⟨dm, e5, _⟩ := hR.at' m ops[m] (by simp [hm1])
          refine ⟨m, by rw [e5]; simp [hm1], ?_, ?_⟩
          · have := hpw.1 m (by rcases List.mem_append.1 hm with hm | hm <;> simp [hm]); omega
          · rcases List.mem_append.1 hm with hm | hm
            · exact .inr (hno m (by simp [hm]))
            · have := (List.pairwise_cons.1 (List.pairwise_append.1 hin'.1).2.1).1 m hm
              exact .inl (by omega)
        have lowp : ∀ p ∈ its F (I₁ ++ I₂), Lows ops.toList p.1 := fun p hp => by
          obtain ⟨m, hm, _⟩ := restAt p hp
          exact low p.1 (List.mem_of_getElem? hm)
        have li : Lows ops.toList (F.getD i dflt).1 := by rw [e1]; exact low ops[i] (by simp)
        have lj : Lows ops.toList (F.getD j dflt).1 := by rw [e3]; exact low ops[j] (by simp)
        have hA : tm'.get a = tm.get a := by
          rw [run_get haLow _ k2 (fun p hp => ⟨lowp p hp, by obtain ⟨m, c1, c2, _⟩ := restAt p hp; exact hdstA m _ c1 c2⟩),
            step_get k1 lj haLow (by rw [e3]; exact hdstA j _ goj (Nat.le_of_lt hij)),
            step_get h1 li haLow (by rw [e1]; exact hdstA i _ goi (Nat.le_refl _))]
        have hB : tm'.get b = tm.get b := by
          rw [run_get hbLow _ k2 (fun p hp => ⟨lowp p hp, by obtain ⟨m, c1, _, c3⟩ := restAt p hp; exact hdstB m _ c1 c3⟩),
            step_get k1 lj hbLow (by rw [e3]; exact hdstB j _ goj (.inl (Nat.le_refl _))),
            step_get h1 li hbLow (by rw [e1]; exact hdstB i _ goi (.inr hnoij))]
        refine .places t a t' b y b₁ o₁ b₂ o₂ p1 p2 p3 p4 (hA ▸ s1) (hB ▸ s2) s3 ?_
        rintro ⟨cs', e', sh', hdead⟩
        have hv : VR φ (tm.get a) _ := evalO_rel (o := .tmp a) (a := ⟨tmps, []⟩) htm (List.all_eq_true.1 (Bool.and_eq_true_iff.1 oki).2 _ (by rw [show ops[i].op = .load t (.tmp a) from p1]; simp [Op.operands]))
        rw [← hA, s1] at hv
        have hdom : ∃ k, φ b₁ = some k := by
          generalize Act.eval _ (Operand.tmp a) = xa at hv
          cases hv with
          | ptr _ _ k hk => exact ⟨k, hk⟩
        obtain ⟨k, hk⟩ := hdom
        obtain ⟨l1, l2⟩ := hlater
        obtain ⟨l3, l4⟩ := l2 b₁ k (q2 _ _ (g2 _ _ hk))
        by_cases hf : b₁.num < H₂.fz
        · have := l3 hf
          rw [s4, hdead] at this
          cases this
        · refine l4 ?_ ⟨by rw [l1]; omega, _, s4, rfl⟩
          rintro ⟨_, x, hx, hw⟩
          rw [hdead] at hx; cases hx
          cases hw
    obtain ⟨tm₁, H₁, r1, r2⟩ := swap_step hC hD hG hI mi mj htm (by rw [e1]; exact oki) (by rw [e3]; exact okj) (by rw [e1]; exact low _ (by simp)) (by rw [e3]; exact low _ (by simp)) (by rw [e1, e3]; exact f1) (by rw [e1, e3]; exact f2) h1 k1 hsw
    refine ⟨tm₁, H₁, r1, ?_⟩
    rw [List.cons_append, its_cons, run_cons' r2]
    exact k2

/-- ALL ORDERS. -/
theorem any_sound (hC : SoundCall P E) (hD : SoundCode P E) (hG : CongPure P E) {ops : Array Oper} {F : List (Oper × Md)} (hR : Reg P ops F) {φ₀ : Phi} {H₀ : CH} {w₀ : World} (hb : Rel P φ₀ H₀ w₀) {tm' : TT} (hfin : Apart ops.toList tm' H') {Q : Exit → Act → World → Prop} {r : Option Nat} {n : Nat} {df : List Deferred}
    (hq : ∀ a' φ' w', Rel P φ' H' w' → Ext φ₀ H₀ w₀ φ' H' w' → TmR φ' tm' a'.tmps → a'.tmps.size = n → a'.defers = df → Q .normal a' w') :
    ∀ (m : Nat) (I : List Nat) {φ : Phi} {H : CH} {w : World} {tm : TT} {a : Act} {listed : Array Bool}, I.length = m → Incr ops.size I → listed.size = ops.size → (∀ k, k ∈ I ↔ listed.getD k true = false) →
      (∀ k o, ops[k]? = some o → listed.getD k true = true → ∀ e ∈ o.after.toList, Region.binds .any e = true → listed.getD e.on true = true) →
      DInv P φ₀ H₀ w₀ (its F I) φ H w → TmR φ tm a.tmps → a.tmps.size = n → a.defers = df → ops.toList.all (okOper n) = true → evDraw P E ops.toList (its F I) tm H = .ok tm' H' → wpAnyIn (wideAt r) 0 P .any ops Q m listed a w := by
  intro m
  induction m with
  | zero =>
    intro I φ H w tm a listed hlen hin hsz hmem hcl hI htm hsize hdf hall h
    obtain rfl := List.length_eq_zero_iff.1 hlen
    cases (show RO.ok tm H = .ok tm' H' from h)
    refine ⟨?_, hq a φ w hI.rel hI.ext htm hsize hdf⟩
    rw [List.eq_nil_iff_forall_not_mem]
    intro k hk
    have := (hmem k).2 (mem_ready.1 hk).1
    cases this
  | succ m ih =>
    intro I φ H w tm a listed hlen hin hsz hmem hcl hI htm hsize hdf hall h
    refine ⟨?_, ?_⟩
    · -- something can always be done
      intro hr
      exfalso
      cases I with
      | nil => cases hlen
      | cons k I =>
        have hk := hin.2 k (by simp)
        have : k ∈ Region.ready .any ops listed := by
          refine mem_ready.2 ⟨(hmem k).1 (by simp), ops[k], by simp [hk], ?_⟩
          intro e he hbe
          have hlt := hR.ok.back k ops[k] (by simp [hk]) e (by simpa using he) hbe
          cases hc : listed.getD e.on false with
          | true => rfl
          | false =>
            exfalso
            have hs : e.on < listed.size := by rw [hsz]; omega
            have : listed.getD e.on true = false := by
              rw [Array.getD_eq_getD_getElem?] at hc ⊢
              rw [Array.getElem?_eq_getElem hs] at hc ⊢
              exact hc
            have hin2 := (hmem e.on).2 this
            rcases List.mem_cons.1 hin2 with h1 | h1
            · omega
            · have := (List.pairwise_cons.1 hin.1).1 _ h1; omega
        rw [hr] at this
        cases this
    · intro j hj
      obtain ⟨hjl, oj, hoj, hrd⟩ := mem_ready.1 hj
      have hjI := (hmem j).2 hjl
      obtain ⟨I₁, I₂, rfl⟩ := List.append_of_mem hjI
      have hjs := hin.2 j hjI
      have goj : ops.toList[j]? = some oj := by simpa using hoj
      have toTrue : ∀ k, listed.getD k false = true → listed.getD k true = true := by
        intro k hk
        rw [Array.getD_eq_getD_getElem?] at hk ⊢
        cases hg : listed[k]? with
        | none => rfl
        | some x => rw [hg] at hk; exact hk
      have hno : ∀ i ∈ I₁, ordered ops.toList i j = false := by
        intro i hi
        cases ho : ordered ops.toList i j with
        | false => rfl
        | true =>
          exfalso
          have hij : i < j := (List.pairwise_append.1 hin.1).2.2 i hi j (by simp)
          have := listed_of_ordered hR.ok (D := fun k => listed.getD k true = true) (fun k o hk hd => hcl k o (by simpa using hk) hd) j oj goj (fun e he hbe => toTrue _ (hrd e (by simpa using he) hbe)) i hij ho
          have h2 := (hmem i).1 (by simp [hi])
          rw [this] at h2; cases h2
      obtain ⟨tm₁, H₁, b1, b2⟩ := bubble hC hD hG hR hb hfin j I₂ I₁ hin hno hI htm (by rw [hsize]; exact hall) h
      obtain ⟨dj, e3, e4⟩ := hR.at' j oj hoj
      have hkeep : Keeps (F.getD j dflt) (its F (I₁ ++ I₂)) := by
        refine keeps_of hR hjs (fun k hk => ?_)
        rcases List.mem_append.1 hk with hk | hk
        · exact ⟨hin.2 k (by simp [hk]), Nat.ne_of_lt ((List.pairwise_append.1 hin.1).2.2 k hk j (by simp)), fun _ => hno k hk⟩
        · have hjm : j < k := (List.pairwise_cons.1 (List.pairwise_append.1 hin.1).2.1).1 k hk
          exact ⟨hin.2 k (by simp [hk]), Nat.ne_of_gt hjm, fun hlt => absurd hlt (Nat.not_lt.2 (Nat.le_of_lt hjm))⟩
      refine step_wp hC hD hG hb hI (p := F.getD j dflt) (l' := its F (I₁ ++ I₂)) (List.mem_map.2 ⟨j, by simp, rfl⟩) (its_sub (fun k hk => by simp at hk ⊢; rcases hk with hk | hk; exact .inl hk; exact .inr (.inr hk))) hkeep htm (by rw [hsize]; exact hall) (i := j) (by rw [e3]; exact hoj) b1 ?_
      intro a' φ' w' k1 k2 k3 k4 k5 k6
      have hnd : (I₁ ++ j :: I₂).Nodup := hin.1.imp (fun h => Nat.ne_of_lt h)
      have hgetset : ∀ k, (listed.setIfInBounds j true).getD k true = if k = j then true else listed.getD k true := by
        intro k
        by_cases hkj : k = j
        · subst hkj
          rw [if_pos rfl, Array.getD_eq_getD_getElem?, Array.getElem?_setIfInBounds_self]
          split <;> rfl
        · rw [if_neg hkj, Array.getD_eq_getD_getElem?, Array.getElem?_setIfInBounds_ne (Ne.symm hkj), Array.getD_eq_getD_getElem?]
      refine ih (I₁ ++ I₂) (by simp at hlen ⊢; omega) (hin.sub (by simp)) (by simp [hsz]) ?_ ?_ k1 k4 (k5.trans hsize) (k6.trans hdf) hall b2
      · intro k
        rw [hgetset]
        by_cases hkj : k = j
        · subst hkj
          rw [if_pos rfl]
          constructor
          · intro hk
            exfalso
            rw [List.nodup_append] at hnd
            rcases List.mem_append.1 hk with hk | hk
            · exact hnd.2.2 k hk k (by simp) rfl
            · exact (List.nodup_cons.1 hnd.2.1).1 hk
          · intro hk; cases hk
        · rw [if_neg hkj, ← hmem k]
          simp [hkj]
      · intro k o hk hl e he hbe
        rw [hgetset]
        by_cases hej : e.on = j
        · rw [if_pos hej]
        · rw [if_neg hej]
          rw [hgetset] at hl
          by_cases hkj : k = j
          · subst hkj
            rw [hoj] at hk; cases hk
            exact toTrue _ (hrd e (by simpa using he) hbe)
          · rw [if_neg hkj] at hl
            exact hcl k o hk hl e he hbe
end Vam
