/- The plain machine (VamDraw7): part of a proof by a machine of plain values that is proved right. -/
import Derived.Test.YtnkmhgojbinhkabVamDraw6
namespace Vam
set_option linter.unusedVariables false
set_option linter.unusedSimpArgs false
open Go
variable {P : Program} {φ : Phi} {H H' K : CH} {w : World} {v : V} {E : Ev}

/-! ## What is ordered -/

def befOf (acc : List Nat) (o : Oper) : Nat := o.after.toList.foldl (fun b e => if Region.binds .any e then b ||| 2 ^ e.on ||| acc.getD e.on 0 else b) 0
theorem befores_eq (ops : List Oper) : befores ops = ops.foldl (fun acc o => acc ++ [befOf acc o]) [] := rfl

theorem bef_fold (l : List Oper) : ∀ (acc : List Nat), ∃ t, l.foldl (fun acc o => acc ++ [befOf acc o]) acc = acc ++ t ∧ t.length = l.length := by
  induction l with
  | nil => intro acc; exact ⟨[], by simp, rfl⟩
  | cons o l ih =>
    intro acc
    obtain ⟨t, h1, h2⟩ := ih (acc ++ [befOf acc o])
    exact ⟨befOf acc o :: t, by rw [List.foldl_cons, h1]; simp, by simp [h2]⟩

theorem bef_at {ops : List Oper} {j : Nat} {o : Oper} (h : ops[j]? = some o) :
    ∃ acc : List Nat, (befores ops).getD j 0 = befOf acc o ∧ ∀ m, m < j → acc.getD m 0 = (befores ops).getD m 0 := by
  obtain ⟨hj, ho⟩ := List.getElem?_eq_some_iff.1 h
  have hsplit : ops = ops.take j ++ o :: ops.drop (j + 1) := by
    rw [← ho, List.getElem_cons_drop hj, List.take_append_drop]
  obtain ⟨t, h1, h2⟩ := bef_fold (ops.take j) []
  have hlen : t.length = j := by rw [h2, List.length_take]; omega
  obtain ⟨t', h3, h4⟩ := bef_fold (ops.drop (j + 1)) (t ++ [befOf t o])
  have hb : befores ops = t ++ [befOf t o] ++ t' := by
    rw [befores_eq]
    conv => lhs; rw [hsplit]
    rw [List.foldl_append, h1, List.foldl_cons]
    simpa using h3
  refine ⟨t, ?_, ?_⟩
  · rw [hb, List.getD_eq_getElem?_getD, List.append_assoc, List.getElem?_append_right (by omega), hlen, Nat.sub_self]; simp
  · intro m hm
    rw [hb, List.getD_eq_getElem?_getD, List.getD_eq_getElem?_getD, List.append_assoc, List.getElem?_append_left (by omega)]

theorem fold_bits (acc : List Nat) (l : List Edge) (i : Nat) : ∀ (b : Nat), (l.foldl (fun b e => if Region.binds .any e then b ||| 2 ^ e.on ||| acc.getD e.on 0 else b) b).testBit i = true →
    b.testBit i = true ∨ ∃ e ∈ l, Region.binds .any e = true ∧ (e.on = i ∨ (acc.getD e.on 0).testBit i = true) := by
  induction l with
  | nil => intro b h; exact .inl h
  | cons e l ih =>
    intro b h
    rw [List.foldl_cons] at h
    rcases ih _ h with h1 | ⟨e', h1, h2⟩
    · split at h1
      · rename_i hb
        rw [Nat.testBit_or, Nat.testBit_or, Bool.or_eq_true, Bool.or_eq_true] at h1
        rcases h1 with (h1 | h1) | h1
        · exact .inl h1
        · rw [Nat.testBit_two_pow] at h1
          exact .inr ⟨e, by simp, hb, .inl (by simpa using h1)⟩
        · exact .inr ⟨e, by simp, hb, .inr h1⟩
      · exact .inl h1
    · exact .inr ⟨e', by simp [h1], h2⟩

/-- a region whose order is open, as it is asked of -/
structure DrawOk (P : Program) (ops : List Oper) : Prop where
  back : ∀ j o, ops[j]? = some o → ∀ e ∈ o.after.toList, Region.binds .any e = true → e.on < j
  pair : ∀ i j oi oj, i < j → ops[i]? = some oi → ops[j]? = some oj → okPair P ops i j oi oj = true

theorem drawOk {ops : List Oper} (h : okDraw P ops = true) : DrawOk P ops := by
  unfold okDraw at h
  rw [List.all_eq_true] at h
  have key : ∀ j o, ops[j]? = some o → ((o.after.toList.all fun e => !Region.binds .any e || Nat.blt e.on j) && (ops.take j).zipIdx.all fun oi => okPair P ops oi.2 j oi.1 o) = true := by
    intro j o ho
    exact h (o, j) (List.mem_zipIdx_iff_getElem?.2 ho)
  refine ⟨?_, ?_⟩
  · intro j o ho e he hb
    have := List.all_eq_true.1 (Bool.and_eq_true_iff.1 (key j o ho)).1 e he
    rw [hb] at this
    exact blt_lt (by simpa using this)
  · intro i j oi oj hij hi hj
    have := List.all_eq_true.1 (Bool.and_eq_true_iff.1 (key j oj hj)).2 (oi, i) (List.mem_zipIdx_iff_getElem?.2 (by rw [List.getElem?_take, if_pos hij]; exact hi))
    exact this

theorem ordered_comm (ops : List Oper) (i j : Nat) : ordered ops i j = ordered ops j i := by unfold ordered; rw [Nat.max_comm, Nat.min_comm]

/-- what is done before something that can be done now -/
theorem listed_of_ordered {ops : List Oper} (hd : DrawOk P ops) {D : Nat → Prop} (hcl : ∀ j o, ops[j]? = some o → D j → ∀ e ∈ o.after.toList, Region.binds .any e = true → D e.on) :
    ∀ (j : Nat) (o : Oper), ops[j]? = some o → (∀ e ∈ o.after.toList, Region.binds .any e = true → D e.on) → ∀ i, i < j → ordered ops i j = true → D i := by
  intro j
  induction j using Nat.strongRecOn with
  | _ j ih =>
    intro o ho hrd i hij hor
    unfold ordered at hor
    rw [Nat.max_eq_right (Nat.le_of_lt hij), Nat.min_eq_left (Nat.le_of_lt hij)] at hor
    obtain ⟨acc, h1, h2⟩ := bef_at ho
    rw [h1] at hor
    rcases fold_bits acc _ i 0 hor with h3 | ⟨e, h3, h4, h5⟩
    · simp at h3
    · have hej := hd.back j o ho e h3 h4
      rcases h5 with rfl | h5
      · exact hrd e h3 h4
      · rw [h2 e.on hej] at h5
        have hj : j < ops.length := (List.getElem?_eq_some_iff.1 ho).1
        have ho' : ops[e.on]? = some ops[e.on] := List.getElem?_eq_getElem (by omega)
        -- i is before e.on
        by_cases hie : i < e.on
        · refine ih e.on hej _ ho' (hcl e.on _ ho' (hrd e h3 h4)) i hie ?_
          unfold ordered
          rw [Nat.max_eq_right (Nat.le_of_lt hie), Nat.min_eq_left (Nat.le_of_lt hie)]; exact h5
        · -- bits are below
          exfalso
          have hlow : ∀ (m : Nat) (o : Oper), ops[m]? = some o → ∀ i, ((befores ops).getD m 0).testBit i = true → i < m := by
            intro m
            induction m using Nat.strongRecOn with
            | _ m ihm =>
              intro o ho i hb
              obtain ⟨acc, g1, g2⟩ := bef_at ho
              rw [g1] at hb
              rcases fold_bits acc _ i 0 hb with g3 | ⟨e', g3, g4, g5⟩
              · simp at g3
              · have g6 := hd.back m o ho e' g3 g4
                rcases g5 with rfl | g5
                · exact g6
                · rw [g2 _ g6] at g5
                  have hm : m < ops.length := (List.getElem?_eq_some_iff.1 ho).1
                  have := ihm e'.on g6 _ (List.getElem?_eq_getElem (by omega)) i g5
                  omega
          have := hlow e.on _ ho' i h5
          omega

/-- what is tied to nothing has nothing before it -/
theorem untied {ops : List Oper} {j : Nat} {o : Oper} (ho : ops[j]? = some o) (ht : tied o = false) {i : Nat} (hij : i < j) : ordered ops i j = false := by
  cases hor : ordered ops i j with
  | false => rfl
  | true =>
    exfalso
    unfold ordered at hor
    rw [Nat.max_eq_right (Nat.le_of_lt hij), Nat.min_eq_left (Nat.le_of_lt hij)] at hor
    obtain ⟨acc, h1, _⟩ := bef_at ho
    rw [h1] at hor
    rcases fold_bits acc _ i 0 hor with h3 | ⟨e, h3, h4, _⟩
    · simp at h3
    · unfold tied at ht
      rw [List.any_eq_false] at ht
      exact ht e h3 h4

/-! ## Blocks that are made, and names that are laid aside, ahead -/

inductive MdOf : M0 → Md → Prop where
  | plain : MdOf .plain .plain
  | quiet : MdOf .quiet .quiet
  | read (ld : Bool) : MdOf (.read ld) (.read ld)
  | pre (i : Id) : MdOf .pre (.pre i)
  | lay (i : Id) : MdOf .lay (.lay i)

inductive ResR : List (Oper × M0) → List (Oper × Md) → Prop where
  | nil : ResR [] []
  | cons (o : Oper) (m : M0) (d : Md) (l : List (Oper × M0)) (F : List (Oper × Md)) : MdOf m d → ResR l F → ResR ((o, m) :: l) ((o, d) :: F)

theorem ResR.get {l : List (Oper × M0)} {F : List (Oper × Md)} (h : ResR l F) : ∀ {k : Nat} {o : Oper} {m : M0}, l[k]? = some (o, m) → ∃ d, F[k]? = some (o, d) ∧ MdOf m d := by
  induction h with
  | nil => intro k o m h; simp at h
  | cons o m d l F h1 _ ih =>
    intro k o' m' hk
    cases k with
    | zero => simp at hk; obtain ⟨rfl, rfl⟩ := hk; exact ⟨d, by simp, h1⟩
    | succ k => simpa using ih (by simpa using hk)
theorem ResR.len {l : List (Oper × M0)} {F : List (Oper × Md)} (h : ResR l F) : F.length = l.length := by
  induction h with
  | nil => rfl
  | cons _ _ _ _ _ _ _ ih => simp [ih]

structure ResI (P : Program) (l : List (Oper × M0)) (H : CH) (F : List (Oper × Md)) (H' : CH) : Prop where
  rr : ResR l F
  nok : H'.n.okN
  fz : H'.fz = H.fz
  bef : ∀ b, Before b H.n → Before b H'.n
  get : ∀ b, b.wf → Before b H.n → H'.get b = H.get b
  ids : ∀ p ∈ F, ∀ i, Named p i → i.wf ∧ Before i H'.n ∧ ¬ Before i H.n
  pre : ∀ p ∈ F, ∀ i, p.2 = .pre i → ∃ e z, p.1.op = .alloc e ∧ zeroL P e = some z ∧ H'.get i = some (.cells z e 0 [])
  apart : F.Pairwise (fun p q => ∀ i j, Named p i → Named q j → i ≠ j)

theorem resCons_ok {o : Oper} {m : Md} {r : RS} {F : List (Oper × Md)} (h : resCons o m r = .ok F H') : ∃ F', r = .ok F' H' ∧ F = (o, m) :: F' := by
  cases r with
  | no => cases h
  | ok l J => cases h; exact ⟨l, rfl, rfl⟩
theorem RS.ok_ne {F : List (Oper × Md)} : RS.ok F H ≠ RS.no := by intro h; cases h

theorem res_none {o : Oper} {m : M0} {d : Md} {l : List (Oper × M0)} {F : List (Oper × Md)} (hm : MdOf m d) (hn : ∀ i, ¬ Named (o, d) i) (h : ResI P l H F H') : ResI P ((o, m) :: l) H ((o, d) :: F) H' := by
  refine ⟨.cons o m d l F hm h.rr, h.nok, h.fz, h.bef, h.get, ?_, ?_, ?_⟩
  · intro p hp i hi
    rcases List.mem_cons.1 hp with rfl | hp
    · exact absurd hi (hn i)
    · exact h.ids p hp i hi
  · intro p hp i hi
    rcases List.mem_cons.1 hp with rfl | hp
    · exact absurd (.inl hi) (hn i)
    · exact h.pre p hp i hi
  · exact List.pairwise_cons.2 ⟨fun q _ i j hi => absurd hi (hn i), h.apart⟩

/-- one more name -/
theorem res_name {o : Oper} {m : M0} {d : Md} {l : List (Oper × M0)} {F : List (Oper × Md)} (hm : MdOf m d) (hd : ∀ i, Named (o, d) i → i = H.n) (hn : H.n.wf) (e1 : K.n = H.n.next) (e2 : K.fz = H.fz) (e3 : ∀ j : Id, j.wf → j ≠ H.n → K.get j = H.get j)
    (hp : ∀ i, d = .pre i → ∃ e z, o.op = .alloc e ∧ zeroL P e = some z ∧ K.get i = some (.cells z e 0 [])) (h : ResI P l K F H') : ResI P ((o, m) :: l) H ((o, d) :: F) H' := by
  have hself : Before H.n K.n := by rw [e1]; exact Before.self hn
  refine ⟨.cons o m d l F hm h.rr, h.nok, h.fz.trans e2, fun b hb => h.bef b (by rw [e1]; exact Before.next hn hb), ?_, ?_, ?_, ?_⟩
  · intro b hb hbn
    rw [h.get b hb (by rw [e1]; exact Before.next hn hbn), e3 b hb]
    rintro rfl; exact not_before_self hn hbn
  · intro p hp' i hi
    rcases List.mem_cons.1 hp' with rfl | hp'
    · obtain rfl := hd i hi
      exact ⟨hn, h.bef _ hself, not_before_self hn⟩
    · obtain ⟨q1, q2, q3⟩ := h.ids p hp' i hi
      exact ⟨q1, q2, fun hb => q3 (by rw [e1]; exact Before.next hn hb)⟩
  · intro p hp' i hi
    rcases List.mem_cons.1 hp' with rfl | hp'
    · obtain ⟨e, z, q1, q2, q3⟩ := hp i hi
      obtain rfl := hd i (.inl hi)
      exact ⟨e, z, q1, q2, by rw [h.get _ hn hself]; exact q3⟩
    · exact h.pre p hp' i hi
  · refine List.pairwise_cons.2 ⟨fun q hq i j hi hj => ?_, h.apart⟩
    obtain rfl := hd i hi
    rintro rfl
    exact (h.ids q hq _ hj).2.2 hself

theorem allocT_some {o : Op} {e : TypeId} (h : allocT o = some e) : o = .alloc e := by
  cases o <;> first | (cases h; rfl) | cases h

theorem resv_ok : ∀ (l : List (Oper × M0)) {H H' : CH} {F : List (Oper × Md)}, H.n.okN → resv P l H = .ok F H' → ResI P l H F H' := by
  intro l
  induction l with
  | nil =>
    intro H H' F hn h
    cases (show RS.ok [] H = .ok F H' from h)
    exact ⟨.nil, hn, rfl, fun _ h => h, fun _ _ _ => rfl, fun p hp => (by cases hp), fun p hp => (by cases hp), List.Pairwise.nil⟩
  | cons p l ih =>
    intro H H' F hn h
    obtain ⟨o, m⟩ := p
    have h : res1 P o m H (resv P l) = .ok F H' := h
    cases m with
    | plain =>
      obtain ⟨F', h1, rfl⟩ := resCons_ok (show resCons o .plain (resv P l H) = .ok F H' from h)
      exact res_none .plain (fun i hi => by rcases hi with hi | hi <;> cases hi) (ih hn h1)
    | quiet =>
      obtain ⟨F', h1, rfl⟩ := resCons_ok (show resCons o .quiet (resv P l H) = .ok F H' from h)
      exact res_none .quiet (fun i hi => by rcases hi with hi | hi <;> cases hi) (ih hn h1)
    | read ld =>
      obtain ⟨F', h1, rfl⟩ := resCons_ok (show resCons o (.read ld) (resv P l H) = .ok F H' from h)
      exact res_none (.read ld) (fun i hi => by rcases hi with hi | hi <;> cases hi) (ih hn h1)
    | pre =>
      obtain ⟨e, he, h1⟩ := opt_ok (show opt .no (fun e => opt .no (fun z => alloc .no H (.cells z e 0 []) (fun n H => resCons o (.pre n) (resv P l H))) (zeroL P e)) (allocT o.op) = .ok F H' from h) RS.ok_ne
      obtain ⟨z, hz, h2⟩ := opt_ok h1 RS.ok_ne
      obtain ⟨K, h3, h4, h5, h6, h7⟩ := alloc_eq h2 RS.ok_ne hn
      obtain ⟨F', h8, rfl⟩ := resCons_ok h3
      have hK : K.n.okN := by rw [h5]; exact Id.okN_next h4
      refine res_name (.pre H.n) (fun i hi => by rcases hi with hi | hi <;> cases hi; rfl) h4 h5 h6 (fun j hj hne => by rw [h7 j hj, if_neg hne]) ?_ (ih hK h8)
      intro i hi
      cases hi
      exact ⟨e, z, allocT_some he, hz, by rw [h7 _ h4, if_pos rfl]⟩
    | lay =>
      cases H with
      | mk n f t =>
        cases n with
        | over => cases (show RS.no = .ok F H' from h)
        | mk k a b c d e =>
          have hw : (Id.mk k a b c d e).wf := by
            rcases hn with h1 | h1
            · cases h1
            · exact h1
          have h : resCons o (.lay (.mk k a b c d e)) (resv P l (.mk (Id.next (.mk k a b c d e)) f t)) = .ok F H' := h
          obtain ⟨F', h8, rfl⟩ := resCons_ok h
          refine res_name (H := CH.mk (.mk k a b c d e) f t) (K := CH.mk (Id.next (.mk k a b c d e)) f t) (.lay _) (fun i hi => by rcases hi with hi | hi <;> cases hi; rfl) hw rfl rfl (fun j _ _ => by cases j <;> rfl) (fun i hi => by cases hi) (ih (Id.okN_next hw) h8)
end Vam
