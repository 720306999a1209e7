/- forge's functions, the specification's and the law's, by the logic of trees: what each gives back for all that it may be given. -/
import Derived.Test.YtniplfmjbjjocaaGreatVamLeft1
namespace Go.Proofs.YtniplfmjbjjocaaGreat.forgeLeft
open Vam
set_option linter.unusedVariables false
set_option linter.unusedSimpArgs false
set_option linter.constructorNameAsVariable false
variable {is : FuncId → Bool} {orc : Known}
theorem sh65 : shOf Tryz.prog 65 = .one := by kernel_rfl
theorem sh117 : shOf Tryz.prog 117 = .one := by kernel_rfl
theorem sh118 : shOf Tryz.prog 118 = .one := by kernel_rfl
theorem ty65 : tyOf Tryz.prog 65 = .slice 96 := by kernel_rfl
theorem cl96 : Program.cellsOf Tryz.prog 96 = 4 := by kernel_rfl
theorem by96 : Program.bytesOf Tryz.prog 96 = 32 := by kernel_rfl
theorem pl96 : plcOf Tryz.prog 96 = some [(0, 1), (1, 3)] := by kernel_rfl
theorem ze118 : zeroL Tryz.prog 118 = some ((.cons .nilf .nil) : V) := by kernel_rfl
theorem ze65 : zeroL Tryz.prog 65 = some ((.cons .nils .nil) : V) := by kernel_rfl
theorem ze96 : zeroL Tryz.prog 96 = some ((.cons (.int .i64 0) (.cons (.int .i64 0) (.cons (.int .i64 0) (.cons (.int .i64 0) .nil)))) : V) := by kernel_rfl
theorem ap65_65 : AppT Tryz.prog 65 65 96 4 32 ((.cons (.int .i64 0) (.cons (.int .i64 0) (.cons (.int .i64 0) (.cons (.int .i64 0) .nil)))) : V) := ⟨ty65, ⟨_, ty65⟩, cl96, by decide, by96, ze96, rfl⟩
theorem Bd.mono {n m : Nat} {u : U} (h : Bd n u) (hm : n ≤ m) : Bd m u := fun φ S v hv => (h φ S v hv).mono (fun a b e => BMap.cut_of (by have := (BMap.cut_some e).1; omega) (BMap.cut_some e).2) S.le_refl
theorem BdS.mono {n m : Nat} {x : SB} (h : BdS n x) (hm : n ≤ m) : BdS m x := by
  cases x with
  | box cs => exact fun c hc => Bd.mono (h c hc) hm
  | froz cs => exact fun c hc => Bd.mono (h c hc) hm
  | map es => exact fun p hp => ⟨Bd.mono (h p hp).1 hm, Bd.mono (h p hp).2 hm⟩
  | loop q l => exact fun i => Bd.mono (h i) hm
  | dead => trivial
def Ext (l : List SB) : Prop := ∀ x ∈ l, ∃ cs, x = .box cs ∧ ∀ c ∈ cs, NB c
theorem Ext.nil : Ext [] := fun _ h => by cases h
theorem Ext.snoc {l : List SB} {cs : List U} (h : Ext l) (hc : ∀ c ∈ cs, NB c) : Ext (l ++ [.box cs]) := fun x hx => by
  rcases List.mem_append.1 hx with hx | hx
  · exact h x hx
  · rcases List.mem_singleton.1 hx with rfl; exact ⟨cs, rfl, hc⟩
theorem Ext.bd {l : List SB} (h : Ext l) (n : Nat) : ∀ x ∈ l, BdS n x := fun x hx => by
  obtain ⟨cs, rfl, k⟩ := h x hx
  exact fun c hc => (k c hc).bd n
theorem at_pre {l m : List SB} {i : Nat} {x : SB} (h : l[i]? = some x) : (l ++ m)[i]? = some x := by
  rw [List.getElem?_append_left (List.getElem?_eq_some_iff.1 h).1, h]
def setT (q : Tri) (k : Nat) (t : Int) : Tri := match k with | 0 => ⟨t, q.b, q.c⟩ | 1 => ⟨q.a, t, q.c⟩ | _ => ⟨q.a, q.b, t⟩
def loT (b : Bk) (k : Nat) : Int := ((b.thins[k]?).map Two.a).getD 1
def hiT (b : Bk) (k : Nat) : Int := ((b.thins[k]?).map Two.b).getD 1
def widT (b : Bk) (k : Nat) : Nat := (hiT b k - loT b k + 1).toNat
def lvs (b : Bk) : Nat → Nat → Tri → List Tri
  | 0, _, q => [q]
  | r + 1, k, q => (List.range (widT b k)).flatMap fun j : Nat => lvs b r (k + 1) (setT q k (loT b k + j))
def part (b : Bk) (r k : Nat) (q : Tri) (j : Nat) : List Tri := (List.range j).flatMap fun j : Nat => lvs b r (k + 1) (setT q k (loT b k + j))
theorem part_succ (b : Bk) (r k : Nat) (q : Tri) (j : Nat) : part b r k q (j + 1) = part b r k q j ++ lvs b r (k + 1) (setT q k (loT b k + j)) := by
  unfold part
  rw [List.range_succ, List.flatMap_append]
  simp
theorem loT_at {b : Bk} {k : Nat} {p : Two} (h : b.thins[k]? = some p) : loT b k = p.a ∧ hiT b k = p.b := by
  unfold loT hiT; rw [h]; exact ⟨rfl, rfl⟩
theorem wid_le {b : Bk} (hb : Ok b) (k : Nat) : 1 ≤ loT b k ∧ loT b k ≤ hiT b k ∧ hiT b k ≤ 20 := by
  cases h : b.thins[k]? with
  | none => unfold loT hiT; rw [h]; simp
  | some p =>
    obtain ⟨e1, e2⟩ := loT_at h
    rw [e1, e2]; exact hb.thins p (List.mem_of_getElem? h)
theorem lvs_len {b : Bk} (hb : Ok b) : ∀ (r k : Nat) (q : Tri), (lvs b r k q).length ≤ 20 ^ r := by
  intro r
  induction r with
  | zero => intro k q; exact Nat.le_refl 1
  | succ r ih =>
    intro k q
    have h := wid_le hb k
    have key : ∀ j : Nat, (part b r k q j).length ≤ j * 20 ^ r := by
      intro j
      induction j with
      | zero => simp [part]
      | succ j ihj => rw [part_succ, List.length_append, Nat.succ_mul]; exact Nat.add_le_add ihj (ih _ _)
    refine Nat.le_trans (key (widT b k)) ?_
    rw [Nat.pow_succ, Nat.mul_comm]
    exact Nat.mul_le_mul_left _ (by unfold widT; omega)
theorem part_len {b : Bk} (hb : Ok b) (r k : Nat) (q : Tri) (j : Nat) : (part b r k q j).length ≤ j * 20 ^ r := by
  induction j with
  | zero => simp [part]
  | succ j ihj => rw [part_succ, List.length_append, Nat.succ_mul]; exact Nat.add_le_add ihj (lvs_len hb _ _ _)
theorem setT_ok {th : Int} {q : Tri} (h : DOk th q) (k : Nat) {t : Int} (ht : 1 ≤ t ∧ t ≤ 20) : DOk th (setT q k t) := by
  unfold setT
  split
  · exact ⟨h.t, (by show 0 ≤ t ∧ t ≤ 20; omega), h.b, h.c⟩
  · exact ⟨h.t, h.a, (by show 0 ≤ t ∧ t ≤ 20; omega), h.c⟩
  · exact ⟨h.t, h.a, h.b, (by show 0 ≤ t ∧ t ≤ 20; omega)⟩
theorem setT_set (th : Int) (q : Tri) {k : Nat} (hk : k < 3) (t : Int) : ([U.int .i64 th, .int .i64 q.a, .int .i64 q.b, .int .i64 q.c]).set (1 + k) (.int .i64 t) = [U.int .i64 th, .int .i64 (setT q k t).a, .int .i64 (setT q k t).b, .int .i64 (setT q k t).c] := by
  have e : k = 0 ∨ k = 1 ∨ k = 2 := by omega
  rcases e with rfl | rfl | rfl <;> rfl
theorem setT_setT (q : Tri) (k : Nat) (t u : Int) : setT (setT q k t) k u = setT q k u := by
  match k with
  | 0 => rfl
  | 1 => rfl
  | _ + 2 => rfl
theorem nb_disc (th : Int) (q : Tri) : ∀ c ∈ [U.int .i64 th, .int .i64 q.a, .int .i64 q.b, .int .i64 q.c], NB c := by
  intro c hc
  simp only [List.mem_cons, List.not_mem_nil, or_false] at hc
  rcases hc with rfl | rfl | rfl | rfl <;> exact NB.int _ _
structure Seen (b : Bk) (n N y bi fi a : Nat) (lp : Lp) (X : List Tri → List SB) : Prop where
  len : ∀ l, (X l).length = N
  bd : ∀ l, ∀ x ∈ X l, BdS N x
  by_ : ∀ l, (X l)[y]? = some (.box [.yld a])
  bb : ∀ l, (X l)[bi]? = some (.box (bkN b n))
  bf : ∀ l, (X l)[fi]? = some (.box [.fn 89 [] [.box y 0, .box bi 0, .box fi 0]])
  bl : ∀ l, (X l)[a]? = some (.loop .ready lp)
  own : ∀ i, NoOwn (lp.fr i)
  ps : ∃ p, lp.ps = [p] ∧ Nat.blt p 1024 = true
  run : ∀ (is : FuncId → Bool) (orc : Known), Off is → ∀ l q e, DOk b.thick q → l.length < 8000 → Ext e → WpY Tryz.prog is orc a lp [discU b.thick q] (X l ++ e) fun u st' => u = .bool true ∧ ∃ e', Ext e' ∧ st' = X (l ++ [q]) ++ (e ++ e')
theorem Seen.bd' {b : Bk} {n N y bi fi a : Nat} {lp : Lp} {X : List Tri → List SB} (h : Seen b n N y bi fi a lp X) {e : List SB} (he : Ext e) (l : List Tri) : ∀ x ∈ X l ++ e, BdS (N + e.length) x := fun x hx => by
  rcases List.mem_append.1 hx with hx | hx
  · exact BdS.mono (h.bd l x hx) (by omega)
  · exact he.bd _ x hx
noncomputable def b89 : Code := (Tryz.f89.body).getD .skip
theorem body89 : bodyOf Tryz.prog 89 = some (42, b89, [.tmp 7]) := by kernel_rfl
theorem pure89 : pureFn Tryz.prog 89 = false := by kernel_rfl
set_option maxHeartbeats 4000000 in
theorem wpc89 (hi : Off is) {b : Bk} (hb : Ok b) {n N y bi fi a : Nat} {lp : Lp} {X : List Tri → List SB} (h : Seen b n N y bi fi a lp X) : ∀ (r k : Nat) (q : Tri) (l : List Tri) (e : List SB), k + r = 3 → DOk b.thick q → l.length + 20 ^ r ≤ 8000 → Ext e →
    WpC Tryz.prog is orc 89 [discU b.thick q, .int .i64 k, .box y 0, .box bi 0, .box fi 0] (X l ++ e) fun u st' => u = .bool true ∧ st' = X (l ++ lvs b r k q) ++ e := by
  intro r
  induction r with
  | zero =>
    intro k q l e hk hd hl he
    have hk3 : k = 3 := by omega
    subst hk3
    refine wpc_cut body89 pure89 rfl rfl ?_
    refine k_seq ?_
    refine k_region ?_   -- region 0 disc.go:20
    refine o_box rfl rfl ?_
    refine o_assign rfl ?_
    refine o_nil ?_
    refine k_gen [(0, discU b.thick q), (1, .int .i64 3), (2, .box y 0), (3, .box bi 0), (4, .box fi 0), (5, .box (X l ++ e).length 0)] (X l ++ (e ++ [.box [.int .i64 b.thick, .int .i64 q.a, .int .i64 q.b, .int .i64 q.c]])) (.cons rfl (.cons rfl (.cons rfl (.cons rfl (.cons rfl (.cons rfl (.nil rfl))))))) (by show (X l ++ e) ++ [_] = _; rw [List.append_assoc]; rfl) fun fr => ?_
    refine k_seq ?_
    refine k_seq ?_
    refine k_region ?_   -- region 1 disc.go:21
    refine o_move rfl ?_
    refine o_eql rfl rfl rfl ?_
    refine o_nil ?_
    refine k_cond rfl (fun h1 => ?_) (fun h1 => by cases h1)   -- slot 10
    refine k_seq ?_
    refine k_region ?_   -- region 2 disc.go:22
    refine o_load1 rfl rfl (at_pre (h.by_ l)) sh117 rfl ?_
    refine o_loadN rfl rfl (cs := [.int .i64 b.thick, .int .i64 q.a, .int .i64 q.b, .int .i64 q.c]) (by show (X l ++ (e ++ [_]))[(X l ++ e).length]? = _; rw [← List.append_assoc]; exact at_new _ _) sh96 rfl ?_
    refine o_yield (a := a) rfl rfl (at_pre (h.bl l)) h.own (by obtain ⟨p, hp, hp2⟩ := h.ps; rw [hp]; simp [hp2]) (by obtain ⟨p, hp, hp2⟩ := h.ps; rw [hp]; rfl) (.lrefl _) (h.run is orc hi l q (e ++ [_]) hd (by omega) (he.snoc (nb_disc _ _))) (fun u st1 hM => ?_)
    obtain ⟨rfl, e', he', rfl⟩ := hM
    refine o_assign rfl ?_
    refine o_nil ?_
    refine k_ret ?_
    refine ⟨.inr rfl, _, .cons _ _ _ _ (.tmp 7) .nil, ?_⟩
    have hX := h.len (l ++ [q])
    have hX1 := h.len l
    have et : (X (l ++ [q]) ++ ((e ++ [SB.box [.int .i64 b.thick, .int .i64 q.a, .int .i64 q.b, .int .i64 q.c]]) ++ e')).take (X l ++ e).length = X (l ++ [q]) ++ e := by
      rw [List.append_assoc e, ← List.append_assoc (X (l ++ [q])), List.take_left' (by simp [hX, hX1])]
    refine ⟨_, .refl _, Bd.bool _ _, ?_, ?_, rfl, et⟩
    · show (X l ++ e).length ≤ (X (l ++ [q]) ++ ((e ++ [SB.box _]) ++ e')).length
      simp [hX, hX1]
    · show ∀ x ∈ (X (l ++ [q]) ++ ((e ++ [SB.box _]) ++ e')).take (X l ++ e).length, _
      rw [et, List.length_append, hX1]
      exact h.bd' he _
  | succ r ih =>
    intro k q l e hk hd hl he
    have hk3 : k < 3 := by omega
    obtain ⟨p, hp⟩ : ∃ p, b.thins[k]? = some p := ⟨_, List.getElem?_eq_getElem (by rw [hb.nt]; exact hk3)⟩
    obtain ⟨el, eh⟩ := loT_at hp
    have hw := wid_le hb k
    rw [el, eh] at hw
    refine wpc_cut body89 pure89 rfl rfl ?_
    refine k_seq ?_
    refine k_region ?_   -- region 0 disc.go:20
    refine o_box rfl rfl ?_
    refine o_assign rfl ?_
    refine o_nil ?_
    refine k_gen [(1, .int .i64 k), (2, .box y 0), (3, .box bi 0), (4, .box fi 0), (5, .box (X l ++ e).length 0)] (X l ++ (e ++ [.box [.int .i64 b.thick, .int .i64 q.a, .int .i64 q.b, .int .i64 q.c]])) (.cons rfl (.cons rfl (.cons rfl (.cons rfl (.cons rfl (.nil rfl)))))) (by show (X l ++ e) ++ [_] = _; rw [List.append_assoc]; rfl) fun fr => ?_
    refine k_seq ?_
    refine k_seq ?_
    refine k_region ?_   -- region 1 disc.go:21
    refine o_move rfl ?_
    refine o_eql rfl rfl rfl ?_
    refine o_nil ?_
    refine k_cond rfl (fun h1 => absurd h1 (by simp; omega)) (fun h1 => ?_)   -- slot 10
    refine k_skip ?_
    refine k_seq ?_
    refine k_seq ?_
    refine k_region ?_   -- region 3 disc.go:24
    refine o_faddr rfl rfl fld67_0 ?_
    refine o_faddr rfl rfl fld28_5 ?_
    refine o_load1 rfl rfl (at_pre (h.bb l)) sh25 rfl ?_
    refine o_move rfl ?_
    refine o_idx (u := p.u) rfl ty25 rfl rfl (Int.natCast_nonneg k) (by simp [hp]) cl24 ?_
    refine o_faddrR rfl rfl fld24_0 ?_
    refine o_loadR1 rfl rfl sh3 rfl ?_
    refine o_assign rfl ?_
    refine o_nil ?_
    refine k_block ?_
    -- LOOP 1
    refine k_loop (fun kk s => ∃ (j : Nat) (q' : Tri), kk + j = widT b k ∧ (∀ t, setT q' k t = setT q k t) ∧ DOk b.thick q' ∧ s.st = X (l ++ part b r k q j) ++ (e ++ [.box [.int .i64 b.thick, .int .i64 q'.a, .int .i64 q'.b, .int .i64 q'.c]]) ∧
      Holds s [(1, .int .i64 k), (2, .box y 0), (3, .box bi 0), (4, .box fi 0), (5, .box (X l ++ e).length 0), (8, .int .i64 (p.a + j))]) (fun kk s hI => ?_) (widT b k) _ ?_
    · obtain ⟨j, q', hkk, hq', hd', hst, hs⟩ := hI
      refine k_gen _ _ hs hst fun fr => ?_
      have hX0 := h.len l
      have hXj := h.len (l ++ part b r k q j)
      have pl := part_len hb r k q j
      refine k_seq ?_
      refine k_seq ?_
      refine k_region ?_   -- region 4 disc.go:24
      refine o_move rfl ?_
      refine o_faddr rfl rfl fld67_0 ?_
      refine o_faddr rfl rfl fld28_5 ?_
      refine o_load1 rfl rfl (at_pre (h.bb _)) sh25 rfl ?_
      refine o_move rfl ?_
      refine o_idx (u := p.u) rfl ty25 rfl rfl (Int.natCast_nonneg k) (by simp [hp]) cl24 ?_
      refine o_faddrR rfl rfl fld24_1 ?_
      refine o_loadR1 rfl rfl sh3 rfl ?_
      refine o_leq rfl rfl rfl ?_
      refine o_nil ?_
      refine k_cond rfl (fun h2 => ?_) (fun h2 => ?_)   -- slot 29
      · have h2' : p.a + j ≤ p.b := of_decide_eq_true h2
        have hj : j < widT b k := by unfold widT; rw [el, eh]; omega
        have hj20 : j < 20 := by omega
        have hlen : (l ++ part b r k q j).length + 20 ^ r ≤ 8000 := by
          rw [List.length_append]
          have e1 : 20 ^ (r + 1) = 20 * 20 ^ r := by rw [Nat.pow_succ, Nat.mul_comm]
          have e2 : (j + 1) * 20 ^ r ≤ 20 * 20 ^ r := Nat.mul_le_mul_right _ (by omega)
          rw [Nat.succ_mul] at e2
          omega
        have hdn := setT_ok hd' k (t := p.a + j) (by omega)
        have hbx : (X (l ++ part b r k q j) ++ (e ++ [SB.box [.int .i64 b.thick, .int .i64 q'.a, .int .i64 q'.b, .int .i64 q'.c]]))[(X l ++ e).length]? = some (.box [.int .i64 b.thick, .int .i64 q'.a, .int .i64 q'.b, .int .i64 q'.c]) := by
          rw [← List.append_assoc, show (X l ++ e).length = (X (l ++ part b r k q j) ++ e).length by simp [hX0, hXj]]; exact at_new _ _
        refine k_skip ?_
        refine k_seq ?_
        refine k_block ?_
        refine k_seq ?_
        refine k_region ?_   -- region 6 disc.go:25
        refine o_move rfl ?_
        refine o_move rfl ?_
        refine o_faddr rfl rfl fld96_1 ?_
        refine o_idxA rfl ty46 rfl rfl (by omega) (by omega) cl3 ?_
        refine o_store1 rfl hbx sh3 (by show Nat.blt (0 + 1 + (k : Int).toNat * 1) 4 = true; rw [Int.toNat_natCast, Nat.mul_one, Nat.blt_eq]; omega) rfl ?_
        refine o_nil ?_
        refine k_gen [(1, .int .i64 k), (2, .box y 0), (3, .box bi 0), (4, .box fi 0), (5, .box (X l ++ e).length 0), (8, .int .i64 (p.a + j))] (X (l ++ part b r k q j) ++ (e ++ [.box [.int .i64 b.thick, .int .i64 (setT q' k (p.a + j)).a, .int .i64 (setT q' k (p.a + j)).b, .int .i64 (setT q' k (p.a + j)).c]])) (.cons rfl (.cons rfl (.cons rfl (.cons rfl (.cons rfl (.cons rfl (.nil rfl))))))) (by
          show (X (l ++ part b r k q j) ++ (e ++ [SB.box _])).set (X l ++ e).length (.box (([U.int .i64 b.thick, .int .i64 q'.a, .int .i64 q'.b, .int .i64 q'.c]).set (0 + 1 + (k : Int).toNat * 1) (.int .i64 (p.a + j)))) = _
          rw [Int.toNat_natCast, Nat.mul_one, Nat.zero_add, setT_set _ _ hk3, ← List.append_assoc, show (X l ++ e).length = (X (l ++ part b r k q j) ++ e).length by simp [hX0, hXj], List.set_append_right _ _ (Nat.le_refl _), Nat.sub_self, ← List.append_assoc]
          rfl) fun fr => ?_
        have hbx2 : (X (l ++ part b r k q j) ++ (e ++ [SB.box [.int .i64 b.thick, .int .i64 (setT q' k (p.a + j)).a, .int .i64 (setT q' k (p.a + j)).b, .int .i64 (setT q' k (p.a + j)).c]]))[(X l ++ e).length]? = some (.box [.int .i64 b.thick, .int .i64 (setT q' k (p.a + j)).a, .int .i64 (setT q' k (p.a + j)).b, .int .i64 (setT q' k (p.a + j)).c]) := by
          rw [← List.append_assoc, show (X l ++ e).length = (X (l ++ part b r k q j) ++ e).length by simp [hX0, hXj]]; exact at_new _ _
        refine k_seq ?_
        refine k_region ?_   -- region 7 disc.go:26
        refine o_load1 rfl rfl (at_pre (h.bf _)) sh118 rfl ?_
        refine o_loadN rfl rfl hbx2 sh96 rfl ?_
        refine o_move rfl ?_
        refine o_add rfl rfl rfl (by unfold I64; omega) ?_
        refine o_callV rfl rfl (ih (k + 1) (setT q' k (p.a + j)) (l ++ part b r k q j) (e ++ [_]) (by omega) hdn hlen (he.snoc (nb_disc _ _))) (.lrefl _) (fun u st1 hM => ?_)
        obtain ⟨rfl, rfl⟩ := hM
        refine o_not rfl rfl ?_
        refine o_nil ?_
        refine k_cond rfl (fun h3 => by cases h3) (fun h3 => ?_)   -- slot 41
        refine k_skip ?_
        refine k_region ?_   -- region 5 disc.go:24
        refine o_move rfl ?_
        refine o_add rfl rfl rfl (by unfold I64; omega) ?_
        refine o_assign rfl ?_
        refine o_nil ?_
        refine ⟨kk - 1, by omega, j + 1, setT q' k (p.a + j), by omega, fun t => by rw [setT_setT, hq'], hdn, ?_, .cons rfl (.cons rfl (.cons rfl (.cons rfl (.cons rfl (.cons ?_ (.nil rfl))))))⟩
        · show X ((l ++ part b r k q j) ++ lvs b r (k + 1) (setT q' k (p.a + j))) ++ _ = _
          rw [part_succ, hq', el, List.append_assoc]
        · show U.int .i64 (p.a + j + 1) = _
          congr 1; omega
      · have h2' : ¬ (p.a + j ≤ p.b) := of_decide_eq_false h2
        have hj : j = widT b k := by unfold widT at hkk ⊢; rw [el, eh] at hkk ⊢; omega
        subst hj
        refine k_exit ?_
        refine k_seq ?_
        refine k_region ?_   -- region 9 disc.go:30
        refine o_assign rfl ?_
        refine o_nil ?_
        refine k_ret ?_
        refine ⟨.inr rfl, _, .cons _ _ _ _ (.tmp 7) .nil, ?_⟩
        have et : (X (l ++ part b r k q (widT b k)) ++ (e ++ [SB.box [.int .i64 b.thick, .int .i64 q'.a, .int .i64 q'.b, .int .i64 q'.c]])).take (X l ++ e).length = X (l ++ part b r k q (widT b k)) ++ e := by
          rw [← List.append_assoc, List.take_left' (by simp [hX0, hXj])]
        refine ⟨_, .refl _, Bd.bool _ _, ?_, ?_, rfl, et⟩
        · show (X l ++ e).length ≤ (X (l ++ part b r k q (widT b k)) ++ (e ++ [SB.box _])).length
          simp [hX0, hXj]
        · show ∀ x ∈ (X (l ++ part b r k q (widT b k)) ++ (e ++ [SB.box _])).take (X l ++ e).length, _
          rw [et, List.length_append, hX0]
          exact h.bd' he _
    · refine ⟨0, q, rfl, fun _ => rfl, hd, ?_, .cons rfl (.cons rfl (.cons rfl (.cons rfl (.cons rfl (.cons ?_ (.nil rfl))))))⟩
      · show X l ++ _ = X (l ++ []) ++ _
        rw [List.append_nil]
      · show U.int .i64 p.a = .int .i64 (p.a + (0 : Nat))
        simp
noncomputable def b70 : Code := (Tryz.f70.body).getD .skip
theorem body70 : bodyOf Tryz.prog 70 = some (4, b70, [.tmp 2]) := by kernel_rfl
theorem pure70 : pureFn Tryz.prog 70 = false := by kernel_rfl
set_option maxHeartbeats 4000000 in
theorem wpc70 (b : Bk) (n : Nat) (st : List SB) : WpC Tryz.prog is orc 70 [.agg (bkN b n)] st fun u st' => u = .fn 88 [] [.box st.length 0] ∧ st' = st ++ [.box (bkN b n)] := by
  refine wpc_of body70 pure70 rfl rfl ?_
  refine k_seq ?_
  refine k_region ?_   -- region 0 disc.go:17
  refine o_box rfl rfl ?_
  refine o_assign rfl ?_
  refine o_nil ?_
  refine k_seq ?_
  refine k_region ?_   -- region 1 disc.go:18
  refine o_func rfl ?_
  refine o_assign rfl ?_
  refine o_nil ?_
  refine k_ret ?_
  refine ⟨.inr rfl, _, .cons _ _ _ _ (.tmp 2) .nil, ?_⟩
  exact ⟨_, .refl _, rfl, rfl⟩
noncomputable def b88 : Code := (Tryz.f88.body).getD .skip
theorem body88 : bodyOf Tryz.prog 88 = some (11, b88, []) := by kernel_rfl
theorem pure88 : pureFn Tryz.prog 88 = false := by kernel_rfl
structure Seen0 (b : Bk) (n m bi : Nat) (lp : Lp) (Z : List Tri → List SB) : Prop where
  len : ∀ l, (Z l).length = m
  bd : ∀ l, ∀ x ∈ Z l, BdS m x
  bb : ∀ l, (Z l)[bi]? = some (.box (bkN b n))
  lt : bi < m
abbrev X80 (m bi : Nat) (lp : Lp) (Z : List Tri → List SB) (l : List Tri) : List SB := Z l ++ [.loop .ready lp, .box [.yld m], .box [.fn 89 [] [.box (m + 1) 0, .box bi 0, .box (m + 2) 0]]]
theorem Seen0.seen {b : Bk} {n m bi : Nat} {lp : Lp} {Z : List Tri → List SB} (h : Seen0 b n m bi lp Z) (hlp : ∀ i, Bd m (lp.fr i)) (own : ∀ i, NoOwn (lp.fr i)) (ps : ∃ p, lp.ps = [p] ∧ Nat.blt p 1024 = true)
    (run : ∀ (is : FuncId → Bool) (orc : Known), Off is → ∀ l q e, DOk b.thick q → l.length < 8000 → Ext e → WpY Tryz.prog is orc m lp [discU b.thick q] (X80 m bi lp Z l ++ e) fun u st' => u = .bool true ∧ ∃ e', Ext e' ∧ st' = X80 m bi lp Z (l ++ [q]) ++ (e ++ e')) :
    Seen b n (m + 3) (m + 1) bi (m + 2) m lp (X80 m bi lp Z) := by
  refine ⟨fun l => by simp [h.len], fun l x hx => ?_, fun l => ?_, fun l => at_pre (h.bb l), fun l => ?_, fun l => ?_, own, ps, run⟩
  · rcases List.mem_append.1 hx with hx | hx
    · exact BdS.mono (h.bd l x hx) (by omega)
    · simp only [List.mem_cons, List.not_mem_nil, or_false] at hx
      have := h.lt
      rcases hx with rfl | rfl | rfl
      · exact fun i => Bd.mono (hlp i) (by omega)
      · intro c hc
        rcases List.mem_singleton.1 hc with rfl; exact Bd.yld (by omega)
      · intro c hc
        rcases List.mem_singleton.1 hc with rfl
        refine Bd.fn (fun u hu => by cases hu) fun u hu => ?_
        simp only [List.mem_cons, List.not_mem_nil, or_false] at hu
        rcases hu with rfl | rfl | rfl <;> exact Bd.box (by omega)
  · show (Z l ++ _)[m + 1]? = _
    rw [List.getElem?_append_right (by rw [h.len]; omega), h.len]; simp
  · show (Z l ++ _)[m + 2]? = _
    rw [List.getElem?_append_right (by rw [h.len]; omega), h.len]; simp
  · show (Z l ++ _)[m]? = _
    rw [List.getElem?_append_right (by rw [h.len]; omega), h.len]; simp
def zeroTri : Tri := ⟨0, 0, 0⟩
set_option maxHeartbeats 4000000 in
theorem wpc88 (hi : Off is) {b : Bk} (hb : Ok b) {n m bi : Nat} {lp : Lp} {Z : List Tri → List SB} (h : Seen0 b n m bi lp Z) (hs : Seen b n (m + 3) (m + 1) bi (m + 2) m lp (X80 m bi lp Z)) (hlp : ∀ i, Bd m (lp.fr i)) :
    WpC Tryz.prog is orc 88 [.yld m, .box bi 0] (Z [] ++ [.loop .ready lp]) fun _ st' => st' = Z (lvs b 3 0 zeroTri) ++ [.loop .ready lp] := by
  have h0 := h.len []
  have h1 := h.len (lvs b 3 0 zeroTri)
  refine wpc_cut body88 pure88 rfl rfl ?_
  refine k_seq ?_
  refine k_region ?_   -- region 0 disc.go:18
  refine o_box rfl rfl ?_
  refine o_nil ?_
  refine k_gen [(1, .box bi 0), (2, .box (m + 1) 0)] (Z [] ++ [.loop .ready lp, .box [.yld m]]) (.cons rfl (.cons (by show U.box (Z [] ++ [SB.loop .ready lp]).length 0 = _; simp [h0]) (.nil rfl))) (by show (Z [] ++ [SB.loop .ready lp]) ++ [_] = _; rw [List.append_assoc]; rfl) fun fr => ?_
  refine k_seq ?_
  refine k_region ?_   -- region 1 disc.go:19
  refine o_alloc rfl ze118 ?_
  refine o_nil ?_
  refine k_gen [(1, .box bi 0), (2, .box (m + 1) 0), (3, .box (m + 2) 0)] ((Z [] ++ [.loop .ready lp, .box [.yld m]]) ++ [.box [.nilf]]) (.cons rfl (.cons rfl (.cons (by show U.box (Z [] ++ [SB.loop .ready lp, .box [.yld m]]).length 0 = _; simp [h0]) (.nil rfl)))) rfl fun fr => ?_
  have e2 : (Z [] ++ [SB.loop .ready lp, .box [.yld m]]).length = m + 2 := by simp [h0]
  refine k_seq ?_
  refine k_region ?_   -- region 2 disc.go:20
  refine o_func rfl ?_
  refine o_store1 rfl (cs := [.nilf]) (by show ((Z [] ++ [SB.loop .ready lp, .box [.yld m]]) ++ [_])[m + 2]? = _; rw [← e2]; exact at_new _ _) sh118 rfl rfl ?_
  refine o_nil ?_
  refine k_gen [(1, .box bi 0), (3, .box (m + 2) 0)] (X80 m bi lp Z [] ++ []) (.cons rfl (.cons rfl (.nil rfl))) (by
    show ((Z [] ++ [SB.loop .ready lp, .box [.yld m]]) ++ [SB.box [.nilf]]).set (m + 2) (SB.box [.fn 89 [] [.box (m + 1) 0, .box bi 0, .box (m + 2) 0]]) = _
    rw [← e2, List.set_append_right _ _ (Nat.le_refl _), Nat.sub_self, List.append_assoc, List.append_nil, e2]; rfl) fun fr => ?_
  refine k_region ?_   -- region 3 disc.go:32
  refine o_load1 rfl rfl (at_pre (hs.bf [])) sh118 rfl ?_
  refine o_faddr rfl rfl fld67_0 ?_
  refine o_faddr rfl rfl fld28_2 ?_
  refine o_load1 rfl rfl (at_pre (hs.bb [])) sh3 rfl ?_
  refine o_build (cs := [.int .i64 b.thick, .int .i64 0, .int .i64 0, .int .i64 0]) rfl ze96 pl96 rfl rfl ?_
  refine o_callV rfl rfl (wpc89 hi hb hs 3 0 zeroTri [] [] rfl ⟨hb.thick, by decide, by decide, by decide⟩ (by decide) .nil) (.lrefl _) (fun u st1 hM => ?_)
  obtain ⟨rfl, rfl⟩ := hM
  refine o_nil ?_
  refine ⟨.inl rfl, _, .nil, ?_⟩
  have et : (X80 m bi lp Z ([] ++ lvs b 3 0 zeroTri) ++ []).take (Z [] ++ [SB.loop .ready lp]).length = Z (lvs b 3 0 zeroTri) ++ [.loop .ready lp] := by
    rw [List.append_nil, List.nil_append, show X80 m bi lp Z (lvs b 3 0 zeroTri) = (Z (lvs b 3 0 zeroTri) ++ [SB.loop .ready lp]) ++ [.box [.yld m], .box [.fn 89 [] [.box (m + 1) 0, .box bi 0, .box (m + 2) 0]]] by rw [List.append_assoc]; rfl, List.take_left' (by simp [h0, h1])]
  refine ⟨_, .refl _, Bd.tup (fun c hc => by cases hc), ?_, ?_, et⟩
  · show (Z [] ++ [SB.loop .ready lp]).length ≤ (X80 m bi lp Z ([] ++ lvs b 3 0 zeroTri) ++ []).length
    simp [h0, h1]
  · show ∀ x ∈ (X80 m bi lp Z ([] ++ lvs b 3 0 zeroTri) ++ []).take (Z [] ++ [SB.loop .ready lp]).length, BdS (Z [] ++ [SB.loop .ready lp]).length x
    rw [et]
    intro x hx
    rw [show (Z [] ++ [SB.loop .ready lp]).length = m + 1 by simp [h0]]
    rcases List.mem_append.1 hx with hx | hx
    · exact BdS.mono (h.bd _ x hx) (by omega)
    · rcases List.mem_singleton.1 hx with rfl
      exact fun i => Bd.mono (hlp i) (by omega)
def okD (b : Bk) (q : Tri) : Bool := !(b.looks.any (bel b.thick q))
def accU (th : Int) (l : List Tri) : U := match l with
  | [] => .lst .full 0 []
  | l => .lst .own 4 (l.map (discU th))
theorem accU_snoc (th : Int) (q : Tri) (l : List Tri) : accU th (l ++ [q]) = .lst .own 4 (l.map (discU th) ++ [discU th q]) := by
  cases l <;> simp [accU]
theorem bd_acc (th : Int) (l : List Tri) (m : Nat) : Bd m (accU th l) := by
  have key : ∀ (k : Kd) (l : List Tri), Bd m (.lst k 4 (l.map (discU th))) := fun k l => Bd.lst fun c hc => by
    obtain ⟨u, h1, h2⟩ := List.mem_flatMap.1 hc
    obtain ⟨q, _, rfl⟩ := List.mem_map.1 h1
    exact (nb_disc th q c h2).bd m
  cases l with
  | nil => exact Bd.lst fun c hc => by cases hc
  | cons q l => exact key _ _
theorem set_end (l : List SB) (x y : SB) : (l ++ [x]).set l.length y = l ++ [y] := by
  rw [List.set_append_right _ _ (Nat.le_refl _), Nat.sub_self]; rfl
noncomputable def b63 : Code := (Tryz.f63.body).getD .skip
theorem body63 : bodyOf Tryz.prog 63 = some (20, b63, [.tmp 2]) := by kernel_rfl
theorem pure63 : pureFn Tryz.prog 63 = true := by kernel_rfl
noncomputable def rg53 : Code × Code := match b63 with
  | .seq _ (.seq _ (.seq (.seq _ (.block _ (.rangeFunc _ _ a b))) _)) => (a, b)
  | _ => (.skip, .skip)
noncomputable def lp53 : Lp := ⟨fun i => dg (lookU [(1, .box 0 0), (3, .box 1 0), (6, .fn 88 [] [.box 2 0])] i .junk), [7], rg53.1, rg53.2⟩
def Z53 (b : Bk) (n : Nat) (l : List Tri) : List SB := [.box (bkN b n), .box [accU b.thick (l.filter (okD b))], .box (bkN b n)]
set_option maxHeartbeats 4000000 in
theorem yield53 (hi : Off is) {b : Bk} (hb : Ok b) (n : Nat) (l : List Tri) (q : Tri) (e : List SB) (hd : DOk b.thick q) (hl : l.length < 8000) :
    WpY Tryz.prog is orc 3 lp53 [discU b.thick q] (X80 3 2 lp53 (Z53 b n) l ++ e) fun u st' => u = .bool true ∧ ∃ e', Ext e' ∧ st' = X80 3 2 lp53 (Z53 b n) (l ++ [q]) ++ (e ++ e') := by
  show Wp _ _ _ rg53.1 _ _
  have hA : (l.filter (okD b)).length < 8000 := Nat.lt_of_le_of_lt (List.length_filter_le _ _) hl
  have hX : X80 3 2 lp53 (Z53 b n) (l ++ [q]) = [.box (bkN b n), .box [accU b.thick (l.filter (okD b) ++ [q].filter (okD b))], .box (bkN b n), .loop .ready lp53, .box [.yld 3], .box [.fn 89 [] [.box (3 + 1) 0, .box 2 0, .box (3 + 2) 0]]] := by
    show [SB.box (bkN b n), .box [accU b.thick ((l ++ [q]).filter (okD b))], .box (bkN b n), .loop .ready lp53, .box [.yld 3], .box [.fn 89 [] [.box (3 + 1) 0, .box 2 0, .box (3 + 2) 0]]] = _
    rw [List.filter_append]
  rw [hX]
  show Wp _ _ _ _ ⟨_, [], [SB.box (bkN b n), .box [accU b.thick (l.filter (okD b))], .box (bkN b n), .loop .ready lp53, .box [.yld 3], .box [.fn 89 [] [.box (3 + 1) 0, .box 2 0, .box (3 + 2) 0]]] ++ e⟩ _
  generalize l.filter (okD b) = A at hA
  generalize hY : [SB.box (bkN b n), .box [accU b.thick A], .box (bkN b n), .loop .ready lp53, .box [.yld 3], .box [.fn 89 [] [.box (3 + 1) 0, .box 2 0, .box (3 + 2) 0]]] ++ e = Y
  have hlk : ∀ {i x}, ([SB.box (bkN b n), .box [accU b.thick A], .box (bkN b n), .loop .ready lp53, .box [.yld 3], .box [.fn 89 [] [.box (3 + 1) 0, .box 2 0, .box (3 + 2) 0]]])[i]? = some x → Y[i]? = some x := fun h => by rw [← hY]; exact at_pre h
  refine k_region ?_   -- region 3 disc.go:58
  refine o_alloc rfl ze96 ?_
  refine o_storeN rfl (at_new _ _) sh96 rfl rfl rfl rfl rfl ?_
  refine o_nil ?_
  refine ⟨rfl, ?_, ?_⟩
  · show ((Y ++ [SB.box _]).set Y.length (SB.box _))[3]? = _
    rw [set_end]
    exact at_pre (hlk rfl)
  refine k_gen [(1, .box 0 0), (3, .box 1 0), (4, .box Y.length 0)] ([SB.box (bkN b n), .box [accU b.thick A], .box (bkN b n), .loop .busy lp53, .box [.yld 3], .box [.fn 89 [] [.box (3 + 1) 0, .box 2 0, .box (3 + 2) 0]]] ++ (e ++ [.box [.int .i64 b.thick, .int .i64 q.a, .int .i64 q.b, .int .i64 q.c]])) (.cons rfl (.cons rfl (.cons rfl (.nil rfl)))) (by
    show ((Y ++ [SB.box _]).set Y.length (SB.box _)).set 3 (.loop .busy lp53) = _
    rw [set_end, ← hY, List.append_assoc]; rfl) fun fr => ?_
  have hlen : Y.length = 6 + e.length := by rw [← hY]; simp; omega
  have hbx : ∀ P : List SB, P.length = 6 → (P ++ (e ++ [.box [.int .i64 b.thick, .int .i64 q.a, .int .i64 q.b, .int .i64 q.c]]))[Y.length]? = some (.box [.int .i64 b.thick, .int .i64 q.a, .int .i64 q.b, .int .i64 q.c]) := fun P hP => by
    rw [← List.append_assoc, show Y.length = (P ++ e).length by simp [hP, hlen]]; exact at_new _ _
  show Wp _ _ _ rg53.2 _ _
  refine k_block ?_
  refine k_seq ?_
  refine k_region ?_   -- region 4 disc.go:59
  refine o_faddr rfl rfl fld67_0 ?_
  refine o_faddr rfl rfl fld28_10 ?_
  refine o_load1 rfl rfl rfl sh26 rfl ?_
  refine o_loadN rfl rfl (hbx _ rfl) sh96 rfl ?_
  refine o_func rfl ?_
  refine o_call rfl (ret82 hi hd b.looks (fun p hp => by have := hb.looks p hp; exact ⟨by omega, by omega, by omega⟩) (by have := hb.nk; omega)) (.lrefl _) ?_
  refine o_not rfl rfl ?_
  refine o_nil ?_
  refine k_cond rfl (fun h1 => ?_) (fun h1 => ?_)   -- slot 14
  · have hok : okD b q = true := h1
    have hq : [q].filter (okD b) = [q] := by simp [hok]
    rw [hq]
    refine k_region ?_   -- region 5 disc.go:60
    cases A with
    | nil =>
      refine o_load1 rfl rfl rfl sh65 rfl ?_
      refine o_loadN rfl rfl (hbx _ rfl) sh96 rfl ?_
      refine o_lit (es := [discU b.thick q]) rfl ty65 ze96 cl96 rfl rfl rfl rfl rfl rfl rfl rfl ?_
      refine o_appendF rfl ap65_65 rfl rfl (by simp) (by simp) (by simp [flatU, cellsU, oneU]) (by simp) ?_
      refine o_store1 rfl rfl sh65 rfl rfl ?_
      refine o_nil ?_
      exact ⟨rfl, rfl, [_], Ext.snoc (l := []) .nil (nb_disc _ _), rfl⟩
    | cons p A =>
      refine o_load1 rfl rfl rfl sh65 rfl ?_
      refine o_loadN rfl rfl (hbx _ rfl) sh96 rfl ?_
      refine o_lit (es := [discU b.thick q]) rfl ty65 ze96 cl96 rfl rfl rfl rfl rfl rfl rfl rfl ?_
      refine o_appendC 1 0 rfl ap65_65 rfl rfl rfl rfl (by simp) (by simp) (by simp [flatU, cellsU, oneU]) (by simp at hA ⊢; omega) ?_
      refine o_store1 rfl rfl sh65 rfl rfl ?_
      refine o_nil ?_
      rw [accU_snoc]
      exact ⟨rfl, rfl, [_], Ext.snoc (l := []) .nil (nb_disc _ _), rfl⟩
  · have hok : okD b q = false := h1
    have hq : [q].filter (okD b) = [] := by simp [hok]
    rw [hq, List.append_nil]
    refine k_skip ?_
    exact ⟨rfl, rfl, [_], Ext.snoc (l := []) .nil (nb_disc _ _), rfl⟩
theorem lookU_all {p : U → Prop} {l : List (Nat × U)} {d : U} (h : ∀ x ∈ l, p x.2) (hd : p d) (i : Nat) : p (lookU l i d) := by
  induction l with
  | nil => exact hd
  | cons x l ih =>
    obtain ⟨j, u⟩ := x
    show p (Vam.cond (Nat.beq i j) u (lookU l i d))
    cases Nat.beq i j with
    | true => exact h _ List.mem_cons_self
    | false => exact ih fun y hy => h y (List.mem_cons_of_mem _ hy)
theorem bd_bkN (b : Bk) (n m : Nat) : ∀ c ∈ bkN b n, Bd m c := by
  intro c hc
  simp only [List.mem_cons, List.not_mem_nil, or_false] at hc
  rcases hc with rfl | rfl | rfl | rfl | rfl | rfl | rfl | rfl | rfl | rfl | rfl | rfl | rfl | rfl | rfl | rfl | rfl | rfl | rfl <;> first | exact Bd.int _ _ _ | exact (dat_tris _ _ (fun h => by cases h) 0).bd _ | exact (dat_twos _ _ (fun h => by cases h) 0).bd _ | exact Bd.lst fun c hc => by cases hc
theorem lp53_bd (i : Nat) : Bd 3 (lp53.fr i) := by
  refine lookU_all (p := fun u => Bd 3 (dg u)) ?_ (Bd.junk _) i
  intro x hx
  simp only [List.mem_cons, List.not_mem_nil, or_false] at hx
  rcases hx with rfl | rfl | rfl
  · exact Bd.box (by omega)
  · exact Bd.box (by omega)
  · refine Bd.fn (fun u hu => by cases hu) fun u hu => ?_
    rcases List.mem_singleton.1 hu with rfl; exact Bd.box (by omega)
theorem seen0_53 (b : Bk) (n : Nat) : Seen0 b n 3 2 lp53 (Z53 b n) := by
  refine ⟨fun l => rfl, fun l x hx => ?_, fun l => rfl, by omega⟩
  simp only [Z53, List.mem_cons, List.not_mem_nil, or_false] at hx
  rcases hx with rfl | rfl | rfl
  · exact bd_bkN b n 3
  · intro c hc
    rcases List.mem_singleton.1 hc with rfl; exact bd_acc _ _ _
  · exact bd_bkN b n 3
def trs (b : Bk) : List Tri := (lvs b 3 0 zeroTri).filter (okD b)
abbrev trU (th : Int) (l : List Tri) : U := dg (accU th l)
theorem dat_discs (th : Int) (l : List Tri) (kd : Kd) (hk : kd ≠ .own) (k : Nat) : Dat (k + 2) (.lst kd 4 (l.map (discU th))) := .lst _ _ _ _ hk fun c hc => by
  obtain ⟨u, h1, h2⟩ := List.mem_flatMap.1 hc
  obtain ⟨q, _, rfl⟩ := List.mem_map.1 h1
  have h2 : c ∈ [U.int .i64 th, .int .i64 q.a, .int .i64 q.b, .int .i64 q.c] := h2
  simp only [List.mem_cons, List.not_mem_nil, or_false] at h2
  rcases h2 with rfl | rfl | rfl | rfl <;> exact .int _ _ _
theorem dat_tr (th : Int) (l : List Tri) (k : Nat) : Dat (k + 2) (trU th l) := by
  cases l with
  | nil => exact .lst _ _ _ _ (fun h => by cases h) (fun c hc => by cases hc)
  | cons q l => exact dat_discs th _ .ro (fun h => by cases h) k
set_option maxHeartbeats 4000000 in
theorem ret63 (hi : Off is) {b : Bk} (hb : Ok b) : RetP Tryz.prog is orc 63 [bkF b] (trU b.thick (trs b)) := by
  refine ret_of body63 pure63 (hi 63 (by decide)) rfl rfl (dat_l1 (dat_bkF b 5)) (.inl (dat_tr _ _ 6)) ?_
  refine k_seq ?_
  refine k_region ?_   -- region 0 disc.go:56
  refine o_box rfl rfl ?_
  refine o_assign rfl ?_
  refine o_nil ?_
  refine k_seq ?_
  refine k_region ?_   -- region 1 disc.go:57
  refine o_alloc rfl ze65 ?_
  refine o_nil ?_
  refine k_seq ?_
  refine k_seq ?_
  refine k_region ?_   -- region 2 disc.go:58
  refine o_loadN rfl rfl rfl sh67 rfl ?_
  refine o_callW rfl (wpc70 b b.lots.length _) (.lrefl _) (fun u st1 hM => ?_)
  obtain ⟨rfl, rfl⟩ := hM
  refine o_nil ?_
  refine k_block ?_
  refine k_forget [(1, .box 0 0), (3, .box 1 0), (6, .fn 88 [] [.box 2 0])] (Z53 b b.lots.length []) (.cons rfl (.cons rfl (.cons rfl (.nil rfl)))) rfl ?_
  have h0 := seen0_53 b b.lots.length
  have hs := h0.seen lp53_bd (fun i => dg_noOwn _) ⟨7, rfl, rfl⟩ fun is orc hi l q e hd hl _ => yield53 hi hb b.lots.length l q e hd hl
  refine k_range (g := 88) rfl ((wpc88 hi hb h0 hs lp53_bd).mono fun _ st' hst => ⟨.ready, ?_, ?_, ?_⟩)
  · rw [hst]; rfl
  · rw [hst]
    exact h0.bd _
  · rw [hst]
    refine k_gen [(3, .box 1 0)] (Z53 b b.lots.length (lvs b 3 0 zeroTri)) (.cons rfl (.nil rfl)) rfl fun fr => ?_
    refine k_seq ?_
    refine k_region ?_   -- region 6 disc.go:63
    refine o_load1 rfl rfl rfl sh65 rfl ?_
    refine o_assign rfl ?_
    refine o_nil ?_
    refine k_ret ?_
    refine ⟨.inr rfl, _, .cons _ _ _ _ (.tmp 2) .nil, ?_⟩
    exact .refl _
theorem fld67_2 : fieldOf Tryz.prog 67 2 = some (18, 65) := by kernel_rfl
abbrev bkTc (b : Bk) (T : List Tri) : List U := [.lst .ro 3 (trisU b.lots), .int .i64 b.tlo, .int .i64 b.thi, .int .i64 b.thick, .int .i64 b.crack, .int .i64 b.glo, .int .i64 b.ghi, .lst .ro 2 (twosU b.thins), .int .i64 b.hot, .int .i64 b.least, .int .i64 b.clo, .int .i64 b.chi, .int .i64 b.coal, .lst .ro 3 (trisU b.looks), .int .i64 (stk b b.lots.length 0), .int .i64 (stk b b.lots.length 1), .int .i64 (stk b b.lots.length 2), .int .i64 (stk b b.lots.length 3), trU b.thick T]
abbrev bkT (b : Bk) (T : List Tri) : U := .agg (bkTc b T)
theorem dat_bkT (b : Bk) (T : List Tri) (n : Nat) : Dat (n + 3) (bkT b T) := .agg _ _ fun c hc => by
  simp only [List.mem_cons, List.not_mem_nil, or_false] at hc
  rcases hc with rfl | rfl | rfl | rfl | rfl | rfl | rfl | rfl | rfl | rfl | rfl | rfl | rfl | rfl | rfl | rfl | rfl | rfl | rfl <;> first | exact .int _ _ _ | exact dat_tris _ _ (fun h => by cases h) _ | exact dat_twos _ _ (fun h => by cases h) _ | exact dat_tr _ _ _
abbrev zbkC : List U := [.lst .full 0 [], .int .i64 0, .int .i64 0, .int .i64 0, .int .i64 0, .int .i64 0, .int .i64 0, .lst .full 0 [], .int .i64 0, .int .i64 0, .int .i64 0, .int .i64 0, .int .i64 0, .lst .full 0 [], .int .i64 0, .int .i64 0, .int .i64 0, .int .i64 0, .lst .full 0 []]
abbrev zbk : U := .agg zbkC
theorem dat_zbk (n : Nat) : Dat (n + 3) zbk := .agg _ _ fun c hc => by
  simp only [List.mem_cons, List.not_mem_nil, or_false] at hc
  rcases hc with rfl | rfl | rfl | rfl | rfl | rfl | rfl | rfl | rfl | rfl | rfl | rfl | rfl | rfl | rfl | rfl | rfl | rfl | rfl <;> first | exact .int _ _ _ | exact .lst _ _ _ _ (fun h => by cases h) (fun c hc => by cases hc)
theorem lvs_ok {b : Bk} (hb : Ok b) : ∀ (r k : Nat) (q : Tri), DOk b.thick q → ∀ d ∈ lvs b r k q, DOk b.thick d := by
  intro r
  induction r with
  | zero => intro k q hq d hd; rcases List.mem_singleton.1 hd with rfl; exact hq
  | succ r ih =>
    intro k q hq d hd
    obtain ⟨j, hj, hd⟩ := List.mem_flatMap.1 hd
    have hw := wid_le hb k
    have hj := List.mem_range.1 hj
    unfold widT at hj
    exact ih _ _ (setT_ok hq k (by omega)) d hd
theorem trs_ok {b : Bk} (hb : Ok b) : ∀ d ∈ trs b, DOk b.thick d := fun d hd => lvs_ok hb 3 0 zeroTri ⟨hb.thick, by decide, by decide, by decide⟩ d (List.mem_filter.1 hd).1
theorem trs_len {b : Bk} (hb : Ok b) : (trs b).length ≤ 8000 := Nat.le_trans (List.length_filter_le _ _) (lvs_len hb 3 0 zeroTri)
def mm (th n : Int) (s : Int × Int) (d : Tri) : Int × Int := (min s.1 (aft th d n), max s.2 (aft th d n))
def thI (th : Int) (T : List Tri) (n : Int) (i : Nat) : Int × Int := (T.take i).foldl (mm th n) (aft th (T.headD zeroTri) n, aft th (T.headD zeroTri) n)
theorem thI_succ {th : Int} {T : List Tri} {n : Int} {i : Nat} {d : Tri} (h : T[i]? = some d) : thI th T n (i + 1) = mm th n (thI th T n i) d := by
  unfold thI
  rw [List.take_add_one, h, List.foldl_append]; rfl
def lowT (th : Int) (T : List Tri) (n : Int) : Int := (thI th T n T.length).1
def highT (th : Int) (T : List Tri) (n : Int) : Int := (thI th T n T.length).2
noncomputable def b36 : Code := (Tryz.f36.body).getD .skip
theorem body36 : bodyOf Tryz.prog 36 = some (27, b36, [.cell 4 67, .tmp 5]) := by kernel_rfl
theorem pure36 : pureFn Tryz.prog 36 = true := by kernel_rfl
set_option maxHeartbeats 4000000 in
theorem ret36 (hi : Off is) {b : Bk} (hb : Ok b) {q : Tri} {l : List Tri} (hT : trs b = q :: l) : RetP Tryz.prog is orc 36 [b.u, .bool true] (.tup [bkT b (q :: l), .int .i64 0]) := by
  refine ret_of body36 pure36 (hi 36 (by decide)) rfl rfl (dat_l2 (dat_bk b 5) (.bool _ _)) (.inr ⟨_, rfl, dat_l2 (dat_bkT b _ 4) (.int _ _ _)⟩) ?_
  have h53 := ret63 (orc := orc) hi hb
  rw [hT] at h53
  refine k_seq (k_region ?_)
  refine o_box rfl rfl ?_
  refine o_alloc rfl ze67 ?_
  refine o_assign rfl ?_
  refine o_nil ?_
  refine k_seq (k_region ?_)
  refine o_loadN rfl rfl rfl sh28 rfl ?_
  refine o_move rfl ?_
  refine o_call rfl (ret43 hi hb) (.lrefl _) ?_
  refine o_move rfl ?_
  refine o_extract rfl rfl rfl ?_
  refine o_extract rfl rfl rfl ?_
  refine o_alloc rfl ze67 ?_
  refine o_storeN rfl rfl sh67 rfl rfl rfl rfl rfl ?_
  refine o_assign rfl ?_
  refine o_nil ?_
  refine k_seq ?_
  refine k_seq (k_region ?_)
  refine o_move rfl ?_
  refine o_neq rfl rfl rfl ?_
  refine o_nil ?_
  refine k_cF rfl (decide_eq_false (fun h => h rfl)) ?_
  refine k_skip ?_
  refine k_seq (k_region ?_)
  refine o_loadN rfl rfl rfl sh67 rfl ?_
  refine o_call rfl (h53) (.lrefl _) ?_
  refine o_faddr rfl rfl fld67_2 ?_
  refine o_store1 rfl rfl sh65 rfl rfl ?_
  refine o_nil ?_
  refine k_seq ?_
  refine k_seq (k_region ?_)
  refine o_faddr rfl rfl fld67_2 ?_
  refine o_load1 rfl rfl rfl sh65 rfl ?_
  refine o_len rfl ty65 rfl rfl ?_
  refine o_eql rfl rfl rfl ?_
  refine o_nil ?_
  refine k_cF rfl (decide_eq_false (by intro h; cases h)) ?_
  refine k_skip ?_
  refine k_seq (k_region ?_)
  refine o_loadN rfl rfl rfl sh67 rfl ?_
  refine o_storeN rfl rfl sh67 rfl rfl rfl rfl rfl ?_
  refine o_assign rfl ?_
  refine o_nil ?_
  refine k_ret ?_
  refine ⟨.inr rfl, _, .cons _ _ _ _ (.cellN 4 67 _ _ _ _ rfl rfl sh67 rfl) (.cons _ _ _ _ (.tmp 5) .nil), ?_⟩
  exact .refl _
noncomputable def b41 : Code := (Tryz.f41.body).getD .skip
theorem body41 : bodyOf Tryz.prog 41 = some (37, b41, [.cell 4 24]) := by kernel_rfl
theorem pure41 : pureFn Tryz.prog 41 = true := by kernel_rfl
set_option maxHeartbeats 4000000 in
theorem ret41 (hi : Off is) {b : Bk} {q : Tri} {l : List Tri} (hd : ∀ d ∈ q :: l, DOk b.thick d) (hl : (q :: l).length ≤ 8000) (n : Int) (hx : 0 ≤ n ∧ n ≤ 301) : RetP Tryz.prog is orc 41 [bkT b (q :: l), .int .i64 n] (spanU (lowT b.thick (q :: l) n) (highT b.thick (q :: l) n)) := by
  refine ret_of body41 pure41 (hi 41 (by decide)) rfl rfl (dat_l2 (dat_bkT b _ 5) (.int _ _ _)) (.inl (dat_span _ _ _)) ?_
  refine k_seq (k_region ?_)
  refine o_box rfl rfl ?_
  refine o_alloc rfl ze24 ?_
  refine o_nil ?_
  refine k_seq (k_region ?_)
  refine o_faddr rfl rfl fld67_2 ?_
  refine o_load1 rfl rfl rfl sh65 rfl ?_
  refine o_idx (u := discU b.thick q) rfl ty65 rfl rfl (Int.le_refl 0) rfl cl96 ?_
  refine o_loadRN rfl rfl sh96 rfl ?_
  refine o_move rfl ?_
  refine o_call rfl (ret67 hi (hd q List.mem_cons_self) n (by have := hx; omega)) (.lrefl _) ?_
  refine o_call rfl (ret66 hi _) (.lrefl _) ?_
  refine o_alloc rfl ze24 ?_
  refine o_storeN rfl rfl sh24 rfl rfl rfl rfl rfl ?_
  refine o_nil ?_
  refine k_seq ?_
  refine k_seq (k_region ?_)
  refine o_faddr rfl rfl fld67_2 ?_
  refine o_load1 rfl rfl rfl sh65 rfl ?_
  refine o_len rfl ty65 rfl rfl ?_
  refine o_move rfl ?_
  refine o_nil ?_
  refine k_block ?_
  refine k_loop (fun k s => ∃ (i : Nat) (e : List SB), k + i = (q :: l).length ∧ s.st = [.box (bkTc b (q :: l)), .box [.int .i64 0, .int .i64 0], .box [.int .i64 (thI b.thick (q :: l) n i).1, .int .i64 (thI b.thick (q :: l) n i).2]] ++ e ∧ Holds s [(1, .int .i64 n), (4, .box 1 0), (5, .box 2 0), (17, .lst .ro 4 ((q :: l).map (discU b.thick))), (18, .int .i64 ((q :: l).map (discU b.thick)).length), (19, .int .i64 i)]) (fun k s hI => ?_) (q :: l).length _ ?_
  · obtain ⟨i, e, hk, hst, hs⟩ := hI
    generalize hY : [SB.box (bkTc b (q :: l)), .box [.int .i64 0, .int .i64 0], .box [.int .i64 (thI b.thick (q :: l) n i).1, .int .i64 (thI b.thick (q :: l) n i).2]] ++ e = Y at hst
    refine k_gen _ _ hs hst fun fr => ?_
    refine k_seq (k_region ?_)
    refine o_lss rfl rfl rfl ?_
    refine o_nil ?_
    refine k_seq ?_
    refine k_cond rfl (fun h1 => ?_) (fun h1 => ?_)
    · have h3' : i < (q :: l).length := by
        have := of_decide_eq_true h1
        simp only [List.length_map] at this; omega
      obtain ⟨d, hq⟩ : ∃ d, (q :: l)[i]? = some d := ⟨(q :: l)[i], List.getElem?_eq_getElem h3'⟩
      have hdd := hd d (List.mem_of_getElem? hq)
      refine k_skip ?_
      refine k_seq ?_
      refine k_block ?_
      refine k_seq (k_region ?_)
      refine o_idx (u := discU b.thick d) rfl ty65 rfl rfl (Int.natCast_nonneg i) (by rw [Int.toNat_natCast, List.getElem?_map, hq]; rfl) cl96 ?_
      refine o_loadRN rfl rfl sh96 rfl ?_
      refine o_alloc rfl ze96 ?_
      refine o_storeN rfl (at_new _ _) sh96 rfl rfl rfl rfl rfl ?_
      refine o_nil ?_
      refine k_gen [(1, .int .i64 n), (4, .box 1 0), (5, .box 2 0), (7, .box (3 + e.length) 0), (17, .lst .ro 4 ((q :: l).map (discU b.thick))), (18, .int .i64 ((q :: l).map (discU b.thick)).length), (19, .int .i64 i)] ([.box (bkTc b (q :: l)), .box [.int .i64 0, .int .i64 0], .box [.int .i64 (thI b.thick (q :: l) n i).1, .int .i64 (thI b.thick (q :: l) n i).2]] ++ (e ++ [.box [.int .i64 b.thick, .int .i64 d.a, .int .i64 d.b, .int .i64 d.c]])) (.cons rfl (.cons rfl (.cons rfl (.cons (by show U.box Y.length 0 = _; rw [← hY]; simp; omega) (.cons rfl (.cons rfl (.cons rfl (.nil rfl)))))))) (by show (Y ++ [SB.box _]).set Y.length (SB.box _) = _; rw [set_end, ← hY, List.append_assoc]; rfl) fun fr => ?_
      have hbx : ∀ x y z : SB, ([x, y, z] ++ (e ++ [SB.box [.int .i64 b.thick, .int .i64 d.a, .int .i64 d.b, .int .i64 d.c]]))[3 + e.length]? = some (.box [.int .i64 b.thick, .int .i64 d.a, .int .i64 d.b, .int .i64 d.c]) := fun x y z => by
        rw [← List.append_assoc, show 3 + e.length = ([x, y, z] ++ e).length by simp; omega]; exact at_new _ _
      refine k_seq (k_region ?_)
      refine o_loadN rfl rfl (hbx _ _ _) sh96 rfl ?_
      refine o_move rfl ?_
      refine o_call rfl (ret67 hi hdd n (by have := hx; omega)) (.lrefl _) ?_
      refine o_assign rfl ?_
      refine o_nil ?_
      refine k_region ?_
      refine o_faddr rfl rfl fld24_0 ?_
      refine o_load1 rfl rfl rfl sh3 rfl ?_
      refine o_move rfl ?_
      refine o_min rfl rfl rfl ?_
      refine o_faddr rfl rfl fld24_1 ?_
      refine o_load1 rfl rfl rfl sh3 rfl ?_
      refine o_move rfl ?_
      refine o_max rfl rfl rfl ?_
      refine o_build rfl ze24 pl24 rfl rfl ?_
      refine o_storeN rfl rfl sh24 rfl rfl rfl rfl rfl ?_
      refine o_nil ?_
      refine k_region ?_
      refine o_add rfl rfl rfl (by unfold I64; omega) ?_
      refine o_move rfl ?_
      refine o_nil ?_
      exact ⟨k - 1, by omega, i + 1, e ++ [_], by omega, by rw [thI_succ hq]; rfl, .cons rfl (.cons rfl (.cons rfl (.cons rfl (.cons rfl (.cons rfl (.nil rfl))))))⟩
    · subst hY
      refine k_exit ?_
      refine k_seq (k_region ?_)
      refine o_loadN rfl rfl rfl sh24 rfl ?_
      refine o_storeN rfl rfl sh24 rfl rfl rfl rfl rfl ?_
      refine o_nil ?_
      refine k_ret ?_
      refine ⟨.inr rfl, _, .cons _ _ _ _ (.cellN 4 24 _ _ _ _ rfl rfl sh24 rfl) .nil, ?_⟩
      have h3' : i = (q :: l).length := by
        have := of_decide_eq_false h1
        simp only [List.length_map] at this; omega
      subst h3'
      exact .refl _
  · exact ⟨0, [], rfl, rfl, .cons rfl (.cons rfl (.cons rfl (.cons rfl (.cons rfl (.cons rfl (.nil rfl))))))⟩
noncomputable def b11 : Code := (Tryz.f11.body).getD .skip
theorem body11 : bodyOf Tryz.prog 11 = some (22, b11, [.cell 4 24, .tmp 5]) := by kernel_rfl
theorem pure11 : pureFn Tryz.prog 11 = true := by kernel_rfl
set_option maxHeartbeats 4000000 in
theorem ret11 (hi : Off is) {b : Bk} (hb : Ok b) {q : Tri} {l : List Tri} (hT : trs b = q :: l) (n : Int) (hn : 0 ≤ n ∧ n ≤ 300) : RetP Tryz.prog is orc 11 [b.u, .int .i64 n] (.tup [spanU (lowT b.thick (q :: l) n) (highT b.thick (q :: l) n), .int .i64 0]) := by
  refine ret_of body11 pure11 (hi 11 (by decide)) rfl rfl (dat_l2 (dat_bk b 5) (.int _ _ _)) (.inr ⟨_, rfl, dat_l2 (dat_span _ _ _) (.int _ _ _)⟩) ?_
  have h36 : RetP Tryz.prog is orc 40 [.int .i64 n] (.bool true) := by
    have := ret40 (orc := orc) hi n
    rwa [show (decide (0 ≤ n) && decide (n ≤ 300)) = true by simp; omega] at this
  have hd : ∀ d ∈ q :: l, DOk b.thick d := by rw [← hT]; exact trs_ok hb
  have hl : (q :: l).length ≤ 8000 := by rw [← hT]; exact trs_len hb
  refine k_seq (k_region ?_)
  refine o_box rfl rfl ?_
  refine o_alloc rfl ze24 ?_
  refine o_assign rfl ?_
  refine o_nil ?_
  refine k_seq ?_
  refine k_draw [.read true, .plain, .read false, .quiet, .plain, .plain, .plain, .pre, .plain, .plain] (by kernel_rfl) (by kernel_rfl) (by kernel_rfl) ?_
  refine d_load rfl (o_loadN rfl rfl rfl sh28 rfl (o_nil rfl)) ?_
  refine d_plain (o_move rfl (o_nil rfl)) ?_
  refine d_callR rfl (h36) (.bool _) (.lrefl _) ?_
  refine d_callQ rfl (ret36 hi hb hT) (.lrefl _) ?_
  refine d_plain (o_move rfl (o_nil rfl)) ?_
  refine d_plain (o_extract rfl rfl rfl (o_nil rfl)) ?_
  refine d_plain (o_extract rfl rfl rfl (o_nil rfl)) ?_
  refine d_pre rfl ze67 ?_
  refine d_plain (o_storeN rfl rfl sh67 rfl rfl rfl rfl rfl (o_nil rfl)) ?_
  refine d_plain (o_assign rfl (o_nil rfl)) ?_
  refine d_nil ?_
  refine k_seq ?_
  refine k_seq (k_region ?_)
  refine o_move rfl ?_
  refine o_neq rfl rfl rfl ?_
  refine o_nil ?_
  refine k_cF rfl (decide_eq_false (fun h => h rfl)) ?_
  refine k_skip ?_
  refine k_seq (k_region ?_)
  refine o_loadN rfl rfl rfl sh67 rfl ?_
  refine o_move rfl ?_
  refine o_call rfl (ret41 hi hd hl n (by omega)) (.lrefl _) ?_
  refine o_storeN rfl rfl sh24 rfl rfl rfl rfl rfl ?_
  refine o_assign rfl ?_
  refine o_nil ?_
  refine k_ret ?_
  refine ⟨.inr rfl, _, .cons _ _ _ _ (.cellN 4 24 _ _ _ _ rfl rfl sh24 rfl) (.cons _ _ _ _ (.tmp 5) .nil), ?_⟩
  exact .refl _
set_option maxHeartbeats 4000000 in
theorem ret36n (hi : Off is) {b : Bk} (hb : Ok b) (hT : trs b = []) : RetP Tryz.prog is orc 36 [b.u, .bool true] (.tup [zbk, .int .i64 22]) := by
  refine ret_of body36 pure36 (hi 36 (by decide)) rfl rfl (dat_l2 (dat_bk b 5) (.bool _ _)) (.inr ⟨_, rfl, dat_l2 (dat_zbk 4) (.int _ _ _)⟩) ?_
  have h53 := ret63 (orc := orc) hi hb
  rw [hT] at h53
  refine k_seq (k_region ?_)
  refine o_box rfl rfl ?_
  refine o_alloc rfl ze67 ?_
  refine o_assign rfl ?_
  refine o_nil ?_
  refine k_seq (k_region ?_)
  refine o_loadN rfl rfl rfl sh28 rfl ?_
  refine o_move rfl ?_
  refine o_call rfl (ret43 hi hb) (.lrefl _) ?_
  refine o_move rfl ?_
  refine o_extract rfl rfl rfl ?_
  refine o_extract rfl rfl rfl ?_
  refine o_alloc rfl ze67 ?_
  refine o_storeN rfl rfl sh67 rfl rfl rfl rfl rfl ?_
  refine o_assign rfl ?_
  refine o_nil ?_
  refine k_seq ?_
  refine k_seq (k_region ?_)
  refine o_move rfl ?_
  refine o_neq rfl rfl rfl ?_
  refine o_nil ?_
  refine k_cF rfl (decide_eq_false (fun h => h rfl)) ?_
  refine k_skip ?_
  refine k_seq (k_region ?_)
  refine o_loadN rfl rfl rfl sh67 rfl ?_
  refine o_call rfl (h53) (.lrefl _) ?_
  refine o_faddr rfl rfl fld67_2 ?_
  refine o_store1 rfl rfl sh65 rfl rfl ?_
  refine o_nil ?_
  refine k_seq ?_
  refine k_seq (k_region ?_)
  refine o_faddr rfl rfl fld67_2 ?_
  refine o_load1 rfl rfl rfl sh65 rfl ?_
  refine o_len rfl ty65 rfl rfl ?_
  refine o_eql rfl rfl rfl ?_
  refine o_nil ?_
  refine k_cT rfl rfl ?_
  refine k_seq (k_region ?_)
  refine o_build (cs := zbkC) rfl ze67 pl67 rfl rfl ?_
  refine o_storeN rfl rfl sh67 rfl rfl rfl rfl rfl ?_
  refine o_assign rfl ?_
  refine o_nil ?_
  refine k_ret ?_
  refine ⟨.inr rfl, _, .cons _ _ _ _ (.cellN 4 67 _ _ _ _ rfl rfl sh67 rfl) (.cons _ _ _ _ (.tmp 5) .nil), ?_⟩
  exact .refl _
set_option maxHeartbeats 4000000 in
theorem ret11n (hi : Off is) {b : Bk} (hb : Ok b) (hT : trs b = []) (n : Int) (hn : 0 ≤ n ∧ n ≤ 300) : RetP Tryz.prog is orc 11 [b.u, .int .i64 n] (.tup [spanU 0 0, .int .i64 22]) := by
  refine ret_of body11 pure11 (hi 11 (by decide)) rfl rfl (dat_l2 (dat_bk b 5) (.int _ _ _)) (.inr ⟨_, rfl, dat_l2 (dat_span _ _ _) (.int _ _ _)⟩) ?_
  have h36 : RetP Tryz.prog is orc 40 [.int .i64 n] (.bool true) := by
    have := ret40 (orc := orc) hi n
    rwa [show (decide (0 ≤ n) && decide (n ≤ 300)) = true by simp; omega] at this
  refine k_seq (k_region ?_)
  refine o_box rfl rfl ?_
  refine o_alloc rfl ze24 ?_
  refine o_assign rfl ?_
  refine o_nil ?_
  refine k_seq ?_
  refine k_draw [.read true, .plain, .read false, .quiet, .plain, .plain, .plain, .pre, .plain, .plain] (by kernel_rfl) (by kernel_rfl) (by kernel_rfl) ?_
  refine d_load rfl (o_loadN rfl rfl rfl sh28 rfl (o_nil rfl)) ?_
  refine d_plain (o_move rfl (o_nil rfl)) ?_
  refine d_callR rfl (h36) (.bool _) (.lrefl _) ?_
  refine d_callQ rfl (ret36n hi hb hT) (.lrefl _) ?_
  refine d_plain (o_move rfl (o_nil rfl)) ?_
  refine d_plain (o_extract rfl rfl rfl (o_nil rfl)) ?_
  refine d_plain (o_extract rfl rfl rfl (o_nil rfl)) ?_
  refine d_pre rfl ze67 ?_
  refine d_plain (o_storeN rfl rfl sh67 rfl rfl rfl rfl rfl (o_nil rfl)) ?_
  refine d_plain (o_assign rfl (o_nil rfl)) ?_
  refine d_nil ?_
  refine k_seq ?_
  refine k_seq (k_region ?_)
  refine o_move rfl ?_
  refine o_neq rfl rfl rfl ?_
  refine o_nil ?_
  refine k_cT rfl rfl ?_
  refine k_seq (k_region ?_)
  refine o_build (cs := [.int .i64 0, .int .i64 0]) rfl ze24 pl24 rfl rfl ?_
  refine o_move rfl ?_
  refine o_storeN rfl rfl sh24 rfl rfl rfl rfl rfl ?_
  refine o_assign rfl ?_
  refine o_nil ?_
  refine k_ret ?_
  refine ⟨.inr rfl, _, .cons _ _ _ _ (.cellN 4 24 _ _ _ _ rfl rfl sh24 rfl) (.cons _ _ _ _ (.tmp 5) .nil), ?_⟩
  exact .refl _
end Go.Proofs.YtniplfmjbjjocaaGreat.forgeLeft
