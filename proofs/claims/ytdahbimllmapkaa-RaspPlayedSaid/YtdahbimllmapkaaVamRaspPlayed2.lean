/- rasp's functions and the law's, by the logic of trees: what each gives back for all that it may be given. -/
import Derived.Test.YtdahbimllmapkaaVamRaspPlayed1
namespace Go.Proofs.Ytdahbimllmapkaa.raspPlayed
open Vam
set_option linter.unusedVariables false
set_option linter.unusedSimpArgs false
set_option linter.constructorNameAsVariable false
variable {is : FuncId → Bool} {orc : Known}
theorem ret14a (hi : Off is) {s : Shop} (hk : SOk s) {off metal c1 c2 : Int} (ho : offB off = true) (hm : metB metal = true) (hc : cho s true off metal = (c1, c2)) (h31 : c2 ≠ 31) : RetP Try.prog is orc 14 [s.u, .int .i64 off, .int .i64 metal] (.tup [.int .i64 c1, .int .i64 c2, .int .i64 0]) := by
  have := ret14 (orc := orc) hi hk (by have := chk (orc := orc) hi s; rwa [chk_ok hk] at this) ho hm
  rw [hc] at this
  rwa [show nextU (c1, c2) = .tup [.int .i64 c1, .int .i64 c2, .int .i64 0] from if_neg h31] at this
theorem ret14z (hi : Off is) {s : Shop} (hk : SOk s) {off metal : Int} (ho : offB off = true) (hm : metB metal = true) (hc : (cho s true off metal).2 = 31) : RetP Try.prog is orc 14 [s.u, .int .i64 off, .int .i64 metal] (.tup [.int .i64 0, .int .i64 0, .int .i64 4]) := by
  have := ret14 (orc := orc) hi hk (by have := chk (orc := orc) hi s; rwa [chk_ok hk] at this) ho hm
  rwa [show nextU (cho s true off metal) = .tup [.int .i64 0, .int .i64 0, .int .i64 4] from if_pos hc] at this
theorem und_struct {P : Program} {t : TypeId} (n : Nat) (h : (match P.underlying t with | some (.struct fs) => Nat.beq fs.size n | _ => false) = true) : ∃ fs, P.underlying t = some (.struct fs) := by
  cases hu : P.underlying t with
  | none => rw [hu] at h; cases h
  | some ty => rw [hu] at h; cases ty <;> first | exact ⟨_, rfl⟩ | cases h
theorem u38 : Try.prog.underlying 38 = some (.slice 3) := by kernel_rfl
theorem u3 : Try.prog.underlying 3 = some (.int .i64) := by kernel_rfl
theorem u22 : Try.prog.underlying 22 = some (.slice 52) := by kernel_rfl
theorem u25 : Try.prog.underlying 25 = some (.slice 64) := by kernel_rfl
def fts (P : Program) (t : TypeId) : List TypeId := match P.underlying t with | some (.struct fs) => fs.toList.map (·.type) | _ => []
theorem f27 : fts Try.prog 27 = [22, 24, 25] := by kernel_rfl
theorem f24 : fts Try.prog 24 = [3, 3] := by kernel_rfl
theorem f52 : fts Try.prog 52 = [24, 3] := by kernel_rfl
theorem f64 : fts Try.prog 64 = [24, 3] := by kernel_rfl
theorem shp_int {cs : List U} (h : Shp Try.prog 3 cs) : ∃ n : Int, cs = [.int .i64 n] := by
  cases h with
  | int _ k n hu _ => rw [u3] at hu; cases hu; exact ⟨n, rfl⟩
  | bool _ _ hu => rw [u3] at hu; cases hu
  | str _ _ hu => rw [u3] at hu; cases hu
  | slice _ _ _ hu => rw [u3] at hu; cases hu
  | struct _ _ _ hu => rw [u3] at hu; cases hu
  | array _ _ _ _ hu => rw [u3] at hu; cases hu
theorem shp_fields {P : Program} {t : TypeId} {cs : List U} (h : Shp P t cs) (hne : fts P t ≠ []) : ∃ fs : List Field, fs.map (·.type) = fts P t ∧ ShpF P fs cs := by
  have no : ∀ {ty}, P.underlying t = some ty → (∀ fs, ty ≠ .struct fs) → False := fun hu hn => hne (by unfold fts; rw [hu]; split <;> simp_all)
  cases h with
  | struct _ fs _ hu hf => exact ⟨fs.toList, by unfold fts; rw [hu], hf⟩
  | int _ k n hu _ => exact (no hu (by intro fs h; cases h)).elim
  | bool _ _ hu => exact (no hu (by intro fs h; cases h)).elim
  | str _ _ hu => exact (no hu (by intro fs h; cases h)).elim
  | slice _ _ _ hu => exact (no hu (by intro fs h; cases h)).elim
  | array _ _ _ _ hu => exact (no hu (by intro fs h; cases h)).elim
theorem shpF_cons {P : Program} {fs : List Field} {t : TypeId} {ts : List TypeId} {cs : List U} (h : ShpF P fs cs) (e : fs.map (·.type) = t :: ts) : ∃ gs xs ys, cs = xs ++ ys ∧ Shp P t xs ∧ ShpF P gs ys ∧ gs.map (·.type) = ts := by
  cases h with
  | nil => cases e
  | cons f fs xs ys h1 h2 =>
    simp only [List.map_cons, List.cons.injEq] at e
    obtain ⟨rfl, rfl⟩ := e
    exact ⟨fs, xs, ys, rfl, h1, h2, rfl⟩
theorem shpF_nil {P : Program} {fs : List Field} {cs : List U} (h : ShpF P fs cs) (e : fs.map (·.type) = []) : cs = [] := by
  cases h with
  | nil => rfl
  | cons => cases e
theorem shp_span {cs : List U} (h : Shp Try.prog 24 cs) : ∃ a b : Int, cs = [.int .i64 a, .int .i64 b] := by
  obtain ⟨fs, e, hf⟩ := shp_fields h (by rw [f24]; simp)
  rw [f24] at e
  obtain ⟨g1, a1, b1, rfl, k1, r1, e1⟩ := shpF_cons hf e
  obtain ⟨g2, a2, b2, rfl, k2, r2, e2⟩ := shpF_cons r1 e1
  obtain rfl := shpF_nil r2 e2
  obtain ⟨x, rfl⟩ := shp_int k1
  obtain ⟨y, rfl⟩ := shp_int k2
  exact ⟨x, y, rfl⟩
theorem shp_tri {t : TypeId} (hft : fts Try.prog t = [24, 3]) {cs : List U} (h : Shp Try.prog t cs) : ∃ q : Tri, cs = [.int .i64 q.a, .int .i64 q.b, .int .i64 q.c] := by
  obtain ⟨fs, e, hf⟩ := shp_fields h (by rw [hft]; simp)
  rw [hft] at e
  obtain ⟨g1, a1, b1, rfl, k1, r1, e1⟩ := shpF_cons hf e
  obtain ⟨g2, a2, b2, rfl, k2, r2, e2⟩ := shpF_cons r1 e1
  obtain rfl := shpF_nil r2 e2
  obtain ⟨x, y, rfl⟩ := shp_span k1
  obtain ⟨z, rfl⟩ := shp_int k2
  exact ⟨⟨x, y, z⟩, rfl⟩
theorem shpL_map {P : Program} {e : TypeId} {α : Type} {f : α → List U} {css : List (List U)} (h : ShpL P e css) (k : ∀ cs, Shp P e cs → ∃ q, cs = f q) : ∃ l : List α, css = l.map f := by
  induction css with
  | nil => exact ⟨[], rfl⟩
  | cons cs css ih =>
    cases h with
    | cons _ _ _ h1 h2 =>
      obtain ⟨q, rfl⟩ := k _ h1
      obtain ⟨l, rfl⟩ := ih h2
      exact ⟨q :: l, rfl⟩
theorem shp_slice {P : Program} {t e : TypeId} {cs : List U} (hu : P.underlying t = some (.slice e)) (h : Shp P t cs) : ∃ css, ShpL P e css ∧ cs = [.lst .ro (P.cellsOf e) (css.map (eU P e))] := by
  cases h with
  | slice _ e' css hu' hl => rw [hu] at hu'; cases hu'; exact ⟨css, hl, rfl⟩
  | int _ k n hu' _ => rw [hu] at hu'; cases hu'
  | bool _ _ hu' => rw [hu] at hu'; cases hu'
  | str _ _ hu' => rw [hu] at hu'; cases hu'
  | struct _ _ _ hu' => rw [hu] at hu'; cases hu'
  | array _ _ _ _ hu' => rw [hu] at hu'; cases hu'
theorem eu52 : ∀ cs, eU Try.prog 52 cs = .agg cs := by
  obtain ⟨fs, h⟩ := und_struct (P := Try.prog) (t := 52) 2 (by kernel_rfl)
  intro cs; unfold eU; rw [h]
theorem eu64 : ∀ cs, eU Try.prog 64 cs = .agg cs := by
  obtain ⟨fs, h⟩ := und_struct (P := Try.prog) (t := 64) 2 (by kernel_rfl)
  intro cs; unfold eU; rw [h]
theorem eu3 : ∀ cs, eU Try.prog 3 cs = cs.headD .junk := by
  intro cs; unfold eU; rw [u3]
theorem map_tris {F : List U → U} (he : ∀ cs, F cs = .agg cs) (l : List Tri) : (l.map fun q : Tri => [U.int .i64 q.a, .int .i64 q.b, .int .i64 q.c]).map F = trisU l := by
  rw [List.map_map]
  exact List.map_congr_left fun q _ => he _
theorem map_ints {F : List U → U} (he : ∀ cs, F cs = cs.headD .junk) (l : List Int) : (l.map fun n : Int => [U.int .i64 n]).map F = intsU l := by
  rw [List.map_map]
  exact List.map_congr_left fun q _ => he _
theorem shp_tris {t e : TypeId} (hu : Try.prog.underlying t = some (.slice e)) (hc : Program.cellsOf Try.prog e = 3) (hft : fts Try.prog e = [24, 3]) (he : ∀ cs, eU Try.prog e cs = .agg cs) {cs : List U} (h : Shp Try.prog t cs) : ∃ l : List Tri, cs = [.lst .ro 3 (trisU l)] := by
  obtain ⟨css, hl, rfl⟩ := shp_slice hu h
  obtain ⟨l, rfl⟩ := shpL_map (f := fun q : Tri => [.int .i64 q.a, .int .i64 q.b, .int .i64 q.c]) hl fun cs hcs => shp_tri hft hcs
  refine ⟨l, ?_⟩
  rw [hc, map_tris he]
theorem shp_ints {cs : List U} (h : Shp Try.prog 38 cs) : ∃ l : List Int, cs = [.lst .ro 1 (intsU l)] := by
  obtain ⟨css, hl, rfl⟩ := shp_slice u38 h
  obtain ⟨l, rfl⟩ := shpL_map (f := fun n : Int => [.int .i64 n]) hl fun cs hcs => shp_int hcs
  refine ⟨l, ?_⟩
  rw [cl3, map_ints eu3]
theorem shp_shop {cs : List U} (h : Shp Try.prog 27 cs) : ∃ s : Shop, cs = s.cs := by
  obtain ⟨fs, e, hf⟩ := shp_fields h (by rw [f27]; simp)
  rw [f27] at e
  obtain ⟨g1, a1, b1, rfl, k1, r1, e1⟩ := shpF_cons hf e
  obtain ⟨g2, a2, b2, rfl, k2, r2, e2⟩ := shpF_cons r1 e1
  obtain ⟨g3, a3, b3, rfl, k3, r3, e3⟩ := shpF_cons r2 e2
  obtain rfl := shpF_nil r3 e3
  obtain ⟨t, rfl⟩ := shp_tris u22 cl52 f52 eu52 k1
  obtain ⟨lo, hi, rfl⟩ := shp_span k2
  obtain ⟨k, rfl⟩ := shp_tris u25 cl64 f64 eu64 k3
  exact ⟨⟨t, lo, hi, k⟩, rfl⟩
theorem u28 : Try.prog.underlying 28 = some (.array 2 3) := by kernel_rfl
theorem shp_two {cs : List U} (h : Shp Try.prog 28 cs) : ∃ a b : Int, cs = [.int .i64 a, .int .i64 b] := by
  cases h with
  | array _ n e css hu hl hn =>
    rw [u28] at hu; cases hu
    obtain ⟨l, rfl⟩ := shpL_map (f := fun n : Int => [U.int .i64 n]) hl fun cs hcs => shp_int hcs
    rw [List.length_map] at hn
    match l, hn with
    | [a, b], _ => exact ⟨a, b, rfl⟩
  | int _ k n hu _ => rw [u28] at hu; cases hu
  | bool _ _ hu => rw [u28] at hu; cases hu
  | str _ _ hu => rw [u28] at hu; cases hu
  | slice _ _ _ hu => rw [u28] at hu; cases hu
  | struct _ _ _ hu => rw [u28] at hu; cases hu
def unN (n : Int) : Int := if n = 31 then 0 else n
def unE (n : Int) : Int := if n = 31 then 4 else 0
noncomputable def b55 : Code := (Try.f55.body).getD .skip
theorem body55 : bodyOf Try.prog 55 = some (7, b55, [.tmp 2, .tmp 3]) := by kernel_rfl
theorem pure55 : pureFn Try.prog 55 = true := by kernel_rfl
theorem ret55 (hi : Off is) (n : Int) : RetP Try.prog is orc 55 [.int .i64 n] (.tup [.int .i64 (unN n), .int .i64 (unE n)]) := by
  refine ret_of body55 pure55 (hi 55 (by decide)) rfl rfl (dat_l1 (.int _ _ _)) (.inr ⟨_, rfl, dat_l2 (.int _ _ _) (.int _ _ _)⟩) ?_
  refine k_seq (k_region ?_)
  refine o_assign rfl ?_
  refine o_assign rfl ?_
  refine o_nil ?_
  refine k_seq ?_
  refine k_seq (k_region ?_)
  refine o_move rfl ?_
  refine o_eql rfl rfl rfl ?_
  refine o_nil ?_
  refine k_cond rfl (fun h1 => ?_) (fun h1 => ?_)
  · have h1 : n = 31 := of_decide_eq_true h1
    refine k_seq (k_region ?_)
    refine o_assign rfl ?_
    refine o_assign rfl ?_
    refine o_nil ?_
    refine k_ret ?_
    refine ⟨.inr rfl, _, .cons _ _ _ _ (.tmp 2) (.cons _ _ _ _ (.tmp 3) .nil), ?_⟩
    rw [show unN n = 0 from if_pos h1, show unE n = 4 from if_pos h1]; exact .refl _
  · have h1 : ¬ n = 31 := of_decide_eq_false h1
    refine k_skip ?_
    refine k_seq (k_region ?_)
    refine o_move rfl ?_
    refine o_assign rfl ?_
    refine o_assign rfl ?_
    refine o_nil ?_
    refine k_ret ?_
    refine ⟨.inr rfl, _, .cons _ _ _ _ (.tmp 2) (.cons _ _ _ _ (.tmp 3) .nil), ?_⟩
    rw [show unN n = n from if_neg h1, show unE n = 0 from if_neg h1]; exact .refl _
def hkL (s : Shop) (k : Tri) (j : Nat) : List Int := (List.range j).map fun j : Nat => (cho s true (k.a + j) k.c).2
def strokeR (s : Shop) (k : Tri) : Int := cntL true (hkL s k (widM k))
theorem hk_succ (s : Shop) (k : Tri) (j : Nat) : hkL s k (j + 1) = hkL s k j ++ [(cho s true (k.a + j) k.c).2] := by
  unfold hkL
  rw [List.range_succ, List.map_append]; rfl
theorem hk_len (s : Shop) (k : Tri) (j : Nat) : (hkL s k j).length = j := by unfold hkL; simp
abbrev shopB (s : Shop) (c wv kn fi ch : Nat) (B2 : List U) : List U := [.lst .ro 3 (trisU s.tools), .int .i64 s.flo, .int .i64 s.fhi, .lst .ro 3 (trisU s.keys), .fn 82 [] [.box fi 0, .box kn 0, .box c 0, .box ch 0, .box wv 0], .fn 82 [] B2]
theorem Sr.lt {s : Shop} {w : Bool} {L c wv mp kn fi ch : Nat} {X : List (U × U) → List SB} (h : Sr s w L c wv mp kn fi ch X) : c < L ∧ wv < L ∧ kn < L ∧ fi < L ∧ ch < L := by
  have g : ∀ {i : Nat} {x : SB}, (X [])[i]? = some x → i < L := fun hi => by rw [← h.len []]; exact (List.getElem?_eq_some_iff.1 hi).1
  exact ⟨g (h.hc []), g (h.hw []), g (h.hk []), g (h.hf []), g (h.hh [])⟩
theorem bd_shopB {s : Shop} {w : Bool} {L c wv mp kn fi ch : Nat} {X : List (U × U) → List SB} (h : Sr s w L c wv mp kn fi ch X) {B2 : List U} (hf2 : Bd L (.fn 82 [] B2)) {k : Nat} (hk : L ≤ k) : BdS k (.box (shopB s c wv kn fi ch B2)) := by
  obtain ⟨l1, l2, l3, l4, l5⟩ := h.lt
  intro u hu
  simp only [List.mem_cons, List.not_mem_nil, or_false] at hu
  rcases hu with rfl | rfl | rfl | rfl | rfl | rfl
  · exact (dat_tris _ _ (fun h => by cases h) 0).nb.bd k
  · exact (NB.int _ _).bd k
  · exact (NB.int _ _).bd k
  · exact (dat_tris _ _ (fun h => by cases h) 0).nb.bd k
  · refine Bd.fn (fun u hu => by cases hu) fun u hu => ?_
    simp only [List.mem_cons, List.not_mem_nil, or_false] at hu
    rcases hu with rfl | rfl | rfl | rfl | rfl <;> exact Bd.box (by omega)
  · exact Bd.mono hf2 hk
noncomputable def b60 : Code := (Try.f60.body).getD .skip
theorem body60 : bodyOf Try.prog 60 = some (37, b60, [.tmp 4]) := by kernel_rfl
theorem pure60 : pureFn Try.prog 60 = false := by kernel_rfl
set_option maxHeartbeats 8000000 in
theorem wpc60 (hi : Off is) {s : Shop} (hk : SOk s) {L c wv mp kn fi ch : Nat} {X : List (U × U) → List SB} (h : Sr s true L c wv mp kn fi ch X) {B2 : List U} (hf2 : Bd L (.fn 82 [] B2)) (es : List (U × U)) (e : List SB) (he : Memo s true es) (hbh : Bh L e) {key : Nat} {k : Tri} (hkey : s.keys[key]? = some k) :
    WpC Try.prog is orc 60 [.agg (shopB s c wv kn fi ch B2), .int .i64 key] (X es ++ e) fun u st' => u = .int .i64 (strokeR s k) ∧ ∃ es', Memo s true es' ∧ st' = X es' ++ e := by
  have hb := hk.keys k (List.mem_of_getElem? hkey)
  obtain ⟨n, hn⟩ : ∃ n, L + e.length = n := ⟨_, rfl⟩
  have hlen : ∀ es', (X es' ++ e).length = n := fun es' => by rw [List.length_append, h.len, hn]
  have hlk : ∀ (es' : List (U × U)) (l : List SB) (i : Nat), (X es' ++ (e ++ l))[n + i]? = l[i]? := fun es' l i => by rw [← List.append_assoc, List.getElem?_append_right (by rw [hlen]; omega), hlen, Nat.add_sub_cancel_left]
  have hbd : ∀ (es' : List (U × U)), Memo s true es' → ∀ x ∈ X es' ++ e, BdS n x := fun es' he' x hx => by
    rcases List.mem_append.1 hx with hx | hx
    · exact BdS.mono (h.bd es' he' x hx) (by omega)
    · exact BdS.mono (hbh x hx) (by omega)
  have hbh2 : Bh L (e ++ [SB.box (shopB s c wv kn fi ch B2), SB.box [.int .i64 k.a, .int .i64 k.b, .int .i64 k.c]]) := fun x hx => by
    rcases List.mem_append.1 hx with hx | hx
    · exact BdS.mono (hbh x hx) (by rw [List.length_append]; omega)
    · simp only [List.mem_cons, List.not_mem_nil, or_false] at hx
      rcases hx with rfl | rfl
      · exact bd_shopB h hf2 (by omega)
      · exact fun u hu => (nb_three _ _ _ u hu).bd _
  refine wpc_cut body60 pure60 rfl rfl ?_
  refine k_seq (k_region ?_)
  refine o_box rfl rfl ?_
  refine o_assign rfl ?_
  refine o_nil ?_
  refine k_gen [(1, .int .i64 key), (2, .box (n + 0) 0), (4, .int .i64 0)] (X es ++ (e ++ [.box (shopB s c wv kn fi ch B2)])) (.cons rfl (.cons (by show U.box (X es ++ e).length 0 = _; rw [hlen]; rfl) (.cons rfl (.nil rfl)))) (by show (X es ++ e) ++ [_] = _; rw [List.append_assoc]; rfl) fun fr => ?_
  refine k_seq (k_region ?_)
  refine o_faddr rfl rfl fld73_0 ?_
  refine o_faddr rfl rfl fld27_2 ?_
  refine o_load1 rfl rfl (cs := shopB s c wv kn fi ch B2) (hlk _ _ 0) sh25 rfl ?_
  refine o_move rfl ?_
  refine o_idx (u := k.u) rfl ty25 rfl rfl (Int.natCast_nonneg key) (by simp [hkey]) cl64 ?_
  refine o_loadRN rfl rfl sh64 rfl ?_
  refine o_alloc rfl ze64 ?_
  refine o_storeN rfl (at_new _ _) sh64 rfl rfl rfl rfl rfl ?_
  refine o_nil ?_
  refine k_gen [(2, .box (n + 0) 0), (4, .int .i64 0), (5, .box (n + 1) 0)] (X es ++ (e ++ [.box (shopB s c wv kn fi ch B2), .box [.int .i64 k.a, .int .i64 k.b, .int .i64 k.c]])) (.cons rfl (.cons rfl (.cons (by show U.box (X es ++ (e ++ [_])).length 0 = _; rw [← List.append_assoc, List.length_append, hlen]; rfl) (.nil rfl)))) (by
    show ((X es ++ (e ++ [_])) ++ [SB.box _]).set (X es ++ (e ++ [_])).length (SB.box _) = _
    rw [set_end, List.append_assoc, List.append_assoc]; rfl) fun fr => ?_
  refine k_seq (k_region ?_)
  refine o_assignN 1 rfl (fun _ => rfl) ?_
  refine o_nil ?_
  refine k_seq ?_
  refine k_seq (k_region ?_)
  refine o_faddr rfl rfl fld64_0 ?_
  refine o_faddr rfl rfl fld24_0 ?_
  refine o_load1 rfl rfl (hlk _ _ 1) sh3 rfl ?_
  refine o_assign rfl ?_
  refine o_nil ?_
  refine k_block ?_
  refine k_loop (fun kk st => ∃ (j : Nat) (es' : List (U × U)), kk + j = widM k ∧ Memo s true es' ∧ st.st = X es' ++ (e ++ [.box (shopB s c wv kn fi ch B2), .box [.int .i64 k.a, .int .i64 k.b, .int .i64 k.c]]) ∧ Holds st [(2, .box (n + 0) 0), (4, .int .i64 0), (5, .box (n + 1) 0), (6, .lst .own 1 (intsU (hkL s k j))), (7, .int .i64 (k.a + j))]) (fun kk st hI => ?_) (widM k) _ ?_
  · obtain ⟨j, es1, hkj, he1, hst, hs⟩ := hI
    have hjl := hk_len s k j
    refine k_gen _ _ hs hst fun fr => ?_
    refine k_seq ?_
    refine k_seq (k_region ?_)
    refine o_move rfl ?_
    refine o_faddr rfl rfl fld64_0 ?_
    refine o_faddr rfl rfl fld24_1 ?_
    refine o_load1 rfl rfl (hlk _ _ 1) sh3 rfl ?_
    refine o_leq rfl rfl rfl ?_
    refine o_nil ?_
    refine k_cond rfl (fun h1 => ?_) (fun h1 => ?_)
    · have h1' : k.a + (j : Int) ≤ k.b := of_decide_eq_true h1
      have hkk : 0 < kk ∧ j < 121 := by unfold widM at hkj; omega
      refine k_skip ?_
      refine k_seq ?_
      refine k_block ?_
      refine k_region ?_
      refine o_move rfl ?_
      refine o_faddr rfl rfl fld73_1 ?_
      refine o_load1 rfl rfl (cs := shopB s c wv kn fi ch B2) (hlk _ _ 0) sh71 rfl ?_
      refine o_move rfl ?_
      refine o_faddr rfl rfl fld64_1 ?_
      refine o_load1 rfl rfl (hlk _ _ 1) sh3 rfl ?_
      refine o_build (cs := [.int .i64 (k.a + j), .int .i64 k.c]) rfl ze80 pl80 rfl rfl ?_
      refine o_callVK rfl rfl (wpc82 (orc := orc) hi hk h 31 k.c (k.a + j) (by omega) (by omega) (by omega) es1 _ he1 hbh2) (.lrefl _) (fun u st1 hM => ?_)
      obtain ⟨rfl, es2, he2, rfl⟩ := hM
      refine o_field1 rfl rfl fld78_1 sh3 rfl ?_
      refine o_lit (es := [.int .i64 (cho s true (k.a + j) k.c).2]) rfl ty112 ze3 cl3 rfl rfl rfl rfl rfl rfl rfl rfl ?_
      refine o_appendS 6 rfl ap112_112 rfl rfl rfl (by simp) (by simp) (by simp [flatU, cellsU, oneU]) (by simp only [List.length_map, hjl, List.length_cons, List.length_nil]; omega) ?_
      refine o_assign rfl ?_
      refine o_nil ?_
      refine k_region ?_
      refine o_move rfl ?_
      refine o_add rfl rfl rfl (by unfold I64; omega) ?_
      refine o_assign rfl ?_
      refine o_nil ?_
      have hl1 : intsU (hkL s k j) ++ [.int .i64 (cho s true (k.a + j) k.c).2] = intsU (hkL s k (j + 1)) := by rw [hk_succ]; simp
      exact ⟨kk - 1, by omega, j + 1, es2, by omega, he2, rfl, .cons rfl (.cons rfl (.cons rfl (.cons (congrArg (U.lst .own 1) hl1) (.cons (congrArg (U.int .i64) (by omega)) (.nil rfl)))))⟩
    · have h1' : ¬ k.a + (j : Int) ≤ k.b := of_decide_eq_false h1
      have hjw : j = widM k := by unfold widM at hkj ⊢; omega
      refine k_exit ?_
      refine k_seq (k_region ?_)
      refine o_move rfl ?_
      refine o_call rfl (ret74 hi (hkL s k j) (by rw [hjl, hjw]; unfold widM; omega)) (.lrefl _) ?_
      refine o_assign rfl ?_
      refine o_nil ?_
      refine k_ret ?_
      have et : (X es1 ++ (e ++ [SB.box (shopB s c wv kn fi ch B2), SB.box [.int .i64 k.a, .int .i64 k.b, .int .i64 k.c]])).take (X es ++ e).length = X es1 ++ e := by
        rw [← List.append_assoc]; exact List.take_left' (by rw [hlen, hlen])
      refine ⟨.inr rfl, _, .cons _ _ _ _ (.tmp 4) .nil, _, .refl _, Bd.int _ _ _, ?_, ?_, ?_⟩
      · show (X es ++ e).length ≤ (X es1 ++ (e ++ _)).length
        rw [hlen, ← List.append_assoc, List.length_append, hlen]; omega
      · show ∀ x ∈ (X es1 ++ (e ++ _)).take (X es ++ e).length, BdS (X es ++ e).length x
        rw [et, hlen]; exact hbd es1 he1
      · show U.int .i64 _ = _ ∧ _
        refine ⟨?_, es1, he1, et⟩
        unfold strokeR; rw [← hjw]; rfl
  · exact ⟨0, es, by omega, he, rfl, .cons rfl (.cons rfl (.cons rfl (.cons rfl (.cons (congrArg (U.int .i64) (by simp)) (.nil rfl)))))⟩
def lsB (f : Nat → Bool) (n : Nat) : List Int := ((List.range n).filter f).map fun i : Nat => (i : Int)
theorem ls_len (f : Nat → Bool) (n : Nat) : (lsB f n).length ≤ n := by
  unfold lsB
  rw [List.length_map]
  exact Nat.le_trans (List.length_filter_le _ _) (by simp)
theorem ls_in {f : Nat → Bool} {n : Nat} (h : f n = true) : lsB f (n + 1) = lsB f n ++ [(n : Int)] := by
  unfold lsB
  rw [List.range_succ, List.filter_append, List.map_append]; simp [h]
theorem ls_out {f : Nat → Bool} {n : Nat} (h : f n = false) : lsB f (n + 1) = lsB f n := by
  unfold lsB
  rw [List.range_succ, List.filter_append, List.map_append]; simp [h]
theorem hk_iff {s : Shop} {k : Tri} {x : Int} : x ∈ hkL s k (widM k) ↔ ∃ o, k.a ≤ o ∧ o ≤ k.b ∧ (cho s true o k.c).2 = x := by
  unfold hkL
  rw [List.mem_map]
  constructor
  · rintro ⟨j, hj, rfl⟩
    have := List.mem_range.1 hj
    exact ⟨k.a + j, by omega, by unfold widM at this; omega, rfl⟩
  · rintro ⟨d, h1, h2, rfl⟩
    refine ⟨(d - k.a).toNat, List.mem_range.2 (by unfold widM; omega), ?_⟩
    rw [show k.a + (((d - k.a).toNat : Nat) : Int) = d by omega]
end Go.Proofs.Ytdahbimllmapkaa.raspPlayed
