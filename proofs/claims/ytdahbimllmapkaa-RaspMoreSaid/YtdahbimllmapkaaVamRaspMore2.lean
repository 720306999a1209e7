/- rasp's functions and the law's, by the logic of trees: what each gives back for all that it may be given. -/
import Derived.Test.YtdahbimllmapkaaVamRaspMore1
namespace Go.Proofs.Ytdahbimllmapkaa.raspMore
open Vam
set_option linter.unusedVariables false
set_option linter.unusedSimpArgs false
set_option linter.constructorNameAsVariable false
variable {is : FuncId → Bool} {orc : Known}
theorem ret14a (hi : Off is) {s : Shop} (hk : SOk s) {off metal c1 c2 : Int} (ho : offB off = true) (hm : metB metal = true) (hc : cho s true off metal = (c1, c2)) (h31 : c2 ≠ 31) : RetP Try.prog is orc 14 [s.u, .int .i64 off, .int .i64 metal] (.tup [.int .i64 c1, .int .i64 c2, .int .i64 0]) := by
  have := ret14 (orc := orc) hi hk (by have := chk (orc := orc) hi s; rwa [chk_ok hk] at this) ho hm
  rw [hc] at this
  rwa [show nextU (c1, c2) = .tup [.int .i64 c1, .int .i64 c2, .int .i64 0] from if_neg h31] at this
theorem ret14z (hi : Off is) {s : Shop} (hk : SOk s) {off metal : Int} (ho : offB off = true) (hm : metB metal = true) (hc : (cho s true off metal).2 = 31) : RetP Try.prog is orc 14 [s.u, .int .i64 off, .int .i64 metal] (.tup [.int .i64 0, .int .i64 0, .int .i64 4]) := by
  have := ret14 (orc := orc) hi hk (by have := chk (orc := orc) hi s; rwa [chk_ok hk] at this) ho hm
  rwa [show nextU (cho s true off metal) = .tup [.int .i64 0, .int .i64 0, .int .i64 4] from if_pos hc] at this
theorem st_off (a : Int) : offB (a % 121 - 60) = true := by
  have p1 := Int.emod_nonneg a (show (121 : Int) ≠ 0 by omega)
  have p2 := Int.emod_lt_of_pos a (show (0 : Int) < 121 by omega)
  unfold offB; simp; omega
theorem st_met (b : Int) : metB (b % 31) = true := by
  have p1 := Int.emod_nonneg b (show (31 : Int) ≠ 0 by omega)
  have p2 := Int.emod_lt_of_pos b (show (0 : Int) < 31 by omega)
  unfold metB; simp; omega
theorem sh28 : shOf Try.prog 28 = .many 2 := by kernel_rfl
theorem und_struct {P : Program} {t : TypeId} (n : Nat) (h : (match P.underlying t with | some (.struct fs) => Nat.beq fs.size n | _ => false) = true) : ∃ fs, P.underlying t = some (.struct fs) := by
  cases hu : P.underlying t with
  | none => rw [hu] at h; cases h
  | some ty => rw [hu] at h; cases ty <;> first | exact ⟨_, rfl⟩ | cases h
theorem u3 : Try.prog.underlying 3 = some (.int .i64) := by kernel_rfl
theorem u22 : Try.prog.underlying 22 = some (.slice 52) := by kernel_rfl
theorem u25 : Try.prog.underlying 25 = some (.slice 64) := by kernel_rfl
def fts (P : Program) (t : TypeId) : List TypeId := match P.underlying t with | some (.struct fs) => fs.toList.map (·.type) | _ => []
theorem f27 : fts Try.prog 27 = [22, 24, 25] := by kernel_rfl
theorem f24 : fts Try.prog 24 = [3, 3] := by kernel_rfl
theorem f52 : fts Try.prog 52 = [24, 3] := by kernel_rfl
theorem f64 : fts Try.prog 64 = [24, 3] := by kernel_rfl
theorem shp_int {cs : List U} (h : Shp Try.prog 3 cs) : ∃ n : Int, cs = [.int .i64 n] := by
  cases h with
  | int _ k n hu _ => rw [u3] at hu; cases hu; exact ⟨n, rfl⟩
  | bool _ _ hu => rw [u3] at hu; cases hu
  | str _ _ hu => rw [u3] at hu; cases hu
  | slice _ _ _ hu => rw [u3] at hu; cases hu
  | struct _ _ _ hu => rw [u3] at hu; cases hu
  | array _ _ _ _ hu => rw [u3] at hu; cases hu
theorem shp_fields {P : Program} {t : TypeId} {cs : List U} (h : Shp P t cs) (hne : fts P t ≠ []) : ∃ fs : List Field, fs.map (·.type) = fts P t ∧ ShpF P fs cs := by
  have no : ∀ {ty}, P.underlying t = some ty → (∀ fs, ty ≠ .struct fs) → False := fun hu hn => hne (by unfold fts; rw [hu]; split <;> simp_all)
  cases h with
  | struct _ fs _ hu hf => exact ⟨fs.toList, by unfold fts; rw [hu], hf⟩
  | int _ k n hu _ => exact (no hu (by intro fs h; cases h)).elim
  | bool _ _ hu => exact (no hu (by intro fs h; cases h)).elim
  | str _ _ hu => exact (no hu (by intro fs h; cases h)).elim
  | slice _ _ _ hu => exact (no hu (by intro fs h; cases h)).elim
  | array _ _ _ _ hu => exact (no hu (by intro fs h; cases h)).elim
theorem shpF_cons {P : Program} {fs : List Field} {t : TypeId} {ts : List TypeId} {cs : List U} (h : ShpF P fs cs) (e : fs.map (·.type) = t :: ts) : ∃ gs xs ys, cs = xs ++ ys ∧ Shp P t xs ∧ ShpF P gs ys ∧ gs.map (·.type) = ts := by
  cases h with
  | nil => cases e
  | cons f fs xs ys h1 h2 =>
    simp only [List.map_cons, List.cons.injEq] at e
    obtain ⟨rfl, rfl⟩ := e
    exact ⟨fs, xs, ys, rfl, h1, h2, rfl⟩
theorem shpF_nil {P : Program} {fs : List Field} {cs : List U} (h : ShpF P fs cs) (e : fs.map (·.type) = []) : cs = [] := by
  cases h with
  | nil => rfl
  | cons => cases e
theorem shp_span {cs : List U} (h : Shp Try.prog 24 cs) : ∃ a b : Int, cs = [.int .i64 a, .int .i64 b] := by
  obtain ⟨fs, e, hf⟩ := shp_fields h (by rw [f24]; simp)
  rw [f24] at e
  obtain ⟨g1, a1, b1, rfl, k1, r1, e1⟩ := shpF_cons hf e
  obtain ⟨g2, a2, b2, rfl, k2, r2, e2⟩ := shpF_cons r1 e1
  obtain rfl := shpF_nil r2 e2
  obtain ⟨x, rfl⟩ := shp_int k1
  obtain ⟨y, rfl⟩ := shp_int k2
  exact ⟨x, y, rfl⟩
theorem shp_tri {t : TypeId} (hft : fts Try.prog t = [24, 3]) {cs : List U} (h : Shp Try.prog t cs) : ∃ q : Tri, cs = [.int .i64 q.a, .int .i64 q.b, .int .i64 q.c] := by
  obtain ⟨fs, e, hf⟩ := shp_fields h (by rw [hft]; simp)
  rw [hft] at e
  obtain ⟨g1, a1, b1, rfl, k1, r1, e1⟩ := shpF_cons hf e
  obtain ⟨g2, a2, b2, rfl, k2, r2, e2⟩ := shpF_cons r1 e1
  obtain rfl := shpF_nil r2 e2
  obtain ⟨x, y, rfl⟩ := shp_span k1
  obtain ⟨z, rfl⟩ := shp_int k2
  exact ⟨⟨x, y, z⟩, rfl⟩
theorem shpL_map {P : Program} {e : TypeId} {α : Type} {f : α → List U} {css : List (List U)} (h : ShpL P e css) (k : ∀ cs, Shp P e cs → ∃ q, cs = f q) : ∃ l : List α, css = l.map f := by
  induction css with
  | nil => exact ⟨[], rfl⟩
  | cons cs css ih =>
    cases h with
    | cons _ _ _ h1 h2 =>
      obtain ⟨q, rfl⟩ := k _ h1
      obtain ⟨l, rfl⟩ := ih h2
      exact ⟨q :: l, rfl⟩
theorem shp_slice {P : Program} {t e : TypeId} {cs : List U} (hu : P.underlying t = some (.slice e)) (h : Shp P t cs) : ∃ css, ShpL P e css ∧ cs = [.lst .ro (P.cellsOf e) (css.map (eU P e))] := by
  cases h with
  | slice _ e' css hu' hl => rw [hu] at hu'; cases hu'; exact ⟨css, hl, rfl⟩
  | int _ k n hu' _ => rw [hu] at hu'; cases hu'
  | bool _ _ hu' => rw [hu] at hu'; cases hu'
  | str _ _ hu' => rw [hu] at hu'; cases hu'
  | struct _ _ _ hu' => rw [hu] at hu'; cases hu'
  | array _ _ _ _ hu' => rw [hu] at hu'; cases hu'
theorem eu52 : ∀ cs, eU Try.prog 52 cs = .agg cs := by
  obtain ⟨fs, h⟩ := und_struct (P := Try.prog) (t := 52) 2 (by kernel_rfl)
  intro cs; unfold eU; rw [h]
theorem eu64 : ∀ cs, eU Try.prog 64 cs = .agg cs := by
  obtain ⟨fs, h⟩ := und_struct (P := Try.prog) (t := 64) 2 (by kernel_rfl)
  intro cs; unfold eU; rw [h]
theorem map_tris {F : List U → U} (he : ∀ cs, F cs = .agg cs) (l : List Tri) : (l.map fun q : Tri => [U.int .i64 q.a, .int .i64 q.b, .int .i64 q.c]).map F = trisU l := by
  rw [List.map_map]
  exact List.map_congr_left fun q _ => he _
theorem shp_tris {t e : TypeId} (hu : Try.prog.underlying t = some (.slice e)) (hc : Program.cellsOf Try.prog e = 3) (hft : fts Try.prog e = [24, 3]) (he : ∀ cs, eU Try.prog e cs = .agg cs) {cs : List U} (h : Shp Try.prog t cs) : ∃ l : List Tri, cs = [.lst .ro 3 (trisU l)] := by
  obtain ⟨css, hl, rfl⟩ := shp_slice hu h
  obtain ⟨l, rfl⟩ := shpL_map (f := fun q : Tri => [.int .i64 q.a, .int .i64 q.b, .int .i64 q.c]) hl fun cs hcs => shp_tri hft hcs
  refine ⟨l, ?_⟩
  rw [hc, map_tris he]
theorem shp_shop {cs : List U} (h : Shp Try.prog 27 cs) : ∃ s : Shop, cs = s.cs := by
  obtain ⟨fs, e, hf⟩ := shp_fields h (by rw [f27]; simp)
  rw [f27] at e
  obtain ⟨g1, a1, b1, rfl, k1, r1, e1⟩ := shpF_cons hf e
  obtain ⟨g2, a2, b2, rfl, k2, r2, e2⟩ := shpF_cons r1 e1
  obtain ⟨g3, a3, b3, rfl, k3, r3, e3⟩ := shpF_cons r2 e2
  obtain rfl := shpF_nil r3 e3
  obtain ⟨t, rfl⟩ := shp_tris u22 cl52 f52 eu52 k1
  obtain ⟨lo, hi, rfl⟩ := shp_span k2
  obtain ⟨k, rfl⟩ := shp_tris u25 cl64 f64 eu64 k3
  exact ⟨⟨t, lo, hi, k⟩, rfl⟩
theorem u28 : Try.prog.underlying 28 = some (.array 2 3) := by kernel_rfl
theorem shp_two {cs : List U} (h : Shp Try.prog 28 cs) : ∃ a b : Int, cs = [.int .i64 a, .int .i64 b] := by
  cases h with
  | array _ n e css hu hl hn =>
    rw [u28] at hu; cases hu
    obtain ⟨l, rfl⟩ := shpL_map (f := fun n : Int => [U.int .i64 n]) hl fun cs hcs => shp_int hcs
    rw [List.length_map] at hn
    match l, hn with
    | [a, b], _ => exact ⟨a, b, rfl⟩
  | int _ k n hu _ => rw [u28] at hu; cases hu
  | bool _ _ hu => rw [u28] at hu; cases hu
  | str _ _ hu => rw [u28] at hu; cases hu
  | slice _ _ _ hu => rw [u28] at hu; cases hu
  | struct _ _ _ hu => rw [u28] at hu; cases hu
def nxt (c : Int × Int) : Int := if c.2 = 31 then 0 else c.1
def nxn (c : Int × Int) : Int := if c.2 = 31 then 0 else c.2
def nxe (c : Int × Int) : Int := if c.2 = 31 then 4 else 0
theorem ret14g (hi : Off is) {s : Shop} (hk : SOk s) {off metal : Int} (ho : offB off = true) (hm : metB metal = true) : RetP Try.prog is orc 14 [s.u, .int .i64 off, .int .i64 metal] (.tup [.int .i64 (nxt (cho s true off metal)), .int .i64 (nxn (cho s true off metal)), .int .i64 (nxe (cho s true off metal))]) := by
  unfold nxt nxn nxe
  by_cases h : (cho s true off metal).2 = 31
  · rw [if_pos h, if_pos h, if_pos h]; exact ret14z hi hk ho hm h
  · rw [if_neg h, if_neg h, if_neg h]; exact ret14a hi hk ho hm rfl h
abbrev lkX (s : Shop) (es : List (U × U)) : List SB := ([.box s.cs] ++ ([.box s.cs, .box (shopC s 7 13)] ++ new68 s 3 [] es)) ++ [.box (shopC s 7 13)]
theorem bd_lk (s : Shop) {es : List (U × U)} (he : Memo s false es) : ∀ x ∈ lkX s es, BdS 20 x := by
  intro x hx
  simp only [lkX, new68, List.mem_append] at hx
  rcases hx with ((hx | (hx | (hx | (hx | hx)))) | hx)
  · rcases List.mem_singleton.1 hx with rfl; exact bd_cs _ _
  · simp only [List.mem_cons, List.not_mem_nil, or_false] at hx
    rcases hx with rfl | rfl
    · exact bd_cs _ _
    · exact bd_shopC s (by decide) (by decide)
  · simp only [List.mem_cons, List.not_mem_nil, or_false] at hx
    rcases hx with rfl | rfl | rfl | rfl
    · exact bd_cs _ _
    · exact bd_shopC s (by decide) (by decide)
    · exact bd_shopC s (by decide) (by decide)
    · exact fun c hc => (nb_ways c hc).bd _
  · exact bd_six s true false (by decide) (Memo.nil _ _) x hx
  · exact bd_six s false false (by decide) he x hx
  · rcases List.mem_singleton.1 hx with rfl; exact bd_shopC s (by decide) (by decide)
theorem sr_lk (s : Shop) : Sr s false 20 13 14 15 16 17 18 (lkX s) := ⟨fun _ => rfl, fun _ he => bd_lk s he, fun _ => rfl, fun _ => rfl, fun _ => rfl, fun _ => rfl, fun _ => rfl, fun _ => rfl, fun _ _ => rfl, by decide⟩
def unN (n : Int) : Int := if n = 31 then 0 else n
def unE (n : Int) : Int := if n = 31 then 4 else 0
noncomputable def b55 : Code := (Try.f55.body).getD .skip
theorem body55 : bodyOf Try.prog 55 = some (7, b55, [.tmp 2, .tmp 3]) := by kernel_rfl
theorem pure55 : pureFn Try.prog 55 = true := by kernel_rfl
theorem ret55 (hi : Off is) (n : Int) : RetP Try.prog is orc 55 [.int .i64 n] (.tup [.int .i64 (unN n), .int .i64 (unE n)]) := by
  refine ret_of body55 pure55 (hi 55 (by decide)) rfl rfl (dat_l1 (.int _ _ _)) (.inr ⟨_, rfl, dat_l2 (.int _ _ _) (.int _ _ _)⟩) ?_
  refine k_seq (k_region ?_)
  refine o_assign rfl ?_
  refine o_assign rfl ?_
  refine o_nil ?_
  refine k_seq ?_
  refine k_seq (k_region ?_)
  refine o_move rfl ?_
  refine o_eql rfl rfl rfl ?_
  refine o_nil ?_
  refine k_cond rfl (fun h1 => ?_) (fun h1 => ?_)
  · have h1 : n = 31 := of_decide_eq_true h1
    refine k_seq (k_region ?_)
    refine o_assign rfl ?_
    refine o_assign rfl ?_
    refine o_nil ?_
    refine k_ret ?_
    refine ⟨.inr rfl, _, .cons _ _ _ _ (.tmp 2) (.cons _ _ _ _ (.tmp 3) .nil), ?_⟩
    rw [show unN n = 0 from if_pos h1, show unE n = 4 from if_pos h1]; exact .refl _
  · have h1 : ¬ n = 31 := of_decide_eq_false h1
    refine k_skip ?_
    refine k_seq (k_region ?_)
    refine o_move rfl ?_
    refine o_assign rfl ?_
    refine o_assign rfl ?_
    refine o_nil ?_
    refine k_ret ?_
    refine ⟨.inr rfl, _, .cons _ _ _ _ (.tmp 2) (.cons _ _ _ _ (.tmp 3) .nil), ?_⟩
    rw [show unN n = n from if_neg h1, show unE n = 0 from if_neg h1]; exact .refl _
noncomputable def b18 : Code := (Try.f18.body).getD .skip
theorem body18 : bodyOf Try.prog 18 = some (34, b18, [.tmp 6, .tmp 7]) := by kernel_rfl
theorem pure18 : pureFn Try.prog 18 = true := by kernel_rfl
set_option maxHeartbeats 4000000 in
theorem ret18 (hi : Off is) {s : Shop} (hk : SOk s) {off metal : Int} (ho : offB off = true) (hm : metB metal = true) : RetP Try.prog is orc 18 [s.u, .int .i64 off, .int .i64 metal] (.tup [.int .i64 (unN (cho s false off metal).2), .int .i64 (unE (cho s false off metal).2)]) := by
  have hm' : 0 ≤ metal ∧ metal ≤ 30 := by unfold metB at hm; simpa using hm
  have hck : RetP Try.prog is orc 16 [s.u] (.int .i64 0) := by have := chk (orc := orc) hi s; rwa [chk_ok hk] at this
  have h47 : RetP Try.prog is orc 47 [.int .i64 off] (.bool true) := by
    have := ret47 (orc := orc) hi off
    rwa [show (decide (-60 ≤ off) && decide (off ≤ 60)) = true from ho] at this
  have h48 : RetP Try.prog is orc 48 [.int .i64 metal] (.bool true) := by
    have := ret48 (orc := orc) hi metal
    rwa [show (decide (0 ≤ metal) && decide (metal ≤ 30)) = true from hm] at this
  refine ret_of body18 pure18 (hi 18 (by decide)) rfl rfl (dat_next s off metal) (.inr ⟨_, rfl, dat_l2 (.int _ _ _) (.int _ _ _)⟩) ?_
  refine k_seq (k_region ?_)
  refine o_box rfl rfl ?_
  refine o_assign rfl ?_
  refine o_assign rfl ?_
  refine o_nil ?_
  refine k_seq ?_
  refine k_draw [.read true, .plain, .read false, .plain, .plain, .read false, .plain, .quiet, .plain, .plain, .plain, .pre, .plain, .plain] (by kernel_rfl) (by kernel_rfl) (by kernel_rfl) ?_
  refine d_load rfl (o_loadN rfl rfl rfl sh27 rfl (o_nil rfl)) ?_
  refine d_plain (o_move rfl (o_nil rfl)) ?_
  refine d_callR rfl h47 (.bool _) (.lrefl _) ?_
  refine d_plain (o_move rfl (o_nil rfl)) ?_
  refine d_guard rfl rfl rfl rfl (fun _ => ?_) (fun h => by cases h)
  refine d_plain (o_move rfl (o_nil rfl)) ?_
  refine d_guard rfl rfl rfl rfl (fun _ => ?_) (fun h => by cases h)
  refine d_callR rfl h48 (.bool _) (.lrefl _) ?_
  refine d_plain (o_pickT rfl rfl rfl (o_nil rfl)) ?_
  refine d_callQW (n := 1) (args := [s.u, .bool true]) (M := fun u new => u = .tup [.agg (shopC s 7 13), .int .i64 0] ∧ new = [.box s.cs, .box (shopC s 7 13)] ++ new68 s 3 [] []) rfl rfl (fun u hu => by
    simp only [List.mem_cons, List.not_mem_nil, or_false] at hu
    rcases hu with rfl | rfl
    · exact (dat_shop s 5).nb
    · exact NB.bool _) ((wpc46 hi s hck _).mono fun u st' hM => ?_) (.lrefl _) (fun u new hM => ?_)
  · obtain ⟨rfl, rfl⟩ := hM
    rw [List.length_replicate]
    refine ⟨[.box s.cs, .box (shopC s 7 13)] ++ new68 s 3 [] [], rfl, Fwd.tup fun c hc => ?_, fun x hx => ?_, rfl, rfl⟩
    · simp only [List.mem_cons, List.not_mem_nil, or_false] at hc
      rcases hc with rfl | rfl
      · exact Fwd.agg (fd_shopC s (by decide) (by decide))
      · exact (NB.int _ _).fwd _
    · rcases List.mem_append.1 hx with hx | hx
      · simp only [List.mem_cons, List.not_mem_nil, or_false] at hx
        rcases hx with rfl | rfl
        · exact fd_cs _ _
        · exact fd_shopC s (by decide) (by decide)
      · exact fd_new s (by decide) x hx
  · obtain ⟨rfl, rfl⟩ := hM
    refine d_plain (o_move rfl (o_nil rfl)) ?_
    refine d_plain (o_extract rfl rfl rfl (o_nil rfl)) ?_
    refine d_plain (o_extract rfl rfl rfl (o_nil rfl)) ?_
    refine d_pre rfl ze73 ?_
    refine d_plain (o_storeN rfl rfl sh73 rfl rfl rfl rfl rfl (o_nil rfl)) ?_
    refine d_plain (o_assign rfl (o_nil rfl)) ?_
    refine d_nil ?_
    refine k_gen [(1, .int .i64 off), (2, .int .i64 metal), (8, .box 19 0), (9, .int .i64 0)] (lkX s []) (.cons rfl (.cons rfl (.cons rfl (.cons rfl (.nil rfl))))) rfl fun fr => ?_
    refine k_seq ?_
    refine k_seq (k_region ?_)
    refine o_move rfl ?_
    refine o_neq rfl rfl rfl ?_
    refine o_nil ?_
    refine k_cond rfl (fun h1 => absurd h1 (by decide)) (fun _ => ?_)
    refine k_skip ?_
    refine k_seq (k_region ?_)
    refine o_faddr rfl rfl fld73_2 ?_
    refine o_load1 rfl rfl (cs := shopC s 7 13) rfl sh71 rfl ?_
    refine o_move rfl ?_
    refine o_move rfl ?_
    refine o_build (cs := [.int .i64 off, .int .i64 metal]) rfl ze80 pl80 rfl rfl ?_
    refine o_callV rfl rfl (by
      have := wpc82 (orc := orc) hi hk (sr_lk s) 31 metal off (by omega) hm'.1 hm'.2 [] [] (Memo.nil _ _) (fun x hx => by cases hx)
      rw [List.append_nil] at this
      exact this) (.lrefl _) (fun u st1 hM => ?_)
    obtain ⟨rfl, es, he, rfl⟩ := hM
    refine o_field1 rfl rfl fld78_1 sh3 rfl ?_
    refine o_call rfl (ret55 hi _) (.lrefl _) ?_
    refine o_extract rfl rfl rfl ?_
    refine o_extract rfl rfl rfl ?_
    refine o_assign rfl ?_
    refine o_assign rfl ?_
    refine o_nil ?_
    refine k_ret ?_
    refine ⟨.inr rfl, _, .cons _ _ _ _ (.tmp 6) (.cons _ _ _ _ (.tmp 7) .nil), ?_⟩
    exact .refl _
theorem hit_iff {rec : Int → Int → Int} {off metal : Int} {t : Tri} {x : Int} : x ∈ hitL rec off metal t (widM t) ↔ ∃ d, t.a ≤ d ∧ d ≤ t.b ∧ rec (off + d) (metal - t.c) = x := by
  unfold hitL
  rw [List.mem_map]
  constructor
  · rintro ⟨j, hj, rfl⟩
    have := List.mem_range.1 hj
    exact ⟨t.a + j, by omega, by unfold widM at this; omega, rfl⟩
  · rintro ⟨d, h1, h2, rfl⟩
    refine ⟨(d - t.a).toNat, List.mem_range.2 (by unfold widM; omega), ?_⟩
    rw [show t.a + (((d - t.a).toNat : Nat) : Int) = d by omega]
theorem foldmin_mem_le' (l : List Int) : ∀ (a x : Int), x ∈ l → l.foldl (fun a b => min a b) a ≤ x := by
  induction l with
  | nil => intro a x h; cases h
  | cons y l ih =>
    intro a x h
    show l.foldl _ (min a y) ≤ x
    rcases List.mem_cons.1 h with rfl | h
    · have := foldmin_le l (min a x); omega
    · exact ih _ _ h
noncomputable def b39 : Code := (Try.f39.body).getD .skip
theorem body39 : bodyOf Try.prog 39 = some (8, b39, [.cell 4 24]) := by kernel_rfl
theorem pure39 : pureFn Try.prog 39 = true := by kernel_rfl
set_option maxHeartbeats 4000000 in
theorem ret39 (hi : Off is) (a b : Int) : RetP Try.prog is orc 39 [.int .i64 a, .int .i64 b] (spanU a b) := by
  refine ret_of body39 pure39 (hi 39 (by decide)) rfl rfl (dat_l2 (.int _ _ _) (.int _ _ _)) (.inl (dat_span _ _ _)) ?_
  refine k_seq ?_
  refine k_region ?_   -- region 0 base.go:46
  refine o_alloc rfl ze24 ?_
  refine o_nil ?_
  refine k_seq ?_
  refine k_region ?_   -- region 1 base.go:46
  refine o_move rfl ?_
  refine o_move rfl ?_
  refine o_build rfl ze24 pl24 rfl rfl ?_
  refine o_storeN rfl rfl sh24 rfl rfl rfl rfl rfl ?_
  refine o_nil ?_
  refine k_ret ?_
  refine ⟨.inr rfl, _, .cons _ _ _ _ (.cellN 4 24 _ _ _ _ rfl rfl sh24 rfl) .nil, ?_⟩
  exact .refl _
theorem by52 : Program.bytesOf Try.prog 52 = 24 := by kernel_rfl
theorem ze27 : zeroL Try.prog 27 = some ((.cons .nils (.cons (.int .i64 0) (.cons (.int .i64 0) (.cons .nils .nil)))) : V) := by kernel_rfl
theorem ap22_22 : AppT Try.prog 22 22 52 3 24 ((.cons (.int .i64 0) (.cons (.int .i64 0) (.cons (.int .i64 0) .nil))) : V) := ⟨ty22, ⟨_, ty22⟩, cl52, by decide, by52, ze52, rfl⟩
end Go.Proofs.Ytdahbimllmapkaa.raspMore
