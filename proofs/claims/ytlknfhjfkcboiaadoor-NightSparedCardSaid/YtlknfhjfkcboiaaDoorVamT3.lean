import Derived.Test.YtlknfhjfkcboiaaDoorVamT2
set_option linter.unusedVariables false
set_option linter.unusedSimpArgs false
set_option linter.constructorNameAsVariable false
namespace Go.Proofs.YtlknfhjfkcboiaaDoor.night
open Vam
section
variable {is:FuncId→Bool}{orc:Known}
noncomputable def b29:Code:=(Tryd.f29.body).getD .skip
theorem body29:bodyOf Tryd.prog 29=some (153,b29,[.tmp 2]):=by kernel_rfl
theorem pure29:pureFn Tryd.prog 29=true:=by kernel_rfl
structure BOk(b:Bk):Prop where
 op:b.opens.length=3
 en:b.ends.length=3
 sn:1≤b.scenes.length∧b.scenes.length≤10
 ln:b.loads.length≤8
 pn:1≤b.shares.length∧b.shares.length≤12
 bg:0≤b.bg∧b.bg≤4000
 ops:∀x∈b.opens,0≤x∧x≤2000
 ens:∀x∈b.ends,0≤x∧x≤2000
 sc:∀(i:Nat) (q:Sc),b.scenes[i]? =some q→(prA b.scenes i≤q.part∧q.part≤2)∧(0≤q.wt∧q.wt≤100)∧0≤q.lo∧q.lo≤q.hi∧q.hi≤600
 fe:0≤b.fee∧b.fee≤100000
 co:0≤b.cost∧b.cost≤100000
 fs:0≤b.feast∧b.feast≤100000
 lo:∀x∈b.loads,1≤x∧x≤500
 ca:1≤b.cart∧b.cart≤500
 sh:∀x∈b.shares,1≤x∧x≤100
structure VOk(b:Bk):Prop extends BOk b where
 bg2:b.bg≤2000
theorem zFq{a b n:Int}:inS a b n=true↔a≤n∧n≤b:=by
 unfold inS
 rw[Bool.and_eq_true,decide_eq_true_eq,decide_eq_true_eq]
theorem sc_iff{p:Int}{q:Sc}:scB p q=true↔(p≤q.part∧q.part≤2)∧(0≤q.wt∧q.wt≤100)∧0≤q.lo∧q.lo≤q.hi∧q.hi≤600:=by
 unfold scB
 simp only[List.all_cons,List.all_nil,Bool.and_true,Bool.and_eq_true,decide_eq_true_eq,zFq]
 omega
theorem scs_iff{l:List Sc}:scsB 0 l=true↔ ∀(i:Nat) (q:Sc),l[i]? =some q→(prA l i≤q.part∧q.part≤2)∧(0≤q.wt∧q.wt≤100)∧0≤q.lo∧q.lo≤q.hi∧q.hi≤600:=by
 rw[scs_at]
 refine forall_congr' fun i=>forall_congr' fun q=>forall_congr' fun _=>?_
 rw[←sc_iff (p:=prA l i)]
 cases i with
 |zero=>exact Iff.rfl
 |succ i=>rw[if_neg (by omega)]
theorem zDd(b:Bk):zBF b=true↔VOk b:=by
 unfold zBF vlA vlB
 rw[Bool.and_eq_true,Bool.and_eq_true,Bool.and_eq_true,Bool.and_eq_true,Bool.and_eq_true,Bool.and_eq_true,Bool.and_eq_true,Bool.and_eq_true,Bool.and_eq_true,Bool.and_eq_true,Bool.and_eq_true,Bool.and_eq_true,scs_iff]
 simp only[decide_eq_true_eq,List.all_eq_true,zFq]
 constructor
 ·rintro⟨⟨h1,h2,h3,h4,h5⟩,h6,h7,h8,h9,h10,h11,h12,h13⟩
  exact⟨⟨h1,h2,by omega,by omega,by omega,⟨h6.1,by omega⟩,h7,h8,h9,h10 _ (by simp),h10 _ (by simp),h10 _ (by simp),h11,h12,h13⟩,h6.2⟩
 ·intro h
  refine⟨⟨h.op,h.en,by have:=h.sn;omega,by have:=h.ln;omega,by have:=h.pn;omega⟩,⟨h.bg.1,h.bg2⟩,h.ops,h.ens,h.sc,fun x hx=>?_,h.lo,h.ca,h.sh⟩
  simp only[List.mem_cons,List.not_mem_nil,or_false]at hx
  rcases hx with rfl|rfl|rfl
  ·exact h.fe
  ·exact h.co
  ·exact h.fs
theorem good_t{a b lo hi:Int}:goodB a b lo hi=true↔lo≤a∧a≤b∧b≤hi:=by
 unfold goodB
 simp only[Bool.and_eq_true,decide_eq_true_eq]
set_option maxHeartbeats 16000000 in
theorem ret29(hi:Off is)(b:Bk):RetP Tryd.prog is orc 29 [b.u] (.bool (zBF b)):=by
 have q17:=ret17 (orc:=orc) hi b
 refine yC body29 pure29 (hi 29 (by decide)) rfl rfl (zAe (zAG b 4)) (.inl (.bool _ _)) ?_
 cases hv:zBF b with
 |false=>
  rw[hv,if_neg (by decide)]at q17
  refine kQ (yH rfl rfl (zA rfl (zC ?_)))
  refine zK [(1,U.box 0 0)] ([SB.box (Bk.cs b)]) (.cons rfl (.nil rfl)) rfl fun fr=>?_
  refine kQ (zP rfl rfl rfl sh25 rfl (zN rfl (q17) (.lrefl _) (wn rfl rfl rfl (zB rfl (o_gS rfl rfl rfl rfl rfl (o_gS rfl rfl rfl rfl rfl (o_gS rfl rfl rfl rfl rfl (zL rfl rfl rfl ?_))))))))
  refine zB rfl ?_
  refine zM [(1,U.box 0 0),(18,.bool false)] [] ([SB.box (Bk.cs b)]) (.cons rfl (.cons rfl (.nil rfl))) rfl rfl fun fr=>?_
  refine o_gS rfl rfl rfl rfl rfl (o_gS rfl rfl rfl rfl rfl (o_gS rfl rfl rfl rfl rfl (o_gS rfl rfl rfl rfl rfl (zL rfl rfl rfl ?_))))
  refine zB rfl (o_gS rfl rfl rfl rfl rfl (o_gS rfl rfl rfl rfl rfl (o_gS rfl rfl rfl rfl rfl ?_)))
  refine zM [(1,U.box 0 0),(24,.bool false),(27,U.tup [])] [] ([SB.box (Bk.cs b)]) (.cons rfl (.cons rfl (.cons rfl (.nil rfl)))) rfl rfl fun fr=>?_
  refine o_gS rfl rfl rfl rfl rfl (zL rfl rfl rfl ?_)
  refine zB rfl (o_gS rfl rfl rfl rfl rfl (o_gS rfl rfl rfl rfl rfl (o_gS rfl rfl rfl rfl rfl (o_gS rfl rfl rfl rfl rfl (zL rfl rfl rfl ?_)))))
  refine zB rfl ?_
  refine zM [(1,U.box 0 0),(36,.bool false)] [] ([SB.box (Bk.cs b)]) (.cons rfl (.cons rfl (.nil rfl))) rfl rfl fun fr=>?_
  refine o_gS rfl rfl rfl rfl rfl (o_gS rfl rfl rfl rfl rfl (o_gS rfl rfl rfl rfl rfl (zL rfl rfl rfl ?_)))
  refine zB rfl (o_gS rfl rfl rfl rfl rfl (o_gS rfl rfl rfl rfl rfl (o_gS rfl rfl rfl rfl rfl (o_gS rfl rfl rfl rfl rfl ?_))))
  refine zM [(1,U.box 0 0),(41,.bool false),(45,U.tup [])] [] ([SB.box (Bk.cs b)]) (.cons rfl (.cons rfl (.cons rfl (.nil rfl)))) rfl rfl fun fr=>?_
  refine zL rfl rfl rfl ?_
  refine zB rfl (o_gS rfl rfl rfl rfl rfl (o_gS rfl rfl rfl rfl rfl (o_gS rfl rfl rfl rfl rfl (zL rfl rfl rfl ?_))))
  refine zB rfl (o_gS rfl rfl rfl rfl rfl (o_gS rfl rfl rfl rfl rfl ?_))
  refine zM [(1,U.box 0 0),(52,.bool false),(54,U.tup [])] [] ([SB.box (Bk.cs b)]) (.cons rfl (.cons rfl (.cons rfl (.nil rfl)))) rfl rfl fun fr=>?_
  refine o_gS rfl rfl rfl rfl rfl (zL rfl rfl rfl ?_)
  refine zB rfl (o_gS rfl rfl rfl rfl rfl (o_gS rfl rfl rfl rfl rfl (o_gS rfl rfl rfl rfl rfl (zL rfl rfl rfl ?_))))
  refine zB rfl (o_gS rfl rfl rfl rfl rfl ?_)
  refine zM [(1,U.box 0 0),(62,.bool false),(63,U.tup [])] [] ([SB.box (Bk.cs b)]) (.cons rfl (.cons rfl (.cons rfl (.nil rfl)))) rfl rfl fun fr=>?_
  refine o_gS rfl rfl rfl rfl rfl (o_gS rfl rfl rfl rfl rfl (o_gS rfl rfl rfl rfl rfl (zL rfl rfl rfl ?_)))
  refine zA rfl (zC ?_)
  refine zK [(1,U.box 0 0),(3,.bool false)] ([SB.box (Bk.cs b)]) (.cons rfl (.cons rfl (.nil rfl))) rfl fun fr=>?_
  refine k_seq (kQ (zA rfl (zC (zQ ?_))))
  obtain⟨V,hV⟩:∃V:List SB,V=[.box (Bk.cs b)]:=⟨_,rfl⟩
  refine yr (fun _ s2=>s2.st=V∧Holds s2 [(1,.box 0 0),(3,.bool false),(4,.int .i64 0)]) (fun kk s2 hI=>?_) 0 _ ⟨hV.symm,.cons rfl (.cons rfl (.cons rfl (.nil rfl)))⟩
  obtain⟨hst2,hs2⟩:=hI
  rw[hV]at hst2
  refine zK _ _ hs2 hst2 fun fr2=>?_
  refine k_seq (kQ (zB rfl (zB rfl (o_gS rfl rfl rfl rfl rfl (o_gS rfl rfl rfl rfl rfl (zL rfl rfl rfl ?_))))))
  refine zC (k_cF rfl rfl ?_)
  refine yf (kQ (zA rfl (zC (k_seq (kQ (zA rfl (zC (zQ ?_))))))))
  refine yr (fun _ s2=>s2.st=V∧Holds s2 [(1,.box 0 0),(3,.bool false),(6,.int .i64 0)]) (fun kk s2 hI=>?_) 0 _ ⟨hV.symm,.cons rfl (.cons rfl (.cons rfl (.nil rfl)))⟩
  obtain⟨hst2,hs2⟩:=hI
  rw[hV]at hst2
  refine zK _ _ hs2 hst2 fun fr2=>?_
  refine k_seq (kQ (zB rfl (zB rfl (o_gS rfl rfl rfl rfl rfl (o_gS rfl rfl rfl rfl rfl (o_gS rfl rfl rfl rfl rfl (o_gS rfl rfl rfl rfl rfl (o_gS rfl rfl rfl rfl rfl ?_))))))))
  refine zL rfl rfl rfl ?_
  refine zC (k_cF rfl rfl ?_)
  refine yf (k_seq (kQ (zA rfl (zC (zQ ?_)))))
  refine yr (fun _ s2=>s2.st=V∧Holds s2 [(1,.box 0 0),(3,.bool false),(8,.int .i64 0)]) (fun kk s2 hI=>?_) 0 _ ⟨hV.symm,.cons rfl (.cons rfl (.cons rfl (.nil rfl)))⟩
  obtain⟨hst2,hs2⟩:=hI
  rw[hV]at hst2
  refine zK _ _ hs2 hst2 fun fr2=>?_
  refine k_seq (kQ (zB rfl (zB rfl (o_gS rfl rfl rfl rfl rfl (o_gS rfl rfl rfl rfl rfl (o_gS rfl rfl rfl rfl rfl (o_gS rfl rfl rfl rfl rfl (o_gS rfl rfl rfl rfl rfl ?_))))))))
  refine zL rfl rfl rfl ?_
  refine zC (k_cF rfl rfl ?_)
  refine yf (k_seq (kQ (zA rfl (zC (zQ ?_)))))
  refine yr (fun _ s2=>s2.st=V∧Holds s2 [(1,.box 0 0),(3,.bool false),(9,.int .i64 0)]) (fun kk s2 hI=>?_) 0 _ ⟨hV.symm,.cons rfl (.cons rfl (.cons rfl (.nil rfl)))⟩
  obtain⟨hst2,hs2⟩:=hI
  rw[hV]at hst2
  refine zK _ _ hs2 hst2 fun fr2=>?_
  refine k_seq (kQ (zB rfl (zB rfl (o_gS rfl rfl rfl rfl rfl (o_gS rfl rfl rfl rfl rfl (o_gS rfl rfl rfl rfl rfl (o_gS rfl rfl rfl rfl rfl (o_gS rfl rfl rfl rfl rfl ?_))))))))
  refine zL rfl rfl rfl ?_
  refine zC (k_cF rfl rfl ?_)
  refine yf (kQ (zB rfl (zA rfl (zC (zZ ?_)))))
  refine⟨.inr rfl,_,.cons _ _ _ _ (.tmp 2) .nil,?_⟩
  exact .refl _
 |true=>
  have h:=(zDd b).1 hv
  rw[hv,if_pos rfl]at q17
  have h1:=h.op
  have h2:=h.en
  have h3:=h.sn
  have h4:=h.ln
  have h5:=h.pn
  have q41:=fun(n a c:Int) (hn:a≤n∧n≤c)=>(zFq.2 hn ▸ ret41 (orc:=orc) hi n a c:RetP Tryd.prog is orc 41 [.int .i64 n,.int .i64 a,.int .i64 c] (.bool true))
  have q57:=fun(x y a c:Int) (hn:a≤x∧x≤y∧y≤c)=>(good_t.2 hn ▸ ret57 (orc:=orc) hi x y a c:RetP Tryd.prog is orc 57 [spanU x y,.int .i64 a,.int .i64 c] (.bool true))
  refine kQ (yH rfl rfl (zA rfl (zC ?_)))
  refine zK [(1,U.box 0 0)] ([SB.box (Bk.cs b)]) (.cons rfl (.nil rfl)) rfl fun fr=>?_
  refine kQ (zP rfl rfl rfl sh25 rfl (zN rfl (q17) (.lrefl _) (wn rfl rfl rfl (zB rfl (o_gD rfl rfl rfl rfl rfl (zD rfl rfl zAD (o_gD rfl rfl rfl rfl rfl (zE rfl rfl rfl sh3 rfl ?_))))))))
  refine o_gD rfl rfl rfl rfl rfl (zN rfl ((q41 _ _ _ ⟨h.bg.1,h.bg2⟩)) (.lrefl _) ?_)
  refine zT rfl rfl rfl ?_
  refine zB rfl ?_
  refine zM [(1,U.box 0 0),(18,.bool true)] [] ([SB.box (Bk.cs b)]) (.cons rfl (.cons rfl (.nil rfl))) rfl rfl fun fr=>?_
  refine o_gD rfl rfl rfl rfl rfl ?_
  refine zM [(1,U.box 0 0),(18,.bool true)] [] ([SB.box (Bk.cs b)]) (.cons rfl (.cons rfl (.nil rfl))) rfl rfl fun fr=>?_
  refine zD rfl rfl zAh (o_gD rfl rfl rfl rfl rfl (zE rfl rfl rfl sh22 rfl (o_gD rfl rfl rfl rfl rfl (zp rfl ty22 rfl (List.length_map _) ?_))))
  refine o_gD rfl rfl rfl rfl rfl (wn rfl rfl rfl (zT rfl rfl rfl ?_))
  refine zB rfl (o_gD rfl rfl rfl rfl (decide_eq_true (by omega)) ?_)
  refine zD rfl rfl zBu (o_gD rfl rfl rfl rfl (decide_eq_true (by omega)) ?_)
  refine zE rfl rfl rfl sh22 rfl (o_gD rfl rfl rfl rfl (decide_eq_true (by omega)) ?_)
  refine zp rfl ty22 rfl (List.length_map _) ?_
  refine zM [(1,U.box 0 0),(24,U.bool (decide (↑(List.length (Bk.opens b))=(3:Int)))),(27,.int .i64 ↑(List.length (Bk.ends b)))] [] ([SB.box (Bk.cs b)]) (.cons rfl (.cons rfl (.cons rfl (.nil rfl)))) rfl rfl fun fr=>?_
  refine o_gD rfl rfl rfl rfl (decide_eq_true (by omega)) ?_
  refine zM [(1,U.box 0 0),(24,U.bool (decide (↑(List.length (Bk.opens b))=(3:Int)))),(27,.int .i64 ↑(List.length (Bk.ends b)))] [] ([SB.box (Bk.cs b)]) (.cons rfl (.cons rfl (.cons rfl (.nil rfl)))) rfl rfl fun fr=>?_
  refine wn rfl rfl rfl (zT rfl rfl (decide_eq_true (by omega)) ?_)
  refine zB rfl (o_gD rfl rfl rfl rfl (decide_eq_true (by omega)) ?_)
  refine zD rfl rfl yd (o_gD rfl rfl rfl rfl (decide_eq_true (by omega)) ?_)
  refine zE rfl rfl rfl sh23 rfl (o_gD rfl rfl rfl rfl (decide_eq_true (by omega)) ?_)
  refine zp rfl ty23 rfl (List.length_map _) ?_
  refine o_gD rfl rfl rfl rfl (decide_eq_true (by omega)) ?_
  refine zN rfl ((q41 _ 1 10 (by omega))) (.lrefl _) ?_
  refine zT rfl rfl (decide_eq_true (by omega)) ?_
  refine zB rfl ?_
  refine zM [(1,U.box 0 0),(36,.bool true)] [] ([SB.box (Bk.cs b)]) (.cons rfl (.cons rfl (.nil rfl))) rfl rfl fun fr=>?_
  refine o_gD rfl rfl rfl rfl rfl ?_
  refine zM [(1,U.box 0 0),(36,.bool true)] [] ([SB.box (Bk.cs b)]) (.cons rfl (.cons rfl (.nil rfl))) rfl rfl fun fr=>?_
  refine zD rfl rfl fld25_4 (o_gD rfl rfl rfl rfl rfl (zE rfl rfl rfl sh3 rfl (o_gD rfl rfl rfl rfl rfl (zN rfl ((q41 _ _ _ h.fe)) (.lrefl _) ?_))))
  refine zT rfl rfl rfl ?_
  refine zB rfl (o_gD rfl rfl rfl rfl rfl (zD rfl rfl zCf (o_gD rfl rfl rfl rfl rfl (zE rfl rfl rfl sh22 rfl (o_gD rfl rfl rfl rfl rfl (zp rfl ty22 rfl (List.length_map _) ?_))))))
  refine o_gD rfl rfl rfl rfl rfl (zDF rfl rfl rfl ?_)
  refine zM [(1,U.box 0 0),(41,.bool true),(45,U.bool (decide (↑(List.length (Bk.loads b))≤(8:Int))))] [] ([SB.box (Bk.cs b)]) (.cons rfl (.cons rfl (.cons rfl (.nil rfl)))) rfl rfl fun fr=>?_
  refine zT rfl rfl rfl ?_
  refine zB rfl (o_gD rfl rfl rfl rfl (decide_eq_true (by omega)) ?_)
  refine zD rfl rfl fld25_6 (o_gD rfl rfl rfl rfl (decide_eq_true (by omega)) ?_)
  refine zE rfl rfl rfl sh3 rfl (o_gD rfl rfl rfl rfl (decide_eq_true (by omega)) ?_)
  refine zN rfl ((q41 _ _ _ h.ca)) (.lrefl _) ?_
  refine zT rfl rfl (decide_eq_true (by omega)) ?_
  refine zB rfl (o_gD rfl rfl rfl rfl rfl (zD rfl rfl fld25_7 (o_gD rfl rfl rfl rfl rfl (zE rfl rfl rfl sh3 rfl ?_))))
  refine zM [(1,U.box 0 0),(52,.bool true),(54,.int .i64 (Bk.cost b))] [] ([SB.box (Bk.cs b)]) (.cons rfl (.cons rfl (.cons rfl (.nil rfl)))) rfl rfl fun fr=>?_
  refine o_gD rfl rfl rfl rfl rfl ?_
  refine zM [(1,U.box 0 0),(52,.bool true),(54,.int .i64 (Bk.cost b))] [] ([SB.box (Bk.cs b)]) (.cons rfl (.cons rfl (.cons rfl (.nil rfl)))) rfl rfl fun fr=>?_
  refine zN rfl ((q41 _ _ _ h.co)) (.lrefl _) ?_
  refine zT rfl rfl rfl ?_
  refine zB rfl (o_gD rfl rfl rfl rfl rfl (zD rfl rfl fld25_8 (o_gD rfl rfl rfl rfl rfl (zE rfl rfl rfl sh3 rfl (o_gD rfl rfl rfl rfl rfl (zN rfl ((q41 _ _ _ h.fs)) (.lrefl _) ?_))))))
  refine zT rfl rfl rfl ?_
  refine zB rfl (o_gD rfl rfl rfl rfl rfl (zD rfl rfl zDY ?_))
  refine zM [(1,U.box 0 0),(62,.bool true),(63,U.box 0 9)] [] ([SB.box (Bk.cs b)]) (.cons rfl (.cons rfl (.cons rfl (.nil rfl)))) rfl rfl fun fr=>?_
  refine o_gD rfl rfl rfl rfl rfl ?_
  refine zM [(1,U.box 0 0),(62,.bool true),(63,U.box 0 9)] [] ([SB.box (Bk.cs b)]) (.cons rfl (.cons rfl (.cons rfl (.nil rfl)))) rfl rfl fun fr=>?_
  refine zE rfl rfl rfl sh22 rfl (o_gD rfl rfl rfl rfl rfl (zp rfl ty22 rfl (List.length_map _) ?_))
  refine o_gD rfl rfl rfl rfl rfl (zN rfl ((q41 _ 1 12 (by omega))) (.lrefl _) ?_)
  refine zT rfl rfl rfl ?_
  refine zA rfl (zC ?_)
  refine zK [(1,U.box 0 0),(3,.bool true)] ([SB.box (Bk.cs b)]) (.cons rfl (.cons rfl (.nil rfl))) rfl fun fr=>?_
  refine k_seq (kQ (zA rfl (zC (zQ ?_))))
  refine yr (fun kk s2=>∃i:Nat,kk+i=3∧s2.st=[.box (Bk.cs b)]∧Holds s2 [(1,.box 0 0),(3,.bool true),(4,.int .i64 i)]) (fun kk s2 hI=>?_) 3 _ ⟨0,rfl,rfl,.cons rfl (.cons rfl (.cons rfl (.nil rfl)))⟩
  obtain⟨i,hk,hst2,hs2⟩:=hI
  refine zK _ _ hs2 hst2 fun fr2=>?_
  by_cases hin:i<3
  ·obtain⟨x,hx⟩:∃x,b.opens[i]? =some x:=⟨b.opens[i],List.getElem?_eq_getElem (by omega)⟩
   obtain⟨y,hy⟩:∃y,b.ends[i]? =some y:=⟨b.ends[i],List.getElem?_eq_getElem (by omega)⟩
   refine k_seq (kQ (zB rfl (zB rfl (o_gD rfl rfl rfl rfl rfl (zB rfl (o_gD rfl rfl rfl rfl rfl (ze rfl rfl rfl (zT rfl rfl rfl ?_))))))))
   refine zC (k_cT rfl (decide_eq_true (by omega)) (zU (k_seq (zQ (k_region (zD rfl rfl zAh (zE rfl rfl rfl sh22 rfl (zB rfl ?_))))))))
   refine yG (u:=.int .i64 (x)) rfl ty22 rfl rfl (Int.natCast_nonneg _) (by simp[hx]) cl3 ?_
   refine zV rfl rfl sh3 rfl ?_
   refine zN rfl ((q41 _ _ _ (h.ops x (List.mem_of_getElem? hx)))) (.lrefl _) ?_
   refine zB rfl (o_gD rfl rfl rfl rfl rfl (zD rfl rfl zBu (o_gD rfl rfl rfl rfl rfl (zE rfl rfl rfl sh22 rfl ?_))))
   refine zM [(1,U.box 0 0),(4,.int .i64 ↑i),(70,.int .i64 ↑i),(71,U.bool (decide (↑i<(3:Int)))),(81,.bool true),(82,U.box 0 2),(83,.lst .ro 1 (zF (Bk.ends b)))] [] ([SB.box (Bk.cs b)]) (.c4 rfl rfl rfl rfl (.cons rfl (.cons rfl (.cons rfl (.nil rfl))))) rfl rfl fun fr=>?_
   refine o_gD rfl rfl rfl rfl rfl ?_
   refine zM [(1,U.box 0 0),(4,.int .i64 ↑i),(70,.int .i64 ↑i),(71,U.bool (decide (↑i<(3:Int)))),(81,.bool true),(82,U.box 0 2),(83,.lst .ro 1 (zF (Bk.ends b)))] [] ([SB.box (Bk.cs b)]) (.c4 rfl rfl rfl rfl (.cons rfl (.cons rfl (.cons rfl (.nil rfl))))) rfl rfl fun fr=>?_
   refine zB rfl (o_gD rfl rfl rfl rfl rfl (yG (u:=.int .i64 (y)) rfl ty22 rfl rfl (Int.natCast_nonneg _) (by simp[hy]) cl3 ?_))
   refine o_gD rfl rfl rfl rfl rfl (zV rfl rfl sh3 rfl ?_)
   refine o_gD rfl rfl rfl rfl rfl (zN rfl ((q41 _ _ _ (h.ens y (List.mem_of_getElem? hy)))) (.lrefl _) ?_)
   refine zT rfl rfl rfl ?_
   refine zA rfl (zC ?_)
   refine zK [(1,U.box 0 0),(3,.bool true),(4,.int .i64 ↑i),(70,.int .i64 ↑i),(71,U.bool (decide (↑i<(3:Int)))),(82,U.box 0 2),(83,.lst .ro 1 (zF (Bk.ends b))),(84,.int .i64 ↑i),(85,U.eref [.int .i64 y] 0),(86,.int .i64 y),(87,.bool true)] ([SB.box (Bk.cs b)]) (.c4 rfl rfl rfl rfl (.c4 rfl rfl rfl rfl (.cons rfl (.cons rfl (.cons rfl (.nil rfl)))))) rfl fun fr=>?_
   refine k_region (zB rfl ?_)
   refine yV rfl rfl rfl (by unfold I64;omega) (zA rfl (zC ?_))
   exact⟨kk - 1,by omega,i+1,by omega,rfl,.cons rfl (.cons rfl (.cons rfl (.nil rfl)))⟩
  ·refine k_seq ?_
   refine kQ (zB rfl (zB rfl (o_gD rfl rfl rfl rfl rfl (zB rfl (o_gD rfl rfl rfl rfl rfl (ze rfl rfl rfl (zT rfl rfl rfl ?_)))))))
   refine zC (k_cF rfl (decide_eq_false (by omega)) (yf (kQ (zA rfl (zC (k_seq (kQ (zA rfl ?_))))))))
   refine zC (zQ ?_)
   obtain⟨V,hV⟩:∃V:List SB,V=[.box (Bk.cs b)]:=⟨_,rfl⟩
   refine yr (fun kk s2=>∃i:Nat,kk+i=b.scenes.length∧(∃e,s2.st=V++e)∧Holds s2 [(1,.box 0 0),(3,.bool true),(5,.int .i64 (prA b.scenes i)),(6,.int .i64 i)]) (fun kk s2 hI=>?_) b.scenes.length _ ⟨0,rfl,⟨[],by rw[hV];rfl⟩,.c4 rfl rfl rfl rfl (.nil rfl)⟩
   obtain⟨i,hk,⟨e,hst2⟩,hs2⟩:=hI
   have hpi:∀x,b.scenes[i]? =some x→prA b.scenes (i+1)=x.part:=fun x hx=>by show((b.scenes[i]?).map Sc.part).getD 0=_;rw[hx];rfl
   have hsc:=h.sc i
   generalize prA b.scenes i=p at*
   generalize hY:V++e=Y at hst2
   have y0:Y[0]? =some (.box (Bk.cs b)):=by rw[←hY,hV];rfl
   refine zK _ _ hs2 hst2 fun fr2=>?_
   by_cases hin:i<b.scenes.length
   ·obtain⟨x,hx⟩:∃x,b.scenes[i]? =some x:=⟨b.scenes[i],List.getElem?_eq_getElem hin⟩
    obtain⟨g1,g2,g3⟩:=hsc x hx
    have hp2:=hpi x hx
    refine k_seq (kQ (zB rfl (zB rfl (o_gD rfl rfl rfl rfl rfl (zB rfl (o_gD rfl rfl rfl rfl rfl (zD rfl rfl yd (o_gD rfl rfl rfl rfl rfl ?_))))))))
    refine zE rfl rfl y0 sh23 rfl ?_
    refine o_gD rfl rfl rfl rfl rfl (zp rfl ty23 rfl (List.length_map _) ?_)
    refine o_gD rfl rfl rfl rfl rfl (ze rfl rfl rfl (zT rfl rfl rfl ?_))
    refine zC (k_cT rfl (decide_eq_true (by omega)) (zU (k_seq (zQ (kQ (zD rfl rfl yd (zE rfl rfl y0 sh23 rfl ?_)))))))
    refine zB rfl (yG (u:=(x).u) rfl ty23 rfl rfl (Int.natCast_nonneg _) (by simp[hx]) cl50 ?_)
    refine wT rfl rfl sh50 rfl ?_
    refine zu rfl ze50 ?_
    refine zd rfl (zc _ _) sh50 rfl rfl rfl rfl rfl ?_
    refine zC (kQ (zD rfl rfl zAB (zE rfl rfl (zDx _ _ _) sh3 rfl ?_)))
    refine zB rfl (zN rfl ((q41 _ _ _ g1)) (.lrefl _) ?_)
    refine zB rfl (o_gD rfl rfl rfl rfl rfl (zD rfl rfl zCe (o_gD rfl rfl rfl rfl rfl (zE rfl rfl (zDx _ _ _) sh3 rfl ?_))))
    refine o_gD rfl rfl rfl rfl rfl (zN rfl ((q41 _ _ _ g2)) (.lrefl _) ?_)
    refine zT rfl rfl rfl ?_
    refine zB rfl (o_gD rfl rfl rfl rfl rfl (zD rfl rfl zAA (o_gD rfl rfl rfl rfl rfl (zP rfl rfl (zDx _ _ _) sh48 rfl ?_))))
    refine o_gD rfl rfl rfl rfl rfl (zN rfl ((q57 _ _ _ _ g3)) (.lrefl _) ?_)
    refine zT rfl rfl rfl ?_
    refine zA rfl (zC (k_region (zD rfl rfl zAB (zE rfl rfl (zDx _ _ _) sh3 rfl ?_))))
    refine zA rfl (zC (k_region (zB rfl ?_)))
    refine yV rfl rfl rfl (by unfold I64;omega) (zA rfl (zC ?_))
    exact⟨kk - 1,by omega,i+1,by omega,⟨_,by show(Y++[SB.box _]).set Y.length (SB.box _)=_;rw[yW];exact grow hY⟩,.cons rfl (.cons rfl (.cons (by rw[hp2];rfl) (.cons rfl (.nil rfl))))⟩
   ·refine k_seq ?_
    refine kQ (zB rfl (zB rfl (o_gD rfl rfl rfl rfl rfl (zB rfl (o_gD rfl rfl rfl rfl rfl (zD rfl rfl yd (o_gD rfl rfl rfl rfl rfl (zE rfl rfl y0 sh23 rfl ?_))))))))
    refine o_gD rfl rfl rfl rfl rfl (zp rfl ty23 rfl (List.length_map _) ?_)
    refine o_gD rfl rfl rfl rfl rfl (ze rfl rfl rfl (zT rfl rfl rfl ?_))
    refine zC (k_cF rfl (decide_eq_false (by omega)) (yf (k_seq (kQ (zA rfl (zC (zQ ?_)))))))
    refine yr (fun kk s2=>∃i:Nat,kk+i=b.loads.length∧s2.st=Y∧Holds s2 [(1,.box 0 0),(3,.bool true),(8,.int .i64 i)]) (fun kk s2 hI=>?_) b.loads.length _ ⟨0,rfl,rfl,.cons rfl (.cons rfl (.cons rfl (.nil rfl)))⟩
    obtain⟨i,hk,hst2,hs2⟩:=hI
    refine zK _ _ hs2 hst2 fun fr2=>?_
    by_cases hin:i<b.loads.length
    ·obtain⟨x,hx⟩:∃x,b.loads[i]? =some x:=⟨b.loads[i],List.getElem?_eq_getElem hin⟩
     refine k_seq (kQ (zB rfl (zB rfl (o_gD rfl rfl rfl rfl rfl (zB rfl (o_gD rfl rfl rfl rfl rfl (zD rfl rfl zCf (o_gD rfl rfl rfl rfl rfl ?_))))))))
     refine zE rfl rfl y0 sh22 rfl ?_
     refine o_gD rfl rfl rfl rfl rfl (zp rfl ty22 rfl (List.length_map _) ?_)
     refine o_gD rfl rfl rfl rfl rfl (ze rfl rfl rfl (zT rfl rfl rfl ?_))
     refine zC (k_cT rfl (decide_eq_true (by omega)) (zU (k_seq (zQ (k_region (zD rfl rfl zCf (zE rfl rfl y0 sh22 rfl ?_)))))))
     refine zB rfl (yG (u:=.int .i64 (x)) rfl ty22 rfl rfl (Int.natCast_nonneg _) (by simp[hx]) cl3 ?_)
     refine zV rfl rfl sh3 rfl ?_
     refine zN rfl ((q41 _ _ _ (h.lo x (List.mem_of_getElem? hx)))) (.lrefl _) ?_
     refine zA rfl (zC (k_region (zB rfl ?_)))
     refine yV rfl rfl rfl (by unfold I64;omega) (zA rfl (zC ?_))
     exact⟨kk - 1,by omega,i+1,by omega,rfl,.cons rfl (.cons rfl (.cons rfl (.nil rfl)))⟩
    ·refine k_seq ?_
     refine kQ (zB rfl (zB rfl (o_gD rfl rfl rfl rfl rfl (zB rfl (o_gD rfl rfl rfl rfl rfl (zD rfl rfl zCf (o_gD rfl rfl rfl rfl rfl (zE rfl rfl y0 sh22 rfl ?_))))))))
     refine o_gD rfl rfl rfl rfl rfl (zp rfl ty22 rfl (List.length_map _) ?_)
     refine o_gD rfl rfl rfl rfl rfl (ze rfl rfl rfl (zT rfl rfl rfl ?_))
     refine zC (k_cF rfl (decide_eq_false (by omega)) (yf (k_seq (kQ (zA rfl (zC (zQ ?_)))))))
     refine yr (fun kk s2=>∃i:Nat,kk+i=b.shares.length∧s2.st=Y∧Holds s2 [(1,.box 0 0),(3,.bool true),(9,.int .i64 i)]) (fun kk s2 hI=>?_) b.shares.length _ ⟨0,rfl,rfl,.cons rfl (.cons rfl (.cons rfl (.nil rfl)))⟩
     obtain⟨i,hk,hst2,hs2⟩:=hI
     refine zK _ _ hs2 hst2 fun fr2=>?_
     by_cases hin:i<b.shares.length
     ·obtain⟨x,hx⟩:∃x,b.shares[i]? =some x:=⟨b.shares[i],List.getElem?_eq_getElem hin⟩
      refine k_seq (kQ (zB rfl (zB rfl (o_gD rfl rfl rfl rfl rfl (zB rfl (o_gD rfl rfl rfl rfl rfl (zD rfl rfl zDY (o_gD rfl rfl rfl rfl rfl ?_))))))))
      refine zE rfl rfl y0 sh22 rfl ?_
      refine o_gD rfl rfl rfl rfl rfl (zp rfl ty22 rfl (List.length_map _) ?_)
      refine o_gD rfl rfl rfl rfl rfl (ze rfl rfl rfl (zT rfl rfl rfl ?_))
      refine zC (k_cT rfl (decide_eq_true (by omega)) (zU (k_seq (zQ (k_region (zD rfl rfl zDY (zE rfl rfl y0 sh22 rfl ?_)))))))
      refine zB rfl (yG (u:=.int .i64 (x)) rfl ty22 rfl rfl (Int.natCast_nonneg _) (by simp[hx]) cl3 ?_)
      refine zV rfl rfl sh3 rfl ?_
      refine zN rfl ((q41 _ _ _ (h.sh x (List.mem_of_getElem? hx)))) (.lrefl _) ?_
      refine zA rfl (zC (k_region (zB rfl ?_)))
      refine yV rfl rfl rfl (by unfold I64;omega) (zA rfl (zC ?_))
      exact⟨kk - 1,by omega,i+1,by omega,rfl,.cons rfl (.cons rfl (.cons rfl (.nil rfl)))⟩
     ·refine k_seq ?_
      refine kQ (zB rfl (zB rfl (o_gD rfl rfl rfl rfl rfl (zB rfl (o_gD rfl rfl rfl rfl rfl (zD rfl rfl zDY (o_gD rfl rfl rfl rfl rfl (zE rfl rfl y0 sh22 rfl ?_))))))))
      refine o_gD rfl rfl rfl rfl rfl (zp rfl ty22 rfl (List.length_map _) ?_)
      refine o_gD rfl rfl rfl rfl rfl (ze rfl rfl rfl (zT rfl rfl rfl ?_))
      refine zC (k_cF rfl (decide_eq_false (by omega)) (yf (kQ (zB rfl (zA rfl (zC (zZ ?_)))))))
      refine⟨.inr rfl,_,.cons _ _ _ _ (.tmp 2) .nil,?_⟩
      exact .refl _
end
section
variable {is:FuncId→Bool}{orc:Known}
noncomputable def b38:Code:=(Tryd.f38.body).getD .skip
theorem body38:bodyOf Tryd.prog 38=some (17,b38,[.tmp 4]):=by kernel_rfl
theorem pure38:pureFn Tryd.prog 38=true:=by kernel_rfl
theorem by3:Program.bytesOf Tryd.prog 3=8:=by kernel_rfl
theorem zFu:zo Tryd.prog 50 3=some (4,4):=by kernel_rfl
theorem sh4:shOf Tryd.prog 4=.one:=by kernel_rfl
theorem zEZ:AppT Tryd.prog 22 22 3 1 8 ((.cons (.int .i64 0) .nil):V):=⟨ty22,⟨_,ty22⟩,cl3,by decide,by3,ze3,rfl⟩
noncomputable def b43:Code:=(Tryd.f43.body).getD .skip
theorem body43:bodyOf Tryd.prog 43=some (31,b43,[.tmp 4]):=by kernel_rfl
theorem pure43:pureFn Tryd.prog 43=true:=by kernel_rfl
noncomputable def b31:Code:=(Tryd.f31.body).getD .skip
theorem body31:bodyOf Tryd.prog 31=some (32,b31,[.tmp 4]):=by kernel_rfl
theorem pure31:pureFn Tryd.prog 31=true:=by kernel_rfl
noncomputable def b32:Code:=(Tryd.f32.body).getD .skip
theorem body32:bodyOf Tryd.prog 32=some (25,b32,[.tmp 4]):=by kernel_rfl
theorem pure32:pureFn Tryd.prog 32=true:=by kernel_rfl
def zGD(n b:Int):Int:=if b<1 then 0 else n % b
theorem turnI_b{n b:Int}(h:1≤b):0≤zGD n b∧zGD n b<b:=by
 unfold zGD;rw[if_neg (by omega)]
 exact⟨Int.emod_nonneg _ (by omega),Int.emod_lt_of_pos _ (by omega)⟩
set_option maxHeartbeats 4000000 in
theorem ret38(hi:Off is)(n b:Int)(hb:b≤1000000):RetP Tryd.prog is orc 38 [.int .i64 n,.int .i64 b] (.int .i64 (zGD n b)):=by
 refine yC body38 pure38 (hi 38 (by decide)) rfl rfl (yh (.int _ _ _) (.int _ _ _)) (.inl (.int _ _ _)) ?_
 by_cases h:b<1
 ·have e:zGD n b=0:=by unfold zGD;rw[if_pos h]
  rw[e]
  refine kQ (zA rfl (zC (k_seq (kQ (zB rfl (ze rfl rfl rfl (zC (k_cT rfl (decide_eq_true (by omega)) ?_))))))))
  refine kQ (zA rfl (zC (zZ ?_)))
  refine⟨.inr rfl,_,.cons _ _ _ _ (.tmp 4) .nil,?_⟩
  exact .refl _
 ·have hb0:0<b:=by omega
  have e:zGD n b=n % b:=by unfold zGD;rw[if_neg h]
  have t1:n.tmod b<b:=Int.tmod_lt_of_pos n hb0
  have t2: -b<n.tmod b:=by have:=Int.lt_tmod_of_pos n hb0;omega
  by_cases hn:n.tmod b<0
  ·have e2:n % b=n.tmod b+b:=by
    rw[Int.emod_eq_tmod]
    have h0: ¬ (0≤n):=fun h0=>by have:=Int.tmod_nonneg b h0;omega
    have h3: ¬ (b ∣ n):=fun h3=>by have:=(Int.dvd_iff_tmod_eq_zero).1 h3;omega
    simp[h0,h3];omega
   rw[e,e2]
   refine kQ (zA rfl (zC (k_seq (kQ (zB rfl (ze rfl rfl rfl (zC (k_cF rfl (decide_eq_false (by omega)) ?_))))))))
   refine zU (kQ (zB rfl (zB rfl (o_rem rfl rfl rfl (by omega) ?_))))
   refine zA rfl (zC (k_seq (kQ (zB rfl (ze rfl rfl rfl (zC (k_cT rfl (decide_eq_true (by omega)) (k_region ?_))))))))
   refine zB rfl (zB rfl ?_)
   refine yV rfl rfl rfl (by unfold I64;omega) (zA rfl (zC ?_))
   refine zK [(5,.int .i64 (Int.tmod n b+b))] ([]) (.cons rfl (.nil rfl)) rfl fun fr=>?_
   refine kQ (zB rfl (zA rfl (zC (zZ ?_))))
   refine⟨.inr rfl,_,.cons _ _ _ _ (.tmp 4) .nil,?_⟩
   exact .refl _
  ·have e2:n % b=n.tmod b:=by
    rw[Int.emod_eq_tmod]
    by_cases h0:0≤n
    ·simp[h0]
    ·have h3:n.tmod b=0:=by
      have:=Int.tmod_nonneg b (show 0≤ -n by omega)
      rw[Int.neg_tmod]at this
      omega
     have:b ∣ n:=(Int.dvd_iff_tmod_eq_zero).2 h3
     simp[h0,this]
   rw[e,e2]
   refine kQ (zA rfl (zC (k_seq (kQ (zB rfl (ze rfl rfl rfl (zC (k_cF rfl (decide_eq_false (by omega)) ?_))))))))
   refine zU (kQ (zB rfl (zB rfl (o_rem rfl rfl rfl (by omega) ?_))))
   refine zA rfl (zC (k_seq (kQ (zB rfl (ze rfl rfl rfl (zC (k_cF rfl (decide_eq_false (by omega)) (zU ?_))))))))
   refine kQ (zB rfl (zA rfl (zC (zZ ?_))))
   refine⟨.inr rfl,_,.cons _ _ _ _ (.tmp 4) .nil,?_⟩
   exact .refl _
def accI(l:List Int):U:=match l with
 |[]=>.lst .full 0 []
 |l=>.lst .own 1 (zF l)
theorem zCl(x:Int)(l:List Int):accI (l++[x])=.lst .own 1 (zF l++[.int .i64 x]):=by
 cases l with
 |nil=>rfl
 |cons y l=>show U.lst .own 1 (zF ((y::l)++[x]))=_;simp[zF]
theorem uw_accI(l:List Int):UW (.u (dg (accI l))) (.u (.lst .ro 1 (zF l))):=by
 cases l with
 |nil=>exact .nil _ _ _
 |cons y l=>exact .ro _ _ _
def zEs(b:Bk)(i:Nat):Bool:=((b.scenes[i]?).map Sc.must).getD true
theorem zFi(P:Nat→Bool)(n:Nat):memP P (n+1)=memP P n++if P n=true then [(n:Int)]else []:=rfl
end
end Go.Proofs.YtlknfhjfkcboiaaDoor.night
