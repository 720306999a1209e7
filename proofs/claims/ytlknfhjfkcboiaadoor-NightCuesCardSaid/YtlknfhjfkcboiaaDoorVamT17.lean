import Derived.Test.YtlknfhjfkcboiaaDoorVamT16
set_option linter.unusedVariables false
set_option linter.unusedSimpArgs false
set_option linter.constructorNameAsVariable false
namespace Go.Proofs.YtlknfhjfkcboiaaDoor.night
open Vam
section
variable {is:FuncId→Bool}{orc:Known}{b:Bk}
noncomputable def b18:Code:=(Tryd.f18.body).getD .skip
theorem body18:bodyOf Tryd.prog 18=some (149,b18,[.tmp 2]):=by kernel_rfl
theorem pure18:pureFn Tryd.prog 18=true:=by kernel_rfl
def ckA(b:Bk):Bool:=inS 0 2000 b.bg&&(decide ((b.opens.length:Int)=3)&&(decide ((b.ends.length:Int)=3)&&(inS 1 10 b.scenes.length&&(inS 0 100000 b.fee&&(decide ((b.loads.length:Int)≤8)&&(inS 1 500 b.cart&&(inS 0 100000 b.cost&&(inS 0 100000 b.feast&&inS 1 12 b.shares.length))))))))
def scOk(b:Bk)(i:Nat)(q:Sc):Prop:=(prA b.scenes i≤q.part∧q.part≤2)∧(0≤q.wt∧q.wt≤100)∧0≤q.lo∧q.lo≤q.hi∧q.hi≤600
def P1(b:Bk)(i:Nat):Prop:=ckA b=true∧∀(k:Nat) (x y:Int),k<i→b.opens[k]? =some x→b.ends[k]? =some y→(0≤x∧x≤2000)∧0≤y∧y≤2000
def P2(b:Bk)(i:Nat):Prop:=P1 b 3∧∀(k:Nat) (q:Sc),k<i→b.scenes[k]? =some q→scOk b k q
def P3(b:Bk)(i:Nat):Prop:=P2 b b.scenes.length∧∀(k:Nat) (x:Int),k<i→b.loads[k]? =some x→1≤x∧x≤500
def P4(b:Bk)(i:Nat):Prop:=P3 b b.loads.length∧∀(k:Nat) (x:Int),k<i→b.shares[k]? =some x→1≤x∧x≤100
theorem zEh:ckA b=true↔(0≤b.bg∧b.bg≤2000)∧b.opens.length=3∧b.ends.length=3∧(1≤b.scenes.length∧b.scenes.length≤10)∧(0≤b.fee∧b.fee≤100000)∧b.loads.length≤8∧(1≤b.cart∧b.cart≤500)∧(0≤b.cost∧b.cost≤100000)∧(0≤b.feast∧b.feast≤100000)∧1≤b.shares.length∧b.shares.length≤12:=by
 unfold ckA
 simp only[Bool.and_eq_true,decide_eq_true_eq,zAP]
 omega
theorem P4_valid:P4 b b.shares.length↔zAs b=true:=by
 rw[zCY]
 unfold P4 P3 P2 P1
 rw[zEh]
 constructor
 ·rintro⟨⟨⟨⟨⟨h1,h2,h3,h4,h5,h6,h7,h8,h9,h10⟩,hA⟩,hB⟩,hC⟩,hD⟩
  have mo:∀x∈b.opens,0≤x∧x≤2000:=fun x hx=>by
   obtain⟨i,hi,rfl⟩:=List.getElem_of_mem hx
   exact(hA i _ (b.ends[i]'(by omega)) (by omega) (List.getElem?_eq_getElem hi) (List.getElem?_eq_getElem (by omega))).1
  have me:∀x∈b.ends,0≤x∧x≤2000:=fun x hx=>by
   obtain⟨i,hi,rfl⟩:=List.getElem_of_mem hx
   exact(hA i (b.opens[i]'(by omega)) _ (by omega) (List.getElem?_eq_getElem (by omega)) (List.getElem?_eq_getElem hi)).2
  refine⟨⟨h2,h3,h4,h6,h10,⟨h1.1,by omega⟩,mo,me,fun i q hq=>hB i q (List.getElem?_eq_some_iff.1 hq).1 hq,h5,h8,h9,fun x hx=>?_,h7,fun x hx=>?_⟩,h1.2⟩
  ·obtain⟨i,hi,rfl⟩:=List.getElem_of_mem hx
   exact hC i _ hi (List.getElem?_eq_getElem hi)
  ·obtain⟨i,hi,rfl⟩:=List.getElem_of_mem hx
   exact hD i _ hi (List.getElem?_eq_getElem hi)
 ·intro h
  exact⟨⟨⟨⟨⟨⟨h.bg.1,h.bg2⟩,h.op,h.en,h.sn,h.fe,h.ln,h.ca,h.co,h.fs,h.pn⟩,fun k x y _ hx hy=>⟨h.ops x (List.mem_of_getElem? hx),h.ens y (List.mem_of_getElem? hy)⟩⟩,fun k q _ hq=>h.sc k q hq⟩,fun k x _ hx=>h.lo x (List.mem_of_getElem? hx)⟩,fun k x _ hx=>h.sh x (List.mem_of_getElem? hx)⟩
theorem zEH{α:Type}{l:List α}{Q:Nat→α→Prop}{R:Prop}{i:Nat}{x:α}(hx:l[i]? =some x):(R∧∀(k:Nat) (y:α),k<i+1→l[k]? =some y→Q k y)↔(R∧∀(k:Nat) (y:α),k<i→l[k]? =some y→Q k y)∧Q i x:=by
 constructor
 ·rintro⟨h1,h2⟩
  exact⟨⟨h1,fun k y hk hy=>h2 k y (by omega) hy⟩,h2 i x (by omega) hx⟩
 ·rintro⟨⟨h1,h2⟩,h3⟩
  refine⟨h1,fun k y hk hy=>?_⟩
  by_cases e:k=i
  ·subst e;rw[hx]at hy;cases hy;exact h3
  ·exact h2 k y (by omega) hy
theorem P1_succ{i:Nat}{x y:Int}(hx:b.opens[i]? =some x)(hy:b.ends[i]? =some y):P1 b (i+1)↔P1 b i∧inS 0 2000 x=true∧inS 0 2000 y=true:=by
 rw[zAP,zAP]
 constructor
 ·rintro⟨h1,h2⟩
  exact⟨⟨h1,fun k x y hk=>h2 k x y (by omega)⟩,h2 i x y (by omega) hx hy⟩
 ·rintro⟨⟨h1,h2⟩,h3⟩
  refine⟨h1,fun k u v hk hu hv=>?_⟩
  by_cases e:k=i
  ·subst e;rw[hx]at hu;rw[hy]at hv;cases hu;cases hv;exact h3
  ·exact h2 k u v (by omega) hu hv
theorem P2_succ{i:Nat}{q:Sc}(hq:b.scenes[i]? =some q):P2 b (i+1)↔P2 b i∧inS (prA b.scenes i) 2 q.part=true∧inS 0 100 q.wt=true∧goodB q.lo q.hi 0 600=true:=by
 rw[zAP,zAP,good_t]
 exact zEH (Q:=scOk b) hq
theorem P3_succ{i:Nat}{x:Int}(hx:b.loads[i]? =some x):P3 b (i+1)↔P3 b i∧inS 1 500 x=true:=by
 rw[zAP]
 exact zEH (Q:=fun _ x=>1≤x∧x≤500) hx
theorem P4_succ{i:Nat}{x:Int}(hx:b.shares[i]? =some x):P4 b (i+1)↔P4 b i∧inS 1 100 x=true:=by
 rw[zAP]
 exact zEH (Q:=fun _ x=>1≤x∧x≤100) hx
theorem P1_mono{i j:Nat}(h:i≤j):P1 b j→P1 b i:=fun⟨h1,h2⟩=>⟨h1,fun k x y hk=>h2 k x y (by omega)⟩
theorem P2_mono{i j:Nat}(h:i≤j):P2 b j→P2 b i:=fun⟨h1,h2⟩=>⟨h1,fun k q hk=>h2 k q (by omega)⟩
theorem P3_mono{i j:Nat}(h:i≤j):P3 b j→P3 b i:=fun⟨h1,h2⟩=>⟨h1,fun k q hk=>h2 k q (by omega)⟩
theorem P4_mono{i j:Nat}(h:i≤j):P4 b j→P4 b i:=fun⟨h1,h2⟩=>⟨h1,fun k q hk=>h2 k q (by omega)⟩
theorem zEB{P:Prop}(h: ¬ P):(false=true↔P):=⟨(fun e=>by cases e),fun p=>absurd p h⟩
theorem P3_zero:P2 b b.scenes.length↔P3 b 0:=⟨fun h=>⟨h,fun k x hk=>by omega⟩,fun h=>h.1⟩
theorem P4_zero:P3 b b.loads.length↔P4 b 0:=⟨fun h=>⟨h,fun k x hk=>by omega⟩,fun h=>h.1⟩
theorem P2_zero:P1 b 3↔P2 b 0:=⟨fun h=>⟨h,fun k x hk=>by omega⟩,fun h=>h.1⟩
theorem P1_zero:ckA b=true↔P1 b 0:=⟨fun h=>⟨h,fun k x y hk=>by omega⟩,fun h=>h.1⟩
set_option maxHeartbeats 16000000 in
theorem ret18(hi:Off is)(b:Bk):RetP Tryd.prog is orc 18 [b.u] (.int .i64 (if zAs b=true then 0 else 100)):=by
 refine zp body18 pure18 (hi 18 (by decide)) rfl rfl (zCT (wU b 4)) (.inl (.int _ _ _)) ?_
 refine kQ (yB rfl rfl (zB rfl (zC ?_)))
 refine zF [(1,U.box 0 0)] ([SB.box (Bk.cs b)]) (.n1 rfl) rfl fun fr=>?_
 refine k_cut (fun st=>st.st=[.box (Bk.cs b)]∧Holds st [(1,.box 0 0),(3,.bool (ckA b))]) ?_ (fun st hM=>?_)
 ·have q1:=zDm (orc:=orc) hi b.bg 0 2000
  have q2:=zDm (orc:=orc) hi b.scenes.length 1 10
  have q3:=zDm (orc:=orc) hi b.fee 0 100000
  have q4:=zDm (orc:=orc) hi b.cart 1 500
  have q5:=zDm (orc:=orc) hi b.cost 0 100000
  have q6:=zDm (orc:=orc) hi b.feast 0 100000
  have q7:=zDm (orc:=orc) hi b.shares.length 1 12
  unfold ckA
  generalize inS 0 2000 b.bg=z1 at*
  generalize inS 1 10 b.scenes.length=z2 at*
  generalize inS 0 100000 b.fee=z3 at*
  generalize inS 1 500 b.cart=z4 at*
  generalize inS 0 100000 b.cost=z5 at*
  generalize inS 0 100000 b.feast=z6 at*
  generalize inS 1 12 b.shares.length=z7 at*
  refine k_region (kA rfl zGE (kC sh3 rfl (zG rfl (q1) (.lrefl _) (zA rfl ?_))))
  refine yp rfl rfl rfl rfl (fun h13=>?_) (fun h13=>?_)
  ·refine kA rfl zAD ?_
   refine kh rfl (by assumption) (kC sh22 rfl (kh rfl (by assumption) (zP rfl ty22 rfl (List.length_map _) ?_)))
   refine kh rfl (by assumption) (kw rfl (zc rfl rfl (by assumption) ?_))
   refine zL [(1,U.box 0 0),(18,U.bool (decide (↑(List.length (Bk.opens b))=(3:Int))))] [] ([SB.box (Bk.cs b)]) (.n2 rfl) rfl rfl fun fr=>?_
   refine zA rfl ?_
   refine yp rfl rfl rfl rfl (fun h19=>?_) (fun h19=>?_)
   ·refine kA rfl zAC ?_
    refine kh rfl (by assumption) (kC sh22 rfl (kh rfl (by assumption) (zP rfl ty22 rfl (List.length_map _) ?_)))
    refine kh rfl (by assumption) (kw rfl (zc rfl rfl (by assumption) ?_))
    refine zA rfl ?_
    refine yp rfl rfl rfl rfl (fun h25=>?_) (fun h25=>?_)
    ·refine kA rfl ze ?_
     refine kh rfl (by assumption) (kC sh23 rfl ?_)
     refine zL [(1,U.box 0 0),(25,U.bool (decide (↑(List.length (Bk.ends b))=(3:Int)))),(27,.lst .ro 5 (scsU (Bk.scenes b)))] [] ([SB.box (Bk.cs b)]) (.n3 rfl) rfl rfl fun fr=>?_
     refine kh rfl (by assumption) ?_
     refine zL [(1,U.box 0 0),(25,U.bool (decide (↑(List.length (Bk.ends b))=(3:Int)))),(27,.lst .ro 5 (scsU (Bk.scenes b)))] [] ([SB.box (Bk.cs b)]) (.n3 rfl) rfl rfl fun fr=>?_
     refine zP rfl ty23 rfl (List.length_map _) ?_
     refine kh rfl (by assumption) (zG rfl (q2) (.lrefl _) (zc rfl rfl (by assumption) ?_))
     refine zA rfl ?_
     refine yp rfl rfl rfl rfl (fun h31=>?_) (fun h31=>?_)
     ·refine kA rfl fld25_4 ?_
      refine kh rfl (by assumption) (kC sh3 rfl (kh rfl (by assumption) (zG rfl (q3) (.lrefl _) (zc rfl rfl (by assumption) ?_))))
      refine zA rfl ?_
      refine zL [(1,U.box 0 0),(36,U.bool z3)] [] ([SB.box (Bk.cs b)]) (.n2 rfl) rfl rfl fun fr=>?_
      refine yp rfl rfl rfl rfl (fun h36=>?_) (fun h36=>?_)
      ·refine zL [(1,U.box 0 0),(36,U.bool z3)] [] ([SB.box (Bk.cs b)]) (.n2 rfl) rfl rfl fun fr=>?_
       refine kA rfl zCq (kh rfl (by assumption) (kC sh22 rfl (kh rfl (by assumption) (zP rfl ty22 rfl (List.length_map _) ?_))))
       refine kh rfl (by assumption) (ks rfl (zc rfl rfl (by assumption) ?_))
       refine zA rfl ?_
       refine yp rfl rfl rfl rfl (fun h42=>?_) (fun h42=>?_)
       ·refine kA rfl fld25_6 ?_
        refine kh rfl (by assumption) (kC sh3 rfl (kh rfl (by assumption) (zG rfl (q4) (.lrefl _) ?_)))
        refine zL [(1,U.box 0 0),(42,U.bool (decide (↑(List.length (Bk.loads b))≤(8:Int)))),(45,U.bool z4)] [] ([SB.box (Bk.cs b)]) (.n3 rfl) rfl rfl fun fr=>?_
        refine zc rfl rfl (by assumption) ?_
        refine zA rfl ?_
        refine yp rfl rfl rfl rfl (fun h47=>?_) (fun h47=>?_)
        ·refine kA rfl fld25_7 ?_
         refine kh rfl (by assumption) (kC sh3 rfl (kh rfl (by assumption) (zG rfl (q5) (.lrefl _) (zc rfl rfl (by assumption) ?_))))
         refine zA rfl ?_
         refine yp rfl rfl rfl rfl (fun h52=>?_) (fun h52=>?_)
         ·refine kA rfl fld25_8 ?_
          refine kh rfl (by assumption) (kC sh3 rfl ?_)
          refine zL [(1,U.box 0 0),(52,U.bool z5),(54,.int .i64 (Bk.feast b))] [] ([SB.box (Bk.cs b)]) (.n3 rfl) rfl rfl fun fr=>?_
          refine kh rfl (by assumption) ?_
          refine zL [(1,U.box 0 0),(52,U.bool z5),(54,.int .i64 (Bk.feast b))] [] ([SB.box (Bk.cs b)]) (.n3 rfl) rfl rfl fun fr=>?_
          refine zG rfl (q6) (.lrefl _) (zc rfl rfl (by assumption) ?_)
          refine zA rfl ?_
          refine yp rfl rfl rfl rfl (fun h57=>?_) (fun h57=>?_)
          ·refine kA rfl zDd ?_
           refine kh rfl (by assumption) (kC sh22 rfl (kh rfl (by assumption) (zP rfl ty22 rfl (List.length_map _) ?_)))
           refine kh rfl (by assumption) (zG rfl (q7) (.lrefl _) (zc rfl rfl (by assumption) ?_))
           refine zB rfl (zC ?_)
           subst_vars;exact⟨rfl,rfl,.cons rfl (.cons (by rw[‹decide ((b.opens.length:Int)=3)=true›, ‹decide ((b.ends.length:Int)=3)=true›, ‹decide ((b.loads.length:Int)≤8)=true›];rfl) (.nil rfl))⟩
          ·refine kg rfl (by assumption) ?_
           refine kg rfl (by assumption) (kg rfl (by assumption) (zW rfl rfl (by assumption) ?_))
           refine zB rfl (zC ?_)
           subst_vars;exact⟨rfl,rfl,.cons rfl (.cons (by rw[‹decide ((b.opens.length:Int)=3)=true›, ‹decide ((b.ends.length:Int)=3)=true›, ‹decide ((b.loads.length:Int)≤8)=true›];rfl) (.nil rfl))⟩
         ·refine kg rfl (by assumption) ?_
          refine zL [(1,U.box 0 0),(52,U.bool z5)] [] ([SB.box (Bk.cs b)]) (.n2 rfl) rfl rfl fun fr=>?_
          refine kg rfl (by assumption) (zW rfl rfl (by assumption) ?_)
          refine zA rfl (ke rfl (ke rfl (ke rfl (ke rfl (kF rfl ?_)))))
          refine zB rfl (zC ?_)
          subst_vars;exact⟨rfl,rfl,.cons rfl (.cons (by rw[‹decide ((b.opens.length:Int)=3)=true›, ‹decide ((b.ends.length:Int)=3)=true›, ‹decide ((b.loads.length:Int)≤8)=true›];rfl) (.nil rfl))⟩
        ·refine kg rfl (by assumption) ?_
         refine kg rfl (by assumption) (zW rfl rfl (by assumption) ?_)
         refine zA rfl (ke rfl (ke rfl ?_))
         refine zL [(1,U.box 0 0),(52,.bool false)] [] ([SB.box (Bk.cs b)]) (.n2 rfl) rfl rfl fun fr=>?_
         refine ke rfl (kF rfl ?_)
         refine zA rfl (ke rfl (ke rfl (ke rfl (ke rfl (kF rfl ?_)))))
         refine zB rfl (zC ?_)
         subst_vars;exact⟨rfl,rfl,.cons rfl (.cons (by rw[‹decide ((b.opens.length:Int)=3)=true›, ‹decide ((b.ends.length:Int)=3)=true›, ‹decide ((b.loads.length:Int)≤8)=true›];rfl) (.nil rfl))⟩
       ·refine kg rfl (by assumption) ?_
        refine kg rfl (by assumption) ?_
        refine zL [(1,U.box 0 0),(42,U.bool (decide (↑(List.length (Bk.loads b))≤(8:Int))))] [] ([SB.box (Bk.cs b)]) (.n2 rfl) rfl rfl fun fr=>?_
        refine zW rfl rfl (by assumption) ?_
        refine zA rfl (ke rfl (ke rfl (ke rfl (kF rfl ?_))))
        refine zA rfl (ke rfl (ke rfl ?_))
        refine zL [(1,U.box 0 0),(52,.bool false)] [] ([SB.box (Bk.cs b)]) (.n2 rfl) rfl rfl fun fr=>?_
        refine ke rfl (kF rfl ?_)
        refine zA rfl (ke rfl (ke rfl (ke rfl (ke rfl (kF rfl ?_)))))
        refine zB rfl (zC ?_)
        subst_vars;exact⟨rfl,rfl,.cons rfl (.cons (by rw[‹decide ((b.opens.length:Int)=3)=true›, ‹decide ((b.ends.length:Int)=3)=true›, ‹decide ((b.loads.length:Int)≤8)=false›];rfl) (.nil rfl))⟩
      ·refine kg rfl (by assumption) ?_
       refine kg rfl (by assumption) (kg rfl (by assumption) (zW rfl rfl (by assumption) ?_))
       refine zA rfl (ke rfl (ke rfl (ke rfl ?_)))
       refine zL [(1,U.box 0 0),(42,.bool false)] [] ([SB.box (Bk.cs b)]) (.n2 rfl) rfl rfl fun fr=>?_
       refine kF rfl ?_
       refine zA rfl (ke rfl (ke rfl (ke rfl (kF rfl ?_))))
       refine zA rfl (ke rfl (ke rfl ?_))
       refine zL [(1,U.box 0 0),(52,.bool false)] [] ([SB.box (Bk.cs b)]) (.n2 rfl) rfl rfl fun fr=>?_
       refine ke rfl (kF rfl ?_)
       refine zA rfl (ke rfl (ke rfl (ke rfl (ke rfl (kF rfl ?_)))))
       refine zB rfl (zC ?_)
       subst_vars;exact⟨rfl,rfl,.cons rfl (.cons (by rw[‹decide ((b.opens.length:Int)=3)=true›, ‹decide ((b.ends.length:Int)=3)=true›];rfl) (.nil rfl))⟩
     ·refine kg rfl (by assumption) ?_
      refine kg rfl (by assumption) (zW rfl rfl (by assumption) ?_)
      refine zA rfl ?_
      refine zL [(1,U.box 0 0),(36,.bool false)] [] ([SB.box (Bk.cs b)]) (.n2 rfl) rfl rfl fun fr=>?_
      refine ke rfl (ke rfl (ke rfl (ke rfl (kF rfl ?_))))
      refine zA rfl (ke rfl (ke rfl (ke rfl ?_)))
      refine zL [(1,U.box 0 0),(42,.bool false)] [] ([SB.box (Bk.cs b)]) (.n2 rfl) rfl rfl fun fr=>?_
      refine kF rfl ?_
      refine zA rfl (ke rfl (ke rfl (ke rfl (kF rfl ?_))))
      refine zA rfl (ke rfl (ke rfl ?_))
      refine zL [(1,U.box 0 0),(52,.bool false)] [] ([SB.box (Bk.cs b)]) (.n2 rfl) rfl rfl fun fr=>?_
      refine ke rfl (kF rfl ?_)
      refine zA rfl (ke rfl (ke rfl (ke rfl (ke rfl (kF rfl ?_)))))
      refine zB rfl (zC ?_)
      subst_vars;exact⟨rfl,rfl,.cons rfl (.cons (by rw[‹decide ((b.opens.length:Int)=3)=true›, ‹decide ((b.ends.length:Int)=3)=true›];rfl) (.nil rfl))⟩
    ·refine kg rfl (by assumption) ?_
     refine zL [(1,U.box 0 0),(25,U.bool (decide (↑(List.length (Bk.ends b))=(3:Int))))] [] ([SB.box (Bk.cs b)]) (.n2 rfl) rfl rfl fun fr=>?_
     refine kg rfl (by assumption) (kg rfl (by assumption) (zW rfl rfl (by assumption) ?_))
     refine zA rfl (ke rfl (ke rfl (ke rfl (kF rfl ?_))))
     refine zA rfl ?_
     refine zL [(1,U.box 0 0),(36,.bool false)] [] ([SB.box (Bk.cs b)]) (.n2 rfl) rfl rfl fun fr=>?_
     refine ke rfl (ke rfl (ke rfl (ke rfl (kF rfl ?_))))
     refine zA rfl (ke rfl (ke rfl (ke rfl ?_)))
     refine zL [(1,U.box 0 0),(42,.bool false)] [] ([SB.box (Bk.cs b)]) (.n2 rfl) rfl rfl fun fr=>?_
     refine kF rfl ?_
     refine zA rfl (ke rfl (ke rfl (ke rfl (kF rfl ?_))))
     refine zA rfl (ke rfl (ke rfl ?_))
     refine zL [(1,U.box 0 0),(52,.bool false)] [] ([SB.box (Bk.cs b)]) (.n2 rfl) rfl rfl fun fr=>?_
     refine ke rfl (kF rfl ?_)
     refine zA rfl (ke rfl (ke rfl (ke rfl (ke rfl (kF rfl ?_)))))
     refine zB rfl (zC ?_)
     subst_vars;exact⟨rfl,rfl,.cons rfl (.cons (by rw[‹decide ((b.opens.length:Int)=3)=true›, ‹decide ((b.ends.length:Int)=3)=false›];rfl) (.nil rfl))⟩
   ·refine kg rfl (by assumption) ?_
    refine kg rfl (by assumption) (kg rfl (by assumption) (zW rfl rfl (by assumption) ?_))
    refine zA rfl (ke rfl (ke rfl ?_))
    refine zL [(1,U.box 0 0),(25,.bool false)] [] ([SB.box (Bk.cs b)]) (.n2 rfl) rfl rfl fun fr=>?_
    refine ke rfl (ke rfl (kF rfl ?_))
    refine zA rfl (ke rfl (ke rfl (ke rfl (kF rfl ?_))))
    refine zA rfl ?_
    refine zL [(1,U.box 0 0),(36,.bool false)] [] ([SB.box (Bk.cs b)]) (.n2 rfl) rfl rfl fun fr=>?_
    refine ke rfl (ke rfl (ke rfl (ke rfl (kF rfl ?_))))
    refine zA rfl (ke rfl (ke rfl (ke rfl ?_)))
    refine zL [(1,U.box 0 0),(42,.bool false)] [] ([SB.box (Bk.cs b)]) (.n2 rfl) rfl rfl fun fr=>?_
    refine kF rfl ?_
    refine zA rfl (ke rfl (ke rfl (ke rfl (kF rfl ?_))))
    refine zA rfl (ke rfl (ke rfl ?_))
    refine zL [(1,U.box 0 0),(52,.bool false)] [] ([SB.box (Bk.cs b)]) (.n2 rfl) rfl rfl fun fr=>?_
    refine ke rfl (kF rfl ?_)
    refine zA rfl (ke rfl (ke rfl (ke rfl (ke rfl (kF rfl ?_)))))
    refine zB rfl (zC ?_)
    subst_vars;exact⟨rfl,rfl,.cons rfl (.cons (by rw[‹decide ((b.opens.length:Int)=3)=false›];rfl) (.nil rfl))⟩
  ·refine kg rfl (by assumption) ?_
   refine kg rfl (by assumption) (kg rfl (by assumption) (zW rfl rfl (by assumption) ?_))
   refine zL [(1,U.box 0 0),(18,.bool false)] [] ([SB.box (Bk.cs b)]) (.n2 rfl) rfl rfl fun fr=>?_
   refine zA rfl (ke rfl (ke rfl (ke rfl (ke rfl (kF rfl ?_)))))
   refine zA rfl (ke rfl (ke rfl ?_))
   refine zL [(1,U.box 0 0),(25,.bool false)] [] ([SB.box (Bk.cs b)]) (.n2 rfl) rfl rfl fun fr=>?_
   refine ke rfl (ke rfl (kF rfl ?_))
   refine zA rfl (ke rfl (ke rfl (ke rfl (kF rfl ?_))))
   refine zA rfl ?_
   refine zL [(1,U.box 0 0),(36,.bool false)] [] ([SB.box (Bk.cs b)]) (.n2 rfl) rfl rfl fun fr=>?_
   refine ke rfl (ke rfl (ke rfl (ke rfl (kF rfl ?_))))
   refine zA rfl (ke rfl (ke rfl (ke rfl ?_)))
   refine zL [(1,U.box 0 0),(42,.bool false)] [] ([SB.box (Bk.cs b)]) (.n2 rfl) rfl rfl fun fr=>?_
   refine kF rfl ?_
   refine zA rfl (ke rfl (ke rfl (ke rfl (kF rfl ?_))))
   refine zA rfl (ke rfl (ke rfl ?_))
   refine zL [(1,U.box 0 0),(52,.bool false)] [] ([SB.box (Bk.cs b)]) (.n2 rfl) rfl rfl fun fr=>?_
   refine ke rfl (kF rfl ?_)
   refine zA rfl (ke rfl (ke rfl (ke rfl (ke rfl (kF rfl ?_)))))
   refine zB rfl (zC ?_)
   subst_vars;exact⟨rfl,rfl,.cons rfl (.n1 rfl)⟩
 obtain⟨hst,hs⟩:=hM
 refine k_cut (fun st=>∃z:Bool,(z=true↔P1 b 3)∧st.st=[.box (Bk.cs b)]∧Holds st [(1,.box 0 0),(3,.bool z)]) ?_ (fun st hM=>?_)
 ·have hP1:ckA b=true↔P1 b 0:=P1_zero
  have hln:ckA b=true→b.opens.length=3∧b.ends.length=3:=fun h=>⟨(zEh.1 h).2.1,(zEh.1 h).2.2.1⟩
  generalize ckA b=z at*
  refine zF _ _ hs hst fun fr=>?_
  refine kQ (zB rfl (zC (zH ?_)))
  refine yR (fun kk s2=>∃(i:Nat) (w:Bool),kk+i=3∧(w=true↔P1 b i)∧(w=true→z=true)∧s2.st=[.box (Bk.cs b)]∧Holds s2 [(1,.box 0 0),(3,.bool w),(4,.int .i64 i)]) (fun kk s2 hI=>?_) 3 _ ⟨0,z,rfl,hP1,(fun h=>h),rfl,.cons rfl (.n2 rfl)⟩
  obtain⟨i,w,hk,hw,hwz,hst2,hs2⟩:=hI
  refine zF _ _ hs2 hst2 fun fr2=>?_
  cases w with
  |false=>
   have hn: ¬ P1 b i:=fun hp=>by cases hw.2 hp
   refine k_seq (kQ (zA rfl (zA rfl (ke rfl (ke rfl (kF rfl ?_))))))
   refine zC (k_cF rfl rfl ?_)
   refine zr ?_
   exact⟨rfl,false,zEB fun hp=>hn (P1_mono (by omega) hp),rfl,.cons rfl (.n1 rfl)⟩
  |true=>
   have hP:=hw.1 rfl
   obtain⟨l1,l2⟩:=hln (hwz rfl)
   by_cases hin:i<3
   ·obtain⟨x,hx⟩:∃x,b.opens[i]? =some x:=⟨b.opens[i]'(by omega),List.getElem?_eq_getElem (by omega)⟩
    obtain⟨y,hy⟩:∃y,b.ends[i]? =some y:=⟨b.ends[i]'(by omega),List.getElem?_eq_getElem (by omega)⟩
    have hsu:=P1_succ hx hy
    have qx:=zDm (orc:=orc) hi x 0 2000
    have qy:=zDm (orc:=orc) hi y 0 2000
    cases c1:inS 0 2000 x with
    |false=>
     rw[c1]at qx hsu
     refine k_seq (kQ (zA rfl (zA rfl (kf rfl (zA rfl (kf rfl (kq rfl (kG rfl ?_))))))))
     refine zC (k_cT rfl (kH (by omega)) (zJ (k_seq (zH (k_region (kA rfl zAD (kC sh22 rfl (zA rfl (zX (u:=.int .i64 (x)) rfl ty22 rfl rfl (Int.natCast_nonneg _) (by simp[hx]) cl3 ?_)))))))))
     refine kE sh3 rfl ?_
     refine zG rfl (qx) (.lrefl _) (zA rfl (ke rfl (ke rfl ?_)))
     refine zL [(1,U.box 0 0),(4,.int .i64 ↑i),(76,.bool false)] [] ([SB.box (Bk.cs b)]) (.n3 rfl) rfl rfl fun fr=>?_
     refine ke rfl (ke rfl (ke rfl (ke rfl (kF rfl ?_))))
     refine zB rfl (zC ?_)
     refine zF [(1,U.box 0 0),(3,.bool false),(4,.int .i64 ↑i)] ([SB.box (Bk.cs b)]) (.n3 rfl) rfl fun fr=>?_
     refine k_region (zA rfl ?_)
     refine kB rfl (by unfold I64;omega) (zB rfl (zC ?_))
     exact⟨kk - 1,by omega,i+1,false,by omega,zEB (fun hp=>by have:=(hsu.1 hp).2.1;cases this),(fun h=>by cases h),rfl,.cons rfl (.n2 rfl)⟩
    |true=>
     rw[c1]at qx hsu
     have hsu:P1 b (i+1)↔inS 0 2000 y=true:=⟨fun h=>(hsu.1 h).2.2,fun h=>hsu.2 ⟨hP,rfl,h⟩⟩
     generalize inS 0 2000 y=v at*
     have hz:=hwz rfl
     refine k_seq (kQ (zA rfl (zA rfl (kf rfl (zA rfl (kf rfl (kq rfl (kG rfl ?_))))))))
     refine zC (k_cT rfl (kH (by omega)) (zJ (k_seq (zH (k_region (kA rfl zAD (kC sh22 rfl (zA rfl (zX (u:=.int .i64 (x)) rfl ty22 rfl rfl (Int.natCast_nonneg _) (by simp[hx]) cl3 ?_)))))))))
     refine kE sh3 rfl ?_
     refine zG rfl (qx) (.lrefl _) (zA rfl (kf rfl (kA rfl zAC (kf rfl (kC sh22 rfl ?_)))))
     refine zL [(1,U.box 0 0),(4,.int .i64 ↑i),(76,.bool true),(78,.lst .ro 1 (zE (Bk.ends b)))] [] ([SB.box (Bk.cs b)]) (.n4 rfl) rfl rfl fun fr=>?_
     refine kf rfl ?_
     refine zL [(1,U.box 0 0),(4,.int .i64 ↑i),(76,.bool true),(78,.lst .ro 1 (zE (Bk.ends b)))] [] ([SB.box (Bk.cs b)]) (.n4 rfl) rfl rfl fun fr=>?_
     refine zA rfl (kf rfl (zX (u:=.int .i64 (y)) rfl ty22 rfl rfl (Int.natCast_nonneg _) (by simp[hy]) cl3 ?_))
     refine kf rfl (kE sh3 rfl ?_)
     refine kf rfl (zG rfl (qy) (.lrefl _) (kG rfl ?_))
     refine zB rfl (zC ?_)
     refine zF [(1,U.box 0 0),(3,U.bool v),(4,.int .i64 ↑i)] ([SB.box (Bk.cs b)]) (.n3 rfl) rfl fun fr=>?_
     refine k_region (zA rfl ?_)
     refine kB rfl (by unfold I64;omega) (zB rfl (zC ?_))
     exact⟨kk - 1,by omega,i+1,v,by omega,hsu.symm,fun _=>hz,rfl,.cons rfl (.n2 rfl)⟩
   ·have hie:i=3:=by omega
    subst hie
    refine k_seq (kQ (zA rfl (zA rfl (kf rfl (zA rfl (kf rfl (kq rfl (kG rfl ?_))))))))
    refine zC (k_cF rfl rfl ?_)
    refine zr ?_
    exact⟨rfl,true,hw,rfl,.cons rfl (.n1 rfl)⟩
 clear hst hs
 obtain⟨z,hz,hst,hs⟩:=hM
 refine zF _ _ hs hst fun fr=>?_
 refine kQ (zB rfl (zC ?_))
 have hlz:z=true→ckA b=true:=fun h=>(hz.1 h).1
 have hz2:z=true↔P2 b 0:=hz.trans P2_zero
 refine k_cut (fun st=>∃(w:Bool) (e:List SB),(w=true↔P2 b b.scenes.length)∧st.st=[.box (Bk.cs b)]++e∧Holds st [(1,.box 0 0),(3,.bool w)]) ?_ (fun st hM=>?_)
 ·refine kQ ?_
  refine zB rfl (zC (zH ?_))
  refine yR (fun kk s2=>∃(i:Nat) (w:Bool) (e:List SB),kk+i=b.scenes.length∧(w=true↔P2 b i)∧s2.st=[.box (Bk.cs b)]++e∧Holds s2 [(1,.box 0 0),(3,.bool w),(5,.int .i64 (prA b.scenes i)),(6,.int .i64 i)]) (fun kk s2 hI=>?_) b.scenes.length _ ⟨0,z,[],by omega,hz2,rfl,.c4 rfl rfl rfl rfl (.nil rfl)⟩
  obtain⟨i,w,e,hk,hw,hst2,hs2⟩:=hI
  obtain⟨Y,hY⟩:∃Y:List SB,Y=[.box (Bk.cs b)]++e:=⟨_,rfl⟩
  have y0:Y[0]? =some (.box (Bk.cs b)):=by rw[hY];rfl
  rw[←hY]at hst2
  cases w with
  |false=>
   have hn: ¬ P2 b i:=fun hp=>by cases hw.2 hp
   refine zF _ _ hs2 hst2 fun fr2=>?_
   refine k_seq (kQ (zA rfl (zA rfl (ke rfl (ke rfl (ke rfl (ke rfl (ke rfl (kF rfl ?_)))))))))
   refine zC (k_cF rfl rfl ?_)
   refine zr ?_
   exact⟨rfl,false,e,zEB (fun hp=>hn (P2_mono (by omega) hp)),hY,.cons rfl (.n1 rfl)⟩
  |true=>
   have hP:=hw.1 rfl
   have hsn:=(zEh.1 hP.1.1).2.2.2.1
   by_cases hin:i<b.scenes.length
   ·obtain⟨q,hq⟩:∃q,b.scenes[i]? =some q:=⟨b.scenes[i],List.getElem?_eq_getElem hin⟩
    have hpr:prA b.scenes (i+1)=q.part:=by show((b.scenes[i]?).map Sc.part).getD 0=_;rw[hq];rfl
    have hsu:=P2_succ hq
    have qx:=zDm (orc:=orc) hi q.part (prA b.scenes i) 2
    have qy:=zDm (orc:=orc) hi q.wt 0 100
    have qz:=ret57 (orc:=orc) hi q.lo q.hi 0 600
    generalize prA b.scenes i=lp at*
    have hYe:Y++[SB.box [.int .i64 q.part,.int .i64 q.wt,.int .i64 q.lo,.int .i64 q.hi,.bool q.must]]=[.box (Bk.cs b)]++(e++[SB.box [.int .i64 q.part,.int .i64 q.wt,.int .i64 q.lo,.int .i64 q.hi,.bool q.must]]):=by rw[hY,List.append_assoc]
    refine zF _ _ hs2 hst2 fun fr2=>?_
    cases c1:inS lp 2 q.part with
    |false=>
     rw[c1]at qx hsu
     refine k_seq (kQ (zA rfl (zA rfl (kf rfl (zA rfl (kf rfl (kA rfl ze (kf rfl (zQ rfl rfl y0 sh23 rfl ?_)))))))))
     refine kf rfl (zP rfl ty23 rfl (List.length_map _) ?_)
     refine kf rfl (kq rfl (kG rfl ?_))
     refine zC (k_cT rfl (kH (by omega)) (zJ (k_seq (zH (kQ (kA rfl ze (zQ rfl rfl y0 sh23 rfl ?_)))))))
     refine zA rfl (zX (u:=(q).u) rfl ty23 rfl rfl (Int.natCast_nonneg _) (by simp[hq]) cl50 ?_)
     refine yi rfl rfl sh50 rfl ?_
     refine zq rfl ze50 ?_
     refine zZ rfl (za _ _) sh50 rfl rfl rfl rfl rfl ?_
     refine zC (kQ (kA rfl yx (zQ rfl rfl (zBV _ _ _) sh3 rfl ?_)))
     refine zA rfl (zG rfl (qx) (.lrefl _) (zA rfl (ke rfl (ke rfl (ke rfl (kF rfl ?_))))))
     refine zA rfl (ke rfl (ke rfl (ke rfl (kF rfl ?_))))
     refine zB rfl (zC ?_)
     refine zF [(1,.box 0 0),(3,.bool false),(5,.int .i64 lp),(6,.int .i64 i),(7,.box Y.length 0)] (Y++[SB.box [.int .i64 q.part,.int .i64 q.wt,.int .i64 q.lo,.int .i64 q.hi,.bool q.must]]) (.n5 rfl) (by show(Y++[SB.box _]).set Y.length (SB.box _)=_;rw[yc];rfl) fun fr3=>?_
     refine k_region (kA rfl yx (zQ rfl rfl (za _ _) sh3 rfl ?_))
     refine zB rfl (zC (k_region (zA rfl ?_)))
     refine kB rfl (by unfold I64;omega) (zB rfl (zC ?_))
     exact⟨kk - 1,by omega,i+1,false,e++[SB.box [.int .i64 q.part,.int .i64 q.wt,.int .i64 q.lo,.int .i64 q.hi,.bool q.must]],by omega,zEB (fun hp=>by have:=(hsu.1 hp).2.1;cases this),hYe,.cons rfl (.cons rfl (.cons (by rw[hpr];rfl) (.n1 rfl)))⟩
    |true=>
     rw[c1]at qx hsu
     cases c2:inS 0 100 q.wt with
     |false=>
      rw[c2]at qy hsu
      refine k_seq (kQ (zA rfl (zA rfl (kf rfl (zA rfl (kf rfl (kA rfl ze (kf rfl (zQ rfl rfl y0 sh23 rfl ?_)))))))))
      refine kf rfl (zP rfl ty23 rfl (List.length_map _) ?_)
      refine kf rfl (kq rfl (kG rfl ?_))
      refine zC (k_cT rfl (kH (by omega)) (zJ (k_seq (zH (kQ (kA rfl ze (zQ rfl rfl y0 sh23 rfl ?_)))))))
      refine zA rfl (zX (u:=(q).u) rfl ty23 rfl rfl (Int.natCast_nonneg _) (by simp[hq]) cl50 ?_)
      refine yi rfl rfl sh50 rfl ?_
      refine zq rfl ze50 ?_
      refine zZ rfl (za _ _) sh50 rfl rfl rfl rfl rfl ?_
      refine zC (kQ (kA rfl yx (zQ rfl rfl (zBV _ _ _) sh3 rfl ?_)))
      refine zA rfl (zG rfl (qx) (.lrefl _) (zA rfl (kf rfl (kA rfl zCE (kf rfl (zQ rfl rfl (zBV _ _ _) sh3 rfl ?_))))))
      refine kf rfl (zG rfl (qy) (.lrefl _) (kG rfl ?_))
      refine zA rfl (ke rfl (ke rfl (ke rfl (kF rfl ?_))))
      refine zB rfl (zC ?_)
      refine zF [(1,.box 0 0),(3,.bool false),(5,.int .i64 lp),(6,.int .i64 i),(7,.box Y.length 0)] (Y++[SB.box [.int .i64 q.part,.int .i64 q.wt,.int .i64 q.lo,.int .i64 q.hi,.bool q.must]]) (.n5 rfl) (by show(Y++[SB.box _]).set Y.length (SB.box _)=_;rw[yc];rfl) fun fr3=>?_
      refine k_region (kA rfl yx (zQ rfl rfl (za _ _) sh3 rfl ?_))
      refine zB rfl (zC (k_region (zA rfl ?_)))
      refine kB rfl (by unfold I64;omega) (zB rfl (zC ?_))
      exact⟨kk - 1,by omega,i+1,false,e++[SB.box [.int .i64 q.part,.int .i64 q.wt,.int .i64 q.lo,.int .i64 q.hi,.bool q.must]],by omega,zEB (fun hp=>by have:=(hsu.1 hp).2.2.1;cases this),hYe,.cons rfl (.cons rfl (.cons (by rw[hpr];rfl) (.n1 rfl)))⟩
     |true=>
      rw[c2]at qy hsu
      have hsu:P2 b (i+1)↔goodB q.lo q.hi 0 600=true:=⟨fun h=>(hsu.1 h).2.2.2,fun h=>hsu.2 ⟨hP,rfl,rfl,h⟩⟩
      generalize goodB q.lo q.hi 0 600=v at*
      refine k_seq (kQ (zA rfl (zA rfl (kf rfl (zA rfl (kf rfl (kA rfl ze (kf rfl (zQ rfl rfl y0 sh23 rfl ?_)))))))))
      refine kf rfl (zP rfl ty23 rfl (List.length_map _) ?_)
      refine kf rfl (kq rfl (kG rfl ?_))
      refine zC (k_cT rfl (kH (by omega)) (zJ (k_seq (zH (kQ (kA rfl ze (zQ rfl rfl y0 sh23 rfl ?_)))))))
      refine zA rfl (zX (u:=(q).u) rfl ty23 rfl rfl (Int.natCast_nonneg _) (by simp[hq]) cl50 ?_)
      refine yi rfl rfl sh50 rfl ?_
      refine zq rfl ze50 ?_
      refine zZ rfl (za _ _) sh50 rfl rfl rfl rfl rfl ?_
      refine zC (kQ (kA rfl yx (zQ rfl rfl (zBV _ _ _) sh3 rfl ?_)))
      refine zA rfl (zG rfl (qx) (.lrefl _) (zA rfl (kf rfl (kA rfl zCE (kf rfl (zQ rfl rfl (zBV _ _ _) sh3 rfl ?_))))))
      refine kf rfl (zG rfl (qy) (.lrefl _) (kG rfl ?_))
      refine zA rfl (kf rfl (kA rfl wM (kf rfl (yK rfl rfl (zBV _ _ _) sh48 rfl ?_))))
      refine kf rfl (zG rfl (qz) (.lrefl _) (kG rfl ?_))
      refine zB rfl (zC ?_)
      refine zF [(1,.box 0 0),(3,.bool v),(5,.int .i64 lp),(6,.int .i64 i),(7,.box Y.length 0)] (Y++[SB.box [.int .i64 q.part,.int .i64 q.wt,.int .i64 q.lo,.int .i64 q.hi,.bool q.must]]) (.n5 rfl) (by show(Y++[SB.box _]).set Y.length (SB.box _)=_;rw[yc];rfl) fun fr3=>?_
      refine k_region (kA rfl yx (zQ rfl rfl (za _ _) sh3 rfl ?_))
      refine zB rfl (zC (k_region (zA rfl ?_)))
      refine kB rfl (by unfold I64;omega) (zB rfl (zC ?_))
      exact⟨kk - 1,by omega,i+1,v,e++[SB.box [.int .i64 q.part,.int .i64 q.wt,.int .i64 q.lo,.int .i64 q.hi,.bool q.must]],by omega,hsu.symm,hYe,.cons rfl (.cons rfl (.cons (by rw[hpr];rfl) (.n1 rfl)))⟩
   ·have hie:i=b.scenes.length:=by omega
    subst hie
    refine zF _ _ hs2 hst2 fun fr2=>?_
    refine k_seq (kQ (zA rfl (zA rfl (kf rfl (zA rfl (kf rfl (kA rfl ze (kf rfl (zQ rfl rfl y0 sh23 rfl ?_)))))))))
    refine kf rfl (zP rfl ty23 rfl (List.length_map _) ?_)
    refine kf rfl (kq rfl (kG rfl ?_))
    refine zC (k_cF rfl (kI (by omega)) (zr ?_))
    exact⟨rfl,true,e,hw,hY,.cons rfl (.n1 rfl)⟩
 clear hst hs hz hz2 hlz z
 obtain⟨z,e,hz,hst,hs⟩:=hM
 obtain⟨Y,hY⟩:∃Y:List SB,Y=[.box (Bk.cs b)]++e:=⟨_,rfl⟩
 have y0:Y[0]? =some (.box (Bk.cs b)):=by rw[hY];rfl
 rw[←hY]at hst
 clear hY
 refine k_cut (fun st=>∃w:Bool,(w=true↔P3 b b.loads.length)∧st.st=Y∧Holds st [(1,.box 0 0),(3,.bool w)]) ?_ (fun st hM=>?_)
 ·refine zF _ _ hs hst fun fr=>?_
  refine kQ (zB rfl (zC (zH ?_)))
  refine yR (fun kk s2=>∃(i:Nat) (w:Bool),kk+i=b.loads.length∧(w=true↔P3 b i)∧s2.st=Y∧Holds s2 [(1,.box 0 0),(3,.bool w),(8,.int .i64 i)]) (fun kk s2 hI=>?_) b.loads.length _ ⟨0,z,by omega,hz.trans P3_zero,rfl,.cons rfl (.n2 rfl)⟩
  obtain⟨i,w,hk,hw,hst2,hs2⟩:=hI
  cases w with
  |false=>
   have hn: ¬ P3 b i:=fun hp=>by cases hw.2 hp
   refine zF _ _ hs2 hst2 fun fr2=>?_
   refine k_seq (kQ (zA rfl (zA rfl (ke rfl (ke rfl (ke rfl (ke rfl (ke rfl (kF rfl ?_)))))))))
   refine zC (k_cF rfl rfl ?_)
   refine zr ?_
   exact⟨rfl,false,zEB (fun hp=>hn (P3_mono (by omega) hp)),rfl,.cons rfl (.n1 rfl)⟩
  |true=>
   have hP:=hw.1 rfl
   have hln:=(zEh.1 hP.1.1.1).2.2.2.2.2.1
   refine zF _ _ hs2 hst2 fun fr2=>?_
   by_cases hin:i<b.loads.length
   ·obtain⟨x,hx⟩:∃x,b.loads[i]? =some x:=⟨b.loads[i],List.getElem?_eq_getElem hin⟩
    have qx:=zDm (orc:=orc) hi x 1 500
    have hsu:=P3_succ hx
    have hsu:P3 b (i+1)↔inS 1 500 x=true:=⟨fun h=>(hsu.1 h).2,fun h=>hsu.2 ⟨hP,h⟩⟩
    generalize inS 1 500 x=v at*
    refine k_seq (kQ (zA rfl (zA rfl (kf rfl (zA rfl (kf rfl (kA rfl zCq (kf rfl (zQ rfl rfl y0 sh22 rfl ?_)))))))))
    refine kf rfl (zP rfl ty22 rfl (List.length_map _) ?_)
    refine kf rfl (kq rfl (kG rfl ?_))
    refine zC (k_cT rfl (kH (by omega)) (zJ (k_seq (zH (k_region (kA rfl zCq (zQ rfl rfl y0 sh22 rfl ?_)))))))
    refine zA rfl (zX (u:=.int .i64 (x)) rfl ty22 rfl rfl (Int.natCast_nonneg _) (by simp[hx]) cl3 ?_)
    refine kE sh3 rfl ?_
    refine zG rfl (qx) (.lrefl _) (zB rfl (zC (k_region (zA rfl ?_))))
    refine kB rfl (by unfold I64;omega) (zB rfl (zC ?_))
    exact⟨kk - 1,by omega,i+1,v,by omega,hsu.symm,rfl,.cons rfl (.n2 rfl)⟩
   ·have hie:i=b.loads.length:=by omega
    subst hie
    refine k_seq (kQ (zA rfl (zA rfl (kf rfl (zA rfl (kf rfl (kA rfl zCq (kf rfl (zQ rfl rfl y0 sh22 rfl ?_)))))))))
    refine kf rfl (zP rfl ty22 rfl (List.length_map _) ?_)
    refine kf rfl (kq rfl (kG rfl ?_))
    refine zC (k_cF rfl (kI (by omega)) (zr ?_))
    exact⟨rfl,true,hw,rfl,.cons rfl (.n1 rfl)⟩
 clear hst hs hz z
 obtain⟨z,hz,hst,hs⟩:=hM
 refine k_cut (fun st=>∃w:Bool,(w=true↔P4 b b.shares.length)∧st.st=Y∧Holds st [(1,.box 0 0),(3,.bool w)]) ?_ (fun st hM=>?_)
 ·refine zF _ _ hs hst fun fr=>?_
  refine kQ (zB rfl (zC (zH ?_)))
  refine yR (fun kk s2=>∃(i:Nat) (w:Bool),kk+i=b.shares.length∧(w=true↔P4 b i)∧s2.st=Y∧Holds s2 [(1,.box 0 0),(3,.bool w),(9,.int .i64 i)]) (fun kk s2 hI=>?_) b.shares.length _ ⟨0,z,by omega,hz.trans P4_zero,rfl,.cons rfl (.n2 rfl)⟩
  obtain⟨i,w,hk,hw,hst2,hs2⟩:=hI
  cases w with
  |false=>
   have hn: ¬ P4 b i:=fun hp=>by cases hw.2 hp
   refine zF _ _ hs2 hst2 fun fr2=>?_
   refine k_seq (kQ (zA rfl (zA rfl (ke rfl (ke rfl (ke rfl (ke rfl (ke rfl (kF rfl ?_)))))))))
   refine zC (k_cF rfl rfl ?_)
   refine zr ?_
   exact⟨rfl,false,zEB (fun hp=>hn (P4_mono (by omega) hp)),rfl,.cons rfl (.n1 rfl)⟩
  |true=>
   have hP:=hw.1 rfl
   have hln:=(zEh.1 hP.1.1.1.1).2.2.2.2.2.2.2.2.2
   refine zF _ _ hs2 hst2 fun fr2=>?_
   by_cases hin:i<b.shares.length
   ·obtain⟨x,hx⟩:∃x,b.shares[i]? =some x:=⟨b.shares[i],List.getElem?_eq_getElem hin⟩
    have qx:=zDm (orc:=orc) hi x 1 100
    have hsu:=P4_succ hx
    have hsu:P4 b (i+1)↔inS 1 100 x=true:=⟨fun h=>(hsu.1 h).2,fun h=>hsu.2 ⟨hP,h⟩⟩
    generalize inS 1 100 x=v at*
    refine k_seq (kQ (zA rfl (zA rfl (kf rfl (zA rfl (kf rfl (kA rfl zDd (kf rfl (zQ rfl rfl y0 sh22 rfl ?_)))))))))
    refine kf rfl (zP rfl ty22 rfl (List.length_map _) ?_)
    refine kf rfl (kq rfl (kG rfl ?_))
    refine zC (k_cT rfl (kH (by omega)) (zJ (k_seq (zH (k_region (kA rfl zDd (zQ rfl rfl y0 sh22 rfl ?_)))))))
    refine zA rfl (zX (u:=.int .i64 (x)) rfl ty22 rfl rfl (Int.natCast_nonneg _) (by simp[hx]) cl3 ?_)
    refine kE sh3 rfl ?_
    refine zG rfl (qx) (.lrefl _) (zB rfl (zC (k_region (zA rfl ?_))))
    refine kB rfl (by unfold I64;omega) (zB rfl (zC ?_))
    exact⟨kk - 1,by omega,i+1,v,by omega,hsu.symm,rfl,.cons rfl (.n2 rfl)⟩
   ·have hie:i=b.shares.length:=by omega
    subst hie
    refine k_seq (kQ (zA rfl (zA rfl (kf rfl (zA rfl (kf rfl (kA rfl zDd (kf rfl (zQ rfl rfl y0 sh22 rfl ?_)))))))))
    refine kf rfl (zP rfl ty22 rfl (List.length_map _) ?_)
    refine kf rfl (kq rfl (kG rfl ?_))
    refine zC (k_cF rfl (kI (by omega)) (zr ?_))
    exact⟨rfl,true,hw,rfl,.cons rfl (.n1 rfl)⟩
 clear hst hs hz z
 obtain⟨z,hz,hst,hs⟩:=hM
 have hz:z=zAs b:=Bool.eq_iff_iff.2 (hz.trans P4_valid)
 subst hz
 generalize zAs b=z at*
 refine zF _ _ hs hst fun fr=>?_
 cases z with
 |false=>
  refine k_seq (kQ (zA rfl (zh rfl rfl (zC (k_cT rfl rfl ?_)))))
  refine kQ (zB rfl (zC (zS ?_)))
  refine⟨.inr rfl,_,.cons _ _ _ _ (.tmp 2) .nil,?_⟩
  exact .refl _
 |true=>
  refine k_seq (kQ (zA rfl (zh rfl rfl (zC (k_cF rfl rfl ?_)))))
  refine zJ (kQ (zB rfl (zC (zS ?_))))
  refine⟨.inr rfl,_,.cons _ _ _ _ (.tmp 2) .nil,?_⟩
  exact .refl _
end
section
variable {is:FuncId→Bool}{orc:Known}
set_option maxHeartbeats 8000000 in
theorem wpc60j(hi:Off is){b:Bk}(hb:zAs b=false){st:List SB}{g:Nat}{B:List U}:WpC Tryd.prog is orc 60 [b.u,.lst .ro 1 [.fn g [] B]] st fun u st'=>u=.tup [zerU,.int .i64 100]∧∃e,st'=st++e:=by
 refine zFX body60 pure60 rfl rfl ?_
 have q17:=ret17 (orc:=orc) hi b
 rw[hb,if_neg (by decide)]at q17
 refine kQ (yB rfl rfl (zq rfl ze70 ?_))
 refine zB rfl (zC ?_)
 refine zF [(1,.lst .ro 1 [U.fn g [] B]),(2,U.box (List.length st) 0),(4,U.box (List.length (st++[SB.box (Bk.cs b)])) 0)] (st++[SB.box (Bk.cs b)]++[SB.box [.int .i64 0,.lst .full 0 [],.lst .full 0 [],.lst .full 0 [],.int .i64 0,.lst .full 0 [],.int .i64 0,.int .i64 0,.int .i64 0,.lst .full 0 []]]) (.n3 rfl) rfl fun fr=>?_
 refine k_seq (kQ (yK rfl rfl (yL (za _ _)) sh25 rfl ?_))
 refine zG rfl (q17) (.lrefl _) (zB rfl (zC (kQ (zA rfl (ku rfl (zC (k_cT rfl rfl ?_)))))))
 refine kQ (wk rfl ze70 pl70 rfl rfl ?_)
 refine zA rfl (zZ rfl (za _ _) sh70 rfl rfl rfl rfl rfl ?_)
 refine zB rfl (zC (zS ?_))
 refine⟨.inr rfl,_,.cons _ _ _ _ (.cellN 4 70 (st++[SB.box (Bk.cs b)]).length 0 10 [.int .i64 0,.lst .full 0 [],.lst .full 0 [],.lst .full 0 [],.int .i64 0,.lst .full 0 [],.int .i64 0,.int .i64 0,.int .i64 0,.lst .full 0 []] rfl (by show(((st++[SB.box (Bk.cs b)])++[SB.box _]).set (st++[SB.box (Bk.cs b)]).length (SB.box _))[(st++[SB.box (Bk.cs b)]).length]? =_;rw[yc];exact za _ _) sh70 rfl) (.cons _ _ _ _ (.tmp 5) .nil),_,.refl _,rfl,[SB.box (Bk.cs b),.box _],(by show((st++[SB.box (Bk.cs b)])++[SB.box _]).set (st++[SB.box (Bk.cs b)]).length (SB.box _)=_;rw[yc,List.append_assoc];rfl)⟩
theorem ret25j(hi:Off is){b:Bk}(hv:zAs b=false)(d:List Int):RetP Tryd.prog is orc 25 [b.u,.lst .ro 1 (zE d)] (.tup [.lst .full 0 [],.int .i64 100]):=by
 refine zp body25 pure25 (hi 25 (by decide)) rfl rfl (zu (wU b 4) (zR 6 .ro (fun h=>by cases h) 1 d)) (.inr ⟨_,rfl,zu (k:=7) (zCs 5) (.int _ _ _)⟩) ?_
 refine kQ (yB rfl rfl (yB rfl rfl (zB rfl (zB rfl (zC ?_)))))
 refine zF [(2,U.box 0 0),(3,U.box 1 0)] ([SB.box (Bk.cs b),SB.box [.lst .ro 1 (zE d)]]) (.n2 rfl) rfl fun fr=>?_
 refine kQ (kD sh25 rfl ?_)
 refine zDq rfl ?_
 refine wW (es:=[U.fn 61 [] [U.box 1 0]]) rfl ty104 ze82 cl82 rfl rfl rfl rfl rfl rfl rfl rfl ?_
 refine zDZ rfl (wpc60j hi hv) (.lcons _ _ _ _ (.refl _) (.lcons _ _ _ _ (.ro _ _ _) (.lrefl _))) (fun u st1 hM=>?_)
 obtain⟨rfl,e,rfl⟩:=hM
 refine zA rfl (kz rfl (kz rfl (zq rfl ze70 ?_)))
 refine zZ rfl (za _ _) sh70 rfl rfl rfl rfl rfl ?_
 refine zB rfl (zC ?_)
 refine zF [(3,U.box 1 0),(6,U.box (List.length (SB.box (Bk.cs b)::SB.box [.lst .ro 1 (zE d)]::List.append [] e)) 0),(7,.int .i64 100)] (SB.box (Bk.cs b)::SB.box [.lst .ro 1 (zE d)]::List.set (List.append (List.append [] e) [SB.box (yk (V.cons (V.int .i64 (0:Int)) (V.cons V.nils (V.cons V.nils (V.cons V.nils (V.cons (V.int .i64 (0:Int)) (V.cons V.nils (V.cons (V.int .i64 (0:Int)) (V.cons (V.int .i64 (0:Int)) (V.cons (V.int .i64 (0:Int)) (V.cons V.nils V.nil)))))))))))]) (List.length (List.append [] e)) (SB.box [.int .i64 0,.lst .full 0 [],.lst .full 0 [],.lst .full 0 [],.int .i64 0,.lst .full 0 [],.int .i64 0,.int .i64 0,.int .i64 0,.lst .full 0 []])) (.n3 rfl) rfl fun fr=>?_
 refine k_seq (kQ (zA rfl (ku rfl (zC ?_))))
 refine zF [(3,U.box 1 0),(6,U.box (List.length (SB.box (Bk.cs b)::SB.box [.lst .ro 1 (zE d)]::List.append [] e)) 0),(7,.int .i64 100),(18,U.bool (decide ((100:Int)≠(0:Int))))] (SB.box (Bk.cs b)::SB.box [.lst .ro 1 (zE d)]::List.set (List.append (List.append [] e) [SB.box (yk (V.cons (V.int .i64 (0:Int)) (V.cons V.nils (V.cons V.nils (V.cons V.nils (V.cons (V.int .i64 (0:Int)) (V.cons V.nils (V.cons (V.int .i64 (0:Int)) (V.cons (V.int .i64 (0:Int)) (V.cons (V.int .i64 (0:Int)) (V.cons V.nils V.nil)))))))))))]) (List.length (List.append [] e)) (SB.box [.int .i64 0,.lst .full 0 [],.lst .full 0 [],.lst .full 0 [],.int .i64 0,.lst .full 0 [],.int .i64 0,.int .i64 0,.int .i64 0,.lst .full 0 []])) (.n4 rfl) rfl fun fr=>?_
 refine k_cT rfl rfl ?_
 refine kQ (zA rfl (zB rfl (zB rfl (zC (zS ?_)))))
 refine⟨.inr rfl,_,.cons _ _ _ _ (.tmp 4) (.cons _ _ _ _ (.tmp 5) .nil),?_⟩
 exact .refl _
end
end Go.Proofs.YtlknfhjfkcboiaaDoor.night
