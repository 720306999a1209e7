import Derived.Test.YtfbmlibilcjlgaaDoorVamT31
set_option linter.unusedVariables false
set_option linter.unusedSimpArgs false
set_option linter.constructorNameAsVariable false
namespace Go.Proofs.YtfbmlibilcjlgaaDoor.drumBounds
open Vam
section
variable {is:FuncId→Bool}{orc:Known}{b:Bk}
set_option maxHeartbeats 8000000 in
theorem ret32n(hi:Off is){n:Int}(h:errB b n≠0):RetP Tryd.prog is orc 32 [b.u,.int .i64 n] (.tup [.int .i64 0,.int .i64 (errB b n)]):=by
 have hda:∀u∈[b.u,U.int .i64 n],Dat 8 u:=yM (yK b 4) (.int _ _ _)
 refine wQ body32 pure32 rfl rfl (fun u hu=>⟨(hda u hu).nb,(hda u hu).own⟩) (NB.tup fun c hc=>by
  simp only[List.mem_cons,List.not_mem_nil,or_false]at hc
  rcases hc with rfl|rfl<;>exact NB.int _ _) ?_
 unfold errB at h ⊢
 by_cases hv:wl b=false
 ·rw[if_pos hv]
  have q52:=zFQ (orc:=orc) hi n 0 (zBg .i64 ((b.players.length:Int) - 1))
  have q79:=ret79 (orc:=orc) hi b (inS 0 (zBg .i64 ((b.players.length:Int) - 1)) n)
  rw[if_pos hv]at q79
  refine kQ (zc rfl rfl (zB rfl (zB rfl (zA ?_))))
  refine zH [(1,.int .i64 n),(2,U.box 0 0)] ([SB.box (Bk.cs b)]) (.cons rfl (.cons rfl (.nil rfl))) rfl fun fr=>?_
  refine k_seq (k_seq (yL [.read true,.plain,.plain,.read true,.read true,.plain,.read false,.plain,.plain] (by kernel_rfl) (by kernel_rfl) (by kernel_rfl) ?_))
  refine zR rfl (zJ rfl rfl rfl sh27 rfl (zA rfl)) ?_
  refine zD (zC rfl (zA rfl)) (zD (zE rfl rfl yd (zA rfl)) ?_)
  refine zR rfl (zF rfl rfl rfl sh25 rfl (zA rfl)) (zR rfl (yF rfl ty25 rfl (List.length_map _) (zA rfl)) ?_)
  refine zD (zFS (v:=.int .i64 (zBg .i64 ((b.players.length:Int) - 1))) rfl rfl rfl rfl rfl (zA rfl)) ?_
  refine zBQ rfl (q52) (.bool _) (.lrefl _) ?_
  refine zD (zP rfl (q79) (.lrefl _) (zA rfl)) ?_
  refine zD (zB rfl (zA rfl)) ?_
  refine yw ?_
  refine kQ (zC rfl (wC rfl rfl rfl (zA (k_cT rfl rfl ?_))))
  refine kQ (zC rfl (zB rfl (zB rfl (zA (zU ?_)))))
  refine⟨.inr rfl,_,.cons _ _ _ _ (.tmp 4) (.cons _ _ _ _ (.tmp 5) .nil),?_⟩
  exact .refl _
  done
 ·rw[if_neg hv]at h ⊢
  have hb:=(wZ b).1 (by simpa using hv)
  have hpn:=hb.pn
  have e2:inS 0 ((b.players.length:Int) - 1) n=(decide (0≤n)&&decide (n<b.players.length)):=by
   unfold inS;rw[Bool.eq_iff_iff];simp only[Bool.and_eq_true,decide_eq_true_eq];omega
  by_cases hp:(decide (0≤n)&&decide (n<b.players.length))=false
  ·rw[if_pos hp]
   have q52:=zFQ (orc:=orc) hi n 0 ((b.players.length:Int) - 1)
   rw[e2,hp]at q52
   have q79:=ret79 (orc:=orc) hi b false
   rw[if_neg hv,if_pos rfl]at q79
   refine kQ (zc rfl rfl (zB rfl (zB rfl (zA ?_))))
   refine zH [(1,.int .i64 n),(2,U.box 0 0)] ([SB.box (Bk.cs b)]) (.cons rfl (.cons rfl (.nil rfl))) rfl fun fr=>?_
   refine k_seq (k_seq (yL [.read true,.plain,.plain,.read true,.read true,.plain,.read false,.plain,.plain] (by kernel_rfl) (by kernel_rfl) (by kernel_rfl) ?_))
   refine zR rfl (zJ rfl rfl rfl sh27 rfl (zA rfl)) ?_
   refine zD (zC rfl (zA rfl)) (zD (zE rfl rfl yd (zA rfl)) ?_)
   refine zR rfl (zF rfl rfl rfl sh25 rfl (zA rfl)) (zR rfl (yF rfl ty25 rfl (List.length_map _) (zA rfl)) ?_)
   refine zD (yn rfl rfl rfl (by unfold I64;omega) (zA rfl)) ?_
   refine zBQ rfl (q52) (.bool _) (.lrefl _) ?_
   refine zD (zP rfl (q79) (.lrefl _) (zA rfl)) ?_
   refine zD (zB rfl (zA rfl)) ?_
   refine yw ?_
   refine kQ (zC rfl (wC rfl rfl rfl (zA (k_cT rfl rfl ?_))))
   refine kQ (zC rfl (zB rfl (zB rfl (zA (zU ?_)))))
   refine⟨.inr rfl,_,.cons _ _ _ _ (.tmp 4) (.cons _ _ _ _ (.tmp 5) .nil),?_⟩
   exact .refl _
   done
  ·rw[if_neg hp]at h;exact absurd rfl h
theorem bounds(hi:Off is)(b:Bk)(n:Int):∃x y:Int,RetP Tryd.prog is orc 31 [b.u,.int .i64 n] (.tup [.int .i64 x,.int .i64 y])∧RetP Tryd.prog is orc 32 [b.u,.int .i64 n] (.tup [.int .i64 x,.int .i64 y]):=by
 by_cases h:errB b n=0
 ·unfold errB at h
  by_cases hv:wl b=false
  ·rw[if_pos hv]at h;cases h
  ·rw[if_neg hv]at h
   have hb:=(wZ b).1 (by simpa using hv)
   by_cases hp:(decide (0≤n)&&decide (n<b.players.length))=false
   ·rw[if_pos hp]at h;cases h
   ·have hp:(decide (0≤n)&&decide (n<b.players.length))=true:=by simpa using hp
    rw[Bool.and_eq_true,decide_eq_true_iff,decide_eq_true_iff]at hp
    obtain⟨i,rfl⟩:∃i:Nat,n=i:=⟨n.toNat,by omega⟩
    obtain⟨p,hp1⟩:∃p,b.players[i]? =some p:=⟨b.players[i]'(by omega),List.getElem?_eq_getElem (by omega)⟩
    obtain⟨m,hm⟩:=least_ex (noP b i) 501 (fun x y a c d=>noP_mono hb hp1 x y a c d)
    exact⟨_,_,ret31 hi hb hp1 hm,ret32 hi hb hp1 hm⟩
 ·exact⟨_,_,ret31n hi h,ret32n hi h⟩
set_option maxHeartbeats 16000000 in
theorem ret5(hi:Off is)(b:Bk)(n:Int)(L:List Int)(r24:RetP Tryd.prog is orc 24 [] (.bool true)):RetP Tryd.prog is orc 5 [b.u,.int .i64 n,.lst .ro 1 (zG L)] (.bool true):=by
 refine zk body5 pure5 (hi 5 (by decide)) rfl rfl (fun u hu=>?_) (.inl (.bool _ _)) ?_
 ·simp only[List.mem_cons,List.not_mem_nil,or_false]at hu
  rcases hu with rfl|rfl|rfl
  ·exact yK b 4
  ·exact .int _ _ _
  ·exact zr 6 .ro (fun h=>by cases h) 1 L
 obtain⟨x,y,q31,q32⟩:=bounds (orc:=orc) hi b n
 have q33:=ret33a (orc:=orc) hi b L
 have q34:=ret34 (orc:=orc) hi b L
 have hl:(cueL b L).length≤4096:=by
  unfold cueL
  split
  ·rename_i h
   have:=len_cuS b L (L.length - 1)
   have h2:=(zEM.1 h).2.len
   have h3:=(zEM.1 h).1.pa
   omega
  ·simp
 have q35:=ret35 (orc:=orc) hi (cueL b L) hl
 generalize errI b L=e at*
 generalize cueL b L=A at*
 refine kQ (zc rfl rfl (zB rfl (zA ?_)))
 refine zH [(1,.int .i64 n),(2,.lst .ro 1 (zG L)),(3,U.box 0 0)] ([SB.box (Bk.cs b)]) (.cons rfl (.cons rfl (.cons rfl (.nil rfl)))) rfl fun fr=>?_
 refine kQ (zJ rfl rfl rfl sh27 rfl (zC rfl (zP rfl (q31) (.lrefl _) (zC rfl (zX rfl rfl rfl (zX rfl rfl rfl (zB rfl (zB rfl ?_))))))))
 refine zA (kQ (zJ rfl rfl rfl sh27 rfl (zC rfl (zP rfl (q32) (.lrefl _) (zC rfl (zX rfl rfl rfl (zX rfl rfl rfl (zB rfl ?_))))))))
 refine zB rfl (zA ?_)
 refine zH [(2,.lst .ro 1 (zG L)),(3,U.box 0 0),(7,.int .i64 x),(8,.int .i64 y),(9,.int .i64 x),(10,.int .i64 y)] ([SB.box (Bk.cs b)]) (.c4 rfl rfl rfl rfl (.cons rfl (.cons rfl (.nil rfl)))) rfl fun fr=>?_
 refine k_seq (kQ (zC rfl (zC rfl (wC rfl rfl rfl (zC rfl (o_gD rfl rfl rfl rfl (decide_eq_false (by omega)) (zC rfl (o_gD rfl rfl rfl rfl (decide_eq_false (by omega)) ?_))))))))
 refine zC rfl (o_gD rfl rfl rfl rfl (decide_eq_false (by omega)) (wC rfl rfl rfl (zN rfl rfl (decide_eq_false (by omega)) ?_)))
 refine zA (k_cF rfl (decide_eq_false (by omega)) (zQ (kQ (zJ rfl rfl rfl sh27 rfl (zC rfl (zP rfl (q33) (.lrefl _) (zC rfl (zX rfl rfl rfl ?_))))))))
 refine zX rfl rfl rfl (zB rfl (zB rfl (zA ?_)))
 refine zH [(2,.lst .ro 1 (zG L)),(3,U.box 0 0),(8,.int .i64 e),(11,.lst .ro 2 (zu A))] ([SB.box (Bk.cs b)]) (.c4 rfl rfl rfl rfl (.nil rfl)) rfl fun fr=>?_
 refine kQ (zJ rfl rfl rfl sh27 rfl (zC rfl (zP rfl (q34) (.lrefl _) (zC rfl (zX rfl rfl rfl (zX rfl rfl rfl (zB rfl (zB rfl ?_))))))))
 refine zA (kQ (zC rfl (zC rfl (zP rfl (q35) (.lrefl _) (zC rfl (o_gD rfl rfl rfl rfl rfl (zC rfl (o_gD rfl rfl rfl rfl rfl ?_))))))))
 refine zC rfl (o_gD rfl rfl rfl rfl rfl (zAt rfl rfl rfl (za rfl rfl rfl ?_)))
 refine zC rfl (o_gD rfl rfl rfl rfl (decide_eq_true (by omega)) ?_)
 refine zP rfl (r24) (.lrefl _) (za rfl rfl (decide_eq_true (by omega)) ?_)
 refine zB rfl (zA (zU ?_))
 refine⟨.inr rfl,_,.cons _ _ _ _ (.tmp 6) .nil,?_⟩
 exact .refl _
 done
end
section
variable {is:FuncId→Bool}{orc:Known}
theorem ret5_all(hi:Off is)(r24:RetP Tryd.prog is orc 24 [] (.bool true)):∀us,ShpAs Tryd.prog [27,3,22] us→RetP Tryd.prog is orc 5 us (.bool true):=by
 intro us h
 cases h with
 |cons _ _ u us h1 h=>cases h with
 |cons _ _ v us h2 h=>cases h with
 |cons _ _ x us h3 h=>
 cases h
 obtain⟨fs,hu⟩:=und27
 unfold ShpA at h1 h2 h3
 rw[hu]at h1
 rw[u3]at h2
 rw[u22]at h3
 obtain⟨b,rfl⟩:=arg_bk h1
 obtain⟨n,rfl⟩:=arg_int h2
 obtain⟨l,rfl⟩:=arg_ints h3
 exact ret5 hi b n l r24
end
end Go.Proofs.YtfbmlibilcjlgaaDoor.drumBounds
