import Derived.Test.YtegmogadbnfbgaaN9
set_option linter.all false
/- What is known of ends. -/
namespace Go.Proofs.Ytegmogadbnfbgaa
open Go Ev
noncomputable section
section
variable (L : List (Int × Int)) (M : List Int) (P0 P1 P2 : List (Int × Int)) (v0 v1 v2 y yl z : Value)
@[reducible] def qN10_2:Ev.AV:=(.agg [.xl y 3 1 [.xl v0 P0.length 2 (cR P0),.xl v1 P1.length 2 (cR P1),.xl v2 P2.length 2 (cR P2)],.xl yl L.length 2 (cR L),(.fn (.func 78) [.xl z M.length 1 (cI M)] [])])
@[reducible] def qN10_1:Nat×Ev.AV:=(0,(qN10_2 L M P0 P1 P2 v0 v1 v2 y yl z))
@[reducible] def qN10_3:List Ev.AV:=[AV.xl v0 P0.length 2 (cR P0),AV.xl v1 P1.length 2 (cR P1),AV.xl v2 P2.length 2 (cR P2)]
@[reducible] def qN10_4:Ev.AB:=(.row [(.slu 2 0 (L.length) 0),(.slu 3 0 (L.length) 0),(.slu 4 0 (L.length) 0)] 27 1)
@[reducible] def qN10_5:Ev.AB:=(.row [.slu 2 0 L.length 0,.slu 3 0 L.length 0,.slu 4 0 L.length 0] 27 1)
@[reducible] def qN10_6:Ev.AB:=(.row (cI (tI (enF (cR P2) (cI M) false) L.length)) 2 1)
@[reducible] def qN10_7:Ev.AB:=(.row (cI (tI (enF (cR P1) (cI M) false) L.length)) 2 1)
@[reducible] def qN10_8:Ev.AB:=(.row (cI (tI (enF (cR P0) (cI M) false) L.length)) 2 1)
@[reducible] def qN10_9:Ev.AB:=(.row (cI (tI (enF (cR L) (cI M) false) L.length)) 2 1)
@[reducible] def qN10_10:Ev.AB:=(.row (cI (tI (enF (cR P2) (cI M) true) L.length)) 2 1)
@[reducible] def qN10_11:Ev.AB:=(.row (cI (tI (enF (cR P1) (cI M) true) L.length)) 2 1)
@[reducible] def qN10_12:Ev.AB:=(.row (cI (tI (enF (cR P0) (cI M) true) L.length)) 2 1)
@[reducible] def qN10_13:Ev.AB:=(.row (cI (tI (enF (cR L) (cI M) true) L.length)) 2 1)
end
def eeS:List AV→Option (Res1×List Prop):=fun vs =>
 match vs with
 | [.agg [.xl y m k1 cE,.xl yl n k2 cL,.fn (.func f) lz lc],.xl yr q kp cP,.v (.bool g)]=>match lz,lc,Nat.beq f 78 with
  | [.xl z r k5 cM],[],true=>match g with
   | true=>some (.blk (fun i=>.slu i 0 n 0) (.row (cI (tI (enF cP cM true) n)) 2 1),[IsEq k1 cE m,IsPr k2 n cL,IsI k5 r cM,IsPr kp q cP,1≤n∧n≤8,q=n,r=n])
   | false=>some (.blk (fun i=>.slu i 0 n 0) (.row (cI (tI (enF cP cM false) n)) 2 1),[IsEq k1 cE m,IsPr k2 n cL,IsI k5 r cM,IsPr kp q cP,1≤n∧n≤8,q=n,r=n])
  | _,_,_=>none
 | _=>none
def eeO:OrcH:=extOrc 90 eeS
theorem known_ee:Known Try.prog (clsO eeO):=known_ext (fun vs r ps h hp=>by
 unfold eeS at h
 split at h
 ·split at h
  ·rename_i e1
   split at h
   ·cases h
    obtain ⟨⟨rfl,E,rfl,rfl⟩,⟨rfl,L,rfl,rfl⟩,⟨rfl,M,rfl,rfl⟩,⟨rfl,P,rfl,rfl⟩,h1,h2,h3,-⟩:=hp
    rw [Nat.eq_of_beq_eq_true e1]
    refine ⟨extL_cons (ext_agg (extL_cons (ext_xl (extL_rowsQ E)) (extL_cons (ext_xl (extL_plain (cR_plain L))) (extL_cons (ext_fn (extL_cons (ext_xl (extL_plain (cI_plain M))) extL_nil)) extL_nil)))) (extL_cons (ext_xl (extL_plain (cR_plain P))) (extL_cons (ext_v _) extL_nil)),?_⟩
    exact givesB_of (ent_g _ E _ L _ M _ P h1 h2 h3) (one_slu _ (cI_plain _))
   ·cases h
    obtain ⟨⟨rfl,E,rfl,rfl⟩,⟨rfl,L,rfl,rfl⟩,⟨rfl,M,rfl,rfl⟩,⟨rfl,P,rfl,rfl⟩,h1,h2,h3,-⟩:=hp
    rw [Nat.eq_of_beq_eq_true e1]
    refine ⟨extL_cons (ext_agg (extL_cons (ext_xl (extL_rowsQ E)) (extL_cons (ext_xl (extL_plain (cR_plain L))) (extL_cons (ext_fn (extL_cons (ext_xl (extL_plain (cI_plain M))) extL_nil)) extL_nil)))) (extL_cons (ext_xl (extL_plain (cR_plain P))) (extL_cons (ext_v _) extL_nil)),?_⟩
    exact givesB_of (enf_g _ E _ L _ M _ P h1 h2 h3) (one_slu _ (cI_plain _))
  ·cases h
 ·cases h)
noncomputable def extK1:Code:=bodyC Try.f81
set_option maxHeartbeats 2000000 in
theorem ext_2 (y v0:Value) (P0:List (Int×Int)) (v1:Value) (P1:List (Int×Int)) (v2:Value) (P2:List (Int×Int)) (yl:Value) (L:List (Int×Int)) (z:Value) (M:List Int) (hn:1≤L.length∧L.length≤8) (hp0:P0.length=L.length) (hp1:P1.length=L.length) (hp2:P2.length=L.length) (hm:M.length=L.length) (v:BaseW) (eb:Nat→Option Nat) (ec:Nat→Nat) (hs:List Nat):Goes Try.prog 34 extK1 (⟨[(qN10_1 L M P0 P1 P2 v0 v1 v2 y yl z),(1,(.v (.bool true)))],[],0,[]⟩) (BaseW.H (bw v 0 eb ec) hs) (OutM Try.prog Try.f81 34 ((.agg [.slu 0 0 3 0,.slu 1 0 L.length 0])) [(qN10_5 L),(qN10_13 L M),(qN10_12 L M P0),(qN10_11 L M P1),(qN10_10 L M P2)] (bw v 0 eb ec)):=by
 have hcl_P0:=cR_len P0
 have hcl_P1:=cR_len P1
 have hcl_P2:=cR_len P2
 have hcl_L:=cR_len L
 have hcl_M:=cI_len M
 exact goes_leafA isR_e (goes_cutR Try.checked.mixed (known_ee) 200 (T':=⟨[(4,(.ptr 5 0))],[],6,[(0,(qN10_4 L)),(1,(qN10_13 L M)),(2,(qN10_12 L M P0)),(3,(qN10_11 L M P1)),(4,(qN10_10 L M P2)),(5,(.cells [(.slu 0 0 3 0),(.slu 1 0 (L.length) 0)] 29))]⟩) (e:=.ret) (m:=13) (ps:=[IsEq 1 (qN10_3 P0 P1 P2 v0 v1 v2) 3,IsPr 2 L.length (cR L),IsI 1 M.length (cI M),IsPr 2 L.length (cR L),1≤L.length∧L.length≤8,L.length=L.length,M.length=L.length,ltI 0 3=true,IsEq 1 (qN10_3 P0 P1 P2 v0 v1 v2) 3,IsPr 2 L.length (cR L),IsI 1 M.length (cI M),IsPr 2 P0.length (cR P0),1≤L.length∧L.length≤8,P0.length=L.length,M.length=L.length,inR IntKind.i64 (0 + 1),ltI (0 + 1) 3=true,IsEq 1 (qN10_3 P0 P1 P2 v0 v1 v2) 3,IsPr 2 L.length (cR L),IsI 1 M.length (cI M),IsPr 2 P1.length (cR P1),1≤L.length∧L.length≤8,P1.length=L.length,M.length=L.length,inR IntKind.i64 (0 + 1 + 1),ltI (0 + 1 + 1) 3=true,IsEq 1 (qN10_3 P0 P1 P2 v0 v1 v2) 3,IsPr 2 L.length (cR L),IsI 1 M.length (cI M),IsPr 2 P2.length (cR P2),1≤L.length∧L.length≤8,P2.length=L.length,M.length=L.length,inR IntKind.i64 (0 + 1 + 1 + 1),ltI (0 + 1 + 1 + 1) 3=false]) [.go,.go,.go,.go,.go,.go,.go,.go,.go,.go,.go,.go,.go,.go,.go,.go,.b true,.go,.go,.go,.go,.go,.go,.go,.go,.go,.go,.go,.go,.go,.go,.go,.b true,.go,.go,.go,.go,.go,.go,.go,.go,.go,.go,.go,.go,.go,.go,.go,.b true,.go,.go,.go,.go,.go,.go,.go,.go,.go,.go,.go,.go,.go,.go,.go,.b false,.go,.go] [12,2,4,7,10,1] [(.ptr 1 0)] [(.row [(.slu 4 0 (L.length) 0),(.slu 7 0 (L.length) 0),(.slu 10 0 (L.length) 0)] 27 1),(qN10_13 L M),(qN10_12 L M P0),(qN10_11 L M P1),(qN10_10 L M P2),(.cells [(.slu 12 0 3 0),(.slu 2 0 (L.length) 0)] 29)] (by kernel_rfl) (by kernel_rfl) ⟨⟨rfl,[(v0,P0),(v1,P1),(v2,P2)],rfl,rfl⟩,⟨rfl,L,rfl,rfl⟩,⟨rfl,M,rfl,rfl⟩,⟨rfl,L,rfl,rfl⟩,hn,rfl,hm,rfl,⟨rfl,[(v0,P0),(v1,P1),(v2,P2)],rfl,rfl⟩,⟨rfl,L,rfl,rfl⟩,⟨rfl,M,rfl,rfl⟩,⟨rfl,P0,rfl,rfl⟩,hn,hp0,hm,(by show -9223372036854775808≤(_:Int)∧(_:Int)≤9223372036854775807; constructor <;> decide),rfl,⟨rfl,[(v0,P0),(v1,P1),(v2,P2)],rfl,rfl⟩,⟨rfl,L,rfl,rfl⟩,⟨rfl,M,rfl,rfl⟩,⟨rfl,P1,rfl,rfl⟩,hn,hp1,hm,(by show -9223372036854775808≤(_:Int)∧(_:Int)≤9223372036854775807; constructor <;> decide),rfl,⟨rfl,[(v0,P0),(v1,P1),(v2,P2)],rfl,rfl⟩,⟨rfl,L,rfl,rfl⟩,⟨rfl,M,rfl,rfl⟩,⟨rfl,P2,rfl,rfl⟩,hn,hp2,hm,(by show -9223372036854775808≤(_:Int)∧(_:Int)≤9223372036854775807; constructor <;> decide),rfl,trivial⟩ rfl rfl (by decide) rfl ⟨nr_ptr rfl,trivial⟩ ⟨⟨by show 0 < 6; decide,nrb_row (nrl_cons (nr_slu rfl) (nrl_cons (nr_slu rfl) (nrl_cons (nr_slu rfl) (nrl_nil))))⟩,⟨by show 1 < 6; decide,nrb_row (nrl_plain (cI_plain _))⟩,⟨by show 2 < 6; decide,nrb_row (nrl_plain (cI_plain _))⟩,⟨by show 3 < 6; decide,nrb_row (nrl_plain (cI_plain _))⟩,⟨by show 4 < 6; decide,nrb_row (nrl_plain (cI_plain _))⟩,⟨by show 5 < 6; decide,nrb_cells (nrl_cons (nr_slu rfl) (nrl_cons (nr_slu rfl) (nrl_nil)))⟩,trivial⟩) (en_eqM (r:=(.agg [(.slu 0 0 3 0),(.slu 1 0 (L.length) 0)])) (ys:=[(qN10_4 L),(qN10_13 L M),(qN10_12 L M P0),(qN10_11 L M P1),(qN10_10 L M P2)]) (by rfl) (by rfl) (en_retM (by kernel_rfl) (by kernel_rfl) rfl (.inr rfl)))
theorem ext_g (y v0:Value) (P0:List (Int×Int)) (v1:Value) (P1:List (Int×Int)) (v2:Value) (P2:List (Int×Int)) (yl:Value) (L:List (Int×Int)) (z:Value) (M:List Int) (hn:1≤L.length∧L.length≤8) (hp0:P0.length=L.length) (hp1:P1.length=L.length) (hp2:P2.length=L.length) (hm:M.length=L.length):GivesM Try.prog 81 [(qN10_2 L M P0 P1 P2 v0 v1 v2 y yl z),(.v (.bool true))] [] ((.agg [.slu 0 0 3 0,.slu 1 0 L.length 0])) [(qN10_5 L),(qN10_13 L M),(qN10_12 L M P0),(qN10_11 L M P1),(qN10_10 L M P2)] :=
 givesM_parts 34 (by kernel_rfl) Try.func81 (by kernel_rfl) (by kernel_rfl) (by kernel_rfl) (fun v eb ec=>goes_less (by kernel_rfl) (by kernel_rfl) (by kernel_rfl) (by kernel_rfl) (ext_2 y v0 P0 v1 P1 v2 P2 yl L z M hn hp0 hp1 hp2 hm v eb ec []))
noncomputable def exfK1:Code:=bodyC Try.f81
set_option maxHeartbeats 2000000 in
theorem exf_2 (y v0:Value) (P0:List (Int×Int)) (v1:Value) (P1:List (Int×Int)) (v2:Value) (P2:List (Int×Int)) (yl:Value) (L:List (Int×Int)) (z:Value) (M:List Int) (hn:1≤L.length∧L.length≤8) (hp0:P0.length=L.length) (hp1:P1.length=L.length) (hp2:P2.length=L.length) (hm:M.length=L.length) (v:BaseW) (eb:Nat→Option Nat) (ec:Nat→Nat) (hs:List Nat):Goes Try.prog 34 exfK1 (⟨[(qN10_1 L M P0 P1 P2 v0 v1 v2 y yl z),(1,(.v (.bool false)))],[],0,[]⟩) (BaseW.H (bw v 0 eb ec) hs) (OutM Try.prog Try.f81 34 ((.agg [.slu 0 0 3 0,.slu 1 0 L.length 0])) [(qN10_5 L),(qN10_9 L M),(qN10_8 L M P0),(qN10_7 L M P1),(qN10_6 L M P2)] (bw v 0 eb ec)):=by
 have hcl_P0:=cR_len P0
 have hcl_P1:=cR_len P1
 have hcl_P2:=cR_len P2
 have hcl_L:=cR_len L
 have hcl_M:=cI_len M
 exact goes_leafA isR_e (goes_cutR Try.checked.mixed (known_ee) 200 (T':=⟨[(4,(.ptr 5 0))],[],6,[(0,(qN10_4 L)),(1,(qN10_9 L M)),(2,(qN10_8 L M P0)),(3,(qN10_7 L M P1)),(4,(qN10_6 L M P2)),(5,(.cells [(.slu 0 0 3 0),(.slu 1 0 (L.length) 0)] 29))]⟩) (e:=.ret) (m:=13) (ps:=[IsEq 1 (qN10_3 P0 P1 P2 v0 v1 v2) 3,IsPr 2 L.length (cR L),IsI 1 M.length (cI M),IsPr 2 L.length (cR L),1≤L.length∧L.length≤8,L.length=L.length,M.length=L.length,ltI 0 3=true,IsEq 1 (qN10_3 P0 P1 P2 v0 v1 v2) 3,IsPr 2 L.length (cR L),IsI 1 M.length (cI M),IsPr 2 P0.length (cR P0),1≤L.length∧L.length≤8,P0.length=L.length,M.length=L.length,inR IntKind.i64 (0 + 1),ltI (0 + 1) 3=true,IsEq 1 (qN10_3 P0 P1 P2 v0 v1 v2) 3,IsPr 2 L.length (cR L),IsI 1 M.length (cI M),IsPr 2 P1.length (cR P1),1≤L.length∧L.length≤8,P1.length=L.length,M.length=L.length,inR IntKind.i64 (0 + 1 + 1),ltI (0 + 1 + 1) 3=true,IsEq 1 (qN10_3 P0 P1 P2 v0 v1 v2) 3,IsPr 2 L.length (cR L),IsI 1 M.length (cI M),IsPr 2 P2.length (cR P2),1≤L.length∧L.length≤8,P2.length=L.length,M.length=L.length,inR IntKind.i64 (0 + 1 + 1 + 1),ltI (0 + 1 + 1 + 1) 3=false]) [.go,.go,.go,.go,.go,.go,.go,.go,.go,.go,.go,.go,.go,.go,.go,.go,.b true,.go,.go,.go,.go,.go,.go,.go,.go,.go,.go,.go,.go,.go,.go,.go,.b true,.go,.go,.go,.go,.go,.go,.go,.go,.go,.go,.go,.go,.go,.go,.go,.b true,.go,.go,.go,.go,.go,.go,.go,.go,.go,.go,.go,.go,.go,.go,.go,.b false,.go,.go] [12,2,4,7,10,1] [(.ptr 1 0)] [(.row [(.slu 4 0 (L.length) 0),(.slu 7 0 (L.length) 0),(.slu 10 0 (L.length) 0)] 27 1),(qN10_9 L M),(qN10_8 L M P0),(qN10_7 L M P1),(qN10_6 L M P2),(.cells [(.slu 12 0 3 0),(.slu 2 0 (L.length) 0)] 29)] (by kernel_rfl) (by kernel_rfl) ⟨⟨rfl,[(v0,P0),(v1,P1),(v2,P2)],rfl,rfl⟩,⟨rfl,L,rfl,rfl⟩,⟨rfl,M,rfl,rfl⟩,⟨rfl,L,rfl,rfl⟩,hn,rfl,hm,rfl,⟨rfl,[(v0,P0),(v1,P1),(v2,P2)],rfl,rfl⟩,⟨rfl,L,rfl,rfl⟩,⟨rfl,M,rfl,rfl⟩,⟨rfl,P0,rfl,rfl⟩,hn,hp0,hm,(by show -9223372036854775808≤(_:Int)∧(_:Int)≤9223372036854775807; constructor <;> decide),rfl,⟨rfl,[(v0,P0),(v1,P1),(v2,P2)],rfl,rfl⟩,⟨rfl,L,rfl,rfl⟩,⟨rfl,M,rfl,rfl⟩,⟨rfl,P1,rfl,rfl⟩,hn,hp1,hm,(by show -9223372036854775808≤(_:Int)∧(_:Int)≤9223372036854775807; constructor <;> decide),rfl,⟨rfl,[(v0,P0),(v1,P1),(v2,P2)],rfl,rfl⟩,⟨rfl,L,rfl,rfl⟩,⟨rfl,M,rfl,rfl⟩,⟨rfl,P2,rfl,rfl⟩,hn,hp2,hm,(by show -9223372036854775808≤(_:Int)∧(_:Int)≤9223372036854775807; constructor <;> decide),rfl,trivial⟩ rfl rfl (by decide) rfl ⟨nr_ptr rfl,trivial⟩ ⟨⟨by show 0 < 6; decide,nrb_row (nrl_cons (nr_slu rfl) (nrl_cons (nr_slu rfl) (nrl_cons (nr_slu rfl) (nrl_nil))))⟩,⟨by show 1 < 6; decide,nrb_row (nrl_plain (cI_plain _))⟩,⟨by show 2 < 6; decide,nrb_row (nrl_plain (cI_plain _))⟩,⟨by show 3 < 6; decide,nrb_row (nrl_plain (cI_plain _))⟩,⟨by show 4 < 6; decide,nrb_row (nrl_plain (cI_plain _))⟩,⟨by show 5 < 6; decide,nrb_cells (nrl_cons (nr_slu rfl) (nrl_cons (nr_slu rfl) (nrl_nil)))⟩,trivial⟩) (en_eqM (r:=(.agg [(.slu 0 0 3 0),(.slu 1 0 (L.length) 0)])) (ys:=[(qN10_4 L),(qN10_9 L M),(qN10_8 L M P0),(qN10_7 L M P1),(qN10_6 L M P2)]) (by rfl) (by rfl) (en_retM (by kernel_rfl) (by kernel_rfl) rfl (.inr rfl)))
theorem exf_g (y v0:Value) (P0:List (Int×Int)) (v1:Value) (P1:List (Int×Int)) (v2:Value) (P2:List (Int×Int)) (yl:Value) (L:List (Int×Int)) (z:Value) (M:List Int) (hn:1≤L.length∧L.length≤8) (hp0:P0.length=L.length) (hp1:P1.length=L.length) (hp2:P2.length=L.length) (hm:M.length=L.length):GivesM Try.prog 81 [(qN10_2 L M P0 P1 P2 v0 v1 v2 y yl z),(.v (.bool false))] [] ((.agg [.slu 0 0 3 0,.slu 1 0 L.length 0])) [(qN10_5 L),(qN10_9 L M),(qN10_8 L M P0),(qN10_7 L M P1),(qN10_6 L M P2)] :=
 givesM_parts 34 (by kernel_rfl) Try.func81 (by kernel_rfl) (by kernel_rfl) (by kernel_rfl) (fun v eb ec=>goes_less (by kernel_rfl) (by kernel_rfl) (by kernel_rfl) (by kernel_rfl) (exf_2 y v0 P0 v1 P1 v2 P2 yl L z M hn hp0 hp1 hp2 hm v eb ec []))
end
end Go.Proofs.Ytegmogadbnfbgaa
