import Derived.Test.YtmankoikpadkpaaC3a
set_option maxHeartbeats 4000000
set_option linter.all false
/- All cases. -/
namespace Go.Proofs.Ytmankoikpadkpaa
open Go Ev
noncomputable section
section
variable (R : List (Value × List Int)) (i m : Nat) (y : Value)
@[reducible] def qC3b_8:Ev.AB:=(.cells [(.v (.int .i64 (((m + 1:Nat):Int)))),(.xl (y) (R.length) 1 (cRw R))] 24)
@[reducible] def qC3b_7:Nat×Ev.AB:=(0,(qC3b_8 R m y))
@[reducible] def qC3b_9:Nat×Ev.AB:=(1,(.cells [(.v (.int .i64 (.ofNat 0))),(.v (.int .i64 (.ofNat 0)))] 26))
@[reducible] def qC3b_1:Ev.Lit:=⟨[(1,(.ptr 0 0)),(3,(.sl 1 0 1 1)),(4,(.v (.int .i64 ((0:Nat):Int))))],[],2,[(qC3b_7 R m y),qC3b_9]⟩
@[reducible] def qC3b_2:Ev.Lit:=⟨[(1,(.ptr 0 0)),(3,(.slu 2 0 (1 + 2 * (i + 1)) 0)),(4,(.v (.int .i64 (((i + 1):Nat):Int))))],[],3,[(qC3b_7 R m y),(2,(.row (cR (casL (1 + 2 * (i + 1)))) 26 2))]⟩
@[reducible] def qC3b_3:Ev.Lit:=⟨[(1,(.ptr 0 0)),(3,(.sl 1 0 1 1)),(4,(.v (.int .i64 (.ofNat 0))))],[],2,[(qC3b_7 R m y),qC3b_9]⟩
@[reducible] def qC3b_4:Ev.Lit:=⟨[(1,(.ptr 0 0)),(3,(.sl 1 0 1 1))],[],2,[(qC3b_7 R m y),qC3b_9]⟩
@[reducible] def qC3b_5:Ev.Lit:=⟨[(1,(.ptr 0 0))],[],1,[(qC3b_7 R m y)]⟩
@[reducible] def qC3b_6:Ev.Lit:=⟨[(3,(.slu 2 0 (1 + 2 * ((m) + 1)) 0))],[],3,[(2,(.row (cR (casL (1 + 2 * ((m) + 1)))) 26 2))]⟩
@[reducible] def qC3b_10:Ev.AB:=(.row (cR (casL (1 + 2 * (m + 1)))) 26 2)
end
noncomputable def alK1:Code:=bodyC Try.f47
noncomputable def alK3:Code:=tlC alK1
noncomputable def alK6:Code:=tlC alK3
noncomputable def alK9:Code:=tlC alK6
noncomputable def alK10:Code:=(hdC alK6)
noncomputable def alK12:Code:=tlC alK10
noncomputable def alK17:Code:=loopC alK12
theorem al_18 (m:Nat) (y:Value) (R:List (Value×List Int)) (hm:m + 1≤39) (hi1:0≤(m + 1)) (hi2:True) (v:BaseW) (eb:Nat→Option Nat) (ec:Nat→Nat) (hs:List Nat):Goes Try.prog 21 alK17 ((qC3b_1 R m y)) (BaseW.H (bw v 0 eb ec) hs) (Hd.StepC Try.prog 21 0 (fun i:{i:Nat // i≤(m + 1)∧True}=>Ev.fam0 (qC3b_1 R m y) (fun i=>(qC3b_2 R i m y)) i.1) (fun i:{i:Nat // i≤(m + 1)∧True}=>(m + 1) - i.1) alK9 (bw v 0 eb ec) (OutM Try.prog Try.f47 21 ((.slu 0 0 (1 + 2 * (m + 1)) 0)) [(qC3b_10 m)] (bw v 0 eb ec)) (⟨0,hi1,hi2⟩:{i:Nat // i≤(m + 1)∧True})):=by
 exact goes_leafA isN_e (goes_cutR Try.checked.mixed (known_none) 200 (T':=⟨[(1,(.ptr 0 0)),(3,(.slu 2 0 (1 + 2 * (0 + 1)) 0)),(4,(.v (.int .i64 (((0 + 1):Nat):Int))))],[],3,[(qC3b_7 R m y),(2,(.row (cR (casL (1 + 2 * (0 + 1)))) 26 2))]⟩) (e:=.normal) (m:=4) (ps:=[ltI ((0:Nat):Int) ((m + 1:Nat):Int)=true,inR IntKind.i64 (((0:Nat):Int) + 1)]) [.go,.go,.go,.go,.b true,.go,.go,.go,.go,.go,.go,.go,.go,.go,.go,.go] [0,1,3] [(.ptr 0 0),(.slu 3 0 3 0),(.v (.int .i64 (.ofNat 1)))] [(qC3b_8 R m y),(.row [(.v (.int .i64 (.ofNat 0))),(.v (.int .i64 (.ofNat 0))),(.v (.int .i64 (.ofNat 0))),(.v (.int .i64 (.negSucc 0))),(.v (.int .i64 (.ofNat 0))),(.v (.int .i64 (.ofNat 1)))] 26 2)] (by kernel_rfl) (by kernel_rfl) ⟨(by rw [ltI_iff]; exact decide_eq_true (by omega)),(by show -9223372036854775808≤_∧_≤9223372036854775807; constructor <;> omega),trivial⟩ rfl rfl (by decide) rfl ⟨nr_ptr rfl,nr_slu rfl,nr_int (show (1:Int)=(((0 + 1):Nat):Int) from by omega),trivial⟩ ⟨⟨by show 0 < 3; decide,nrb_cells (nrl_cons (nr_v _) (nrl_cons (nr_free (freeL_xl (freeL_plainR _))) (nrl_nil)))⟩,⟨by show 2 < 3; decide,nrb_row (nrl_eq (show ((cR (casL (1 + 2 * (0 + 1)))):List AV)=[(.v (.int .i64 (.ofNat 0))),(.v (.int .i64 (.ofNat 0))),(.v (.int .i64 (.ofNat 0))),(.v (.int .i64 (.negSucc 0))),(.v (.int .i64 (.ofNat 0))),(.v (.int .i64 (.ofNat 1)))] from by exact cas_2 _) (cR_plain _))⟩,trivial⟩) (Hd.en_on (⟨0 + 1,by omega,trivial⟩) (by show (m + 1) - (0 + 1) < (m + 1) - 0; omega) rfl)
theorem al_22 (m:Nat) (y:Value) (R:List (Value×List Int)) (hm:m + 1≤39) (h0b:True) (hqal21_1:(ltI (((m) + 1:Nat):Int) ((m + 1:Nat):Int))=false) (v:BaseW) (eb:Nat→Option Nat) (ec:Nat→Nat) (hs:List Nat):Goes Try.prog 21 alK9 ((qC3b_6 m)) (BaseW.H (bw v 0 eb ec) hs) (OutM Try.prog Try.f47 21 ((.slu 0 0 (1 + 2 * (m + 1)) 0)) [(qC3b_10 m)] (bw v 0 eb ec)):=by
 have ghqal21_1:=ltI_false hqal21_1
 exact goes_leafA isR_e (goes_cutR Try.checked.mixed (known_none) 200 (T':=⟨[(2,(.slu 0 0 (1 + 2 * (m + 1)) 0))],[],1,[(0,(qC3b_10 m))]⟩) (e:=.ret) (m:=3) (ps:=[]) [.go,.go] [2] [(.slu 2 0 (1 + 2 * (m + 1)) 0)] [(qC3b_10 m)] (by kernel_rfl) (by kernel_rfl) trivial rfl rfl (by decide) rfl ⟨nr_slu rfl,trivial⟩ ⟨⟨by show 0 < 1; decide,nrb_row (nrl_plain (cR_plain _))⟩,trivial⟩) (en_eqM (r:=(.slu 0 0 (1 + 2 * (m + 1)) 0)) (ys:=[(qC3b_10 m)]) (by rfl) (by rfl) (en_retM (by kernel_rfl) (by kernel_rfl) rfl (.inr rfl)))
theorem al_20 (m:Nat) (y:Value) (R:List (Value×List Int)) (hm:m + 1≤39) (i:Nat) (hi1:(i + 1)≤(m + 1)) (hi2:True) (v:BaseW) (eb:Nat→Option Nat) (ec:Nat→Nat) (hs:List Nat):Goes Try.prog 21 alK17 ((qC3b_2 R i m y)) (BaseW.H (bw v 0 eb ec) hs) (Hd.StepC Try.prog 21 0 (fun i:{i:Nat // i≤(m + 1)∧True}=>Ev.fam0 (qC3b_1 R m y) (fun i=>(qC3b_2 R i m y)) i.1) (fun i:{i:Nat // i≤(m + 1)∧True}=>(m + 1) - i.1) alK9 (bw v 0 eb ec) (OutM Try.prog Try.f47 21 ((.slu 0 0 (1 + 2 * (m + 1)) 0)) [(qC3b_10 m)] (bw v 0 eb ec)) (⟨(i + 1),hi1,hi2⟩:{i:Nat // i≤(m + 1)∧True})):=by
 rcases Bool.eq_false_or_eq_true (ltI ((i + 1:Nat):Int) ((m + 1:Nat):Int)) with hqal21_1 | hqal21_1
 ·skip
  have ghqal21_1:=ltI_true hqal21_1
  exact goes_leafA isN_e (goes_cutR Try.checked.mixed (known_none) 200 (T':=⟨[(1,(.ptr 0 0)),(3,(.slu 2 0 (1 + 2 * ((i + 1) + 1)) 0)),(4,(.v (.int .i64 ((((i + 1) + 1):Nat):Int))))],[],3,[(qC3b_7 R m y),(2,(.row (cR (casL (1 + 2 * ((i + 1) + 1)))) 26 2))]⟩) (e:=.normal) (m:=5) (ps:=[ltI ((i + 1:Nat):Int) ((m + 1:Nat):Int)=true,((cR (casL (1 + 2 * (i + 1)))):List AV).length=(1 + 2 * (i + 1)) * 2,1 + 2 * (i + 1) + 2≤1000000,inR IntKind.i64 (((i + 1:Nat):Int) + 1)]) [.go,.go,.go,.go,.b true,.go,.go,.go,.go,.go,.go,.sym,.go,.go,.go,.go] [0,1,4] [(.ptr 0 0),(.slu 4 0 (1 + 2 * (i + 1) + 2) 0),(.v (.int .i64 (((i + 1:Nat):Int) + 1)))] [(qC3b_8 R m y),(.row ((cR (casL (1 + 2 * (i + 1)))) ++ [(.v (.int .i64 (((i + 1:Nat):Int)))),(.v (.int .i64 (.negSucc 0))),(.v (.int .i64 (((i + 1:Nat):Int)))),(.v (.int .i64 (.ofNat 1)))]) 26 2)] (by kernel_rfl) (by kernel_rfl) ⟨hqal21_1,(by show (cR _).length=_; rw [cR_len,cas_len]),(by omega),(by show -9223372036854775808≤_∧_≤9223372036854775807; constructor <;> omega),trivial⟩ rfl rfl (by decide) rfl ⟨nr_ptr rfl,nr_slu rfl,nr_int (show ((((i + 1:Nat):Int) + 1):Int)=((((i + 1) + 1):Nat):Int) from by omega),trivial⟩ ⟨⟨by show 0 < 3; decide,nrb_cells (nrl_cons (nr_v _) (nrl_cons (nr_free (freeL_xl (freeL_plainR _))) (nrl_nil)))⟩,⟨by show 2 < 3; decide,nrb_row (nrl_eq (show ((cR (casL (1 + 2 * ((i + 1) + 1)))):List AV)=((cR (casL (1 + 2 * (i + 1)))) ++ [(.v (.int .i64 (((i + 1:Nat):Int)))),(.v (.int .i64 (.negSucc 0))),(.v (.int .i64 (((i + 1:Nat):Int)))),(.v (.int .i64 (.ofNat 1)))]) from by exact cas_2 _) (cR_plain _))⟩,trivial⟩) (Hd.en_on (⟨(i + 1) + 1,by omega,trivial⟩) (by show (m + 1) - ((i + 1) + 1) < (m + 1) - (i + 1); omega) rfl)
 ·skip
  have ghqal21_1:=ltI_false hqal21_1
  obtain rfl:m=i:=by omega
  exact goes_leafA isX_e (goes_told Try.checked.mixed (known_none) 200 (T':=(qC3b_6 m)) (e:=.exit 0) (ps:=[ltI (((m) + 1:Nat):Int) ((m + 1:Nat):Int)=false]) [.go,.go,.go,.go,.b false] (by kernel_rfl) (by kernel_rfl) ⟨hqal21_1,trivial⟩ rfl) (Hd.en_sx (al_22 m y R hm hi2  hqal21_1 v eb ec hs))
theorem al_16 (m:Nat) (y:Value) (R:List (Value×List Int)) (hm:m + 1≤39) (v:BaseW) (eb:Nat→Option Nat) (ec:Nat→Nat) (hs:List Nat):Goes Try.prog 21 alK12 ((qC3b_3 R m y)) (BaseW.H (bw v 0 eb ec) hs) (Hd.AfterN Try.prog 21 alK9 (bw v 0 eb ec) (OutM Try.prog Try.f47 21 ((.slu 0 0 (1 + 2 * (m + 1)) 0)) [(qC3b_10 m)] (bw v 0 eb ec))):=by
 exact Hd.goes_loopA (id:=0) (by kernel_rfl) (by kernel_rfl) (fun i:{i:Nat // i≤(m + 1)∧True}=>Ev.fam0 (qC3b_1 R m y) (fun i=>(qC3b_2 R i m y)) i.1) (fun i:{i:Nat // i≤(m + 1)∧True}=>(m + 1) - i.1) (fun i hs=>match i with | ⟨0,h1,h2⟩=>al_18 m y R hm h1 h2 v eb ec hs | ⟨j + 1,h1,h2⟩=>al_20 m y R hm j h1 h2 v eb ec hs) ⟨0,Nat.zero_le _,trivial⟩ hs
theorem al_14 (m:Nat) (y:Value) (R:List (Value×List Int)) (hm:m + 1≤39) (v:BaseW) (eb:Nat→Option Nat) (ec:Nat→Nat) (hs:List Nat):Goes Try.prog 21 alK12 ((qC3b_3 R m y)) (BaseW.H (bw v 0 eb ec) hs) (Hd.AfterN Try.prog 21 alK9 (bw v 0 eb ec) (OutM Try.prog Try.f47 21 ((.slu 0 0 (1 + 2 * (m + 1)) 0)) [(qC3b_10 m)] (bw v 0 eb ec))):=by
 exact al_16 m y R hm v eb ec hs
theorem al_11 (m:Nat) (y:Value) (R:List (Value×List Int)) (hm:m + 1≤39) (v:BaseW) (eb:Nat→Option Nat) (ec:Nat→Nat) (hs:List Nat):Goes Try.prog 21 alK10 ((qC3b_4 R m y)) (BaseW.H (bw v 0 eb ec) hs) (Hd.AfterN Try.prog 21 alK9 (bw v 0 eb ec) (OutM Try.prog Try.f47 21 ((.slu 0 0 (1 + 2 * (m + 1)) 0)) [(qC3b_10 m)] (bw v 0 eb ec))):=by
 refine Hd.goes_seqA (by kernel_rfl) ?_
 exact goes_leafA isN_e (goes_told Try.checked.mixed (known_none) 200 (T':=(qC3b_3 R m y)) (e:=.normal) (ps:=[]) [.go] (by kernel_rfl) (by kernel_rfl) trivial rfl) (Hd.en_n (al_14 m y R hm v eb ec hs))
theorem al_8 (m:Nat) (y:Value) (R:List (Value×List Int)) (hm:m + 1≤39) (v:BaseW) (eb:Nat→Option Nat) (ec:Nat→Nat) (hs:List Nat):Goes Try.prog 21 alK6 ((qC3b_4 R m y)) (BaseW.H (bw v 0 eb ec) hs) (OutM Try.prog Try.f47 21 ((.slu 0 0 (1 + 2 * (m + 1)) 0)) [(qC3b_10 m)] (bw v 0 eb ec)):=by
 exact Hd.goes_seqA (by kernel_rfl) (al_11 m y R hm v eb ec hs)
theorem al_5 (m:Nat) (y:Value) (R:List (Value×List Int)) (hm:m + 1≤39) (v:BaseW) (eb:Nat→Option Nat) (ec:Nat→Nat) (hs:List Nat):Goes Try.prog 21 alK3 ((qC3b_5 R m y)) (BaseW.H (bw v 0 eb ec) hs) (OutM Try.prog Try.f47 21 ((.slu 0 0 (1 + 2 * (m + 1)) 0)) [(qC3b_10 m)] (bw v 0 eb ec)):=by
 refine Hd.goes_seqA (by kernel_rfl) ?_
 exact goes_leafA isN_e (goes_told Try.checked.mixed (known_none) 200 (T':=(qC3b_4 R m y)) (e:=.normal) (ps:=[]) [.go,.go,.go] (by kernel_rfl) (by kernel_rfl) trivial rfl) (Hd.en_n (al_8 m y R hm v eb ec hs))
theorem al_2 (m:Nat) (y:Value) (R:List (Value×List Int)) (hm:m + 1≤39) (v:BaseW) (eb:Nat→Option Nat) (ec:Nat→Nat) (hs:List Nat):Goes Try.prog 21 alK1 (⟨[(0,(.agg [.v (.int .i64 ((m + 1:Nat):Int)),.xl y R.length 1 (cRw R)]))],[],0,[]⟩) (BaseW.H (bw v 0 eb ec) hs) (OutM Try.prog Try.f47 21 ((.slu 0 0 (1 + 2 * (m + 1)) 0)) [(qC3b_10 m)] (bw v 0 eb ec)):=by
 refine Hd.goes_seqA (by kernel_rfl) ?_
 exact goes_leafA isN_e (goes_told Try.checked.mixed (known_none) 200 (T':=(qC3b_5 R m y)) (e:=.normal) (ps:=[]) [.go,.go] (by kernel_rfl) (by kernel_rfl) trivial rfl) (Hd.en_n (al_5 m y R hm v eb ec hs))
theorem all_g (m:Nat) (y:Value) (R:List (Value×List Int)) (hm:m + 1≤39):GivesM Try.prog 47 [(.agg [.v (.int .i64 ((m + 1:Nat):Int)),.xl y R.length 1 (cRw R)])] [] ((.slu 0 0 (1 + 2 * (m + 1)) 0)) [(qC3b_10 m)] :=
 givesM_parts 21 (by kernel_rfl) Try.func47 (by kernel_rfl) (by kernel_rfl) (by kernel_rfl) (fun v eb ec=>goes_less (by kernel_rfl) (by kernel_rfl) (by kernel_rfl) (by kernel_rfl) (al_2 m y R hm v eb ec []))
end
end Go.Proofs.Ytmankoikpadkpaa
