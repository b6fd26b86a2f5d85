import Derived.Test.YtmankoikpadkpaaC3a
set_option maxHeartbeats 4000000
set_option linter.all false
/- Lists of cases compared. -/
namespace Go.Proofs.Ytmankoikpadkpaa
open Go Ev
noncomputable section
noncomputable def csK1:Code:=bodyC Try.f23
noncomputable def csK3:Code:=tlC csK1
noncomputable def csK6:Code:=tlC csK3
noncomputable def csK9:Code:=tlC csK6
noncomputable def csK10:Code:=(hdC csK6)
noncomputable def csK12:Code:=tlC csK10
noncomputable def csK16:Code:=loopC csK12
theorem cs_19 (X:List (Int×Int)) (hX:X.length≤1000) (hqcs7_1:(eqI ((X.length:Nat):Int) ((X.length:Nat):Int))=true) (h0b:True) (hqcs18_1:(ltI ((X.length:Nat):Int) ((X.length:Nat):Int))=false) (v:BaseW) (eb:Nat→Option Nat) (ec:Nat→Nat) (hs:List Nat):Goes Try.prog 26 csK9 (⟨[],[],2,[(0,(.row (cR X) 26 2)),(1,(.row (cR X) 26 2))]⟩) (BaseW.H (bw v 2 eb ec) hs) (OutM Try.prog Try.f23 26 ((.v (.bool true))) [(.row (cR X) 26 2),(.row (cR X) 26 2)] (bw v 2 eb ec)):=by
 have hcl_X:=cR_len X
 have ghqcs7_1:=eqI_true hqcs7_1
 have ghqcs18_1:=ltI_false hqcs18_1
 exact goes_leafA isR_e (goes_told Try.checked.mixed (known_none) 200 (T':=⟨[(4,(.v (.bool .true)))],[],2,[(0,(.row (cR X) 26 2)),(1,(.row (cR X) 26 2))]⟩) (e:=.ret) (ps:=[]) [.go] (by kernel_rfl) (by kernel_rfl) trivial rfl) (en_eqM (r:=(.v (.bool .true))) (ys:=[(.row (cR X) 26 2),(.row (cR X) 26 2)]) (by rfl) (by rfl) (en_retM (by kernel_rfl) (by kernel_rfl) rfl (.inr rfl)))
theorem cs_17 (X:List (Int×Int)) (hX:X.length≤1000) (hqcs7_1:(eqI ((X.length:Nat):Int) ((X.length:Nat):Int))=true) (i:Nat) (hi1:i≤X.length) (hi2:True) (v:BaseW) (eb:Nat→Option Nat) (ec:Nat→Nat) (hs:List Nat):Goes Try.prog 26 csK16 (⟨[(0,(.slu 0 0 (X.length) 0)),(1,(.slu 1 0 (X.length) 0)),(5,(.v (.int .i64 ((i:Nat):Int))))],[],2,[(0,(.row (cR X) 26 2)),(1,(.row (cR X) 26 2))]⟩) (BaseW.H (bw v 2 eb ec) hs) (Hd.StepC Try.prog 26 0 (fun i:{i:Nat // i≤X.length∧True}=>⟨[(0,(.slu 0 0 (X.length) 0)),(1,(.slu 1 0 (X.length) 0)),(5,(.v (.int .i64 ((i.1:Nat):Int))))],[],2,[(0,(.row (cR X) 26 2)),(1,(.row (cR X) 26 2))]⟩) (fun i:{i:Nat // i≤X.length∧True}=>X.length - i.1) csK9 (bw v 2 eb ec) (OutM Try.prog Try.f23 26 ((.v (.bool true))) [(.row (cR X) 26 2),(.row (cR X) 26 2)] (bw v 2 eb ec)) (⟨i,hi1,hi2⟩:{i:Nat // i≤X.length∧True})):=by
 have hcl_X:=cR_len X
 have ghqcs7_1:=eqI_true hqcs7_1
 rcases Bool.eq_false_or_eq_true (ltI ((i:Nat):Int) ((X.length:Nat):Int)) with hqcs18_1 | hqcs18_1
 ·skip
  have ghqcs18_1:=ltI_true hqcs18_1
  rcases Bool.eq_false_or_eq_true (eqI (intAt (cR X) (0 + i * 2 + 0)) (intAt (cR X) (0 + i * 2 + 0)) && (eqI (intAt (cR X) (0 + i * 2 + 1)) (intAt (cR X) (0 + i * 2 + 1)) && true)) with hqcs18_2 | hqcs18_2
  ·skip
   exact goes_leafA isN_e (goes_told Try.checked.mixed (known_none) 200 (T':=⟨[(0,(.slu 0 0 (X.length) 0)),(1,(.slu 1 0 (X.length) 0)),(5,(.v (.int .i64 (((i + 1):Nat):Int))))],[],2,[(0,(.row (cR X) 26 2)),(1,(.row (cR X) 26 2))]⟩) (e:=.normal) (ps:=[ltI ((i:Nat):Int) ((X.length:Nat):Int)=true,i < X.length,loadL Try.prog (cR X) (0 + i * 2) 26=some (AV.agg [AV.v (Value.int IntKind.i64 (intAt (cR X) (0 + i * 2 + 0))),AV.v (Value.int IntKind.i64 (intAt (cR X) (0 + i * 2 + 1)))]),i < X.length,loadL Try.prog (cR X) (0 + i * 2) 26=some (AV.agg [AV.v (Value.int IntKind.i64 (intAt (cR X) (0 + i * 2 + 0))),AV.v (Value.int IntKind.i64 (intAt (cR X) (0 + i * 2 + 1)))]),(!(eqI (intAt (cR X) (0 + i * 2 + 0)) (intAt (cR X) (0 + i * 2 + 0)) && (eqI (intAt (cR X) (0 + i * 2 + 1)) (intAt (cR X) (0 + i * 2 + 1)) && true)))=false,inR IntKind.i64 (((i:Nat):Int) + 1)]) [.go,.go,.go,.go,.b true,.go,.go,.sym,.sym,.go,.go,.sym,.sym,.go,.b false,.go,.go,.go] (by kernel_rfl) (by kernel_rfl) ⟨hqcs18_1,(by omega),(by rw [Nat.zero_add]; exact cas_load (by omega)),(by omega),(by rw [Nat.zero_add]; exact cas_load (by omega)),(by rw [hqcs18_2]; rfl),(by show -9223372036854775808≤_∧_≤9223372036854775807; constructor <;> omega),trivial⟩ rfl) (Hd.en_on (⟨i + 1,by omega,trivial⟩) (by show X.length - (i + 1) < X.length - i; omega) rfl)
  ·skip
   exact (eqI_no2 hqcs18_2).elim
 ·skip
  have ghqcs18_1:=ltI_false hqcs18_1
  obtain rfl:i=X.length:=by omega
  exact goes_leafA isX_e (goes_told Try.checked.mixed (known_none) 200 (T':=⟨[],[],2,[(0,(.row (cR X) 26 2)),(1,(.row (cR X) 26 2))]⟩) (e:=.exit 0) (ps:=[ltI ((X.length:Nat):Int) ((X.length:Nat):Int)=false]) [.go,.go,.go,.go,.b false] (by kernel_rfl) (by kernel_rfl) ⟨hqcs18_1,trivial⟩ rfl) (Hd.en_sx (cs_19 X hX hqcs7_1 hi2  hqcs18_1 v eb ec hs))
theorem cs_15 (X:List (Int×Int)) (hX:X.length≤1000) (hqcs7_1:(eqI ((X.length:Nat):Int) ((X.length:Nat):Int))=true) (v:BaseW) (eb:Nat→Option Nat) (ec:Nat→Nat) (hs:List Nat):Goes Try.prog 26 csK12 (⟨[(0,(.slu 0 0 (X.length) 0)),(1,(.slu 1 0 (X.length) 0)),(5,(.v (.int .i64 (.ofNat 0))))],[],2,[(0,(.row (cR X) 26 2)),(1,(.row (cR X) 26 2))]⟩) (BaseW.H (bw v 2 eb ec) hs) (Hd.AfterN Try.prog 26 csK9 (bw v 2 eb ec) (OutM Try.prog Try.f23 26 ((.v (.bool true))) [(.row (cR X) 26 2),(.row (cR X) 26 2)] (bw v 2 eb ec))):=by
 have hcl_X:=cR_len X
 have ghqcs7_1:=eqI_true hqcs7_1
 exact Hd.goes_loopA (id:=0) (by kernel_rfl) (by kernel_rfl) (fun i:{i:Nat // i≤X.length∧True}=>⟨[(0,(.slu 0 0 (X.length) 0)),(1,(.slu 1 0 (X.length) 0)),(5,(.v (.int .i64 ((i.1:Nat):Int))))],[],2,[(0,(.row (cR X) 26 2)),(1,(.row (cR X) 26 2))]⟩) (fun i:{i:Nat // i≤X.length∧True}=>X.length - i.1) (fun ix_ hs=>cs_17 X hX hqcs7_1 ix_.1 ix_.2.1 ix_.2.2 v eb ec hs) ⟨0,Nat.zero_le _,trivial⟩ hs
theorem cs_14 (X:List (Int×Int)) (hX:X.length≤1000) (hqcs7_1:(eqI ((X.length:Nat):Int) ((X.length:Nat):Int))=true) (v:BaseW) (eb:Nat→Option Nat) (ec:Nat→Nat) (hs:List Nat):Goes Try.prog 26 csK12 (⟨[(0,(.slu 0 0 (X.length) 0)),(1,(.slu 1 0 (X.length) 0)),(5,(.v (.int .i64 (.ofNat 0))))],[],2,[(0,(.row (cR X) 26 2)),(1,(.row (cR X) 26 2))]⟩) (BaseW.H (bw v 2 eb ec) hs) (Hd.AfterN Try.prog 26 csK9 (bw v 2 eb ec) (OutM Try.prog Try.f23 26 ((.v (.bool true))) [(.row (cR X) 26 2),(.row (cR X) 26 2)] (bw v 2 eb ec))):=by
 exact cs_15 X hX hqcs7_1 v eb ec hs
theorem cs_11 (X:List (Int×Int)) (hX:X.length≤1000) (hqcs7_1:(eqI ((X.length:Nat):Int) ((X.length:Nat):Int))=true) (v:BaseW) (eb:Nat→Option Nat) (ec:Nat→Nat) (hs:List Nat):Goes Try.prog 26 csK10 (⟨[(0,(.slu 0 0 (X.length) 0)),(1,(.slu 1 0 (X.length) 0))],[],2,[(0,(.row (cR X) 26 2)),(1,(.row (cR X) 26 2))]⟩) (BaseW.H (bw v 2 eb ec) hs) (Hd.AfterN Try.prog 26 csK9 (bw v 2 eb ec) (OutM Try.prog Try.f23 26 ((.v (.bool true))) [(.row (cR X) 26 2),(.row (cR X) 26 2)] (bw v 2 eb ec))):=by
 have hcl_X:=cR_len X
 have ghqcs7_1:=eqI_true hqcs7_1
 refine Hd.goes_seqA (by kernel_rfl) ?_
 exact goes_leafA isN_e (goes_told Try.checked.mixed (known_none) 200 (T':=⟨[(0,(.slu 0 0 (X.length) 0)),(1,(.slu 1 0 (X.length) 0)),(5,(.v (.int .i64 (.ofNat 0))))],[],2,[(0,(.row (cR X) 26 2)),(1,(.row (cR X) 26 2))]⟩) (e:=.normal) (ps:=[]) [.go] (by kernel_rfl) (by kernel_rfl) trivial rfl) (Hd.en_n (cs_14 X hX hqcs7_1 v eb ec hs))
theorem cs_8 (X:List (Int×Int)) (hX:X.length≤1000) (hqcs7_1:(eqI ((X.length:Nat):Int) ((X.length:Nat):Int))=true) (v:BaseW) (eb:Nat→Option Nat) (ec:Nat→Nat) (hs:List Nat):Goes Try.prog 26 csK6 (⟨[(0,(.slu 0 0 (X.length) 0)),(1,(.slu 1 0 (X.length) 0))],[],2,[(0,(.row (cR X) 26 2)),(1,(.row (cR X) 26 2))]⟩) (BaseW.H (bw v 2 eb ec) hs) (OutM Try.prog Try.f23 26 ((.v (.bool true))) [(.row (cR X) 26 2),(.row (cR X) 26 2)] (bw v 2 eb ec)):=by
 exact Hd.goes_seqA (by kernel_rfl) (cs_11 X hX hqcs7_1 v eb ec hs)
theorem cs_5 (X:List (Int×Int)) (hX:X.length≤1000) (v:BaseW) (eb:Nat→Option Nat) (ec:Nat→Nat) (hs:List Nat):Goes Try.prog 26 csK3 (⟨[(0,(.slu 0 0 (X.length) 0)),(1,(.slu 1 0 (X.length) 0))],[],2,[(0,(.row (cR X) 26 2)),(1,(.row (cR X) 26 2))]⟩) (BaseW.H (bw v 2 eb ec) hs) (OutM Try.prog Try.f23 26 ((.v (.bool true))) [(.row (cR X) 26 2),(.row (cR X) 26 2)] (bw v 2 eb ec)):=by
 have hcl_X:=cR_len X
 refine Hd.goes_seqA (by kernel_rfl) ?_
 rcases Bool.eq_false_or_eq_true (eqI ((X.length:Nat):Int) ((X.length:Nat):Int)) with hqcs7_1 | hqcs7_1
 ·skip
  have ghqcs7_1:=eqI_true hqcs7_1
  exact goes_leafA isN_e (goes_told Try.checked.mixed (known_none) 200 (T':=⟨[(0,(.slu 0 0 (X.length) 0)),(1,(.slu 1 0 (X.length) 0))],[],2,[(0,(.row (cR X) 26 2)),(1,(.row (cR X) 26 2))]⟩) (e:=.normal) (ps:=[(!eqI ((X.length:Nat):Int) ((X.length:Nat):Int))=false]) [.go,.go,.go,.go,.go,.b false] (by kernel_rfl) (by kernel_rfl) ⟨(by rw [hqcs7_1]; rfl),trivial⟩ rfl) (Hd.en_n (cs_8 X hX hqcs7_1 v eb ec hs))
 ·skip
  have ghqcs7_1:=eqI_false hqcs7_1
  exact (eqI_no hqcs7_1).elim
theorem cs_2 (X:List (Int×Int)) (hX:X.length≤1000) (v:BaseW) (eb:Nat→Option Nat) (ec:Nat→Nat) (hs:List Nat):Goes Try.prog 26 csK1 (⟨[(0,(.slu 0 0 X.length 0)),(1,(.slu 1 0 X.length 0))],[],2,[(0,(.row (cR X) 26 2)),(1,(.row (cR X) 26 2))]⟩) (BaseW.H (bw v 2 eb ec) hs) (OutM Try.prog Try.f23 26 ((.v (.bool true))) [(.row (cR X) 26 2),(.row (cR X) 26 2)] (bw v 2 eb ec)):=by
 have hcl_X:=cR_len X
 refine Hd.goes_seqA (by kernel_rfl) ?_
 exact goes_leafA isN_e (goes_told Try.checked.mixed (known_none) 200 (T':=⟨[(0,(.slu 0 0 (X.length) 0)),(1,(.slu 1 0 (X.length) 0))],[],2,[(0,(.row (cR X) 26 2)),(1,(.row (cR X) 26 2))]⟩) (e:=.normal) (ps:=[]) [.go] (by kernel_rfl) (by kernel_rfl) trivial rfl) (Hd.en_n (cs_5 X hX v eb ec hs))
theorem cases_g (X:List (Int×Int)) (hX:X.length≤1000):GivesM Try.prog 23 [(.slu 0 0 X.length 0),(.slu 1 0 X.length 0)] [(.row (cR X) 26 2),(.row (cR X) 26 2)] ((.v (.bool true))) [(.row (cR X) 26 2),(.row (cR X) 26 2)] :=
 givesM_parts 26 (by kernel_rfl) Try.func23 (by kernel_rfl) (by kernel_rfl) (by kernel_rfl) (fun v eb ec=>goes_less (by kernel_rfl) (by kernel_rfl) (by kernel_rfl) (by kernel_rfl) (cs_2 X hX v eb ec []))
end
end Go.Proofs.Ytmankoikpadkpaa
