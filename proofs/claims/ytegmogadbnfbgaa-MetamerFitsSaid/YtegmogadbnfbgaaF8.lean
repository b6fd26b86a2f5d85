import Derived.Test.YtegmogadbnfbgaaF7
set_option maxHeartbeats 4000000
set_option linter.all false
/- Lists that are the same, as they are compared. -/
namespace Go.Proofs.Ytegmogadbnfbgaa
open Go Ev
noncomputable section
noncomputable def loK1:Code:=bodyC Try.f22
noncomputable def loK3:Code:=tlC loK1
noncomputable def loK6:Code:=tlC loK3
noncomputable def loK9:Code:=tlC loK6
noncomputable def loK10:Code:=(hdC loK6)
noncomputable def loK12:Code:=tlC loK10
noncomputable def loK16:Code:=loopC loK12
theorem lo_19 (X:List Int) (hX:X.length≤5000) (hqlo7_1:(eqI ((X.length:Nat):Int) ((X.length:Nat):Int))=true) (h0b:True) (hqlo18_1:(ltI ((X.length:Nat):Int) ((X.length:Nat):Int))=false) (v:BaseW) (eb:Nat→Option Nat) (ec:Nat→Nat) (hs:List Nat):Goes Try.prog 26 loK9 (⟨[],[],2,[(0,(.cells (cI X) 2)),(1,(.cells (cI X) 2))]⟩) (BaseW.H (bw v 2 eb ec) hs) (OutM Try.prog Try.f22 26 ((.v (.bool true))) [(.cells (cI X) 2),(.cells (cI X) 2)] (bw v 2 eb ec)):=by
 have hcl_X:=cI_len X
 have ghqlo7_1:=eqI_true hqlo7_1
 have ghqlo18_1:=ltI_false hqlo18_1
 exact goes_leafA isR_e (goes_told Try.checked.mixed (known_none) 200 (T':=⟨[(4,(.v (.bool .true)))],[],2,[(0,(.cells (cI X) 2)),(1,(.cells (cI X) 2))]⟩) (e:=.ret) (ps:=[]) [.go] (by kernel_rfl) (by kernel_rfl) trivial rfl) (en_eqM (r:=(.v (.bool .true))) (ys:=[(.cells (cI X) 2),(.cells (cI X) 2)]) (by rfl) (by rfl) (en_retM (by kernel_rfl) (by kernel_rfl) rfl (.inr rfl)))
theorem lo_17 (X:List Int) (hX:X.length≤5000) (hqlo7_1:(eqI ((X.length:Nat):Int) ((X.length:Nat):Int))=true) (i:Nat) (hi1:i≤X.length) (hi2:True) (v:BaseW) (eb:Nat→Option Nat) (ec:Nat→Nat) (hs:List Nat):Goes Try.prog 26 loK16 (⟨[(0,(.sl 0 0 (X.length) (X.length))),(1,(.sl 1 0 (X.length) (X.length))),(5,(.v (.int .i64 ((i:Nat):Int))))],[],2,[(0,(.cells (cI X) 2)),(1,(.cells (cI X) 2))]⟩) (BaseW.H (bw v 2 eb ec) hs) (Hd.StepC Try.prog 26 0 (fun i:{i:Nat // i≤X.length∧True}=>⟨[(0,(.sl 0 0 (X.length) (X.length))),(1,(.sl 1 0 (X.length) (X.length))),(5,(.v (.int .i64 ((i.1:Nat):Int))))],[],2,[(0,(.cells (cI X) 2)),(1,(.cells (cI X) 2))]⟩) (fun i:{i:Nat // i≤X.length∧True}=>X.length - i.1) loK9 (bw v 2 eb ec) (OutM Try.prog Try.f22 26 ((.v (.bool true))) [(.cells (cI X) 2),(.cells (cI X) 2)] (bw v 2 eb ec)) (⟨i,hi1,hi2⟩:{i:Nat // i≤X.length∧True})):=by
 have hcl_X:=cI_len X
 have ghqlo7_1:=eqI_true hqlo7_1
 rcases Bool.eq_false_or_eq_true (ltI ((i:Nat):Int) ((X.length:Nat):Int)) with hqlo18_1 | hqlo18_1
 ·skip
  have ghqlo18_1:=ltI_true hqlo18_1
  rcases Bool.eq_false_or_eq_true (eqI (intAt (cI X) (0 + i * 1)) (intAt (cI X) (0 + i * 1))) with hqlo18_2 | hqlo18_2
  ·skip
   have ghqlo18_2:=eqI_true hqlo18_2
   exact goes_leafA isN_e (goes_told Try.checked.mixed (known_none) 200 (T':=⟨[(0,(.sl 0 0 (X.length) (X.length))),(1,(.sl 1 0 (X.length) (X.length))),(5,(.v (.int .i64 (((i + 1):Nat):Int))))],[],2,[(0,(.cells (cI X) 2)),(1,(.cells (cI X) 2))]⟩) (e:=.normal) (ps:=[ltI ((i:Nat):Int) ((X.length:Nat):Int)=true,i < X.length,loadL Try.prog (cI X) (0 + i * 1) 2=some (AV.v (Value.int IntKind.i64 (intAt (cI X) (0 + i * 1)))),i < X.length,loadL Try.prog (cI X) (0 + i * 1) 2=some (AV.v (Value.int IntKind.i64 (intAt (cI X) (0 + i * 1)))),(!eqI (intAt (cI X) (0 + i * 1)) (intAt (cI X) (0 + i * 1)))=false,inR IntKind.i64 (((i:Nat):Int) + 1)]) [.go,.go,.go,.go,.b true,.go,.go,.sym,.sym,.go,.go,.sym,.sym,.go,.b false,.go,.go,.go] (by kernel_rfl) (by kernel_rfl) ⟨hqlo18_1,(by omega),(by rw [Nat.mul_one]; exact cI_load (show _ < X.length by omega) 2 (Try.underlying2) rfl),(by omega),(by rw [Nat.mul_one]; exact cI_load (show _ < X.length by omega) 2 (Try.underlying2) rfl),(by rw [hqlo18_2]; rfl),(by show -9223372036854775808≤_∧_≤9223372036854775807; constructor <;> omega),trivial⟩ rfl) (Hd.en_on (⟨i + 1,by omega,trivial⟩) (by show X.length - (i + 1) < X.length - i; omega) rfl)
  ·skip
   have ghqlo18_2:=eqI_false hqlo18_2
   exact absurd rfl (eqI_false hqlo18_2)
 ·skip
  have ghqlo18_1:=ltI_false hqlo18_1
  obtain rfl:i=X.length:=by omega
  exact goes_leafA isX_e (goes_told Try.checked.mixed (known_none) 200 (T':=⟨[],[],2,[(0,(.cells (cI X) 2)),(1,(.cells (cI X) 2))]⟩) (e:=.exit 0) (ps:=[ltI ((X.length:Nat):Int) ((X.length:Nat):Int)=false]) [.go,.go,.go,.go,.b false] (by kernel_rfl) (by kernel_rfl) ⟨hqlo18_1,trivial⟩ rfl) (Hd.en_sx (lo_19 X hX hqlo7_1 hi2  hqlo18_1 v eb ec hs))
theorem lo_15 (X:List Int) (hX:X.length≤5000) (hqlo7_1:(eqI ((X.length:Nat):Int) ((X.length:Nat):Int))=true) (v:BaseW) (eb:Nat→Option Nat) (ec:Nat→Nat) (hs:List Nat):Goes Try.prog 26 loK12 (⟨[(0,(.sl 0 0 (X.length) (X.length))),(1,(.sl 1 0 (X.length) (X.length))),(5,(.v (.int .i64 (.ofNat 0))))],[],2,[(0,(.cells (cI X) 2)),(1,(.cells (cI X) 2))]⟩) (BaseW.H (bw v 2 eb ec) hs) (Hd.AfterN Try.prog 26 loK9 (bw v 2 eb ec) (OutM Try.prog Try.f22 26 ((.v (.bool true))) [(.cells (cI X) 2),(.cells (cI X) 2)] (bw v 2 eb ec))):=by
 have hcl_X:=cI_len X
 have ghqlo7_1:=eqI_true hqlo7_1
 exact Hd.goes_loopA (id:=0) (by kernel_rfl) (by kernel_rfl) (fun i:{i:Nat // i≤X.length∧True}=>⟨[(0,(.sl 0 0 (X.length) (X.length))),(1,(.sl 1 0 (X.length) (X.length))),(5,(.v (.int .i64 ((i.1:Nat):Int))))],[],2,[(0,(.cells (cI X) 2)),(1,(.cells (cI X) 2))]⟩) (fun i:{i:Nat // i≤X.length∧True}=>X.length - i.1) (fun ix_ hs=>lo_17 X hX hqlo7_1 ix_.1 ix_.2.1 ix_.2.2 v eb ec hs) ⟨0,Nat.zero_le _,trivial⟩ hs
theorem lo_14 (X:List Int) (hX:X.length≤5000) (hqlo7_1:(eqI ((X.length:Nat):Int) ((X.length:Nat):Int))=true) (v:BaseW) (eb:Nat→Option Nat) (ec:Nat→Nat) (hs:List Nat):Goes Try.prog 26 loK12 (⟨[(0,(.sl 0 0 (X.length) (X.length))),(1,(.sl 1 0 (X.length) (X.length))),(5,(.v (.int .i64 (.ofNat 0))))],[],2,[(0,(.cells (cI X) 2)),(1,(.cells (cI X) 2))]⟩) (BaseW.H (bw v 2 eb ec) hs) (Hd.AfterN Try.prog 26 loK9 (bw v 2 eb ec) (OutM Try.prog Try.f22 26 ((.v (.bool true))) [(.cells (cI X) 2),(.cells (cI X) 2)] (bw v 2 eb ec))):=by
 exact lo_15 X hX hqlo7_1 v eb ec hs
theorem lo_11 (X:List Int) (hX:X.length≤5000) (hqlo7_1:(eqI ((X.length:Nat):Int) ((X.length:Nat):Int))=true) (v:BaseW) (eb:Nat→Option Nat) (ec:Nat→Nat) (hs:List Nat):Goes Try.prog 26 loK10 (⟨[(0,(.sl 0 0 (X.length) (X.length))),(1,(.sl 1 0 (X.length) (X.length)))],[],2,[(0,(.cells (cI X) 2)),(1,(.cells (cI X) 2))]⟩) (BaseW.H (bw v 2 eb ec) hs) (Hd.AfterN Try.prog 26 loK9 (bw v 2 eb ec) (OutM Try.prog Try.f22 26 ((.v (.bool true))) [(.cells (cI X) 2),(.cells (cI X) 2)] (bw v 2 eb ec))):=by
 have hcl_X:=cI_len X
 have ghqlo7_1:=eqI_true hqlo7_1
 refine Hd.goes_seqA (by kernel_rfl) ?_
 exact goes_leafA isN_e (goes_told Try.checked.mixed (known_none) 200 (T':=⟨[(0,(.sl 0 0 (X.length) (X.length))),(1,(.sl 1 0 (X.length) (X.length))),(5,(.v (.int .i64 (.ofNat 0))))],[],2,[(0,(.cells (cI X) 2)),(1,(.cells (cI X) 2))]⟩) (e:=.normal) (ps:=[]) [.go] (by kernel_rfl) (by kernel_rfl) trivial rfl) (Hd.en_n (lo_14 X hX hqlo7_1 v eb ec hs))
theorem lo_8 (X:List Int) (hX:X.length≤5000) (hqlo7_1:(eqI ((X.length:Nat):Int) ((X.length:Nat):Int))=true) (v:BaseW) (eb:Nat→Option Nat) (ec:Nat→Nat) (hs:List Nat):Goes Try.prog 26 loK6 (⟨[(0,(.sl 0 0 (X.length) (X.length))),(1,(.sl 1 0 (X.length) (X.length)))],[],2,[(0,(.cells (cI X) 2)),(1,(.cells (cI X) 2))]⟩) (BaseW.H (bw v 2 eb ec) hs) (OutM Try.prog Try.f22 26 ((.v (.bool true))) [(.cells (cI X) 2),(.cells (cI X) 2)] (bw v 2 eb ec)):=by
 exact Hd.goes_seqA (by kernel_rfl) (lo_11 X hX hqlo7_1 v eb ec hs)
theorem lo_5 (X:List Int) (hX:X.length≤5000) (v:BaseW) (eb:Nat→Option Nat) (ec:Nat→Nat) (hs:List Nat):Goes Try.prog 26 loK3 (⟨[(0,(.sl 0 0 (X.length) (X.length))),(1,(.sl 1 0 (X.length) (X.length)))],[],2,[(0,(.cells (cI X) 2)),(1,(.cells (cI X) 2))]⟩) (BaseW.H (bw v 2 eb ec) hs) (OutM Try.prog Try.f22 26 ((.v (.bool true))) [(.cells (cI X) 2),(.cells (cI X) 2)] (bw v 2 eb ec)):=by
 have hcl_X:=cI_len X
 refine Hd.goes_seqA (by kernel_rfl) ?_
 rcases Bool.eq_false_or_eq_true (eqI ((X.length:Nat):Int) ((X.length:Nat):Int)) with hqlo7_1 | hqlo7_1
 ·skip
  have ghqlo7_1:=eqI_true hqlo7_1
  exact goes_leafA isN_e (goes_told Try.checked.mixed (known_none) 200 (T':=⟨[(0,(.sl 0 0 (X.length) (X.length))),(1,(.sl 1 0 (X.length) (X.length)))],[],2,[(0,(.cells (cI X) 2)),(1,(.cells (cI X) 2))]⟩) (e:=.normal) (ps:=[(!eqI ((X.length:Nat):Int) ((X.length:Nat):Int))=false]) [.go,.go,.go,.go,.go,.b false] (by kernel_rfl) (by kernel_rfl) ⟨(by rw [hqlo7_1]; rfl),trivial⟩ rfl) (Hd.en_n (lo_8 X hX hqlo7_1 v eb ec hs))
 ·skip
  have ghqlo7_1:=eqI_false hqlo7_1
  exact absurd rfl (eqI_false hqlo7_1)
theorem lo_2 (X:List Int) (hX:X.length≤5000) (v:BaseW) (eb:Nat→Option Nat) (ec:Nat→Nat) (hs:List Nat):Goes Try.prog 26 loK1 (⟨[(0,(.sl 0 0 X.length X.length)),(1,(.sl 1 0 X.length X.length))],[],2,[(0,(.cells (cI X) 2)),(1,(.cells (cI X) 2))]⟩) (BaseW.H (bw v 2 eb ec) hs) (OutM Try.prog Try.f22 26 ((.v (.bool true))) [(.cells (cI X) 2),(.cells (cI X) 2)] (bw v 2 eb ec)):=by
 have hcl_X:=cI_len X
 refine Hd.goes_seqA (by kernel_rfl) ?_
 exact goes_leafA isN_e (goes_told Try.checked.mixed (known_none) 200 (T':=⟨[(0,(.sl 0 0 (X.length) (X.length))),(1,(.sl 1 0 (X.length) (X.length)))],[],2,[(0,(.cells (cI X) 2)),(1,(.cells (cI X) 2))]⟩) (e:=.normal) (ps:=[]) [.go] (by kernel_rfl) (by kernel_rfl) trivial rfl) (Hd.en_n (lo_5 X hX v eb ec hs))
theorem lo_g (X:List Int) (hX:X.length≤5000):GivesM Try.prog 22 [(.sl 0 0 X.length X.length),(.sl 1 0 X.length X.length)] [(.cells (cI X) 2),(.cells (cI X) 2)] ((.v (.bool true))) [(.cells (cI X) 2),(.cells (cI X) 2)] :=
 givesM_parts 26 (by kernel_rfl) Try.func22 (by kernel_rfl) (by kernel_rfl) (by kernel_rfl) (fun v eb ec=>goes_less (by kernel_rfl) (by kernel_rfl) (by kernel_rfl) (by kernel_rfl) (lo_2 X hX v eb ec []))
noncomputable def itK1:Code:=bodyC Try.f39
noncomputable def itK3:Code:=tlC itK1
noncomputable def itK6:Code:=tlC itK3
noncomputable def itK9:Code:=tlC itK6
noncomputable def itK10:Code:=(hdC itK6)
noncomputable def itK12:Code:=tlC itK10
noncomputable def itK16:Code:=loopC itK12
theorem it_19 (X:List Int) (hX:X.length≤5000) (hqit7_1:(eqI ((X.length:Nat):Int) ((X.length:Nat):Int))=true) (h0b:True) (hqit18_1:(ltI ((X.length:Nat):Int) ((X.length:Nat):Int))=false) (v:BaseW) (eb:Nat→Option Nat) (ec:Nat→Nat) (hs:List Nat):Goes Try.prog 26 itK9 (⟨[],[],2,[(0,(.row (cI X) 3 1)),(1,(.row (cI X) 3 1))]⟩) (BaseW.H (bw v 2 eb ec) hs) (OutM Try.prog Try.f39 26 ((.v (.bool true))) [(.row (cI X) 3 1),(.row (cI X) 3 1)] (bw v 2 eb ec)):=by
 have hcl_X:=cI_len X
 have ghqit7_1:=eqI_true hqit7_1
 have ghqit18_1:=ltI_false hqit18_1
 exact goes_leafA isR_e (goes_told Try.checked.mixed (known_none) 200 (T':=⟨[(4,(.v (.bool .true)))],[],2,[(0,(.row (cI X) 3 1)),(1,(.row (cI X) 3 1))]⟩) (e:=.ret) (ps:=[]) [.go] (by kernel_rfl) (by kernel_rfl) trivial rfl) (en_eqM (r:=(.v (.bool .true))) (ys:=[(.row (cI X) 3 1),(.row (cI X) 3 1)]) (by rfl) (by rfl) (en_retM (by kernel_rfl) (by kernel_rfl) rfl (.inr rfl)))
theorem it_17 (X:List Int) (hX:X.length≤5000) (hqit7_1:(eqI ((X.length:Nat):Int) ((X.length:Nat):Int))=true) (i:Nat) (hi1:i≤X.length) (hi2:True) (v:BaseW) (eb:Nat→Option Nat) (ec:Nat→Nat) (hs:List Nat):Goes Try.prog 26 itK16 (⟨[(0,(.slu 0 0 (X.length) 0)),(1,(.slu 1 0 (X.length) 0)),(5,(.v (.int .i64 ((i:Nat):Int))))],[],2,[(0,(.row (cI X) 3 1)),(1,(.row (cI X) 3 1))]⟩) (BaseW.H (bw v 2 eb ec) hs) (Hd.StepC Try.prog 26 0 (fun i:{i:Nat // i≤X.length∧True}=>⟨[(0,(.slu 0 0 (X.length) 0)),(1,(.slu 1 0 (X.length) 0)),(5,(.v (.int .i64 ((i.1:Nat):Int))))],[],2,[(0,(.row (cI X) 3 1)),(1,(.row (cI X) 3 1))]⟩) (fun i:{i:Nat // i≤X.length∧True}=>X.length - i.1) itK9 (bw v 2 eb ec) (OutM Try.prog Try.f39 26 ((.v (.bool true))) [(.row (cI X) 3 1),(.row (cI X) 3 1)] (bw v 2 eb ec)) (⟨i,hi1,hi2⟩:{i:Nat // i≤X.length∧True})):=by
 have hcl_X:=cI_len X
 have ghqit7_1:=eqI_true hqit7_1
 rcases Bool.eq_false_or_eq_true (ltI ((i:Nat):Int) ((X.length:Nat):Int)) with hqit18_1 | hqit18_1
 ·skip
  have ghqit18_1:=ltI_true hqit18_1
  rcases Bool.eq_false_or_eq_true (eqI (intAt (cI X) (0 + i * 1)) (intAt (cI X) (0 + i * 1))) with hqit18_2 | hqit18_2
  ·skip
   have ghqit18_2:=eqI_true hqit18_2
   exact goes_leafA isN_e (goes_told Try.checked.mixed (known_none) 200 (T':=⟨[(0,(.slu 0 0 (X.length) 0)),(1,(.slu 1 0 (X.length) 0)),(5,(.v (.int .i64 (((i + 1):Nat):Int))))],[],2,[(0,(.row (cI X) 3 1)),(1,(.row (cI X) 3 1))]⟩) (e:=.normal) (ps:=[ltI ((i:Nat):Int) ((X.length:Nat):Int)=true,i < X.length,loadL Try.prog (cI X) (0 + i * 1) 3=some (AV.v (Value.int IntKind.i64 (intAt (cI X) (0 + i * 1)))),i < X.length,loadL Try.prog (cI X) (0 + i * 1) 3=some (AV.v (Value.int IntKind.i64 (intAt (cI X) (0 + i * 1)))),(!eqI (intAt (cI X) (0 + i * 1)) (intAt (cI X) (0 + i * 1)))=false,inR IntKind.i64 (((i:Nat):Int) + 1)]) [.go,.go,.go,.go,.b true,.go,.go,.sym,.sym,.go,.go,.sym,.sym,.go,.b false,.go,.go,.go] (by kernel_rfl) (by kernel_rfl) ⟨hqit18_1,(by omega),(by rw [Nat.mul_one]; exact cI_load (show _ < X.length by omega) 3 (Try.underlying3) rfl),(by omega),(by rw [Nat.mul_one]; exact cI_load (show _ < X.length by omega) 3 (Try.underlying3) rfl),(by rw [hqit18_2]; rfl),(by show -9223372036854775808≤_∧_≤9223372036854775807; constructor <;> omega),trivial⟩ rfl) (Hd.en_on (⟨i + 1,by omega,trivial⟩) (by show X.length - (i + 1) < X.length - i; omega) rfl)
  ·skip
   have ghqit18_2:=eqI_false hqit18_2
   exact absurd rfl (eqI_false hqit18_2)
 ·skip
  have ghqit18_1:=ltI_false hqit18_1
  obtain rfl:i=X.length:=by omega
  exact goes_leafA isX_e (goes_told Try.checked.mixed (known_none) 200 (T':=⟨[],[],2,[(0,(.row (cI X) 3 1)),(1,(.row (cI X) 3 1))]⟩) (e:=.exit 0) (ps:=[ltI ((X.length:Nat):Int) ((X.length:Nat):Int)=false]) [.go,.go,.go,.go,.b false] (by kernel_rfl) (by kernel_rfl) ⟨hqit18_1,trivial⟩ rfl) (Hd.en_sx (it_19 X hX hqit7_1 hi2  hqit18_1 v eb ec hs))
theorem it_15 (X:List Int) (hX:X.length≤5000) (hqit7_1:(eqI ((X.length:Nat):Int) ((X.length:Nat):Int))=true) (v:BaseW) (eb:Nat→Option Nat) (ec:Nat→Nat) (hs:List Nat):Goes Try.prog 26 itK12 (⟨[(0,(.slu 0 0 (X.length) 0)),(1,(.slu 1 0 (X.length) 0)),(5,(.v (.int .i64 (.ofNat 0))))],[],2,[(0,(.row (cI X) 3 1)),(1,(.row (cI X) 3 1))]⟩) (BaseW.H (bw v 2 eb ec) hs) (Hd.AfterN Try.prog 26 itK9 (bw v 2 eb ec) (OutM Try.prog Try.f39 26 ((.v (.bool true))) [(.row (cI X) 3 1),(.row (cI X) 3 1)] (bw v 2 eb ec))):=by
 have hcl_X:=cI_len X
 have ghqit7_1:=eqI_true hqit7_1
 exact Hd.goes_loopA (id:=0) (by kernel_rfl) (by kernel_rfl) (fun i:{i:Nat // i≤X.length∧True}=>⟨[(0,(.slu 0 0 (X.length) 0)),(1,(.slu 1 0 (X.length) 0)),(5,(.v (.int .i64 ((i.1:Nat):Int))))],[],2,[(0,(.row (cI X) 3 1)),(1,(.row (cI X) 3 1))]⟩) (fun i:{i:Nat // i≤X.length∧True}=>X.length - i.1) (fun ix_ hs=>it_17 X hX hqit7_1 ix_.1 ix_.2.1 ix_.2.2 v eb ec hs) ⟨0,Nat.zero_le _,trivial⟩ hs
theorem it_14 (X:List Int) (hX:X.length≤5000) (hqit7_1:(eqI ((X.length:Nat):Int) ((X.length:Nat):Int))=true) (v:BaseW) (eb:Nat→Option Nat) (ec:Nat→Nat) (hs:List Nat):Goes Try.prog 26 itK12 (⟨[(0,(.slu 0 0 (X.length) 0)),(1,(.slu 1 0 (X.length) 0)),(5,(.v (.int .i64 (.ofNat 0))))],[],2,[(0,(.row (cI X) 3 1)),(1,(.row (cI X) 3 1))]⟩) (BaseW.H (bw v 2 eb ec) hs) (Hd.AfterN Try.prog 26 itK9 (bw v 2 eb ec) (OutM Try.prog Try.f39 26 ((.v (.bool true))) [(.row (cI X) 3 1),(.row (cI X) 3 1)] (bw v 2 eb ec))):=by
 exact it_15 X hX hqit7_1 v eb ec hs
theorem it_11 (X:List Int) (hX:X.length≤5000) (hqit7_1:(eqI ((X.length:Nat):Int) ((X.length:Nat):Int))=true) (v:BaseW) (eb:Nat→Option Nat) (ec:Nat→Nat) (hs:List Nat):Goes Try.prog 26 itK10 (⟨[(0,(.slu 0 0 (X.length) 0)),(1,(.slu 1 0 (X.length) 0))],[],2,[(0,(.row (cI X) 3 1)),(1,(.row (cI X) 3 1))]⟩) (BaseW.H (bw v 2 eb ec) hs) (Hd.AfterN Try.prog 26 itK9 (bw v 2 eb ec) (OutM Try.prog Try.f39 26 ((.v (.bool true))) [(.row (cI X) 3 1),(.row (cI X) 3 1)] (bw v 2 eb ec))):=by
 have hcl_X:=cI_len X
 have ghqit7_1:=eqI_true hqit7_1
 refine Hd.goes_seqA (by kernel_rfl) ?_
 exact goes_leafA isN_e (goes_told Try.checked.mixed (known_none) 200 (T':=⟨[(0,(.slu 0 0 (X.length) 0)),(1,(.slu 1 0 (X.length) 0)),(5,(.v (.int .i64 (.ofNat 0))))],[],2,[(0,(.row (cI X) 3 1)),(1,(.row (cI X) 3 1))]⟩) (e:=.normal) (ps:=[]) [.go] (by kernel_rfl) (by kernel_rfl) trivial rfl) (Hd.en_n (it_14 X hX hqit7_1 v eb ec hs))
theorem it_8 (X:List Int) (hX:X.length≤5000) (hqit7_1:(eqI ((X.length:Nat):Int) ((X.length:Nat):Int))=true) (v:BaseW) (eb:Nat→Option Nat) (ec:Nat→Nat) (hs:List Nat):Goes Try.prog 26 itK6 (⟨[(0,(.slu 0 0 (X.length) 0)),(1,(.slu 1 0 (X.length) 0))],[],2,[(0,(.row (cI X) 3 1)),(1,(.row (cI X) 3 1))]⟩) (BaseW.H (bw v 2 eb ec) hs) (OutM Try.prog Try.f39 26 ((.v (.bool true))) [(.row (cI X) 3 1),(.row (cI X) 3 1)] (bw v 2 eb ec)):=by
 exact Hd.goes_seqA (by kernel_rfl) (it_11 X hX hqit7_1 v eb ec hs)
theorem it_5 (X:List Int) (hX:X.length≤5000) (v:BaseW) (eb:Nat→Option Nat) (ec:Nat→Nat) (hs:List Nat):Goes Try.prog 26 itK3 (⟨[(0,(.slu 0 0 (X.length) 0)),(1,(.slu 1 0 (X.length) 0))],[],2,[(0,(.row (cI X) 3 1)),(1,(.row (cI X) 3 1))]⟩) (BaseW.H (bw v 2 eb ec) hs) (OutM Try.prog Try.f39 26 ((.v (.bool true))) [(.row (cI X) 3 1),(.row (cI X) 3 1)] (bw v 2 eb ec)):=by
 have hcl_X:=cI_len X
 refine Hd.goes_seqA (by kernel_rfl) ?_
 rcases Bool.eq_false_or_eq_true (eqI ((X.length:Nat):Int) ((X.length:Nat):Int)) with hqit7_1 | hqit7_1
 ·skip
  have ghqit7_1:=eqI_true hqit7_1
  exact goes_leafA isN_e (goes_told Try.checked.mixed (known_none) 200 (T':=⟨[(0,(.slu 0 0 (X.length) 0)),(1,(.slu 1 0 (X.length) 0))],[],2,[(0,(.row (cI X) 3 1)),(1,(.row (cI X) 3 1))]⟩) (e:=.normal) (ps:=[(!eqI ((X.length:Nat):Int) ((X.length:Nat):Int))=false]) [.go,.go,.go,.go,.go,.b false] (by kernel_rfl) (by kernel_rfl) ⟨(by rw [hqit7_1]; rfl),trivial⟩ rfl) (Hd.en_n (it_8 X hX hqit7_1 v eb ec hs))
 ·skip
  have ghqit7_1:=eqI_false hqit7_1
  exact absurd rfl (eqI_false hqit7_1)
theorem it_2 (X:List Int) (hX:X.length≤5000) (v:BaseW) (eb:Nat→Option Nat) (ec:Nat→Nat) (hs:List Nat):Goes Try.prog 26 itK1 (⟨[(0,(.slu 0 0 X.length 0)),(1,(.slu 1 0 X.length 0))],[],2,[(0,(.row (cI X) 3 1)),(1,(.row (cI X) 3 1))]⟩) (BaseW.H (bw v 2 eb ec) hs) (OutM Try.prog Try.f39 26 ((.v (.bool true))) [(.row (cI X) 3 1),(.row (cI X) 3 1)] (bw v 2 eb ec)):=by
 have hcl_X:=cI_len X
 refine Hd.goes_seqA (by kernel_rfl) ?_
 exact goes_leafA isN_e (goes_told Try.checked.mixed (known_none) 200 (T':=⟨[(0,(.slu 0 0 (X.length) 0)),(1,(.slu 1 0 (X.length) 0))],[],2,[(0,(.row (cI X) 3 1)),(1,(.row (cI X) 3 1))]⟩) (e:=.normal) (ps:=[]) [.go] (by kernel_rfl) (by kernel_rfl) trivial rfl) (Hd.en_n (it_5 X hX v eb ec hs))
theorem it_g (X:List Int) (hX:X.length≤5000):GivesM Try.prog 39 [(.slu 0 0 X.length 0),(.slu 1 0 X.length 0)] [(.row (cI X) 3 1),(.row (cI X) 3 1)] ((.v (.bool true))) [(.row (cI X) 3 1),(.row (cI X) 3 1)] :=
 givesM_parts 26 (by kernel_rfl) Try.func39 (by kernel_rfl) (by kernel_rfl) (by kernel_rfl) (fun v eb ec=>goes_less (by kernel_rfl) (by kernel_rfl) (by kernel_rfl) (by kernel_rfl) (it_2 X hX v eb ec []))
end
end Go.Proofs.Ytegmogadbnfbgaa
