import Derived.Test.YtmankoikpadkpaaC5a
set_option maxHeartbeats 4000000
set_option linter.all false
/- Cases of the reference. -/
namespace Go.Proofs.Ytmankoikpadkpaa
open Go Ev
noncomputable section
noncomputable def rbdK1:Code:=bodyC Try.f22
noncomputable def rbdK3:Code:=tlC rbdK1
noncomputable def rbdK6:Code:=tlC rbdK3
noncomputable def rbdK9:Code:=tlC rbdK6
noncomputable def rbdK12:Code:=tlC rbdK9
noncomputable def rbdK13:Code:=(hdC rbdK9)
noncomputable def rbdK15:Code:=tlC rbdK13
noncomputable def rbdK19:Code:=loopC rbdK15
theorem rbd_20 (y:Value) (R:List (Value×List Int)) (z:Value) (n:Int) (L:List Int) (h0:¬ csE n (cRw R) R.length (cI L) L.length=0) (hqrbd7_1:(eqI (plE n (cRw R) R.length) 0)=true) (hqrbd10_1:(eqI ((L.length:Nat):Int) ((R.length:Nat):Int))=true) (i:Nat) (hi1:i≤L.length) (hi2:∀ j,j < i→seenAt (cI L) j) (v:BaseW) (eb:Nat→Option Nat) (ec:Nat→Nat) (hs:List Nat):Goes Try.prog 63 rbdK19 (⟨[(1,(.xl (z) (L.length) 1 (cI L))),(2,(.ptr 0 0)),(6,(.v (.int .i64 ((i:Nat):Int))))],[],1,[(0,(.cells [(.v (.int .i64 (n))),(.xl (y) (R.length) 1 (cRw R))] 24))]⟩) (BaseW.H (bw v 0 eb ec) hs) (Hd.StepC Try.prog 63 0 (fun i:{i:Nat // i≤L.length∧∀ j,j < i→seenAt (cI L) j}=>⟨[(1,(.xl (z) (L.length) 1 (cI L))),(2,(.ptr 0 0)),(6,(.v (.int .i64 ((i.1:Nat):Int))))],[],1,[(0,(.cells [(.v (.int .i64 (n))),(.xl (y) (R.length) 1 (cRw R))] 24))]⟩) (fun i:{i:Nat // i≤L.length∧∀ j,j < i→seenAt (cI L) j}=>L.length - i.1) rbdK12 (bw v 0 eb ec) (OutM Try.prog Try.f22 63 ((.tup [.v (.slice none 0 0),.v (.int .i64 (csE n (cRw R) R.length (cI L) L.length))])) [] (bw v 0 eb ec)) (⟨i,hi1,hi2⟩:{i:Nat // i≤L.length∧∀ j,j < i→seenAt (cI L) j})):=by
 have hcl_L:=cI_len L
 have ghqrbd7_1:=eqI_true hqrbd7_1
 have ghqrbd10_1:=eqI_true hqrbd10_1
 rcases Bool.eq_false_or_eq_true (ltI ((i:Nat):Int) ((L.length:Nat):Int)) with hqrbd21_1 | hqrbd21_1
 ·skip
  have ghqrbd21_1:=ltI_true hqrbd21_1
  rcases Bool.eq_false_or_eq_true (ltI (intAt (cI L) (i * 1)) (-1)) with hqrbd21_2 | hqrbd21_2
  ·skip
   have ghqrbd21_2:=ltI_true hqrbd21_2
   exact goes_leafA isR_e (goes_cut Try.checked.mixed (known_rc1) 200 (T':=⟨[(4,(.v (Value.slice none 0 0))),(5,(.v (.int .i64 (.ofNat 3))))],[],0,[]⟩) (e:=.ret) (m:=1) (ps:=[ltI ((i:Nat):Int) ((L.length:Nat):Int)=true,i < L.length,loadL Try.prog (cI L) (i * 1) 3=some (AV.v (Value.int IntKind.i64 (intAt (cI L) (i * 1)))),ltI (intAt (cI L) (i * 1)) (-1)=true,true=true,true=true,true=true,true=true,true=true]) [.go,.go,.go,.go,.b true,.go,.go,.sym,.sym,.go,.go,.b true,.b true,.b true,.b true,.b true,.go,.b true,.go,.go] (by kernel_rfl) (by kernel_rfl) ⟨hqrbd21_1,(by omega),(by rw [Nat.mul_one]; exact cI_load (by omega) 3 (Try.underlying3) rfl),hqrbd21_2,rfl,rfl,rfl,rfl,rfl,trivial⟩ rfl (by show 0≤1; decide) ⟨⟨nb_v _,nb_v _,trivial⟩,trivial,rfl⟩ (by show 0≤0; decide)) (Hd.en_so (by intro h; cases h) (by intro h; cases h) (en_eqM (r:=(.tup [(.v (Value.slice none 0 0)),(.v (.int .i64 (.ofNat 3)))])) (ys:=[]) (by rw [csE_see (eqI_true hqrbd7_1) (by omega) (okS_no (show i < L.length by omega) (by unfold seenAt; omega))] <;> rfl) (by rfl) (en_retM (by kernel_rfl) (by kernel_rfl) rfl (.inr rfl))))
  ·skip
   have ghqrbd21_2:=ltI_false hqrbd21_2
   rcases Bool.eq_false_or_eq_true (ltI 1 (intAt (cI L) (i * 1))) with hqrbd21_3 | hqrbd21_3
   ·skip
    have ghqrbd21_3:=ltI_true hqrbd21_3
    exact goes_leafA isR_e (goes_cut Try.checked.mixed (known_rc1) 200 (T':=⟨[(4,(.v (Value.slice none 0 0))),(5,(.v (.int .i64 (.ofNat 3))))],[],0,[]⟩) (e:=.ret) (m:=1) (ps:=[ltI ((i:Nat):Int) ((L.length:Nat):Int)=true,i < L.length,loadL Try.prog (cI L) (i * 1) 3=some (AV.v (Value.int IntKind.i64 (intAt (cI L) (i * 1)))),ltI (intAt (cI L) (i * 1)) (-1)=false,false=false,false=false,i < L.length,false=false,loadL Try.prog (cI L) (i * 1) 3=some (AV.v (Value.int IntKind.i64 (intAt (cI L) (i * 1)))),false=false,ltI 1 (intAt (cI L) (i * 1))=true]) [.go,.go,.go,.go,.b true,.go,.go,.sym,.sym,.go,.go,.b false,.go,.b false,.go,.b false,.sym,.b false,.sym,.b false,.go,.go,.b true,.go,.go] (by kernel_rfl) (by kernel_rfl) ⟨hqrbd21_1,(by omega),(by rw [Nat.mul_one]; exact cI_load (by omega) 3 (Try.underlying3) rfl),hqrbd21_2,rfl,rfl,(by omega),rfl,(by rw [Nat.mul_one]; exact cI_load (by omega) 3 (Try.underlying3) rfl),rfl,hqrbd21_3,trivial⟩ rfl (by show 0≤1; decide) ⟨⟨nb_v _,nb_v _,trivial⟩,trivial,rfl⟩ (by show 0≤0; decide)) (Hd.en_so (by intro h; cases h) (by intro h; cases h) (en_eqM (r:=(.tup [(.v (Value.slice none 0 0)),(.v (.int .i64 (.ofNat 3)))])) (ys:=[]) (by rw [csE_see (eqI_true hqrbd7_1) (by omega) (okS_no (show i < L.length by omega) (by unfold seenAt; omega))] <;> rfl) (by rfl) (en_retM (by kernel_rfl) (by kernel_rfl) rfl (.inr rfl))))
   ·skip
    have ghqrbd21_3:=ltI_false hqrbd21_3
    exact goes_leafA isN_e (goes_told Try.checked.mixed (known_rc1) 200 (T':=⟨[(1,(.xl (z) (L.length) 1 (cI L))),(2,(.ptr 0 0)),(6,(.v (.int .i64 (((i + 1):Nat):Int))))],[],1,[(0,(.cells [(.v (.int .i64 (n))),(.xl (y) (R.length) 1 (cRw R))] 24))]⟩) (e:=.normal) (ps:=[ltI ((i:Nat):Int) ((L.length:Nat):Int)=true,i < L.length,loadL Try.prog (cI L) (i * 1) 3=some (AV.v (Value.int IntKind.i64 (intAt (cI L) (i * 1)))),ltI (intAt (cI L) (i * 1)) (-1)=false,false=false,false=false,i < L.length,false=false,loadL Try.prog (cI L) (i * 1) 3=some (AV.v (Value.int IntKind.i64 (intAt (cI L) (i * 1)))),false=false,ltI 1 (intAt (cI L) (i * 1))=false,inR IntKind.i64 (((i:Nat):Int) + 1)]) [.go,.go,.go,.go,.b true,.go,.go,.sym,.sym,.go,.go,.b false,.go,.b false,.go,.b false,.sym,.b false,.sym,.b false,.go,.go,.b false,.go,.go,.go] (by kernel_rfl) (by kernel_rfl) ⟨hqrbd21_1,(by omega),(by rw [Nat.mul_one]; exact cI_load (by omega) 3 (Try.underlying3) rfl),hqrbd21_2,rfl,rfl,(by omega),rfl,(by rw [Nat.mul_one]; exact cI_load (by omega) 3 (Try.underlying3) rfl),rfl,hqrbd21_3,(by have h9:=plE_zero (n:=n) (c:=cRw R) (m:=R.length) (eqI_true (by assumption)); show -9223372036854775808≤_∧_≤9223372036854775807; constructor <;> omega),trivial⟩ rfl) (Hd.en_on (⟨i + 1,by omega,(seen_nx hi2 (by unfold seenAt; omega))⟩) (by show L.length - (i + 1) < L.length - i; omega) rfl)
 ·skip
  have ghqrbd21_1:=ltI_false hqrbd21_1
  exfalso
  refine h0 ?_
  unfold csE
  rw [if_pos (eqI_true hqrbd7_1),if_pos (by omega),if_pos (okS_all.2 (fun j hj=>by first | exact hi2 j (by omega) | exact h0b j (by omega)))]
theorem rbd_18 (y:Value) (R:List (Value×List Int)) (z:Value) (n:Int) (L:List Int) (h0:¬ csE n (cRw R) R.length (cI L) L.length=0) (hqrbd7_1:(eqI (plE n (cRw R) R.length) 0)=true) (hqrbd10_1:(eqI ((L.length:Nat):Int) ((R.length:Nat):Int))=true) (v:BaseW) (eb:Nat→Option Nat) (ec:Nat→Nat) (hs:List Nat):Goes Try.prog 63 rbdK15 (⟨[(1,(.xl (z) (L.length) 1 (cI L))),(2,(.ptr 0 0)),(6,(.v (.int .i64 (.ofNat 0))))],[],1,[(0,(.cells [(.v (.int .i64 (n))),(.xl (y) (R.length) 1 (cRw R))] 24))]⟩) (BaseW.H (bw v 0 eb ec) hs) (Hd.AfterN Try.prog 63 rbdK12 (bw v 0 eb ec) (OutM Try.prog Try.f22 63 ((.tup [.v (.slice none 0 0),.v (.int .i64 (csE n (cRw R) R.length (cI L) L.length))])) [] (bw v 0 eb ec))):=by
 have hcl_L:=cI_len L
 have ghqrbd7_1:=eqI_true hqrbd7_1
 have ghqrbd10_1:=eqI_true hqrbd10_1
 exact Hd.goes_loopA (id:=0) (by kernel_rfl) (by kernel_rfl) (fun i:{i:Nat // i≤L.length∧∀ j,j < i→seenAt (cI L) j}=>⟨[(1,(.xl (z) (L.length) 1 (cI L))),(2,(.ptr 0 0)),(6,(.v (.int .i64 ((i.1:Nat):Int))))],[],1,[(0,(.cells [(.v (.int .i64 (n))),(.xl (y) (R.length) 1 (cRw R))] 24))]⟩) (fun i:{i:Nat // i≤L.length∧∀ j,j < i→seenAt (cI L) j}=>L.length - i.1) (fun ix_ hs=>rbd_20 y R z n L h0 hqrbd7_1 hqrbd10_1 ix_.1 ix_.2.1 ix_.2.2 v eb ec hs) ⟨0,Nat.zero_le _,(fun j hj=>by omega)⟩ hs
theorem rbd_17 (y:Value) (R:List (Value×List Int)) (z:Value) (n:Int) (L:List Int) (h0:¬ csE n (cRw R) R.length (cI L) L.length=0) (hqrbd7_1:(eqI (plE n (cRw R) R.length) 0)=true) (hqrbd10_1:(eqI ((L.length:Nat):Int) ((R.length:Nat):Int))=true) (v:BaseW) (eb:Nat→Option Nat) (ec:Nat→Nat) (hs:List Nat):Goes Try.prog 63 rbdK15 (⟨[(1,(.xl (z) (L.length) 1 (cI L))),(2,(.ptr 0 0)),(6,(.v (.int .i64 (.ofNat 0))))],[],1,[(0,(.cells [(.v (.int .i64 (n))),(.xl (y) (R.length) 1 (cRw R))] 24))]⟩) (BaseW.H (bw v 0 eb ec) hs) (Hd.AfterN Try.prog 63 rbdK12 (bw v 0 eb ec) (OutM Try.prog Try.f22 63 ((.tup [.v (.slice none 0 0),.v (.int .i64 (csE n (cRw R) R.length (cI L) L.length))])) [] (bw v 0 eb ec))):=by
 exact rbd_18 y R z n L h0 hqrbd7_1 hqrbd10_1 v eb ec hs
theorem rbd_14 (y:Value) (R:List (Value×List Int)) (z:Value) (n:Int) (L:List Int) (h0:¬ csE n (cRw R) R.length (cI L) L.length=0) (hqrbd7_1:(eqI (plE n (cRw R) R.length) 0)=true) (hqrbd10_1:(eqI ((L.length:Nat):Int) ((R.length:Nat):Int))=true) (v:BaseW) (eb:Nat→Option Nat) (ec:Nat→Nat) (hs:List Nat):Goes Try.prog 63 rbdK13 (⟨[(1,(.xl (z) (L.length) 1 (cI L))),(2,(.ptr 0 0))],[],1,[(0,(.cells [(.v (.int .i64 (n))),(.xl (y) (R.length) 1 (cRw R))] 24))]⟩) (BaseW.H (bw v 0 eb ec) hs) (Hd.AfterN Try.prog 63 rbdK12 (bw v 0 eb ec) (OutM Try.prog Try.f22 63 ((.tup [.v (.slice none 0 0),.v (.int .i64 (csE n (cRw R) R.length (cI L) L.length))])) [] (bw v 0 eb ec))):=by
 have hcl_L:=cI_len L
 have ghqrbd7_1:=eqI_true hqrbd7_1
 have ghqrbd10_1:=eqI_true hqrbd10_1
 refine Hd.goes_seqA (by kernel_rfl) ?_
 exact goes_leafA isN_e (goes_told Try.checked.mixed (known_rc1) 200 (T':=⟨[(1,(.xl (z) (L.length) 1 (cI L))),(2,(.ptr 0 0)),(6,(.v (.int .i64 (.ofNat 0))))],[],1,[(0,(.cells [(.v (.int .i64 (n))),(.xl (y) (R.length) 1 (cRw R))] 24))]⟩) (e:=.normal) (ps:=[]) [.go] (by kernel_rfl) (by kernel_rfl) trivial rfl) (Hd.en_n (rbd_17 y R z n L h0 hqrbd7_1 hqrbd10_1 v eb ec hs))
theorem rbd_11 (y:Value) (R:List (Value×List Int)) (z:Value) (n:Int) (L:List Int) (h0:¬ csE n (cRw R) R.length (cI L) L.length=0) (hqrbd7_1:(eqI (plE n (cRw R) R.length) 0)=true) (hqrbd10_1:(eqI ((L.length:Nat):Int) ((R.length:Nat):Int))=true) (v:BaseW) (eb:Nat→Option Nat) (ec:Nat→Nat) (hs:List Nat):Goes Try.prog 63 rbdK9 (⟨[(1,(.xl (z) (L.length) 1 (cI L))),(2,(.ptr 0 0))],[],1,[(0,(.cells [(.v (.int .i64 (n))),(.xl (y) (R.length) 1 (cRw R))] 24))]⟩) (BaseW.H (bw v 0 eb ec) hs) (OutM Try.prog Try.f22 63 ((.tup [.v (.slice none 0 0),.v (.int .i64 (csE n (cRw R) R.length (cI L) L.length))])) [] (bw v 0 eb ec)):=by
 exact Hd.goes_seqA (by kernel_rfl) (rbd_14 y R z n L h0 hqrbd7_1 hqrbd10_1 v eb ec hs)
theorem rbd_8 (y:Value) (R:List (Value×List Int)) (z:Value) (n:Int) (L:List Int) (h0:¬ csE n (cRw R) R.length (cI L) L.length=0) (hqrbd7_1:(eqI (plE n (cRw R) R.length) 0)=true) (v:BaseW) (eb:Nat→Option Nat) (ec:Nat→Nat) (hs:List Nat):Goes Try.prog 63 rbdK6 (⟨[(1,(.xl (z) (L.length) 1 (cI L))),(2,(.ptr 0 0))],[],1,[(0,(.cells [(.v (.int .i64 (n))),(.xl (y) (R.length) 1 (cRw R))] 24))]⟩) (BaseW.H (bw v 0 eb ec) hs) (OutM Try.prog Try.f22 63 ((.tup [.v (.slice none 0 0),.v (.int .i64 (csE n (cRw R) R.length (cI L) L.length))])) [] (bw v 0 eb ec)):=by
 have hcl_L:=cI_len L
 have ghqrbd7_1:=eqI_true hqrbd7_1
 refine Hd.goes_seqA (by kernel_rfl) ?_
 rcases Bool.eq_false_or_eq_true (eqI ((L.length:Nat):Int) ((R.length:Nat):Int)) with hqrbd10_1 | hqrbd10_1
 ·skip
  have ghqrbd10_1:=eqI_true hqrbd10_1
  exact goes_leafA isN_e (goes_told Try.checked.mixed (known_rc1) 200 (T':=⟨[(1,(.xl (z) (L.length) 1 (cI L))),(2,(.ptr 0 0))],[],1,[(0,(.cells [(.v (.int .i64 (n))),(.xl (y) (R.length) 1 (cRw R))] 24))]⟩) (e:=.normal) (ps:=[(!eqI ((L.length:Nat):Int) ((R.length:Nat):Int))=false]) [.go,.go,.go,.go,.go,.go,.b false] (by kernel_rfl) (by kernel_rfl) ⟨(by rw [hqrbd10_1]; rfl),trivial⟩ rfl) (Hd.en_n (rbd_11 y R z n L h0 hqrbd7_1 hqrbd10_1 v eb ec hs))
 ·skip
  have ghqrbd10_1:=eqI_false hqrbd10_1
  exact goes_leafA isR_e (goes_cut Try.checked.mixed (known_rc1) 200 (T':=⟨[(4,(.v (Value.slice none 0 0))),(5,(.v (.int .i64 (.ofNat 15))))],[],0,[]⟩) (e:=.ret) (m:=1) (ps:=[(!eqI ((L.length:Nat):Int) ((R.length:Nat):Int))=true]) [.go,.go,.go,.go,.go,.go,.b true,.go,.go] (by kernel_rfl) (by kernel_rfl) ⟨(by rw [hqrbd10_1]; rfl),trivial⟩ rfl (by show 0≤1; decide) ⟨⟨nb_v _,nb_v _,trivial⟩,trivial,rfl⟩ (by show 0≤0; decide)) (Hd.en_o (by intro h; cases h) (en_eqM (r:=(.tup [(.v (Value.slice none 0 0)),(.v (.int .i64 (.ofNat 15)))])) (ys:=[]) (by rw [csE_len (eqI_true hqrbd7_1) (by omega)] <;> rfl) (by rfl) (en_retM (by kernel_rfl) (by kernel_rfl) rfl (.inr rfl))))
theorem rbd_5 (y:Value) (R:List (Value×List Int)) (z:Value) (n:Int) (L:List Int) (h0:¬ csE n (cRw R) R.length (cI L) L.length=0) (v:BaseW) (eb:Nat→Option Nat) (ec:Nat→Nat) (hs:List Nat):Goes Try.prog 63 rbdK3 (⟨[(1,(.xl (z) (L.length) 1 (cI L))),(2,(.ptr 0 0))],[],1,[(0,(.cells [(.v (.int .i64 (n))),(.xl (y) (R.length) 1 (cRw R))] 24))]⟩) (BaseW.H (bw v 0 eb ec) hs) (OutM Try.prog Try.f22 63 ((.tup [.v (.slice none 0 0),.v (.int .i64 (csE n (cRw R) R.length (cI L) L.length))])) [] (bw v 0 eb ec)):=by
 have hcl_L:=cI_len L
 refine Hd.goes_seqA (by kernel_rfl) ?_
 rcases Bool.eq_false_or_eq_true (eqI (plE n (cRw R) R.length) 0) with hqrbd7_1 | hqrbd7_1
 ·skip
  have ghqrbd7_1:=eqI_true hqrbd7_1
  exact goes_leafA isN_e (goes_told Try.checked.mixed (known_rc1) 200 (T':=⟨[(1,(.xl (z) (L.length) 1 (cI L))),(2,(.ptr 0 0))],[],1,[(0,(.cells [(.v (.int .i64 (n))),(.xl (y) (R.length) 1 (cRw R))] 24))]⟩) (e:=.normal) (ps:=[IsR R.length (cRw R),(!eqI (plE n (cRw R) R.length) 0)=false]) [.go,.go,.b false] (by kernel_rfl) (by kernel_rfl) ⟨⟨R,rfl,rfl⟩,(by rw [hqrbd7_1]; rfl),trivial⟩ rfl) (Hd.en_n (rbd_8 y R z n L h0 hqrbd7_1 v eb ec hs))
 ·skip
  have ghqrbd7_1:=eqI_false hqrbd7_1
  exact goes_leafA isR_e (goes_cut Try.checked.mixed (known_rc1) 200 (T':=⟨[(4,(.v (Value.slice none 0 0))),(5,(.v (.int .i64 (plE n (cRw R) R.length))))],[],0,[]⟩) (e:=.ret) (m:=1) (ps:=[IsR R.length (cRw R),(!eqI (plE n (cRw R) R.length) 0)=true,IsR R.length (cRw R)]) [.go,.go,.b true,.go,.go,.go] (by kernel_rfl) (by kernel_rfl) ⟨⟨R,rfl,rfl⟩,(by rw [hqrbd7_1]; rfl),⟨R,rfl,rfl⟩,trivial⟩ rfl (by show 0≤1; decide) ⟨⟨nb_v _,nb_v _,trivial⟩,trivial,rfl⟩ (by show 0≤0; decide)) (Hd.en_o (by intro h; cases h) (en_eqM (r:=(.tup [(.v (Value.slice none 0 0)),(.v (.int .i64 (plE n (cRw R) R.length)))])) (ys:=[]) (by rw [csE_pl (eqI_false hqrbd7_1)]) (by rfl) (en_retM (by kernel_rfl) (by kernel_rfl) rfl (.inr rfl))))
theorem rbd_2 (y:Value) (R:List (Value×List Int)) (z:Value) (n:Int) (L:List Int) (h0:¬ csE n (cRw R) R.length (cI L) L.length=0) (v:BaseW) (eb:Nat→Option Nat) (ec:Nat→Nat) (hs:List Nat):Goes Try.prog 63 rbdK1 (⟨[(0,(.agg [.v (.int .i64 n),.xl y R.length 1 (cRw R)])),(1,(.xl z L.length 1 (cI L)))],[],0,[]⟩) (BaseW.H (bw v 0 eb ec) hs) (OutM Try.prog Try.f22 63 ((.tup [.v (.slice none 0 0),.v (.int .i64 (csE n (cRw R) R.length (cI L) L.length))])) [] (bw v 0 eb ec)):=by
 have hcl_L:=cI_len L
 refine Hd.goes_seqA (by kernel_rfl) ?_
 exact goes_leafA isN_e (goes_told Try.checked.mixed (known_rc1) 200 (T':=⟨[(1,(.xl (z) (L.length) 1 (cI L))),(2,(.ptr 0 0))],[],1,[(0,(.cells [(.v (.int .i64 (n))),(.xl (y) (R.length) 1 (cRw R))] 24))]⟩) (e:=.normal) (ps:=[]) [.go,.go,.go] (by kernel_rfl) (by kernel_rfl) trivial rfl) (Hd.en_n (rbd_5 y R z n L h0 v eb ec hs))
theorem rCases_bad (y:Value) (R:List (Value×List Int)) (z:Value) (n:Int) (L:List Int) (h0:¬ csE n (cRw R) R.length (cI L) L.length=0):GivesM Try.prog 22 [(.agg [.v (.int .i64 n),.xl y R.length 1 (cRw R)]),(.xl z L.length 1 (cI L))] [] ((.tup [.v (.slice none 0 0),.v (.int .i64 (csE n (cRw R) R.length (cI L) L.length))])) [] :=
 givesM_parts 63 (by kernel_rfl) Try.func22 (by kernel_rfl) (by kernel_rfl) (by kernel_rfl) (fun v eb ec=>goes_less (by kernel_rfl) (by kernel_rfl) (by kernel_rfl) (by kernel_rfl) (rbd_2 y R z n L h0 v eb ec []))
end
end Go.Proofs.Ytmankoikpadkpaa
