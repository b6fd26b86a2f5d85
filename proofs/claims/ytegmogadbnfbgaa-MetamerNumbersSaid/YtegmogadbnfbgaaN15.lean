import Derived.Test.YtegmogadbnfbgaaN15a
set_option maxHeartbeats 2000000
set_option linter.all false
/- The law MetamerNumbers. -/
namespace Go.Proofs.Ytegmogadbnfbgaa
open Go Ev
noncomputable section
section
variable (E : List (Value × List (Int × Int))) (L : List (Int × Int)) (M : List Int) (P0 P1 P2 : List (Int × Int)) (X : List (Value × List Int)) (Y : List Int) (u ul v0 v1 v2 y yl z : Value)
@[reducible] def qN15_6:List Ev.AV:=[.xl v0 P0.length 2 (cR P0),.xl v1 P1.length 2 (cR P1),.xl v2 P2.length 2 (cR P2)]
@[reducible] def qN15_4:Ev.AV:=(.agg [.xl y 3 1 (qN15_6 P0 P1 P2 v0 v1 v2),.xl yl L.length 2 (cR L)])
@[reducible] def qN15_9:Ev.AV:=(.agg [.xl u X.length 1 (cRw X),.xl ul Y.length 1 (cI Y)])
@[reducible] def qN15_8:Nat×Ev.AV:=(1,(qN15_9 X Y u ul))
@[reducible] def qN15_1:Ev.Lit:=⟨[(0,(qN15_4 L P0 P1 P2 v0 v1 v2 y yl)),(qN15_8 X Y u ul),(2,(.xl z M.length 1 (cI M)))],[],0,[]⟩
@[reducible] def qN15_5:List Ev.AV:=[AV.xl v0 P0.length 2 (cR P0),AV.xl v1 P1.length 2 (cR P1),AV.xl v2 P2.length 2 (cR P2)]
@[reducible] def qN15_2:=(eqI (ccE (qN15_5 P0 P1 P2 v0 v1 v2) 3 (cR L) L.length) (ccE (qN15_5 P0 P1 P2 v0 v1 v2) 3 (cR L) L.length))
@[reducible] def qN15_10:Ev.AV:=(.agg [.xl y E.length 1 (cQw E),.xl yl L.length 2 (cR L)])
@[reducible] def qN15_3:Ev.Lit:=⟨[(0,(qN15_10 E L y yl)),(qN15_8 X Y u ul),(2,(.xl z M.length 1 (cI M)))],[],0,[]⟩
@[reducible] def qN15_7:=(eqI (ccE (cQw E) E.length (cR L) L.length) (ccE (cQw E) E.length (cR L) L.length))
@[reducible] def qN15_11:Ev.Lit:=⟨[(6,(.v (.bool .true)))],[],2,[]⟩
end
noncomputable def mlBK1:Code:=bodyC Try.f3
theorem mlB_2 (y:Value) (E:List (Value×List (Int×Int))) (yl:Value) (L:List (Int×Int)) (u:Value) (X:List (Value×List Int)) (ul:Value) (Y:List Int) (z:Value) (M:List Int) (hw:Known Try.prog (clsO wkO)) (hB:gwB (cQw E) E.length L.length=true∨gwB (cRw X) X.length Y.length=true∨20 < M.length) (w:World) (hs:List Nat):Goes Try.prog 81 mlBK1 ((qN15_3 E L M X Y u ul y yl z)) (BaseW.H w hs) (OutH Try.prog Try.f3 81 (.bool true) w):=by
 have hcl_L:=cR_len L
 have hcl_Y:=cI_len Y
 have hcl_M:=cI_len M
 rcases Bool.eq_false_or_eq_true (gwB (cQw E) E.length L.length) with hqmlB3_1 | hqmlB3_1
 ·skip
  exact goes_leafA isR_e (goes_told Try.checked.mixed (known_lNc hw) 200 (T':=qN15_11) (e:=.ret) (ps:=[IsEq 1 (cQw E) E.length,IsPr 2 L.length (cR L),gwB (cQw E) E.length L.length=true,true=true,true=true,true=true,true=true,true=true]) [.go,.go,.go,.go,.go,.b true,.b true,.go,.go,.b true,.b true,.b true,.go,.b true,.go] (by kernel_rfl) (by kernel_rfl) ⟨⟨rfl,E,rfl,rfl⟩,⟨rfl,L,rfl,rfl⟩,hqmlB3_1,rfl,rfl,rfl,rfl,rfl,trivial⟩ rfl) (Hd.en_eq (r:=(.bool .true)) (by rfl) (Hd.en_ret (v:=(.v (.bool .true))) (by kernel_rfl) rfl))
 ·skip
  rcases Bool.eq_false_or_eq_true (gwB (cRw X) X.length Y.length) with hqmlB3_2 | hqmlB3_2
  ·skip
   exact goes_leafA isR_e (goes_told Try.checked.mixed (known_lNc hw) 200 (T':=qN15_11) (e:=.ret) (ps:=[IsEq 1 (cQw E) E.length,IsPr 2 L.length (cR L),gwB (cQw E) E.length L.length=false,false=false,IsEi 1 (cRw X) X.length,IsI 1 Y.length (cI Y),gwB (cRw X) X.length Y.length=true,true=true,true=true,true=true]) [.go,.go,.go,.go,.go,.b false,.go,.b false,.go,.go,.b true,.b true,.b true,.go,.b true,.go] (by kernel_rfl) (by kernel_rfl) ⟨⟨rfl,E,rfl,rfl⟩,⟨rfl,L,rfl,rfl⟩,hqmlB3_1,rfl,⟨rfl,X,rfl,rfl⟩,⟨rfl,Y,rfl,rfl⟩,hqmlB3_2,rfl,rfl,rfl,trivial⟩ rfl) (Hd.en_eq (r:=(.bool .true)) (by rfl) (Hd.en_ret (v:=(.v (.bool .true))) (by kernel_rfl) rfl))
  ·skip
   rcases Bool.eq_false_or_eq_true (ltI 20 M.length) with hqmlB3_3 | hqmlB3_3
   ·skip
    have ghqmlB3_3:=ltI_true hqmlB3_3
    exact goes_leafA isR_e (goes_told Try.checked.mixed (known_lNc hw) 200 (T':=qN15_11) (e:=.ret) (ps:=[IsEq 1 (cQw E) E.length,IsPr 2 L.length (cR L),gwB (cQw E) E.length L.length=false,false=false,IsEi 1 (cRw X) X.length,IsI 1 Y.length (cI Y),gwB (cRw X) X.length Y.length=false,false=false,false=false,ltI 20 M.length=true]) [.go,.go,.go,.go,.go,.b false,.go,.b false,.go,.go,.b false,.go,.b false,.go,.b false,.go,.go,.b true,.go] (by kernel_rfl) (by kernel_rfl) ⟨⟨rfl,E,rfl,rfl⟩,⟨rfl,L,rfl,rfl⟩,hqmlB3_1,rfl,⟨rfl,X,rfl,rfl⟩,⟨rfl,Y,rfl,rfl⟩,hqmlB3_2,rfl,rfl,hqmlB3_3,trivial⟩ rfl) (Hd.en_eq (r:=(.bool .true)) (by rfl) (Hd.en_ret (v:=(.v (.bool .true))) (by kernel_rfl) rfl))
   ·skip
    have ghqmlB3_3:=ltI_false hqmlB3_3
    rcases Bool.eq_false_or_eq_true (qN15_7 E L) with hqmlB3_4 | hqmlB3_4
    ·skip
     have ghqmlB3_4:=eqI_true hqmlB3_4
     exfalso
     rcases hB with h9 | h9 | h9
     ·rw [h9] at hqmlB3_1; exact absurd hqmlB3_1 (by decide)
     ·rw [h9] at hqmlB3_2; exact absurd hqmlB3_2 (by decide)
     ·have h8:=ltI_false hqmlB3_3; omega
    ·skip
     have ghqmlB3_4:=eqI_false hqmlB3_4
     exfalso
     rcases hB with h9 | h9 | h9
     ·rw [h9] at hqmlB3_1; exact absurd hqmlB3_1 (by decide)
     ·rw [h9] at hqmlB3_2; exact absurd hqmlB3_2 (by decide)
     ·have h8:=ltI_false hqmlB3_3; omega
theorem ml_B (y:Value) (E:List (Value×List (Int×Int))) (yl:Value) (L:List (Int×Int)) (u:Value) (X:List (Value×List Int)) (ul:Value) (Y:List Int) (z:Value) (M:List Int) (hw:Known Try.prog (clsO wkO)) (hB:gwB (cQw E) E.length L.length=true∨gwB (cRw X) X.length Y.length=true∨20 < M.length):GivesA Try.prog 3 [(qN15_10 E L y yl),(qN15_9 X Y u ul),(.xl z M.length 1 (cI M))] (.bool true) :=
 givesA_partsH 81 Try.func3 (by kernel_rfl) (by kernel_rfl) (by kernel_rfl) (fun w=>goes_less (by kernel_rfl) (by kernel_rfl) (by kernel_rfl) (by kernel_rfl) (mlB_2 y E yl L u X ul Y z M hw hB w []))
noncomputable def mlcK1:Code:=bodyC Try.f3
theorem mlc_2 (y:Value) (E:List (Value×List (Int×Int))) (yl:Value) (L:List (Int×Int)) (u:Value) (X:List (Value×List Int)) (ul:Value) (Y:List Int) (z:Value) (M:List Int) (hw:Known Try.prog (clsO wkO)) (hB:¬ (gwB (cQw E) E.length L.length=true∨gwB (cRw X) X.length Y.length=true∨20 < M.length)) (hC:¬ ccE (cQw E) E.length (cR L) L.length=0) (w:World) (hs:List Nat):Goes Try.prog 81 mlcK1 ((qN15_3 E L M X Y u ul y yl z)) (BaseW.H w hs) (OutH Try.prog Try.f3 81 (.bool true) w):=by
 have hcl_L:=cR_len L
 have hcl_Y:=cI_len Y
 have hcl_M:=cI_len M
 have hB2:¬ 20 < M.length:=fun h9=>hB (.inr (.inr h9))
 have hX6:X.length≤6:=gwB_m (fun h9=>hB (.inr (.inl h9)))
 have hE6:E.length≤6:=gwB_m (fun h9=>hB (.inl h9))
 rcases Bool.eq_false_or_eq_true (gwB (cQw E) E.length L.length) with hqmlc3_1 | hqmlc3_1
 ·skip
  exact absurd (.inl hqmlc3_1) hB
 ·skip
  rcases Bool.eq_false_or_eq_true (gwB (cRw X) X.length Y.length) with hqmlc3_2 | hqmlc3_2
  ·skip
   exact absurd (.inr (.inl hqmlc3_2)) hB
  ·skip
   rcases Bool.eq_false_or_eq_true (ltI 20 M.length) with hqmlc3_3 | hqmlc3_3
   ·skip
    have ghqmlc3_3:=ltI_true hqmlc3_3
    exact absurd (.inr (.inr (by have h9:=ltI_true hqmlc3_3; omega))) hB
   ·skip
    have ghqmlc3_3:=ltI_false hqmlc3_3
    rcases Bool.eq_false_or_eq_true (qN15_7 E L) with hqmlc3_4 | hqmlc3_4
    ·skip
     have ghqmlc3_4:=eqI_true hqmlc3_4
     exact goes_leafA isR_e (goes_told Try.checked.mixed (known_lNc hw) 200 (T':=qN15_11) (e:=.ret) (ps:=[IsEq 1 (cQw E) E.length,IsPr 2 L.length (cR L),gwB (cQw E) E.length L.length=false,false=false,IsEi 1 (cRw X) X.length,IsI 1 Y.length (cI Y),gwB (cRw X) X.length Y.length=false,false=false,false=false,ltI 20 M.length=false,FreeL (cQw E),FreeL (cR L),FreeL (cRw X),FreeL (cI Y),FreeL (cI M),IsEq 1 (cQw E) E.length,IsPr 2 L.length (cR L),IsEi 1 (cRw X) X.length,IsI 1 Y.length (cI Y),IsI 1 M.length (cI M),E.length≤1000,¬ccE (cQw E) E.length (cR L) L.length=0,FreeL (cQw E),FreeL (cR L),FreeL (cRw X),FreeL (cI Y),FreeL (cI M),IsEq 1 (cQw E) E.length,IsPr 2 L.length (cR L),IsEi 1 (cRw X) X.length,IsI 1 Y.length (cI Y),IsI 1 M.length (cI M),E.length≤1000,¬ccE (cQw E) E.length (cR L) L.length=0,FreeL (cQw E),FreeL (cR L),FreeL (cI M),IsEq 1 (cQw E) E.length,IsPr 2 L.length (cR L),IsI 1 M.length (cI M),E.length≤1000,¬ccE (cQw E) E.length (cR L) L.length=0,FreeL (cQw E),FreeL (cR L),FreeL (cI M),IsEq 1 (cQw E) E.length,IsPr 2 L.length (cR L),IsI 1 M.length (cI M),E.length≤1000,¬ccE (cQw E) E.length (cR L) L.length=0,IsEq 1 (cQw E) E.length,IsPr 2 L.length (cR L),E.length≤1000,IsEq 1 (cQw E) E.length,IsPr 2 L.length (cR L),E.length≤1000,eqI (ccE (cQw E) E.length (cR L) L.length) (ccE (cQw E) E.length (cR L) L.length)=true,true=true,true=true,(!eqI 0 0)=false,ltI 0 0=false,true=true,true=true,true=true,eqI (ccE (cQw E) E.length (cR L) L.length) (ccE (cQw E) E.length (cR L) L.length)=true,true=true,true=true,(!eqI 0 0)=false,ltI 0 0=false,true=true,true=true,true=true,eqI (ccE (cQw E) E.length (cR L) L.length) (ccE (cQw E) E.length (cR L) L.length)=true]) [.go,.go,.go,.go,.go,.b false,.go,.b false,.go,.go,.b false,.go,.b false,.go,.b false,.go,.go,.b false,.go,.go,.go,.go,.go,.go,.go,.go,.go,.go,.go,.go,.go,.go,.go,.go,.go,.go,.go,.go,.go,.go,.go,.go,.go,.go,.go,.go,.go,.go,.go,.go,.go,.go,.b true,.go,.b true,.go,.b true,.go,.go,.go,.go,.go,.go,.b false,.go,.go,.go,.go,.go,.b false,.go,.go,.go,.b true,.go,.b true,.go,.b true,.go,.go,.go,.b true,.go,.b true,.go,.b true,.go,.go,.go,.go,.go,.go,.b false,.go,.go,.go,.go,.go,.b false,.go,.go,.go,.b true,.go,.b true,.go,.b true,.go,.go,.go,.b true,.go,.go] (by kernel_rfl) (by kernel_rfl) ⟨⟨rfl,E,rfl,rfl⟩,⟨rfl,L,rfl,rfl⟩,hqmlc3_1,rfl,⟨rfl,X,rfl,rfl⟩,⟨rfl,Y,rfl,rfl⟩,hqmlc3_2,rfl,rfl,hqmlc3_3,(freeL_plainQ E),(freeL_plain (cR_plain _)),(freeL_plainR X),(freeL_plain (cI_plain _)),(freeL_plain (cI_plain _)),⟨rfl,E,rfl,rfl⟩,⟨rfl,L,rfl,rfl⟩,⟨rfl,X,rfl,rfl⟩,⟨rfl,Y,rfl,rfl⟩,⟨rfl,M,rfl,rfl⟩,(by omega),hC,(freeL_plainQ E),(freeL_plain (cR_plain _)),(freeL_plainR X),(freeL_plain (cI_plain _)),(freeL_plain (cI_plain _)),⟨rfl,E,rfl,rfl⟩,⟨rfl,L,rfl,rfl⟩,⟨rfl,X,rfl,rfl⟩,⟨rfl,Y,rfl,rfl⟩,⟨rfl,M,rfl,rfl⟩,(by omega),hC,(freeL_plainQ E),(freeL_plain (cR_plain _)),(freeL_plain (cI_plain _)),⟨rfl,E,rfl,rfl⟩,⟨rfl,L,rfl,rfl⟩,⟨rfl,M,rfl,rfl⟩,(by omega),hC,(freeL_plainQ E),(freeL_plain (cR_plain _)),(freeL_plain (cI_plain _)),⟨rfl,E,rfl,rfl⟩,⟨rfl,L,rfl,rfl⟩,⟨rfl,M,rfl,rfl⟩,(by omega),hC,⟨rfl,E,rfl,rfl⟩,⟨rfl,L,rfl,rfl⟩,(by omega),⟨rfl,E,rfl,rfl⟩,⟨rfl,L,rfl,rfl⟩,(by omega),hqmlc3_4,rfl,rfl,rfl,rfl,rfl,rfl,rfl,hqmlc3_4,rfl,rfl,rfl,rfl,rfl,rfl,rfl,hqmlc3_4,trivial⟩ rfl) (Hd.en_eq (r:=(.bool .true)) (by rfl) (Hd.en_ret (v:=(.v (.bool .true))) (by kernel_rfl) rfl))
    ·skip
     have ghqmlc3_4:=eqI_false hqmlc3_4
     exact absurd rfl (eqI_false hqmlc3_4)
theorem ml_c (y:Value) (E:List (Value×List (Int×Int))) (yl:Value) (L:List (Int×Int)) (u:Value) (X:List (Value×List Int)) (ul:Value) (Y:List Int) (z:Value) (M:List Int) (hw:Known Try.prog (clsO wkO)) (hB:¬ (gwB (cQw E) E.length L.length=true∨gwB (cRw X) X.length Y.length=true∨20 < M.length)) (hC:¬ ccE (cQw E) E.length (cR L) L.length=0):GivesA Try.prog 3 [(qN15_10 E L y yl),(qN15_9 X Y u ul),(.xl z M.length 1 (cI M))] (.bool true) :=
 givesA_partsH 81 Try.func3 (by kernel_rfl) (by kernel_rfl) (by kernel_rfl) (fun w=>goes_less (by kernel_rfl) (by kernel_rfl) (by kernel_rfl) (by kernel_rfl) (mlc_2 y E yl L u X ul Y z M hw hB hC w []))
noncomputable def mlhK1:Code:=bodyC Try.f3
theorem mlh_2 (y:Value) (E:List (Value×List (Int×Int))) (yl:Value) (L:List (Int×Int)) (u:Value) (X:List (Value×List Int)) (ul:Value) (Y:List Int) (z:Value) (M:List Int) (hw:Known Try.prog (clsO wkO)) (hB:¬ (gwB (cQw E) E.length L.length=true∨gwB (cRw X) X.length Y.length=true∨20 < M.length)) (hC:ccE (cQw E) E.length (cR L) L.length=0) (hH:¬ chE L.length (cI M) M.length=0) (w:World) (hs:List Nat):Goes Try.prog 81 mlhK1 ((qN15_3 E L M X Y u ul y yl z)) (BaseW.H w hs) (OutH Try.prog Try.f3 81 (.bool true) w):=by
 have hcl_L:=cR_len L
 have hcl_Y:=cI_len Y
 have hcl_M:=cI_len M
 have hB2:¬ 20 < M.length:=fun h9=>hB (.inr (.inr h9))
 have hX6:X.length≤6:=gwB_m (fun h9=>hB (.inr (.inl h9)))
 have hE6:E.length≤6:=gwB_m (fun h9=>hB (.inl h9))
 rcases Bool.eq_false_or_eq_true (gwB (cQw E) E.length L.length) with hqmlh3_1 | hqmlh3_1
 ·skip
  exact absurd (.inl hqmlh3_1) hB
 ·skip
  rcases Bool.eq_false_or_eq_true (gwB (cRw X) X.length Y.length) with hqmlh3_2 | hqmlh3_2
  ·skip
   exact absurd (.inr (.inl hqmlh3_2)) hB
  ·skip
   rcases Bool.eq_false_or_eq_true (ltI 20 M.length) with hqmlh3_3 | hqmlh3_3
   ·skip
    have ghqmlh3_3:=ltI_true hqmlh3_3
    exact absurd (.inr (.inr (by have h9:=ltI_true hqmlh3_3; omega))) hB
   ·skip
    have ghqmlh3_3:=ltI_false hqmlh3_3
    rcases Bool.eq_false_or_eq_true (qN15_7 E L) with hqmlh3_4 | hqmlh3_4
    ·skip
     have ghqmlh3_4:=eqI_true hqmlh3_4
     rcases Bool.eq_false_or_eq_true (eqI (chE L.length (cI M) M.length) (chE L.length (cI M) M.length)) with hqmlh3_5 | hqmlh3_5
     ·skip
      have ghqmlh3_5:=eqI_true hqmlh3_5
      exact goes_leafA isR_e (goes_told Try.checked.mixed (known_lNh hw) 200 (T':=qN15_11) (e:=.ret) (ps:=[IsEq 1 (cQw E) E.length,IsPr 2 L.length (cR L),gwB (cQw E) E.length L.length=false,false=false,IsEi 1 (cRw X) X.length,IsI 1 Y.length (cI Y),gwB (cRw X) X.length Y.length=false,false=false,false=false,ltI 20 M.length=false,FreeL (cQw E),FreeL (cR L),FreeL (cRw X),FreeL (cI Y),FreeL (cI M),IsEq 1 (cQw E) E.length,IsPr 2 L.length (cR L),IsEi 1 (cRw X) X.length,IsI 1 Y.length (cI Y),IsI 1 M.length (cI M),E.length≤1000,X.length≤1000,M.length≤1000,ccE (cQw E) E.length (cR L) L.length=0,¬chE L.length (cI M) M.length=0,FreeL (cQw E),FreeL (cR L),FreeL (cRw X),FreeL (cI Y),FreeL (cI M),IsEq 1 (cQw E) E.length,IsPr 2 L.length (cR L),IsEi 1 (cRw X) X.length,IsI 1 Y.length (cI Y),IsI 1 M.length (cI M),E.length≤1000,X.length≤1000,M.length≤1000,ccE (cQw E) E.length (cR L) L.length=0,¬chE L.length (cI M) M.length=0,FreeL (cQw E),FreeL (cR L),FreeL (cI M),IsEq 1 (cQw E) E.length,IsPr 2 L.length (cR L),IsI 1 M.length (cI M),E.length≤1000,M.length≤1000,ccE (cQw E) E.length (cR L) L.length=0,¬chE L.length (cI M) M.length=0,FreeL (cQw E),FreeL (cR L),FreeL (cI M),IsEq 1 (cQw E) E.length,IsPr 2 L.length (cR L),IsI 1 M.length (cI M),E.length≤1000,M.length≤1000,ccE (cQw E) E.length (cR L) L.length=0,¬chE L.length (cI M) M.length=0,IsEq 1 (cQw E) E.length,IsPr 2 L.length (cR L),E.length≤1000,IsEq 1 (cQw E) E.length,IsPr 2 L.length (cR L),E.length≤1000,eqI (ccE (cQw E) E.length (cR L) L.length) (ccE (cQw E) E.length (cR L) L.length)=true,true=true,true=true,(!eqI 0 0)=false,ltI 0 0=false,true=true,true=true,true=true,eqI (chE L.length (cI M) M.length) (chE L.length (cI M) M.length)=true,true=true,true=true,(!eqI 0 0)=false,ltI 0 0=false,true=true,true=true,true=true,eqI (chE L.length (cI M) M.length) (chE L.length (cI M) M.length)=true]) [.go,.go,.go,.go,.go,.b false,.go,.b false,.go,.go,.b false,.go,.b false,.go,.b false,.go,.go,.b false,.go,.go,.go,.go,.go,.go,.go,.go,.go,.go,.go,.go,.go,.go,.go,.go,.go,.go,.go,.go,.go,.go,.go,.go,.go,.go,.go,.go,.go,.go,.go,.go,.go,.go,.b true,.go,.b true,.go,.b true,.go,.go,.go,.go,.go,.go,.b false,.go,.go,.go,.go,.go,.b false,.go,.go,.go,.b true,.go,.b true,.go,.b true,.go,.go,.go,.b true,.go,.b true,.go,.b true,.go,.go,.go,.go,.go,.go,.b false,.go,.go,.go,.go,.go,.b false,.go,.go,.go,.b true,.go,.b true,.go,.b true,.go,.go,.go,.b true,.go,.go] (by kernel_rfl) (by kernel_rfl) ⟨⟨rfl,E,rfl,rfl⟩,⟨rfl,L,rfl,rfl⟩,hqmlh3_1,rfl,⟨rfl,X,rfl,rfl⟩,⟨rfl,Y,rfl,rfl⟩,hqmlh3_2,rfl,rfl,hqmlh3_3,(freeL_plainQ E),(freeL_plain (cR_plain _)),(freeL_plainR X),(freeL_plain (cI_plain _)),(freeL_plain (cI_plain _)),⟨rfl,E,rfl,rfl⟩,⟨rfl,L,rfl,rfl⟩,⟨rfl,X,rfl,rfl⟩,⟨rfl,Y,rfl,rfl⟩,⟨rfl,M,rfl,rfl⟩,(by omega),(by omega),(by omega),hC,hH,(freeL_plainQ E),(freeL_plain (cR_plain _)),(freeL_plainR X),(freeL_plain (cI_plain _)),(freeL_plain (cI_plain _)),⟨rfl,E,rfl,rfl⟩,⟨rfl,L,rfl,rfl⟩,⟨rfl,X,rfl,rfl⟩,⟨rfl,Y,rfl,rfl⟩,⟨rfl,M,rfl,rfl⟩,(by omega),(by omega),(by omega),hC,hH,(freeL_plainQ E),(freeL_plain (cR_plain _)),(freeL_plain (cI_plain _)),⟨rfl,E,rfl,rfl⟩,⟨rfl,L,rfl,rfl⟩,⟨rfl,M,rfl,rfl⟩,(by omega),(by omega),hC,hH,(freeL_plainQ E),(freeL_plain (cR_plain _)),(freeL_plain (cI_plain _)),⟨rfl,E,rfl,rfl⟩,⟨rfl,L,rfl,rfl⟩,⟨rfl,M,rfl,rfl⟩,(by omega),(by omega),hC,hH,⟨rfl,E,rfl,rfl⟩,⟨rfl,L,rfl,rfl⟩,(by omega),⟨rfl,E,rfl,rfl⟩,⟨rfl,L,rfl,rfl⟩,(by omega),hqmlh3_4,rfl,rfl,rfl,rfl,rfl,rfl,rfl,hqmlh3_5,rfl,rfl,rfl,rfl,rfl,rfl,rfl,hqmlh3_5,trivial⟩ rfl) (Hd.en_eq (r:=(.bool .true)) (by rfl) (Hd.en_ret (v:=(.v (.bool .true))) (by kernel_rfl) rfl))
     ·skip
      have ghqmlh3_5:=eqI_false hqmlh3_5
      exact absurd rfl (eqI_false hqmlh3_5)
    ·skip
     have ghqmlh3_4:=eqI_false hqmlh3_4
     exact absurd rfl (eqI_false hqmlh3_4)
theorem ml_h (y:Value) (E:List (Value×List (Int×Int))) (yl:Value) (L:List (Int×Int)) (u:Value) (X:List (Value×List Int)) (ul:Value) (Y:List Int) (z:Value) (M:List Int) (hw:Known Try.prog (clsO wkO)) (hB:¬ (gwB (cQw E) E.length L.length=true∨gwB (cRw X) X.length Y.length=true∨20 < M.length)) (hC:ccE (cQw E) E.length (cR L) L.length=0) (hH:¬ chE L.length (cI M) M.length=0):GivesA Try.prog 3 [(qN15_10 E L y yl),(qN15_9 X Y u ul),(.xl z M.length 1 (cI M))] (.bool true) :=
 givesA_partsH 81 Try.func3 (by kernel_rfl) (by kernel_rfl) (by kernel_rfl) (fun w=>goes_less (by kernel_rfl) (by kernel_rfl) (by kernel_rfl) (by kernel_rfl) (mlh_2 y E yl L u X ul Y z M hw hB hC hH w []))
noncomputable def mltK1:Code:=bodyC Try.f3
theorem mlt_2 (y v0:Value) (P0:List (Int×Int)) (v1:Value) (P1:List (Int×Int)) (v2:Value) (P2:List (Int×Int)) (yl:Value) (L:List (Int×Int)) (u:Value) (X:List (Value×List Int)) (ul:Value) (Y:List Int) (z:Value) (M:List Int) (hw:Known Try.prog (clsO wkO)) (hB:¬ (gwB (qN15_6 P0 P1 P2 v0 v1 v2) 3 L.length=true∨gwB (cRw X) X.length Y.length=true∨20 < M.length)) (hC:ccE (qN15_6 P0 P1 P2 v0 v1 v2) 3 (cR L) L.length=0) (hH:chE L.length (cI M) M.length=0) (hT:¬ ctE (qN15_6 P0 P1 P2 v0 v1 v2) (cR L) L.length (cRw X) X.length (cI Y) Y.length=0) (w:World) (hs:List Nat):Goes Try.prog 81 mltK1 ((qN15_1 L M P0 P1 P2 X Y u ul v0 v1 v2 y yl z)) (BaseW.H w hs) (OutH Try.prog Try.f3 81 (.bool true) w):=by
 have hcl_P0:=cR_len P0
 have hcl_P1:=cR_len P1
 have hcl_P2:=cR_len P2
 have hcl_L:=cR_len L
 have hcl_Y:=cI_len Y
 have hcl_M:=cI_len M
 have hB2:¬ 20 < M.length:=fun h9=>hB (.inr (.inr h9))
 have hX6:X.length≤6:=gwB_m (fun h9=>hB (.inr (.inl h9)))
 obtain ⟨hn,-,hrow,hlam,hcur⟩:=ccE_zero hC
 have hSp:SpOK (cR P0) (cR P1) (cR P2) (cR L) (cI M) L.length:=⟨hlam,hcur 0 (by decide),hcur 1 (by decide),hcur 2 (by decide),fun b hb=>afB_true.1 (chE_zero hH).2 b (by have:=(chE_zero hH).1; omega)⟩
 rcases Bool.eq_false_or_eq_true (gwB (qN15_5 P0 P1 P2 v0 v1 v2) 3 L.length) with hqmlt3_1 | hqmlt3_1
 ·skip
  exact absurd (.inl hqmlt3_1) hB
 ·skip
  rcases Bool.eq_false_or_eq_true (gwB (cRw X) X.length Y.length) with hqmlt3_2 | hqmlt3_2
  ·skip
   exact absurd (.inr (.inl hqmlt3_2)) hB
  ·skip
   rcases Bool.eq_false_or_eq_true (ltI 20 M.length) with hqmlt3_3 | hqmlt3_3
   ·skip
    have ghqmlt3_3:=ltI_true hqmlt3_3
    exact absurd (.inr (.inr (by have h9:=ltI_true hqmlt3_3; omega))) hB
   ·skip
    have ghqmlt3_3:=ltI_false hqmlt3_3
    rcases Bool.eq_false_or_eq_true (qN15_2 L P0 P1 P2 v0 v1 v2) with hqmlt3_4 | hqmlt3_4
    ·skip
     have ghqmlt3_4:=eqI_true hqmlt3_4
     rcases Bool.eq_false_or_eq_true (eqI (ctE (qN15_5 P0 P1 P2 v0 v1 v2) (cR L) L.length (cRw X) X.length (cI Y) Y.length) (ctE (qN15_5 P0 P1 P2 v0 v1 v2) (cR L) L.length (cRw X) X.length (cI Y) Y.length)) with hqmlt3_5 | hqmlt3_5
     ·skip
      have ghqmlt3_5:=eqI_true hqmlt3_5
      exact goes_leafA isR_e (goes_told Try.checked.mixed (known_lNt hw) 200 (T':=⟨[(6,(.v (.bool .true)))],[],4,[]⟩) (e:=.ret) (ps:=[IsEq 1 (qN15_5 P0 P1 P2 v0 v1 v2) 3,IsPr 2 L.length (cR L),gwB (qN15_5 P0 P1 P2 v0 v1 v2) 3 L.length=false,false=false,IsEi 1 (cRw X) X.length,IsI 1 Y.length (cI Y),gwB (cRw X) X.length Y.length=false,false=false,false=false,ltI 20 M.length=false,FreeL (qN15_5 P0 P1 P2 v0 v1 v2),FreeL (cR L),FreeL (cRw X),FreeL (cI Y),FreeL (cI M),IsEq 1 (qN15_5 P0 P1 P2 v0 v1 v2) 3,IsPr 2 L.length (cR L),IsEi 1 (cRw X) X.length,IsI 1 Y.length (cI Y),IsI 1 M.length (cI M),((3:Nat)≤1000),X.length≤1000,M.length≤1000,ccE (qN15_5 P0 P1 P2 v0 v1 v2) 3 (cR L) L.length=0,chE L.length (cI M) M.length=0,¬ctE (qN15_5 P0 P1 P2 v0 v1 v2) (cR L) L.length (cRw X) X.length (cI Y) Y.length=0,FreeL (qN15_5 P0 P1 P2 v0 v1 v2),FreeL (cR L),FreeL (cRw X),FreeL (cI Y),FreeL (cI M),IsEq 1 (qN15_5 P0 P1 P2 v0 v1 v2) 3,IsPr 2 L.length (cR L),IsEi 1 (cRw X) X.length,IsI 1 Y.length (cI Y),IsI 1 M.length (cI M),((3:Nat)≤1000),X.length≤1000,M.length≤1000,ccE (qN15_5 P0 P1 P2 v0 v1 v2) 3 (cR L) L.length=0,chE L.length (cI M) M.length=0,¬ctE (qN15_5 P0 P1 P2 v0 v1 v2) (cR L) L.length (cRw X) X.length (cI Y) Y.length=0,FreeL (qN15_5 P0 P1 P2 v0 v1 v2),FreeL (cR L),FreeL (cI M),Is1 1,Is3 3,IsPr 2 P0.length (cR P0),IsPr 2 P1.length (cR P1),IsPr 2 P2.length (cR P2),IsPr 2 L.length (cR L),IsI 1 M.length (cI M),M.length≤1000,ccE (qN15_5 P0 P1 P2 v0 v1 v2) 3 (cR L) L.length=0,chE L.length (cI M) M.length=0,FreeL (qN15_5 P0 P1 P2 v0 v1 v2),FreeL (cR L),FreeL (cI M),IsEq 1 (qN15_5 P0 P1 P2 v0 v1 v2) 3,IsPr 2 L.length (cR L),IsI 1 M.length (cI M),((3:Nat)≤1000),M.length≤1000,ccE (qN15_5 P0 P1 P2 v0 v1 v2) 3 (cR L) L.length=0,chE L.length (cI M) M.length=0,IsEq 1 (qN15_5 P0 P1 P2 v0 v1 v2) 3,IsPr 2 L.length (cR L),((3:Nat)≤1000),IsEq 1 (qN15_5 P0 P1 P2 v0 v1 v2) 3,IsPr 2 L.length (cR L),((3:Nat)≤1000),eqI (ccE (qN15_5 P0 P1 P2 v0 v1 v2) 3 (cR L) L.length) (ccE (qN15_5 P0 P1 P2 v0 v1 v2) 3 (cR L) L.length)=true,true=true,true=true,(!eqI 0 0)=false,ltI 0 0=false,true=true,true=true,true=true,eqI (ctE (qN15_5 P0 P1 P2 v0 v1 v2) (cR L) L.length (cRw X) X.length (cI Y) Y.length) (ctE (qN15_5 P0 P1 P2 v0 v1 v2) (cR L) L.length (cRw X) X.length (cI Y) Y.length)=true,true=true,true=true,IsRn 65,IsRn 65,Is2 2,Is3 3,Is3 3,Is3 3,Same6 [AV.v (Value.int IntKind.i64 (spN (cR P0) (cR P1) (cR P2) (cR L) (cI M) L.length false 0)),AV.v (Value.int IntKind.i64 (spN (cR P0) (cR P1) (cR P2) (cR L) (cI M) L.length true 0)),AV.v (Value.int IntKind.i64 (spN (cR P0) (cR P1) (cR P2) (cR L) (cI M) L.length false 1)),AV.v (Value.int IntKind.i64 (spN (cR P0) (cR P1) (cR P2) (cR L) (cI M) L.length true 1)),AV.v (Value.int IntKind.i64 (spN (cR P0) (cR P1) (cR P2) (cR L) (cI M) L.length false 2)),AV.v (Value.int IntKind.i64 (spN (cR P0) (cR P1) (cR P2) (cR L) (cI M) L.length true 2))] [AV.v (Value.int IntKind.i64 (smF (loP (qN15_5 P0 P1 P2 v0 v1 v2) (cR L) (cI M) 0) L.length)),AV.v (Value.int IntKind.i64 (smF (hiP (qN15_5 P0 P1 P2 v0 v1 v2) (cR L) (cI M) 0) L.length)),AV.v (Value.int IntKind.i64 (smF (loP (qN15_5 P0 P1 P2 v0 v1 v2) (cR L) (cI M) 1) L.length)),AV.v (Value.int IntKind.i64 (smF (hiP (qN15_5 P0 P1 P2 v0 v1 v2) (cR L) (cI M) 1) L.length)),AV.v (Value.int IntKind.i64 (smF (loP (qN15_5 P0 P1 P2 v0 v1 v2) (cR L) (cI M) 2) L.length)),AV.v (Value.int IntKind.i64 (smF (hiP (qN15_5 P0 P1 P2 v0 v1 v2) (cR L) (cI M) 2) L.length))],true=true,true=true,true=true,eqI 0 0=true]) [.go,.go,.go,.go,.go,.b false,.go,.b false,.go,.go,.b false,.go,.b false,.go,.b false,.go,.go,.b false,.go,.go,.go,.go,.go,.go,.go,.go,.go,.go,.go,.go,.go,.go,.go,.go,.go,.go,.go,.go,.go,.go,.go,.go,.go,.go,.go,.go,.go,.go,.go,.go,.go,.go,.b true,.go,.b true,.go,.b true,.go,.go,.go,.go,.go,.go,.b false,.go,.go,.go,.go,.go,.b false,.go,.go,.go,.b true,.go,.b true,.go,.b true,.go,.go,.go,.b true,.go,.b true,.go,.b true,.go,.go,.b true,.go,.b true,.go,.b true,.go,.go,.go,.b true,.go,.go] (by kernel_rfl) (by kernel_rfl) ⟨⟨rfl,[(v0,P0),(v1,P1),(v2,P2)],rfl,rfl⟩,⟨rfl,L,rfl,rfl⟩,hqmlt3_1,rfl,⟨rfl,X,rfl,rfl⟩,⟨rfl,Y,rfl,rfl⟩,hqmlt3_2,rfl,rfl,hqmlt3_3,(freeL_plainQ [(v0,P0),(v1,P1),(v2,P2)]),(freeL_plain (cR_plain _)),(freeL_plainR X),(freeL_plain (cI_plain _)),(freeL_plain (cI_plain _)),⟨rfl,[(v0,P0),(v1,P1),(v2,P2)],rfl,rfl⟩,⟨rfl,L,rfl,rfl⟩,⟨rfl,X,rfl,rfl⟩,⟨rfl,Y,rfl,rfl⟩,⟨rfl,M,rfl,rfl⟩,(by decide),(by omega),(by omega),hC,hH,hT,(freeL_plainQ [(v0,P0),(v1,P1),(v2,P2)]),(freeL_plain (cR_plain _)),(freeL_plainR X),(freeL_plain (cI_plain _)),(freeL_plain (cI_plain _)),⟨rfl,[(v0,P0),(v1,P1),(v2,P2)],rfl,rfl⟩,⟨rfl,L,rfl,rfl⟩,⟨rfl,X,rfl,rfl⟩,⟨rfl,Y,rfl,rfl⟩,⟨rfl,M,rfl,rfl⟩,(by decide),(by omega),(by omega),hC,hH,hT,(freeL_plainQ [(v0,P0),(v1,P1),(v2,P2)]),(freeL_plain (cR_plain _)),(freeL_plain (cI_plain _)),rfl,rfl,⟨rfl,P0,rfl,rfl⟩,⟨rfl,P1,rfl,rfl⟩,⟨rfl,P2,rfl,rfl⟩,⟨rfl,L,rfl,rfl⟩,⟨rfl,M,rfl,rfl⟩,(by omega),hC,hH,(freeL_plainQ [(v0,P0),(v1,P1),(v2,P2)]),(freeL_plain (cR_plain _)),(freeL_plain (cI_plain _)),⟨rfl,[(v0,P0),(v1,P1),(v2,P2)],rfl,rfl⟩,⟨rfl,L,rfl,rfl⟩,⟨rfl,M,rfl,rfl⟩,(by decide),(by omega),hC,hH,⟨rfl,[(v0,P0),(v1,P1),(v2,P2)],rfl,rfl⟩,⟨rfl,L,rfl,rfl⟩,(by decide),⟨rfl,[(v0,P0),(v1,P1),(v2,P2)],rfl,rfl⟩,⟨rfl,L,rfl,rfl⟩,(by decide),hqmlt3_4,rfl,rfl,rfl,rfl,rfl,rfl,rfl,hqmlt3_5,rfl,rfl,rfl,rfl,rfl,rfl,rfl,rfl,(by have h9:=sp_eq (cE:=(qN15_6 P0 P1 P2 v0 v1 v2)) (c0:=cR P0) (c1:=cR P1) (c2:=cR P2) (cL:=cR L) (cM:=cI M) (n:=L.length) rfl rfl rfl hSp; rw [(h9 0 (by decide)).1,(h9 0 (by decide)).2,(h9 1 (by decide)).1,(h9 1 (by decide)).2,(h9 2 (by decide)).1,(h9 2 (by decide)).2]; exact ⟨_,_,_,_,_,_,rfl,rfl⟩),rfl,rfl,rfl,(by simp [eqI_iff]),trivial⟩ rfl) (Hd.en_eq (r:=(.bool .true)) (by rfl) (Hd.en_ret (v:=(.v (.bool .true))) (by kernel_rfl) rfl))
     ·skip
      have ghqmlt3_5:=eqI_false hqmlt3_5
      exact absurd rfl (eqI_false hqmlt3_5)
    ·skip
     have ghqmlt3_4:=eqI_false hqmlt3_4
     exact absurd rfl (eqI_false hqmlt3_4)
theorem ml_t (y v0:Value) (P0:List (Int×Int)) (v1:Value) (P1:List (Int×Int)) (v2:Value) (P2:List (Int×Int)) (yl:Value) (L:List (Int×Int)) (u:Value) (X:List (Value×List Int)) (ul:Value) (Y:List Int) (z:Value) (M:List Int) (hw:Known Try.prog (clsO wkO)) (hB:¬ (gwB (qN15_6 P0 P1 P2 v0 v1 v2) 3 L.length=true∨gwB (cRw X) X.length Y.length=true∨20 < M.length)) (hC:ccE (qN15_6 P0 P1 P2 v0 v1 v2) 3 (cR L) L.length=0) (hH:chE L.length (cI M) M.length=0) (hT:¬ ctE (qN15_6 P0 P1 P2 v0 v1 v2) (cR L) L.length (cRw X) X.length (cI Y) Y.length=0):GivesA Try.prog 3 [(qN15_4 L P0 P1 P2 v0 v1 v2 y yl),(qN15_9 X Y u ul),(.xl z M.length 1 (cI M))] (.bool true) :=
 givesA_partsH 81 Try.func3 (by kernel_rfl) (by kernel_rfl) (by kernel_rfl) (fun w=>goes_less (by kernel_rfl) (by kernel_rfl) (by kernel_rfl) (by kernel_rfl) (mlt_2 y v0 P0 v1 P1 v2 P2 yl L u X ul Y z M hw hB hC hH hT w []))
noncomputable def mloK1:Code:=bodyC Try.f3
theorem mlo_2 (y v0:Value) (P0:List (Int×Int)) (v1:Value) (P1:List (Int×Int)) (v2:Value) (P2:List (Int×Int)) (yl:Value) (L:List (Int×Int)) (u:Value) (X:List (Value×List Int)) (ul:Value) (Y:List Int) (z:Value) (M:List Int) (hw:Known Try.prog (clsO wkO)) (hB:¬ (gwB (qN15_6 P0 P1 P2 v0 v1 v2) 3 L.length=true∨gwB (cRw X) X.length Y.length=true∨20 < M.length)) (hC:ccE (qN15_6 P0 P1 P2 v0 v1 v2) 3 (cR L) L.length=0) (hH:chE L.length (cI M) M.length=0) (hT:ctE (qN15_6 P0 P1 P2 v0 v1 v2) (cR L) L.length (cRw X) X.length (cI Y) Y.length=0) (w:World) (hs:List Nat):Goes Try.prog 81 mloK1 ((qN15_1 L M P0 P1 P2 X Y u ul v0 v1 v2 y yl z)) (BaseW.H w hs) (OutH Try.prog Try.f3 81 (.bool true) w):=by
 have hcl_P0:=cR_len P0
 have hcl_P1:=cR_len P1
 have hcl_P2:=cR_len P2
 have hcl_L:=cR_len L
 have hcl_Y:=cI_len Y
 have hcl_M:=cI_len M
 have hB2:¬ 20 < M.length:=fun h9=>hB (.inr (.inr h9))
 have hX6:X.length≤6:=gwB_m (fun h9=>hB (.inr (.inl h9)))
 obtain ⟨hn,-,hrow,hlam,hcur⟩:=ccE_zero hC
 have hSp:SpOK (cR P0) (cR P1) (cR P2) (cR L) (cI M) L.length:=⟨hlam,hcur 0 (by decide),hcur 1 (by decide),hcur 2 (by decide),fun b hb=>afB_true.1 (chE_zero hH).2 b (by have:=(chE_zero hH).1; omega)⟩
 rcases Bool.eq_false_or_eq_true (gwB (qN15_5 P0 P1 P2 v0 v1 v2) 3 L.length) with hqmlo3_1 | hqmlo3_1
 ·skip
  exact absurd (.inl hqmlo3_1) hB
 ·skip
  rcases Bool.eq_false_or_eq_true (gwB (cRw X) X.length Y.length) with hqmlo3_2 | hqmlo3_2
  ·skip
   exact absurd (.inr (.inl hqmlo3_2)) hB
  ·skip
   rcases Bool.eq_false_or_eq_true (ltI 20 M.length) with hqmlo3_3 | hqmlo3_3
   ·skip
    have ghqmlo3_3:=ltI_true hqmlo3_3
    exact absurd (.inr (.inr (by have h9:=ltI_true hqmlo3_3; omega))) hB
   ·skip
    have ghqmlo3_3:=ltI_false hqmlo3_3
    rcases Bool.eq_false_or_eq_true (qN15_2 L P0 P1 P2 v0 v1 v2) with hqmlo3_4 | hqmlo3_4
    ·skip
     have ghqmlo3_4:=eqI_true hqmlo3_4
     exact goes_leafA isR_e (goes_told Try.checked.mixed (known_lNo hw) 200 (T':=⟨[(6,(.v (.bool .true)))],[],6,[]⟩) (e:=.ret) (ps:=[IsEq 1 (qN15_5 P0 P1 P2 v0 v1 v2) 3,IsPr 2 L.length (cR L),gwB (qN15_5 P0 P1 P2 v0 v1 v2) 3 L.length=false,false=false,IsEi 1 (cRw X) X.length,IsI 1 Y.length (cI Y),gwB (cRw X) X.length Y.length=false,false=false,false=false,ltI 20 M.length=false,FreeL (qN15_5 P0 P1 P2 v0 v1 v2),FreeL (cR L),FreeL (cRw X),FreeL (cI Y),FreeL (cI M),IsEq 1 (qN15_5 P0 P1 P2 v0 v1 v2) 3,IsPr 2 L.length (cR L),IsEi 1 (cRw X) X.length,IsI 1 Y.length (cI Y),IsI 1 M.length (cI M),((3:Nat)≤1000),X.length≤1000,M.length≤1000,ccE (qN15_5 P0 P1 P2 v0 v1 v2) 3 (cR L) L.length=0,chE L.length (cI M) M.length=0,ctE (qN15_5 P0 P1 P2 v0 v1 v2) (cR L) L.length (cRw X) X.length (cI Y) Y.length=0,FreeL (qN15_5 P0 P1 P2 v0 v1 v2),FreeL (cR L),FreeL (cRw X),FreeL (cI Y),FreeL (cI M),IsEq 1 (qN15_5 P0 P1 P2 v0 v1 v2) 3,IsPr 2 L.length (cR L),IsEi 1 (cRw X) X.length,IsI 1 Y.length (cI Y),IsI 1 M.length (cI M),((3:Nat)≤1000),X.length≤1000,M.length≤1000,ccE (qN15_5 P0 P1 P2 v0 v1 v2) 3 (cR L) L.length=0,chE L.length (cI M) M.length=0,ctE (qN15_5 P0 P1 P2 v0 v1 v2) (cR L) L.length (cRw X) X.length (cI Y) Y.length=0,FreeL (qN15_5 P0 P1 P2 v0 v1 v2),FreeL (cR L),FreeL (cI M),Is1 1,Is3 3,IsPr 2 P0.length (cR P0),IsPr 2 P1.length (cR P1),IsPr 2 P2.length (cR P2),IsPr 2 L.length (cR L),IsI 1 M.length (cI M),M.length≤1000,ccE (qN15_5 P0 P1 P2 v0 v1 v2) 3 (cR L) L.length=0,chE L.length (cI M) M.length=0,FreeL (qN15_5 P0 P1 P2 v0 v1 v2),FreeL (cR L),FreeL (cI M),IsEq 1 (qN15_5 P0 P1 P2 v0 v1 v2) 3,IsPr 2 L.length (cR L),IsI 1 M.length (cI M),((3:Nat)≤1000),M.length≤1000,ccE (qN15_5 P0 P1 P2 v0 v1 v2) 3 (cR L) L.length=0,chE L.length (cI M) M.length=0,IsEq 1 (qN15_5 P0 P1 P2 v0 v1 v2) 3,IsPr 2 L.length (cR L),((3:Nat)≤1000),IsEq 1 (qN15_5 P0 P1 P2 v0 v1 v2) 3,IsPr 2 L.length (cR L),((3:Nat)≤1000),eqI (ccE (qN15_5 P0 P1 P2 v0 v1 v2) 3 (cR L) L.length) (ccE (qN15_5 P0 P1 P2 v0 v1 v2) 3 (cR L) L.length)=true,true=true,true=true,IsLo2 2,IsLo2 2,IsTwo3 (cI (tI (thA (nuP (cRw X) (cI Y) (cI M)) L.length 3) 3)) 3 3 (cI (tI (thA (nuP (cRw X) (cI Y) (cI M)) L.length 3) 3)) 3 3,true=true,true=true,true=true,eqI 0 0=true,true=true,true=true,IsRn 65,IsRn 65,Is2 2,Is3 3,Is3 3,Is3 3,Same6 [AV.v (Value.int IntKind.i64 (spN (cR P0) (cR P1) (cR P2) (cR L) (cI M) L.length false 0)),AV.v (Value.int IntKind.i64 (spN (cR P0) (cR P1) (cR P2) (cR L) (cI M) L.length true 0)),AV.v (Value.int IntKind.i64 (spN (cR P0) (cR P1) (cR P2) (cR L) (cI M) L.length false 1)),AV.v (Value.int IntKind.i64 (spN (cR P0) (cR P1) (cR P2) (cR L) (cI M) L.length true 1)),AV.v (Value.int IntKind.i64 (spN (cR P0) (cR P1) (cR P2) (cR L) (cI M) L.length false 2)),AV.v (Value.int IntKind.i64 (spN (cR P0) (cR P1) (cR P2) (cR L) (cI M) L.length true 2))] [AV.v (Value.int IntKind.i64 (smF (loP (qN15_5 P0 P1 P2 v0 v1 v2) (cR L) (cI M) 0) L.length)),AV.v (Value.int IntKind.i64 (smF (hiP (qN15_5 P0 P1 P2 v0 v1 v2) (cR L) (cI M) 0) L.length)),AV.v (Value.int IntKind.i64 (smF (loP (qN15_5 P0 P1 P2 v0 v1 v2) (cR L) (cI M) 1) L.length)),AV.v (Value.int IntKind.i64 (smF (hiP (qN15_5 P0 P1 P2 v0 v1 v2) (cR L) (cI M) 1) L.length)),AV.v (Value.int IntKind.i64 (smF (loP (qN15_5 P0 P1 P2 v0 v1 v2) (cR L) (cI M) 2) L.length)),AV.v (Value.int IntKind.i64 (smF (hiP (qN15_5 P0 P1 P2 v0 v1 v2) (cR L) (cI M) 2) L.length))],true=true,true=true,true=true,eqI 0 0=true]) [.go,.go,.go,.go,.go,.b false,.go,.b false,.go,.go,.b false,.go,.b false,.go,.b false,.go,.go,.b false,.go,.go,.go,.go,.go,.go,.go,.go,.go,.go,.go,.go,.go,.go,.go,.go,.go,.go,.go,.go,.go,.go,.go,.go,.go,.go,.go,.go,.go,.go,.go,.go,.go,.go,.b true,.go,.b true,.go,.b true,.go,.go,.b true,.go,.b true,.go,.b true,.go,.go,.go,.b true,.go,.b true,.go,.b true,.go,.go,.b true,.go,.b true,.go,.b true,.go,.go,.go,.b true,.go,.go] (by kernel_rfl) (by kernel_rfl) ⟨⟨rfl,[(v0,P0),(v1,P1),(v2,P2)],rfl,rfl⟩,⟨rfl,L,rfl,rfl⟩,hqmlo3_1,rfl,⟨rfl,X,rfl,rfl⟩,⟨rfl,Y,rfl,rfl⟩,hqmlo3_2,rfl,rfl,hqmlo3_3,(freeL_plainQ [(v0,P0),(v1,P1),(v2,P2)]),(freeL_plain (cR_plain _)),(freeL_plainR X),(freeL_plain (cI_plain _)),(freeL_plain (cI_plain _)),⟨rfl,[(v0,P0),(v1,P1),(v2,P2)],rfl,rfl⟩,⟨rfl,L,rfl,rfl⟩,⟨rfl,X,rfl,rfl⟩,⟨rfl,Y,rfl,rfl⟩,⟨rfl,M,rfl,rfl⟩,(by decide),(by omega),(by omega),hC,hH,hT,(freeL_plainQ [(v0,P0),(v1,P1),(v2,P2)]),(freeL_plain (cR_plain _)),(freeL_plainR X),(freeL_plain (cI_plain _)),(freeL_plain (cI_plain _)),⟨rfl,[(v0,P0),(v1,P1),(v2,P2)],rfl,rfl⟩,⟨rfl,L,rfl,rfl⟩,⟨rfl,X,rfl,rfl⟩,⟨rfl,Y,rfl,rfl⟩,⟨rfl,M,rfl,rfl⟩,(by decide),(by omega),(by omega),hC,hH,hT,(freeL_plainQ [(v0,P0),(v1,P1),(v2,P2)]),(freeL_plain (cR_plain _)),(freeL_plain (cI_plain _)),rfl,rfl,⟨rfl,P0,rfl,rfl⟩,⟨rfl,P1,rfl,rfl⟩,⟨rfl,P2,rfl,rfl⟩,⟨rfl,L,rfl,rfl⟩,⟨rfl,M,rfl,rfl⟩,(by omega),hC,hH,(freeL_plainQ [(v0,P0),(v1,P1),(v2,P2)]),(freeL_plain (cR_plain _)),(freeL_plain (cI_plain _)),⟨rfl,[(v0,P0),(v1,P1),(v2,P2)],rfl,rfl⟩,⟨rfl,L,rfl,rfl⟩,⟨rfl,M,rfl,rfl⟩,(by decide),(by omega),hC,hH,⟨rfl,[(v0,P0),(v1,P1),(v2,P2)],rfl,rfl⟩,⟨rfl,L,rfl,rfl⟩,(by decide),⟨rfl,[(v0,P0),(v1,P1),(v2,P2)],rfl,rfl⟩,⟨rfl,L,rfl,rfl⟩,(by decide),hqmlo3_4,rfl,rfl,rfl,rfl,⟨_,rfl,rfl,(tI_len _ _).symm,(tI_len _ _).symm,(tI_len _ _).symm,(tI_len _ _).symm,by rw [tI_len]; decide⟩,rfl,rfl,rfl,(by simp [eqI_iff]),rfl,rfl,rfl,rfl,rfl,rfl,rfl,rfl,(by have h9:=sp_eq (cE:=(qN15_6 P0 P1 P2 v0 v1 v2)) (c0:=cR P0) (c1:=cR P1) (c2:=cR P2) (cL:=cR L) (cM:=cI M) (n:=L.length) rfl rfl rfl hSp; rw [(h9 0 (by decide)).1,(h9 0 (by decide)).2,(h9 1 (by decide)).1,(h9 1 (by decide)).2,(h9 2 (by decide)).1,(h9 2 (by decide)).2]; exact ⟨_,_,_,_,_,_,rfl,rfl⟩),rfl,rfl,rfl,(by simp [eqI_iff]),trivial⟩ rfl) (Hd.en_eq (r:=(.bool .true)) (by rfl) (Hd.en_ret (v:=(.v (.bool .true))) (by kernel_rfl) rfl))
    ·skip
     have ghqmlo3_4:=eqI_false hqmlo3_4
     exact absurd rfl (eqI_false hqmlo3_4)
theorem ml_o (y v0:Value) (P0:List (Int×Int)) (v1:Value) (P1:List (Int×Int)) (v2:Value) (P2:List (Int×Int)) (yl:Value) (L:List (Int×Int)) (u:Value) (X:List (Value×List Int)) (ul:Value) (Y:List Int) (z:Value) (M:List Int) (hw:Known Try.prog (clsO wkO)) (hB:¬ (gwB (qN15_6 P0 P1 P2 v0 v1 v2) 3 L.length=true∨gwB (cRw X) X.length Y.length=true∨20 < M.length)) (hC:ccE (qN15_6 P0 P1 P2 v0 v1 v2) 3 (cR L) L.length=0) (hH:chE L.length (cI M) M.length=0) (hT:ctE (qN15_6 P0 P1 P2 v0 v1 v2) (cR L) L.length (cRw X) X.length (cI Y) Y.length=0):GivesA Try.prog 3 [(qN15_4 L P0 P1 P2 v0 v1 v2 y yl),(qN15_9 X Y u ul),(.xl z M.length 1 (cI M))] (.bool true) :=
 givesA_partsH 81 Try.func3 (by kernel_rfl) (by kernel_rfl) (by kernel_rfl) (fun w=>goes_less (by kernel_rfl) (by kernel_rfl) (by kernel_rfl) (by kernel_rfl) (mlo_2 y v0 P0 v1 P1 v2 P2 yl L u X ul Y z M hw hB hC hH hT w []))
theorem three_of {E:List (Value×List (Int×Int))} (h:E.length=3):∃ v0 P0 v1 P1 v2 P2,E=[(v0,P0),(v1,P1),(v2,P2)]:=by
 match E,h with
 | [(v0,P0),(v1,P1),(v2,P2)],_=>exact ⟨v0,P0,v1,P1,v2,P2,rfl⟩
theorem law_numbers (hw:Known Try.prog (clsO wkO)) (y:Value) (E:List (Value×List (Int×Int))) (yl:Value) (L:List (Int×Int)) (u:Value) (X:List (Value×List Int)) (ul:Value) (Y:List Int) (z:Value) (M:List Int):GivesA Try.prog 3 [(qN15_10 E L y yl),(qN15_9 X Y u ul),(.xl z M.length 1 (cI M))] (.bool true):=by
 by_cases hB:gwB (cQw E) E.length L.length=true∨gwB (cRw X) X.length Y.length=true∨20 < M.length
 ·exact ml_B y E yl L u X ul Y z M hw hB
 by_cases hC:ccE (cQw E) E.length (cR L) L.length=0
 ·by_cases hH:chE L.length (cI M) M.length=0
  ·obtain ⟨v0,P0,v1,P1,v2,P2,rfl⟩:=three_of (ccE_zero hC).2.1
   by_cases hT:ctE (cQw [(v0,P0),(v1,P1),(v2,P2)]) (cR L) L.length (cRw X) X.length (cI Y) Y.length=0
   ·exact ml_o y v0 P0 v1 P1 v2 P2 yl L u X ul Y z M hw hB hC hH hT
   ·exact ml_t y v0 P0 v1 P1 v2 P2 yl L u X ul Y z M hw hB hC hH hT
  ·exact ml_h y E yl L u X ul Y z M hw hB hC hH
 ·exact ml_c y E yl L u X ul Y z M hw hB hC
end
end Go.Proofs.Ytegmogadbnfbgaa
