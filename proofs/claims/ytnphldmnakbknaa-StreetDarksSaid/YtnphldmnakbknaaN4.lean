import Derived.Test.YtnphldmnakbknaaN3
set_option maxHeartbeats 2000000
set_option linter.all false
/- The law StreetDarks. -/
namespace Go.Proofs.Ytnphldmnakbknaa
open Go Ev
noncomputable section
section
variable (C D : List Int) (P : List (Int × Int × Int)) (d nI p q : Int) (y z z0 : Value)
@[reducible] def qN4_4:Nat×Ev.AV:=(1,(.xl z C.length 1 (cI C)))
@[reducible] def qN4_3:Nat×Ev.AV:=(3,(.xl z0 D.length 1 (cI D)))
@[reducible] def qN4_1:Ev.Lit:=⟨[(0,(.agg [.v (.int .i64 nI),.v (.int .i64 d),.v (.int .i64 q),.xl y P.length 3 (cT P)])),(qN4_4 C z),(2,(.v (.int .i64 p))),(qN4_3 D z0)],[],0,[]⟩
@[reducible] def qN4_2:Ev.Lit:=⟨[(8,(.v (.bool .true)))],[],1,[]⟩
end
noncomputable def kPK1:Code:=bodyC Try.f4
theorem kP_2 (nI d q:Int) (y:Value) (P:List (Int×Int×Int)) (z:Value) (C:List Int) (p:Int) (z0:Value) (D:List Int) (hw:Known Try.prog (clsO wkO)) (h30:30 < P.length) (w:World) (hs:List Nat):Goes Try.prog 94 kPK1 ((qN4_1 C D P d nI p q y z z0)) (BaseW.H w hs) (OutH Try.prog Try.f4 94 (.bool true) w):=by
 have hcl_C:=cI_len C
 have hcl_D:=cI_len D
 rcases Bool.eq_false_or_eq_true (ltI 30 P.length) with hqkP3_1 | hqkP3_1
 ·skip
  have ghqkP3_1:=ltI_true hqkP3_1
  exact goes_leafA isR_e (goes_told Try.checked.mixed (known_l4b hw) 200 (T':=qN4_2) (e:=.ret) (ps:=[IsT P.length (cT P),ltI 30 P.length=true,true=true,true=true,true=true,true=true,true=true,true=true]) [.go,.go,.go,.go,.b true,.b true,.b true,.go,.go,.b true,.b true,.b true,.go,.b true,.go] (by kernel_rfl) (by kernel_rfl) ⟨⟨P,rfl,rfl⟩,hqkP3_1,rfl,rfl,rfl,rfl,rfl,rfl,trivial⟩ rfl) (Hd.en_eq (r:=(.bool .true)) (by rfl) (Hd.en_ret (v:=(.v (.bool .true))) (by kernel_rfl) rfl))
 ·skip
  have ghqkP3_1:=ltI_false hqkP3_1
  rcases Bool.eq_false_or_eq_true (ltI 40 C.length) with hqkP3_2 | hqkP3_2
  ·skip
   have ghqkP3_2:=ltI_true hqkP3_2
   exfalso
   have h9:=ltI_false hqkP3_1
   omega
  ·skip
   have ghqkP3_2:=ltI_false hqkP3_2
   rcases Bool.eq_false_or_eq_true (ltI 10 D.length) with hqkP3_3 | hqkP3_3
   ·skip
    have ghqkP3_3:=ltI_true hqkP3_3
    exfalso
    have h9:=ltI_false hqkP3_1
    omega
   ·skip
    have ghqkP3_3:=ltI_false hqkP3_3
    rcases Bool.eq_false_or_eq_true (eqI (cdE nI d q (cT P) P.length (cI C) C.length p (cI D) D.length) (cdE nI d q (cT P) P.length (cI C) C.length p (cI D) D.length)) with hqkP3_4 | hqkP3_4
    ·skip
     have ghqkP3_4:=eqI_true hqkP3_4
     rcases Bool.eq_false_or_eq_true (eqI (icE nI d q (cT P) P.length (cI C) C.length) 0) with hqkP3_5 | hqkP3_5
     ·skip
      have ghqkP3_5:=eqI_true hqkP3_5
      rcases Bool.eq_false_or_eq_true (hoB (cT P) q d (cI C) C.length nI.toNat) with hqkP3_6 | hqkP3_6
      ·skip
       rcases Bool.eq_false_or_eq_true (eqI (icE nI d q (cT P) P.length (cI C) C.length) 5) with hqkP3_7 | hqkP3_7
       ·skip
        have ghqkP3_7:=eqI_true hqkP3_7
        exfalso
        have h9:=ltI_false hqkP3_1
        omega
       ·skip
        have ghqkP3_7:=eqI_false hqkP3_7
        exfalso
        have h9:=ltI_false hqkP3_1
        omega
      ·skip
       rcases Bool.eq_false_or_eq_true (eqI (cdE nI d q (cT P) P.length (cI C) C.length 0 [] 0) 0) with hqkP3_8 | hqkP3_8
       ·skip
        have ghqkP3_8:=eqI_true hqkP3_8
        exfalso
        have h9:=ltI_false hqkP3_1
        omega
       ·skip
        have ghqkP3_8:=eqI_false hqkP3_8
        exfalso
        have h9:=ltI_false hqkP3_1
        omega
     ·skip
      have ghqkP3_5:=eqI_false hqkP3_5
      rcases Bool.eq_false_or_eq_true (eqI (icE nI d q (cT P) P.length (cI C) C.length) (icE nI d q (cT P) P.length (cI C) C.length)) with hqkP3_9 | hqkP3_9
      ·skip
       have ghqkP3_9:=eqI_true hqkP3_9
       exfalso
       have h9:=ltI_false hqkP3_1
       omega
      ·skip
       have ghqkP3_9:=eqI_false hqkP3_9
       exact absurd (eqI_self _) (by rw [hqkP3_9]; decide)
    ·skip
     have ghqkP3_4:=eqI_false hqkP3_4
     exact absurd (eqI_self _) (by rw [hqkP3_4]; decide)
theorem sdk_P (nI d q:Int) (y:Value) (P:List (Int×Int×Int)) (z:Value) (C:List Int) (p:Int) (z0:Value) (D:List Int) (hw:Known Try.prog (clsO wkO)) (h30:30 < P.length):GivesA Try.prog 4 [(.agg [.v (.int .i64 nI),.v (.int .i64 d),.v (.int .i64 q),.xl y P.length 3 (cT P)]),(.xl z C.length 1 (cI C)),(.v (.int .i64 p)),(.xl z0 D.length 1 (cI D))] (.bool true) :=
 givesA_partsH 94 Try.func4 (by kernel_rfl) (by kernel_rfl) (by kernel_rfl) (fun w=>goes_less (by kernel_rfl) (by kernel_rfl) (by kernel_rfl) (by kernel_rfl) (kP_2 nI d q y P z C p z0 D hw h30 w []))
noncomputable def kCK1:Code:=bodyC Try.f4
theorem kC_2 (nI d q:Int) (y:Value) (P:List (Int×Int×Int)) (z:Value) (C:List Int) (p:Int) (z0:Value) (D:List Int) (hw:Known Try.prog (clsO wkO)) (h30:P.length≤30) (h40:40 < C.length) (w:World) (hs:List Nat):Goes Try.prog 94 kCK1 ((qN4_1 C D P d nI p q y z z0)) (BaseW.H w hs) (OutH Try.prog Try.f4 94 (.bool true) w):=by
 have hcl_C:=cI_len C
 have hcl_D:=cI_len D
 rcases Bool.eq_false_or_eq_true (ltI 30 P.length) with hqkC3_1 | hqkC3_1
 ·skip
  have ghqkC3_1:=ltI_true hqkC3_1
  exfalso
  have h9:=ltI_true hqkC3_1
  omega
 ·skip
  have ghqkC3_1:=ltI_false hqkC3_1
  rcases Bool.eq_false_or_eq_true (ltI 40 C.length) with hqkC3_2 | hqkC3_2
  ·skip
   have ghqkC3_2:=ltI_true hqkC3_2
   exact goes_leafA isR_e (goes_told Try.checked.mixed (known_l4b hw) 200 (T':=qN4_2) (e:=.ret) (ps:=[IsT P.length (cT P),ltI 30 P.length=false,false=false,false=false,ltI 40 C.length=true,true=true,true=true,true=true]) [.go,.go,.go,.go,.b false,.go,.b false,.go,.b false,.go,.go,.go,.b true,.b true,.b true,.go,.b true,.go] (by kernel_rfl) (by kernel_rfl) ⟨⟨P,rfl,rfl⟩,hqkC3_1,rfl,rfl,hqkC3_2,rfl,rfl,rfl,trivial⟩ rfl) (Hd.en_eq (r:=(.bool .true)) (by rfl) (Hd.en_ret (v:=(.v (.bool .true))) (by kernel_rfl) rfl))
  ·skip
   have ghqkC3_2:=ltI_false hqkC3_2
   rcases Bool.eq_false_or_eq_true (ltI 10 D.length) with hqkC3_3 | hqkC3_3
   ·skip
    have ghqkC3_3:=ltI_true hqkC3_3
    exfalso
    have h9:=ltI_false hqkC3_2
    omega
   ·skip
    have ghqkC3_3:=ltI_false hqkC3_3
    rcases Bool.eq_false_or_eq_true (eqI (cdE nI d q (cT P) P.length (cI C) C.length p (cI D) D.length) (cdE nI d q (cT P) P.length (cI C) C.length p (cI D) D.length)) with hqkC3_4 | hqkC3_4
    ·skip
     have ghqkC3_4:=eqI_true hqkC3_4
     rcases Bool.eq_false_or_eq_true (eqI (icE nI d q (cT P) P.length (cI C) C.length) 0) with hqkC3_5 | hqkC3_5
     ·skip
      have ghqkC3_5:=eqI_true hqkC3_5
      rcases Bool.eq_false_or_eq_true (hoB (cT P) q d (cI C) C.length nI.toNat) with hqkC3_6 | hqkC3_6
      ·skip
       rcases Bool.eq_false_or_eq_true (eqI (icE nI d q (cT P) P.length (cI C) C.length) 5) with hqkC3_7 | hqkC3_7
       ·skip
        have ghqkC3_7:=eqI_true hqkC3_7
        exfalso
        have h9:=ltI_false hqkC3_2
        omega
       ·skip
        have ghqkC3_7:=eqI_false hqkC3_7
        exfalso
        have h9:=ltI_false hqkC3_2
        omega
      ·skip
       rcases Bool.eq_false_or_eq_true (eqI (cdE nI d q (cT P) P.length (cI C) C.length 0 [] 0) 0) with hqkC3_8 | hqkC3_8
       ·skip
        have ghqkC3_8:=eqI_true hqkC3_8
        exfalso
        have h9:=ltI_false hqkC3_2
        omega
       ·skip
        have ghqkC3_8:=eqI_false hqkC3_8
        exfalso
        have h9:=ltI_false hqkC3_2
        omega
     ·skip
      have ghqkC3_5:=eqI_false hqkC3_5
      rcases Bool.eq_false_or_eq_true (eqI (icE nI d q (cT P) P.length (cI C) C.length) (icE nI d q (cT P) P.length (cI C) C.length)) with hqkC3_9 | hqkC3_9
      ·skip
       have ghqkC3_9:=eqI_true hqkC3_9
       exfalso
       have h9:=ltI_false hqkC3_2
       omega
      ·skip
       have ghqkC3_9:=eqI_false hqkC3_9
       exact absurd (eqI_self _) (by rw [hqkC3_9]; decide)
    ·skip
     have ghqkC3_4:=eqI_false hqkC3_4
     exact absurd (eqI_self _) (by rw [hqkC3_4]; decide)
theorem sdk_C (nI d q:Int) (y:Value) (P:List (Int×Int×Int)) (z:Value) (C:List Int) (p:Int) (z0:Value) (D:List Int) (hw:Known Try.prog (clsO wkO)) (h30:P.length≤30) (h40:40 < C.length):GivesA Try.prog 4 [(.agg [.v (.int .i64 nI),.v (.int .i64 d),.v (.int .i64 q),.xl y P.length 3 (cT P)]),(.xl z C.length 1 (cI C)),(.v (.int .i64 p)),(.xl z0 D.length 1 (cI D))] (.bool true) :=
 givesA_partsH 94 Try.func4 (by kernel_rfl) (by kernel_rfl) (by kernel_rfl) (fun w=>goes_less (by kernel_rfl) (by kernel_rfl) (by kernel_rfl) (by kernel_rfl) (kC_2 nI d q y P z C p z0 D hw h30 h40 w []))
noncomputable def kDK1:Code:=bodyC Try.f4
theorem kD_2 (nI d q:Int) (y:Value) (P:List (Int×Int×Int)) (z:Value) (C:List Int) (p:Int) (z0:Value) (D:List Int) (hw:Known Try.prog (clsO wkO)) (h30:P.length≤30) (h40:C.length≤40) (h10:10 < D.length) (w:World) (hs:List Nat):Goes Try.prog 94 kDK1 ((qN4_1 C D P d nI p q y z z0)) (BaseW.H w hs) (OutH Try.prog Try.f4 94 (.bool true) w):=by
 have hcl_C:=cI_len C
 have hcl_D:=cI_len D
 rcases Bool.eq_false_or_eq_true (ltI 30 P.length) with hqkD3_1 | hqkD3_1
 ·skip
  have ghqkD3_1:=ltI_true hqkD3_1
  exfalso
  have h9:=ltI_true hqkD3_1
  omega
 ·skip
  have ghqkD3_1:=ltI_false hqkD3_1
  rcases Bool.eq_false_or_eq_true (ltI 40 C.length) with hqkD3_2 | hqkD3_2
  ·skip
   have ghqkD3_2:=ltI_true hqkD3_2
   exfalso
   have h9:=ltI_true hqkD3_2
   omega
  ·skip
   have ghqkD3_2:=ltI_false hqkD3_2
   rcases Bool.eq_false_or_eq_true (ltI 10 D.length) with hqkD3_3 | hqkD3_3
   ·skip
    have ghqkD3_3:=ltI_true hqkD3_3
    exact goes_leafA isR_e (goes_told Try.checked.mixed (known_l4b hw) 200 (T':=qN4_2) (e:=.ret) (ps:=[IsT P.length (cT P),ltI 30 P.length=false,false=false,false=false,ltI 40 C.length=false,false=false,false=false,ltI 10 D.length=true]) [.go,.go,.go,.go,.b false,.go,.b false,.go,.b false,.go,.go,.go,.b false,.go,.b false,.go,.b false,.go,.go,.b true,.go] (by kernel_rfl) (by kernel_rfl) ⟨⟨P,rfl,rfl⟩,hqkD3_1,rfl,rfl,hqkD3_2,rfl,rfl,hqkD3_3,trivial⟩ rfl) (Hd.en_eq (r:=(.bool .true)) (by rfl) (Hd.en_ret (v:=(.v (.bool .true))) (by kernel_rfl) rfl))
   ·skip
    have ghqkD3_3:=ltI_false hqkD3_3
    rcases Bool.eq_false_or_eq_true (eqI (cdE nI d q (cT P) P.length (cI C) C.length p (cI D) D.length) (cdE nI d q (cT P) P.length (cI C) C.length p (cI D) D.length)) with hqkD3_4 | hqkD3_4
    ·skip
     have ghqkD3_4:=eqI_true hqkD3_4
     rcases Bool.eq_false_or_eq_true (eqI (icE nI d q (cT P) P.length (cI C) C.length) 0) with hqkD3_5 | hqkD3_5
     ·skip
      have ghqkD3_5:=eqI_true hqkD3_5
      rcases Bool.eq_false_or_eq_true (hoB (cT P) q d (cI C) C.length nI.toNat) with hqkD3_6 | hqkD3_6
      ·skip
       rcases Bool.eq_false_or_eq_true (eqI (icE nI d q (cT P) P.length (cI C) C.length) 5) with hqkD3_7 | hqkD3_7
       ·skip
        have ghqkD3_7:=eqI_true hqkD3_7
        exfalso
        have h9:=ltI_false hqkD3_3
        omega
       ·skip
        have ghqkD3_7:=eqI_false hqkD3_7
        exfalso
        have h9:=ltI_false hqkD3_3
        omega
      ·skip
       rcases Bool.eq_false_or_eq_true (eqI (cdE nI d q (cT P) P.length (cI C) C.length 0 [] 0) 0) with hqkD3_8 | hqkD3_8
       ·skip
        have ghqkD3_8:=eqI_true hqkD3_8
        exfalso
        have h9:=ltI_false hqkD3_3
        omega
       ·skip
        have ghqkD3_8:=eqI_false hqkD3_8
        exfalso
        have h9:=ltI_false hqkD3_3
        omega
     ·skip
      have ghqkD3_5:=eqI_false hqkD3_5
      rcases Bool.eq_false_or_eq_true (eqI (icE nI d q (cT P) P.length (cI C) C.length) (icE nI d q (cT P) P.length (cI C) C.length)) with hqkD3_9 | hqkD3_9
      ·skip
       have ghqkD3_9:=eqI_true hqkD3_9
       exfalso
       have h9:=ltI_false hqkD3_3
       omega
      ·skip
       have ghqkD3_9:=eqI_false hqkD3_9
       exact absurd (eqI_self _) (by rw [hqkD3_9]; decide)
    ·skip
     have ghqkD3_4:=eqI_false hqkD3_4
     exact absurd (eqI_self _) (by rw [hqkD3_4]; decide)
theorem sdk_D (nI d q:Int) (y:Value) (P:List (Int×Int×Int)) (z:Value) (C:List Int) (p:Int) (z0:Value) (D:List Int) (hw:Known Try.prog (clsO wkO)) (h30:P.length≤30) (h40:C.length≤40) (h10:10 < D.length):GivesA Try.prog 4 [(.agg [.v (.int .i64 nI),.v (.int .i64 d),.v (.int .i64 q),.xl y P.length 3 (cT P)]),(.xl z C.length 1 (cI C)),(.v (.int .i64 p)),(.xl z0 D.length 1 (cI D))] (.bool true) :=
 givesA_partsH 94 Try.func4 (by kernel_rfl) (by kernel_rfl) (by kernel_rfl) (fun w=>goes_less (by kernel_rfl) (by kernel_rfl) (by kernel_rfl) (by kernel_rfl) (kD_2 nI d q y P z C p z0 D hw h30 h40 h10 w []))
noncomputable def kbK1:Code:=bodyC Try.f4
theorem kb_2 (nI d q:Int) (y:Value) (P:List (Int×Int×Int)) (z:Value) (C:List Int) (p:Int) (z0:Value) (D:List Int) (hw:Known Try.prog (clsO wkO)) (hE:¬ icE nI d q (cT P) P.length (cI C) C.length=0) (h30:P.length≤30) (h40:C.length≤40) (h10:D.length≤10) (w:World) (hs:List Nat):Goes Try.prog 94 kbK1 ((qN4_1 C D P d nI p q y z z0)) (BaseW.H w hs) (OutH Try.prog Try.f4 94 (.bool true) w):=by
 have hcl_C:=cI_len C
 have hcl_D:=cI_len D
 rcases Bool.eq_false_or_eq_true (ltI 30 P.length) with hqkb3_1 | hqkb3_1
 ·skip
  have ghqkb3_1:=ltI_true hqkb3_1
  exfalso
  have h9:=ltI_true hqkb3_1
  omega
 ·skip
  have ghqkb3_1:=ltI_false hqkb3_1
  rcases Bool.eq_false_or_eq_true (ltI 40 C.length) with hqkb3_2 | hqkb3_2
  ·skip
   have ghqkb3_2:=ltI_true hqkb3_2
   exfalso
   have h9:=ltI_true hqkb3_2
   omega
  ·skip
   have ghqkb3_2:=ltI_false hqkb3_2
   rcases Bool.eq_false_or_eq_true (ltI 10 D.length) with hqkb3_3 | hqkb3_3
   ·skip
    have ghqkb3_3:=ltI_true hqkb3_3
    exfalso
    have h9:=ltI_true hqkb3_3
    omega
   ·skip
    have ghqkb3_3:=ltI_false hqkb3_3
    rcases Bool.eq_false_or_eq_true (eqI (cdE nI d q (cT P) P.length (cI C) C.length p (cI D) D.length) (cdE nI d q (cT P) P.length (cI C) C.length p (cI D) D.length)) with hqkb3_4 | hqkb3_4
    ·skip
     have ghqkb3_4:=eqI_true hqkb3_4
     rcases Bool.eq_false_or_eq_true (eqI (icE nI d q (cT P) P.length (cI C) C.length) 0) with hqkb3_5 | hqkb3_5
     ·skip
      have ghqkb3_5:=eqI_true hqkb3_5
      rcases Bool.eq_false_or_eq_true (hoB (cT P) q d (cI C) C.length nI.toNat) with hqkb3_6 | hqkb3_6
      ·skip
       rcases Bool.eq_false_or_eq_true (eqI (icE nI d q (cT P) P.length (cI C) C.length) 5) with hqkb3_7 | hqkb3_7
       ·skip
        have ghqkb3_7:=eqI_true hqkb3_7
        exact absurd (eqI_true hqkb3_5) hE
       ·skip
        have ghqkb3_7:=eqI_false hqkb3_7
        exact absurd (eqI_true hqkb3_5) hE
      ·skip
       rcases Bool.eq_false_or_eq_true (eqI (cdE nI d q (cT P) P.length (cI C) C.length 0 [] 0) 0) with hqkb3_8 | hqkb3_8
       ·skip
        have ghqkb3_8:=eqI_true hqkb3_8
        exact absurd (eqI_true hqkb3_5) hE
       ·skip
        have ghqkb3_8:=eqI_false hqkb3_8
        exact absurd (eqI_true hqkb3_5) hE
     ·skip
      have ghqkb3_5:=eqI_false hqkb3_5
      rcases Bool.eq_false_or_eq_true (eqI (icE nI d q (cT P) P.length (cI C) C.length) (icE nI d q (cT P) P.length (cI C) C.length)) with hqkb3_9 | hqkb3_9
      ·skip
       have ghqkb3_9:=eqI_true hqkb3_9
       exact goes_leafA isR_e (goes_told Try.checked.mixed (known_l4b hw) 200 (T':=qN4_2) (e:=.ret) (ps:=[IsT P.length (cT P),ltI 30 P.length=false,false=false,false=false,ltI 40 C.length=false,false=false,false=false,ltI 10 D.length=false,IsT P.length (cT P),IsC 1 C.length (cI C),IsC 1 D.length (cI D),C.length≤1000,D.length≤1000,IsT P.length (cT P),IsC 1 C.length (cI C),IsC 1 D.length (cI D),C.length≤1000,D.length≤1000,(!eqI (cdE nI d q (cT P) P.length (cI C) C.length p (cI D) D.length) (cdE nI d q (cT P) P.length (cI C) C.length p (cI D) D.length))=false,FreeL (cT P),FreeL (cI C),IsT P.length (cT P),IsC 1 C.length (cI C),¬icE nI d q (cT P) P.length (cI C) C.length=0,C.length≤1000,IsT P.length (cT P),IsC 1 C.length (cI C),C.length≤1000,(!eqI (icE nI d q (cT P) P.length (cI C) C.length) 0)=true,IsT P.length (cT P),IsC 1 C.length (cI C),C.length≤1000,eqI (icE nI d q (cT P) P.length (cI C) C.length) (icE nI d q (cT P) P.length (cI C) C.length)=true,true=true,eqI 0 0=true,true=true,true=true,eqI 0 0=true]) [.go,.go,.go,.go,.b false,.go,.b false,.go,.b false,.go,.go,.go,.b false,.go,.b false,.go,.b false,.go,.go,.b false,.go,.go,.go,.go,.go,.go,.go,.go,.go,.b false,.go,.go,.go,.go,.go,.go,.go,.go,.go,.go,.go,.go,.b true,.go,.go,.go,.go,.go,.b true,.go,.b true,.go,.go,.go,.b true,.go,.b true,.go,.b true,.go,.go,.go,.b true,.go,.go] (by kernel_rfl) (by kernel_rfl) ⟨⟨P,rfl,rfl⟩,hqkb3_1,rfl,rfl,hqkb3_2,rfl,rfl,hqkb3_3,⟨P,rfl,rfl⟩,⟨rfl,_,rfl,rfl⟩,⟨rfl,_,rfl,rfl⟩,(by omega),(by omega),⟨P,rfl,rfl⟩,⟨rfl,_,rfl,rfl⟩,⟨rfl,_,rfl,rfl⟩,(by omega),(by omega),(by rw [hqkb3_4]; rfl),(freeL_plain (cT_plain P)),(freeL_plain (cI_plain _)),⟨P,rfl,rfl⟩,⟨rfl,_,rfl,rfl⟩,hE,(by omega),⟨P,rfl,rfl⟩,⟨rfl,_,rfl,rfl⟩,(by omega),(by rw [hqkb3_5]; rfl),⟨P,rfl,rfl⟩,⟨rfl,_,rfl,rfl⟩,(by omega),hqkb3_9,rfl,rfl,rfl,rfl,rfl,trivial⟩ rfl) (Hd.en_eq (r:=(.bool .true)) (by rfl) (Hd.en_ret (v:=(.v (.bool .true))) (by kernel_rfl) rfl))
      ·skip
       have ghqkb3_9:=eqI_false hqkb3_9
       exact absurd (eqI_self _) (by rw [hqkb3_9]; decide)
    ·skip
     have ghqkb3_4:=eqI_false hqkb3_4
     exact absurd (eqI_self _) (by rw [hqkb3_4]; decide)
theorem sdk_b (nI d q:Int) (y:Value) (P:List (Int×Int×Int)) (z:Value) (C:List Int) (p:Int) (z0:Value) (D:List Int) (hw:Known Try.prog (clsO wkO)) (hE:¬ icE nI d q (cT P) P.length (cI C) C.length=0) (h30:P.length≤30) (h40:C.length≤40) (h10:D.length≤10):GivesA Try.prog 4 [(.agg [.v (.int .i64 nI),.v (.int .i64 d),.v (.int .i64 q),.xl y P.length 3 (cT P)]),(.xl z C.length 1 (cI C)),(.v (.int .i64 p)),(.xl z0 D.length 1 (cI D))] (.bool true) :=
 givesA_partsH 94 Try.func4 (by kernel_rfl) (by kernel_rfl) (by kernel_rfl) (fun w=>goes_less (by kernel_rfl) (by kernel_rfl) (by kernel_rfl) (by kernel_rfl) (kb_2 nI d q y P z C p z0 D hw hE h30 h40 h10 w []))
noncomputable def kaK1:Code:=bodyC Try.f4
theorem ka_2 (n:Nat) (d q:Int) (y:Value) (P:List (Int×Int×Int)) (z:Value) (C:List Int) (p:Int) (z0:Value) (D:List Int) (hw:Known Try.prog (clsO wkO)) (hE:icE n d q (cT P) P.length (cI C) C.length=0) (h30:P.length≤30) (h40:C.length≤40) (h10:D.length≤10) (h0:C.length=0) (w:World) (hs:List Nat):Goes Try.prog 94 kaK1 (⟨[(0,(.agg [.v (.int .i64 n),.v (.int .i64 d),.v (.int .i64 q),.xl y P.length 3 (cT P)])),(qN4_4 C z),(2,(.v (.int .i64 p))),(qN4_3 D z0)],[],0,[]⟩) (BaseW.H w hs) (OutH Try.prog Try.f4 94 (.bool true) w):=by
 have hcl_C:=cI_len C
 have hcl_D:=cI_len D
 obtain ⟨hR,hch⟩:=icE_zero hE
 obtain ⟨hm,⟨ha1,ha2,ha3⟩,hp⟩:=roE_zero hR
 have hn:n≤1000:=by omega
 rcases Bool.eq_false_or_eq_true (ltI 30 P.length) with hqka3_1 | hqka3_1
 ·skip
  have ghqka3_1:=ltI_true hqka3_1
  exfalso
  have h9:=ltI_true hqka3_1
  omega
 ·skip
  have ghqka3_1:=ltI_false hqka3_1
  rcases Bool.eq_false_or_eq_true (ltI 40 C.length) with hqka3_2 | hqka3_2
  ·skip
   have ghqka3_2:=ltI_true hqka3_2
   exfalso
   have h9:=ltI_true hqka3_2
   omega
  ·skip
   have ghqka3_2:=ltI_false hqka3_2
   rcases Bool.eq_false_or_eq_true (ltI 10 D.length) with hqka3_3 | hqka3_3
   ·skip
    have ghqka3_3:=ltI_true hqka3_3
    exfalso
    have h9:=ltI_true hqka3_3
    omega
   ·skip
    have ghqka3_3:=ltI_false hqka3_3
    rcases Bool.eq_false_or_eq_true (eqI (cdE n d q (cT P) P.length (cI C) C.length p (cI D) D.length) (cdE n d q (cT P) P.length (cI C) C.length p (cI D) D.length)) with hqka3_4 | hqka3_4
    ·skip
     have ghqka3_4:=eqI_true hqka3_4
     rcases Bool.eq_false_or_eq_true (eqI (icE n d q (cT P) P.length (cI C) C.length) 0) with hqka3_5 | hqka3_5
     ·skip
      have ghqka3_5:=eqI_true hqka3_5
      rcases Bool.eq_false_or_eq_true (hoB (cT P) q d (cI C) C.length n) with hqka3_6 | hqka3_6
      ·skip
       exfalso
       have h8:=drV_z (c:=cT P) (q:=q) (n:=n) h0 (by omega) (show 0≤d by omega)
       have h9:=eqI_true (show eqI (((drV (cT P) q d (cI C) C.length n):Nat):Int) n=true from hqka3_6)
       omega
      ·skip
       rcases Bool.eq_false_or_eq_true (eqI (cdE n d q (cT P) P.length (cI C) C.length 0 [] 0) 0) with hqka3_7 | hqka3_7
       ·skip
        have ghqka3_7:=eqI_true hqka3_7
        exact goes_leafA isR_e (goes_told Try.checked.mixed (known_l4a hw) 200 (T':=qN4_2) (e:=.ret) (ps:=[IsT P.length (cT P),ltI 30 P.length=false,false=false,false=false,ltI 40 C.length=false,false=false,false=false,ltI 10 D.length=false,IsT P.length (cT P),IsC 1 C.length (cI C),IsC 1 D.length (cI D),C.length≤1000,D.length≤1000,IsT P.length (cT P),IsC 1 C.length (cI C),IsC 1 D.length (cI D),C.length≤1000,D.length≤1000,(!eqI (cdE n d q (cT P) P.length (cI C) C.length p (cI D) D.length) (cdE n d q (cT P) P.length (cI C) C.length p (cI D) D.length))=false,FreeL (cT P),FreeL (cI C),IsT P.length (cT P),IsC 1 C.length (cI C),icE n d q (cT P) P.length (cI C) C.length=0,C.length≤1000,C.length=0,IsT P.length (cT P),IsC 1 C.length (cI C),C.length≤1000,(!eqI (icE n d q (cT P) P.length (cI C) C.length) 0)=false,FreeL (cT P),FreeL (cI C),IsT P.length (cT P),IsC 1 C.length (cI C),icE n d q (cT P) P.length (cI C) C.length=0,C.length≤1000,hoB (cT P) q d (cI C) C.length n=false,eqI 0 0=true,true=true,true=true,true=true,true=true,IsT P.length (cT P),IsC 1 C.length (cI C),IsC (0 + 1) 0 [],C.length≤1000,((0:Nat)≤1000),true=true,eqI (cdE n d q (cT P) P.length (cI C) C.length 0 [] 0) 0=true]) [.go,.go,.go,.go,.b false,.go,.b false,.go,.b false,.go,.go,.go,.b false,.go,.b false,.go,.b false,.go,.go,.b false,.go,.go,.go,.go,.go,.go,.go,.go,.go,.b false,.go,.go,.go,.go,.go,.go,.go,.go,.go,.go,.go,.go,.b false,.go,.go,.b false,.go,.go,.go,.b true,.go,.b true,.go,.b true,.go,.b true,.go,.b true,.b true,.go,.go,.go,.b true,.go,.go] (by kernel_rfl) (by kernel_rfl) ⟨⟨P,rfl,rfl⟩,hqka3_1,rfl,rfl,hqka3_2,rfl,rfl,hqka3_3,⟨P,rfl,rfl⟩,⟨rfl,_,rfl,rfl⟩,⟨rfl,_,rfl,rfl⟩,(by omega),(by omega),⟨P,rfl,rfl⟩,⟨rfl,_,rfl,rfl⟩,⟨rfl,_,rfl,rfl⟩,(by omega),(by omega),(by rw [hqka3_4]; rfl),(freeL_plain (cT_plain P)),(freeL_plain (cI_plain _)),⟨P,rfl,rfl⟩,⟨rfl,_,rfl,rfl⟩,hE,(by omega),h0,⟨P,rfl,rfl⟩,⟨rfl,_,rfl,rfl⟩,(by omega),(by rw [hqka3_5]; rfl),(freeL_plain (cT_plain P)),(freeL_plain (cI_plain _)),⟨P,rfl,rfl⟩,⟨rfl,_,rfl,rfl⟩,hE,(by omega),hqka3_6,rfl,rfl,rfl,rfl,rfl,⟨P,rfl,rfl⟩,⟨rfl,_,rfl,rfl⟩,⟨rfl,[],rfl,rfl⟩,(by omega),(by decide),rfl,hqka3_7,trivial⟩ rfl) (Hd.en_eq (r:=(.bool .true)) (by rfl) (Hd.en_ret (v:=(.v (.bool .true))) (by kernel_rfl) rfl))
       ·skip
        have ghqka3_7:=eqI_false hqka3_7
        exact absurd (dk_z hE h0) (eqI_false hqka3_7)
     ·skip
      have ghqka3_5:=eqI_false hqka3_5
      rcases Bool.eq_false_or_eq_true (eqI 0 (icE n d q (cT P) P.length (cI C) C.length)) with hqka3_8 | hqka3_8
      ·skip
       have ghqka3_8:=eqI_true hqka3_8
       exact absurd hE (eqI_false hqka3_5)
      ·skip
       have ghqka3_8:=eqI_false hqka3_8
       exact absurd hE (eqI_false hqka3_5)
    ·skip
     have ghqka3_4:=eqI_false hqka3_4
     exact absurd (eqI_self _) (by rw [hqka3_4]; decide)
theorem sdk_a (n:Nat) (d q:Int) (y:Value) (P:List (Int×Int×Int)) (z:Value) (C:List Int) (p:Int) (z0:Value) (D:List Int) (hw:Known Try.prog (clsO wkO)) (hE:icE n d q (cT P) P.length (cI C) C.length=0) (h30:P.length≤30) (h40:C.length≤40) (h10:D.length≤10) (h0:C.length=0):GivesA Try.prog 4 [(.agg [.v (.int .i64 n),.v (.int .i64 d),.v (.int .i64 q),.xl y P.length 3 (cT P)]),(.xl z C.length 1 (cI C)),(.v (.int .i64 p)),(.xl z0 D.length 1 (cI D))] (.bool true) :=
 givesA_partsH 94 Try.func4 (by kernel_rfl) (by kernel_rfl) (by kernel_rfl) (fun w=>goes_less (by kernel_rfl) (by kernel_rfl) (by kernel_rfl) (by kernel_rfl) (ka_2 n d q y P z C p z0 D hw hE h30 h40 h10 h0 w []))
noncomputable def k5K1:Code:=bodyC Try.f4
theorem k5_2 (n:Nat) (d q:Int) (y:Value) (P:List (Int×Int×Int)) (z:Value) (C:List Int) (p:Int) (z0:Value) (D:List Int) (hw:Known Try.prog (clsO wkO)) (hE:icE n d q (cT P) P.length (cI C) C.length=0) (h30:P.length≤30) (h40:C.length≤40) (h10:D.length≤10) (h0:0 < C.length) (hv:(drV (cT P) q d (cI C) C.length n)=n) (w:World) (hs:List Nat):Goes Try.prog 94 k5K1 (⟨[(0,(.agg [.v (.int .i64 n),.v (.int .i64 d),.v (.int .i64 q),.xl y P.length 3 (cT P)])),(qN4_4 C z),(2,(.v (.int .i64 p))),(qN4_3 D z0)],[],0,[]⟩) (BaseW.H w hs) (OutH Try.prog Try.f4 94 (.bool true) w):=by
 have hcl_C:=cI_len C
 have hcl_D:=cI_len D
 obtain ⟨hR,hch⟩:=icE_zero hE
 obtain ⟨hm,⟨ha1,ha2,ha3⟩,hp⟩:=roE_zero hR
 have hn:n≤1000:=by omega
 rcases Bool.eq_false_or_eq_true (ltI 30 P.length) with hqk53_1 | hqk53_1
 ·skip
  have ghqk53_1:=ltI_true hqk53_1
  exfalso
  have h9:=ltI_true hqk53_1
  omega
 ·skip
  have ghqk53_1:=ltI_false hqk53_1
  rcases Bool.eq_false_or_eq_true (ltI 40 C.length) with hqk53_2 | hqk53_2
  ·skip
   have ghqk53_2:=ltI_true hqk53_2
   exfalso
   have h9:=ltI_true hqk53_2
   omega
  ·skip
   have ghqk53_2:=ltI_false hqk53_2
   rcases Bool.eq_false_or_eq_true (ltI 10 D.length) with hqk53_3 | hqk53_3
   ·skip
    have ghqk53_3:=ltI_true hqk53_3
    exfalso
    have h9:=ltI_true hqk53_3
    omega
   ·skip
    have ghqk53_3:=ltI_false hqk53_3
    rcases Bool.eq_false_or_eq_true (eqI (cdE n d q (cT P) P.length (cI C) C.length p (cI D) D.length) (cdE n d q (cT P) P.length (cI C) C.length p (cI D) D.length)) with hqk53_4 | hqk53_4
    ·skip
     have ghqk53_4:=eqI_true hqk53_4
     rcases Bool.eq_false_or_eq_true (eqI (icE n d q (cT P) P.length (cI C) C.length) 0) with hqk53_5 | hqk53_5
     ·skip
      have ghqk53_5:=eqI_true hqk53_5
      rcases Bool.eq_false_or_eq_true (hoB (cT P) q d (cI C) C.length n) with hqk53_6 | hqk53_6
      ·skip
       exact goes_leafA isR_e (goes_told Try.checked.mixed (known_l45 hw) 200 (T':=qN4_2) (e:=.ret) (ps:=[IsT P.length (cT P),ltI 30 P.length=false,false=false,false=false,ltI 40 C.length=false,false=false,false=false,ltI 10 D.length=false,IsT P.length (cT P),IsC 1 C.length (cI C),IsC 1 D.length (cI D),C.length≤1000,D.length≤1000,IsT P.length (cT P),IsC 1 C.length (cI C),IsC 1 D.length (cI D),C.length≤1000,D.length≤1000,(!eqI (cdE n d q (cT P) P.length (cI C) C.length p (cI D) D.length) (cdE n d q (cT P) P.length (cI C) C.length p (cI D) D.length))=false,FreeL (cT P),FreeL (cI C),IsT P.length (cT P),IsC 1 C.length (cI C),icE n d q (cT P) P.length (cI C) C.length=0,C.length≤1000,0 < C.length,drV (cT P) q d (cI C) C.length n=n,IsT P.length (cT P),IsC 1 C.length (cI C),C.length≤1000,(!eqI (icE n d q (cT P) P.length (cI C) C.length) 0)=false,FreeL (cT P),FreeL (cI C),IsT P.length (cT P),IsC 1 C.length (cI C),icE n d q (cT P) P.length (cI C) C.length=0,C.length≤1000,hoB (cT P) q d (cI C) C.length n=true,eqI 5 5=true,true=true,eqI 0 0=true,true=true,true=true,eqI 0 0=true]) [.go,.go,.go,.go,.b false,.go,.b false,.go,.b false,.go,.go,.go,.b false,.go,.b false,.go,.b false,.go,.go,.b false,.go,.go,.go,.go,.go,.go,.go,.go,.go,.b false,.go,.go,.go,.go,.go,.go,.go,.go,.go,.go,.go,.go,.b false,.go,.go,.b true,.go,.go,.go,.b true,.go,.b true,.go,.go,.go,.b true,.go,.b true,.go,.b true,.go,.go,.go,.b true,.go,.go] (by kernel_rfl) (by kernel_rfl) ⟨⟨P,rfl,rfl⟩,hqk53_1,rfl,rfl,hqk53_2,rfl,rfl,hqk53_3,⟨P,rfl,rfl⟩,⟨rfl,_,rfl,rfl⟩,⟨rfl,_,rfl,rfl⟩,(by omega),(by omega),⟨P,rfl,rfl⟩,⟨rfl,_,rfl,rfl⟩,⟨rfl,_,rfl,rfl⟩,(by omega),(by omega),(by rw [hqk53_4]; rfl),(freeL_plain (cT_plain P)),(freeL_plain (cI_plain _)),⟨P,rfl,rfl⟩,⟨rfl,_,rfl,rfl⟩,hE,(by omega),h0,hv,⟨P,rfl,rfl⟩,⟨rfl,_,rfl,rfl⟩,(by omega),(by rw [hqk53_5]; rfl),(freeL_plain (cT_plain P)),(freeL_plain (cI_plain _)),⟨P,rfl,rfl⟩,⟨rfl,_,rfl,rfl⟩,hE,(by omega),hqk53_6,rfl,rfl,rfl,rfl,rfl,rfl,trivial⟩ rfl) (Hd.en_eq (r:=(.bool .true)) (by rfl) (Hd.en_ret (v:=(.v (.bool .true))) (by kernel_rfl) rfl))
      ·skip
       exact absurd (show hoB (cT P) q d (cI C) C.length n=true from by unfold hoB; rw [hv]; exact eqI_self _) (by rw [hqk53_6]; decide)
     ·skip
      have ghqk53_5:=eqI_false hqk53_5
      rcases Bool.eq_false_or_eq_true (eqI 5 (icE n d q (cT P) P.length (cI C) C.length)) with hqk53_7 | hqk53_7
      ·skip
       have ghqk53_7:=eqI_true hqk53_7
       exact absurd hE (eqI_false hqk53_5)
      ·skip
       have ghqk53_7:=eqI_false hqk53_7
       exact absurd hE (eqI_false hqk53_5)
    ·skip
     have ghqk53_4:=eqI_false hqk53_4
     exact absurd (eqI_self _) (by rw [hqk53_4]; decide)
theorem sdk_5 (n:Nat) (d q:Int) (y:Value) (P:List (Int×Int×Int)) (z:Value) (C:List Int) (p:Int) (z0:Value) (D:List Int) (hw:Known Try.prog (clsO wkO)) (hE:icE n d q (cT P) P.length (cI C) C.length=0) (h30:P.length≤30) (h40:C.length≤40) (h10:D.length≤10) (h0:0 < C.length) (hv:(drV (cT P) q d (cI C) C.length n)=n):GivesA Try.prog 4 [(.agg [.v (.int .i64 n),.v (.int .i64 d),.v (.int .i64 q),.xl y P.length 3 (cT P)]),(.xl z C.length 1 (cI C)),(.v (.int .i64 p)),(.xl z0 D.length 1 (cI D))] (.bool true) :=
 givesA_partsH 94 Try.func4 (by kernel_rfl) (by kernel_rfl) (by kernel_rfl) (fun w=>goes_less (by kernel_rfl) (by kernel_rfl) (by kernel_rfl) (by kernel_rfl) (k5_2 n d q y P z C p z0 D hw hE h30 h40 h10 h0 hv w []))
noncomputable def knK1:Code:=bodyC Try.f4
theorem kn_2 (n:Nat) (d q:Int) (y:Value) (P:List (Int×Int×Int)) (z:Value) (C:List Int) (p:Int) (z0:Value) (D:List Int) (hw:Known Try.prog (clsO wkO)) (hE:icE n d q (cT P) P.length (cI C) C.length=0) (h30:P.length≤30) (h40:C.length≤40) (h10:D.length≤10) (h0:0 < C.length) (hv:(drV (cT P) q d (cI C) C.length n) < n) (hl:(drL (cT P) q d (cI C) C.length n).length=0) (w:World) (hs:List Nat):Goes Try.prog 94 knK1 (⟨[(0,(.agg [.v (.int .i64 n),.v (.int .i64 d),.v (.int .i64 q),.xl y P.length 3 (cT P)])),(qN4_4 C z),(2,(.v (.int .i64 p))),(qN4_3 D z0)],[],0,[]⟩) (BaseW.H w hs) (OutH Try.prog Try.f4 94 (.bool true) w):=by
 have hcl_C:=cI_len C
 have hcl_D:=cI_len D
 obtain ⟨hR,hch⟩:=icE_zero hE
 obtain ⟨hm,⟨ha1,ha2,ha3⟩,hp⟩:=roE_zero hR
 have hn:n≤1000:=by omega
 rcases Bool.eq_false_or_eq_true (ltI 30 P.length) with hqkn3_1 | hqkn3_1
 ·skip
  have ghqkn3_1:=ltI_true hqkn3_1
  exfalso
  have h9:=ltI_true hqkn3_1
  omega
 ·skip
  have ghqkn3_1:=ltI_false hqkn3_1
  rcases Bool.eq_false_or_eq_true (ltI 40 C.length) with hqkn3_2 | hqkn3_2
  ·skip
   have ghqkn3_2:=ltI_true hqkn3_2
   exfalso
   have h9:=ltI_true hqkn3_2
   omega
  ·skip
   have ghqkn3_2:=ltI_false hqkn3_2
   rcases Bool.eq_false_or_eq_true (ltI 10 D.length) with hqkn3_3 | hqkn3_3
   ·skip
    have ghqkn3_3:=ltI_true hqkn3_3
    exfalso
    have h9:=ltI_true hqkn3_3
    omega
   ·skip
    have ghqkn3_3:=ltI_false hqkn3_3
    rcases Bool.eq_false_or_eq_true (eqI (cdE n d q (cT P) P.length (cI C) C.length p (cI D) D.length) (cdE n d q (cT P) P.length (cI C) C.length p (cI D) D.length)) with hqkn3_4 | hqkn3_4
    ·skip
     have ghqkn3_4:=eqI_true hqkn3_4
     rcases Bool.eq_false_or_eq_true (eqI (icE n d q (cT P) P.length (cI C) C.length) 0) with hqkn3_5 | hqkn3_5
     ·skip
      have ghqkn3_5:=eqI_true hqkn3_5
      rcases Bool.eq_false_or_eq_true (hoB (cT P) q d (cI C) C.length n) with hqkn3_6 | hqkn3_6
      ·skip
       exfalso
       have h9:=eqI_true (show eqI (((drV (cT P) q d (cI C) C.length n):Nat):Int) n=true from hqkn3_6)
       omega
      ·skip
       rcases Bool.eq_false_or_eq_true (eqI (cdE n d q (cT P) P.length (cI C) C.length ((drV (cT P) q d (cI C) C.length n:Nat):Int) [] 0) 0) with hqkn3_7 | hqkn3_7
       ·skip
        have ghqkn3_7:=eqI_true hqkn3_7
        exact goes_leafA isR_e (goes_told Try.checked.mixed (known_l4n hw) 200 (T':=qN4_2) (e:=.ret) (ps:=[IsT P.length (cT P),ltI 30 P.length=false,false=false,false=false,ltI 40 C.length=false,false=false,false=false,ltI 10 D.length=false,IsT P.length (cT P),IsC 1 C.length (cI C),IsC 1 D.length (cI D),C.length≤1000,D.length≤1000,IsT P.length (cT P),IsC 1 C.length (cI C),IsC 1 D.length (cI D),C.length≤1000,D.length≤1000,(!eqI (cdE n d q (cT P) P.length (cI C) C.length p (cI D) D.length) (cdE n d q (cT P) P.length (cI C) C.length p (cI D) D.length))=false,FreeL (cT P),FreeL (cI C),IsT P.length (cT P),IsC 1 C.length (cI C),icE n d q (cT P) P.length (cI C) C.length=0,C.length≤1000,0 < C.length,drV (cT P) q d (cI C) C.length n < n,(drL (cT P) q d (cI C) C.length n).length=0,IsT P.length (cT P),IsC 1 C.length (cI C),C.length≤1000,(!eqI (icE n d q (cT P) P.length (cI C) C.length) 0)=false,FreeL (cT P),FreeL (cI C),IsT P.length (cT P),IsC 1 C.length (cI C),icE n d q (cT P) P.length (cI C) C.length=0,C.length≤1000,hoB (cT P) q d (cI C) C.length n=false,eqI 0 0=true,true=true,true=true,true=true,true=true,IsT P.length (cT P),IsC 1 C.length (cI C),IsC (0 + 1) 0 [],C.length≤1000,((0:Nat)≤1000),true=true,eqI (cdE n d q (cT P) P.length (cI C) C.length ((drV (cT P) q d (cI C) C.length n:Nat):Int) [] 0) 0=true]) [.go,.go,.go,.go,.b false,.go,.b false,.go,.b false,.go,.go,.go,.b false,.go,.b false,.go,.b false,.go,.go,.b false,.go,.go,.go,.go,.go,.go,.go,.go,.go,.b false,.go,.go,.go,.go,.go,.go,.go,.go,.go,.go,.go,.go,.b false,.go,.go,.b false,.go,.go,.go,.b true,.go,.b true,.go,.b true,.go,.b true,.go,.b true,.b true,.go,.go,.go,.b true,.go,.go] (by kernel_rfl) (by kernel_rfl) ⟨⟨P,rfl,rfl⟩,hqkn3_1,rfl,rfl,hqkn3_2,rfl,rfl,hqkn3_3,⟨P,rfl,rfl⟩,⟨rfl,_,rfl,rfl⟩,⟨rfl,_,rfl,rfl⟩,(by omega),(by omega),⟨P,rfl,rfl⟩,⟨rfl,_,rfl,rfl⟩,⟨rfl,_,rfl,rfl⟩,(by omega),(by omega),(by rw [hqkn3_4]; rfl),(freeL_plain (cT_plain P)),(freeL_plain (cI_plain _)),⟨P,rfl,rfl⟩,⟨rfl,_,rfl,rfl⟩,hE,(by omega),h0,hv,hl,⟨P,rfl,rfl⟩,⟨rfl,_,rfl,rfl⟩,(by omega),(by rw [hqkn3_5]; rfl),(freeL_plain (cT_plain P)),(freeL_plain (cI_plain _)),⟨P,rfl,rfl⟩,⟨rfl,_,rfl,rfl⟩,hE,(by omega),hqkn3_6,rfl,rfl,rfl,rfl,rfl,⟨P,rfl,rfl⟩,⟨rfl,_,rfl,rfl⟩,⟨rfl,[],rfl,rfl⟩,(by omega),(by decide),rfl,hqkn3_7,trivial⟩ rfl) (Hd.en_eq (r:=(.bool .true)) (by rfl) (Hd.en_ret (v:=(.v (.bool .true))) (by kernel_rfl) rfl))
       ·skip
        have ghqkn3_7:=eqI_false hqkn3_7
        exact absurd (dk_nil hE hv hl) (eqI_false hqkn3_7)
     ·skip
      have ghqkn3_5:=eqI_false hqkn3_5
      rcases Bool.eq_false_or_eq_true (eqI 0 (icE n d q (cT P) P.length (cI C) C.length)) with hqkn3_8 | hqkn3_8
      ·skip
       have ghqkn3_8:=eqI_true hqkn3_8
       rcases Bool.eq_false_or_eq_true (eqI (((drV (cT P) q d (cI C) C.length n:Nat):Int)) 0) with hqkn3_9 | hqkn3_9
       ·skip
        have ghqkn3_9:=eqI_true hqkn3_9
        exact absurd hE (eqI_false hqkn3_5)
       ·skip
        have ghqkn3_9:=eqI_false hqkn3_9
        exact absurd hE (eqI_false hqkn3_5)
      ·skip
       have ghqkn3_8:=eqI_false hqkn3_8
       exact absurd hE (eqI_false hqkn3_5)
    ·skip
     have ghqkn3_4:=eqI_false hqkn3_4
     exact absurd (eqI_self _) (by rw [hqkn3_4]; decide)
theorem sdk_n (n:Nat) (d q:Int) (y:Value) (P:List (Int×Int×Int)) (z:Value) (C:List Int) (p:Int) (z0:Value) (D:List Int) (hw:Known Try.prog (clsO wkO)) (hE:icE n d q (cT P) P.length (cI C) C.length=0) (h30:P.length≤30) (h40:C.length≤40) (h10:D.length≤10) (h0:0 < C.length) (hv:(drV (cT P) q d (cI C) C.length n) < n) (hl:(drL (cT P) q d (cI C) C.length n).length=0):GivesA Try.prog 4 [(.agg [.v (.int .i64 n),.v (.int .i64 d),.v (.int .i64 q),.xl y P.length 3 (cT P)]),(.xl z C.length 1 (cI C)),(.v (.int .i64 p)),(.xl z0 D.length 1 (cI D))] (.bool true) :=
 givesA_partsH 94 Try.func4 (by kernel_rfl) (by kernel_rfl) (by kernel_rfl) (fun w=>goes_less (by kernel_rfl) (by kernel_rfl) (by kernel_rfl) (by kernel_rfl) (kn_2 n d q y P z C p z0 D hw hE h30 h40 h10 h0 hv hl w []))
noncomputable def krK1:Code:=bodyC Try.f4
theorem kr_2 (n:Nat) (d q:Int) (y:Value) (P:List (Int×Int×Int)) (z:Value) (C:List Int) (p:Int) (z0:Value) (D:List Int) (hw:Known Try.prog (clsO wkO)) (hE:icE n d q (cT P) P.length (cI C) C.length=0) (h30:P.length≤30) (h40:C.length≤40) (h10:D.length≤10) (h0:0 < C.length) (hl:0 < (drL (cT P) q d (cI C) C.length n).length) (w:World) (hs:List Nat):Goes Try.prog 94 krK1 (⟨[(0,(.agg [.v (.int .i64 n),.v (.int .i64 d),.v (.int .i64 q),.xl y P.length 3 (cT P)])),(qN4_4 C z),(2,(.v (.int .i64 p))),(qN4_3 D z0)],[],0,[]⟩) (BaseW.H w hs) (OutH Try.prog Try.f4 94 (.bool true) w):=by
 have hcl_C:=cI_len C
 have hcl_D:=cI_len D
 obtain ⟨hR,hch⟩:=icE_zero hE
 obtain ⟨hm,⟨ha1,ha2,ha3⟩,hp⟩:=roE_zero hR
 have hn:n≤1000:=by omega
 have hv:=drL_lt hl
 rcases Bool.eq_false_or_eq_true (ltI 30 P.length) with hqkr3_1 | hqkr3_1
 ·skip
  have ghqkr3_1:=ltI_true hqkr3_1
  exfalso
  have h9:=ltI_true hqkr3_1
  omega
 ·skip
  have ghqkr3_1:=ltI_false hqkr3_1
  rcases Bool.eq_false_or_eq_true (ltI 40 C.length) with hqkr3_2 | hqkr3_2
  ·skip
   have ghqkr3_2:=ltI_true hqkr3_2
   exfalso
   have h9:=ltI_true hqkr3_2
   omega
  ·skip
   have ghqkr3_2:=ltI_false hqkr3_2
   rcases Bool.eq_false_or_eq_true (ltI 10 D.length) with hqkr3_3 | hqkr3_3
   ·skip
    have ghqkr3_3:=ltI_true hqkr3_3
    exfalso
    have h9:=ltI_true hqkr3_3
    omega
   ·skip
    have ghqkr3_3:=ltI_false hqkr3_3
    rcases Bool.eq_false_or_eq_true (eqI (cdE n d q (cT P) P.length (cI C) C.length p (cI D) D.length) (cdE n d q (cT P) P.length (cI C) C.length p (cI D) D.length)) with hqkr3_4 | hqkr3_4
    ·skip
     have ghqkr3_4:=eqI_true hqkr3_4
     rcases Bool.eq_false_or_eq_true (eqI (icE n d q (cT P) P.length (cI C) C.length) 0) with hqkr3_5 | hqkr3_5
     ·skip
      have ghqkr3_5:=eqI_true hqkr3_5
      rcases Bool.eq_false_or_eq_true (hoB (cT P) q d (cI C) C.length n) with hqkr3_6 | hqkr3_6
      ·skip
       exfalso
       have h9:=eqI_true (show eqI (((drV (cT P) q d (cI C) C.length n):Nat):Int) n=true from hqkr3_6)
       omega
      ·skip
       rcases Bool.eq_false_or_eq_true (eqI (cdE n d q (cT P) P.length (cI C) C.length (((drV (cT P) q d (cI C) C.length n:Nat):Int)) (List.take ((drL (cT P) q d (cI C) C.length n).length * (0 + 1)) (List.drop 0 (cI (drL (cT P) q d (cI C) C.length n)))) (drL (cT P) q d (cI C) C.length n).length) 0) with hqkr3_7 | hqkr3_7
       ·skip
        have ghqkr3_7:=eqI_true hqkr3_7
        exact goes_leafA isR_e (goes_told Try.checked.mixed (known_l4r hw) 200 (T':=⟨[(8,(.v (.bool .true)))],[],2,[]⟩) (e:=.ret) (ps:=[IsT P.length (cT P),ltI 30 P.length=false,false=false,false=false,ltI 40 C.length=false,false=false,false=false,ltI 10 D.length=false,IsT P.length (cT P),IsC 1 C.length (cI C),IsC 1 D.length (cI D),C.length≤1000,D.length≤1000,IsT P.length (cT P),IsC 1 C.length (cI C),IsC 1 D.length (cI D),C.length≤1000,D.length≤1000,(!eqI (cdE n d q (cT P) P.length (cI C) C.length p (cI D) D.length) (cdE n d q (cT P) P.length (cI C) C.length p (cI D) D.length))=false,FreeL (cT P),FreeL (cI C),IsT P.length (cT P),IsC 1 C.length (cI C),icE n d q (cT P) P.length (cI C) C.length=0,C.length≤1000,0 < C.length,0 < (drL (cT P) q d (cI C) C.length n).length,IsT P.length (cT P),IsC 1 C.length (cI C),C.length≤1000,(!eqI (icE n d q (cT P) P.length (cI C) C.length) 0)=false,FreeL (cT P),FreeL (cI C),IsT P.length (cT P),IsC 1 C.length (cI C),icE n d q (cT P) P.length (cI C) C.length=0,C.length≤1000,hoB (cT P) q d (cI C) C.length n=false,eqI 0 0=true,true=true,true=true,true=true,true=true,0 + (drL (cT P) q d (cI C) C.length n).length * (0 + 1)≤((cI (drL (cT P) q d (cI C) C.length n)):List AV).length,IsT P.length (cT P),IsC 1 C.length (cI C),IsC (0 + 1) (drL (cT P) q d (cI C) C.length n).length (List.take ((drL (cT P) q d (cI C) C.length n).length * (0 + 1)) (List.drop 0 (cI (drL (cT P) q d (cI C) C.length n)))),C.length≤1000,(drL (cT P) q d (cI C) C.length n).length≤1000,true=true,eqI (cdE n d q (cT P) P.length (cI C) C.length (((drV (cT P) q d (cI C) C.length n:Nat):Int)) (List.take ((drL (cT P) q d (cI C) C.length n).length * (0 + 1)) (List.drop 0 (cI (drL (cT P) q d (cI C) C.length n)))) (drL (cT P) q d (cI C) C.length n).length) 0=true]) [.go,.go,.go,.go,.b false,.go,.b false,.go,.b false,.go,.go,.go,.b false,.go,.b false,.go,.b false,.go,.go,.b false,.go,.go,.go,.go,.go,.go,.go,.go,.go,.b false,.go,.go,.go,.go,.go,.go,.go,.go,.go,.go,.go,.go,.b false,.go,.go,.b false,.go,.go,.go,.b true,.go,.b true,.go,.b true,.go,.b true,.go,.b true,.b true,.go,.go,.go,.b true,.go,.go] (by kernel_rfl) (by kernel_rfl) ⟨⟨P,rfl,rfl⟩,hqkr3_1,rfl,rfl,hqkr3_2,rfl,rfl,hqkr3_3,⟨P,rfl,rfl⟩,⟨rfl,_,rfl,rfl⟩,⟨rfl,_,rfl,rfl⟩,(by omega),(by omega),⟨P,rfl,rfl⟩,⟨rfl,_,rfl,rfl⟩,⟨rfl,_,rfl,rfl⟩,(by omega),(by omega),(by rw [hqkr3_4]; rfl),(freeL_plain (cT_plain P)),(freeL_plain (cI_plain _)),⟨P,rfl,rfl⟩,⟨rfl,_,rfl,rfl⟩,hE,(by omega),h0,hl,⟨P,rfl,rfl⟩,⟨rfl,_,rfl,rfl⟩,(by omega),(by rw [hqkr3_5]; rfl),(freeL_plain (cT_plain P)),(freeL_plain (cI_plain _)),⟨P,rfl,rfl⟩,⟨rfl,_,rfl,rfl⟩,hE,(by omega),hqkr3_6,rfl,rfl,rfl,rfl,rfl,(by show _≤(cI _).length; rw [cI_len]; omega),⟨P,rfl,rfl⟩,⟨rfl,_,rfl,rfl⟩,⟨rfl,(drL (cT P) q d (cI C) C.length n),takeL,rfl⟩,(by omega),(by have:=drL_le (c:=cT P) (q:=q) (d:=d) (n:=n) (C:=C); omega),rfl,hqkr3_7,trivial⟩ rfl) (Hd.en_eq (r:=(.bool .true)) (by rfl) (Hd.en_ret (v:=(.v (.bool .true))) (by kernel_rfl) rfl))
       ·skip
        have ghqkr3_7:=eqI_false hqkr3_7
        exact absurd (show cdE n d q (cT P) P.length (cI C) C.length (((drV (cT P) q d (cI C) C.length n):Nat):Int) (List.take ((drL (cT P) q d (cI C) C.length n).length * 1) (List.drop 0 (cI (drL (cT P) q d (cI C) C.length n)))) (drL (cT P) q d (cI C) C.length n).length=0 from by rw [takeL]; exact dk_ok hE hv) (eqI_false hqkr3_7)
     ·skip
      have ghqkr3_5:=eqI_false hqkr3_5
      rcases Bool.eq_false_or_eq_true (eqI 0 (icE n d q (cT P) P.length (cI C) C.length)) with hqkr3_8 | hqkr3_8
      ·skip
       have ghqkr3_8:=eqI_true hqkr3_8
       rcases Bool.eq_false_or_eq_true (eqI (((drV (cT P) q d (cI C) C.length n:Nat):Int)) 0) with hqkr3_9 | hqkr3_9
       ·skip
        have ghqkr3_9:=eqI_true hqkr3_9
        rcases Bool.eq_false_or_eq_true (eqI ((((drL (cT P) q d (cI C) C.length n).length:Nat):Int)) 0) with hqkr3_10 | hqkr3_10
        ·skip
         have ghqkr3_10:=eqI_true hqkr3_10
         exact absurd hE (eqI_false hqkr3_5)
        ·skip
         have ghqkr3_10:=eqI_false hqkr3_10
         exact absurd hE (eqI_false hqkr3_5)
       ·skip
        have ghqkr3_9:=eqI_false hqkr3_9
        exact absurd hE (eqI_false hqkr3_5)
      ·skip
       have ghqkr3_8:=eqI_false hqkr3_8
       exact absurd hE (eqI_false hqkr3_5)
    ·skip
     have ghqkr3_4:=eqI_false hqkr3_4
     exact absurd (eqI_self _) (by rw [hqkr3_4]; decide)
theorem sdk_r (n:Nat) (d q:Int) (y:Value) (P:List (Int×Int×Int)) (z:Value) (C:List Int) (p:Int) (z0:Value) (D:List Int) (hw:Known Try.prog (clsO wkO)) (hE:icE n d q (cT P) P.length (cI C) C.length=0) (h30:P.length≤30) (h40:C.length≤40) (h10:D.length≤10) (h0:0 < C.length) (hl:0 < (drL (cT P) q d (cI C) C.length n).length):GivesA Try.prog 4 [(.agg [.v (.int .i64 n),.v (.int .i64 d),.v (.int .i64 q),.xl y P.length 3 (cT P)]),(.xl z C.length 1 (cI C)),(.v (.int .i64 p)),(.xl z0 D.length 1 (cI D))] (.bool true) :=
 givesA_partsH 94 Try.func4 (by kernel_rfl) (by kernel_rfl) (by kernel_rfl) (fun w=>goes_less (by kernel_rfl) (by kernel_rfl) (by kernel_rfl) (by kernel_rfl) (kr_2 n d q y P z C p z0 D hw hE h30 h40 h10 h0 hl w []))
theorem law_darks (hw:Known Try.prog (clsO wkO)) (n d q:Int) (y:Value) (P:List (Int×Int×Int)) (z:Value) (C:List Int) (p:Int) (z0:Value) (D:List Int):GivesA Try.prog 4 [(.agg [.v (.int .i64 n),.v (.int .i64 d),.v (.int .i64 q),.xl y P.length 3 (cT P)]),(.xl z C.length 1 (cI C)),(.v (.int .i64 p)),(.xl z0 D.length 1 (cI D))] (.bool true):=by
 by_cases h30:30 < P.length
 ·exact sdk_P n d q y P z C p z0 D hw h30
 by_cases h40:40 < C.length
 ·exact sdk_C n d q y P z C p z0 D hw (by omega) h40
 by_cases h10:10 < D.length
 ·exact sdk_D n d q y P z C p z0 D hw (by omega) (by omega) h10
 by_cases hE:icE n d q (cT P) P.length (cI C) C.length=0
 ·obtain ⟨n,rfl⟩:∃ k:Nat,n=((k:Nat):Int):=⟨n.toNat,by have h9:=(roE_zero (icE_zero hE).1).2.1.1; omega⟩
  rcases Nat.eq_zero_or_pos C.length with h0 | h0
  ·exact sdk_a n d q y P z C p z0 D hw hE (by omega) (by omega) (by omega) h0
  ·by_cases hv:drV (cT P) q d (cI C) C.length n=n
   ·exact sdk_5 n d q y P z C p z0 D hw hE (by omega) (by omega) (by omega) h0 hv
   ·have hv2:drV (cT P) q d (cI C) C.length n < n:=by have h9:drV (cT P) q d (cI C) C.length n≤n:=fst_le _ _; omega
    rcases Nat.eq_zero_or_pos (drL (cT P) q d (cI C) C.length n).length with hl | hl
    ·exact sdk_n n d q y P z C p z0 D hw hE (by omega) (by omega) (by omega) h0 hv2 hl
    ·exact sdk_r n d q y P z C p z0 D hw hE (by omega) (by omega) (by omega) h0 hl
 ·exact sdk_b n d q y P z C p z0 D hw hE (by omega) (by omega) (by omega)
end
end Go.Proofs.Ytnphldmnakbknaa
