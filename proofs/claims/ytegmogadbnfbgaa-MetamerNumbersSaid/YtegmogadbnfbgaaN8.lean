import Derived.Test.YtegmogadbnfbgaaN7b
set_option maxHeartbeats 2000000
set_option linter.all false
/- What is known of See and lookAt. -/
namespace Go.Proofs.Ytegmogadbnfbgaa
open Go Ev
noncomputable section
section
variable (E : List (Value × List (Int × Int))) (L : List (Int × Int)) (M : List Int) (X : List (Value × List Int)) (Y : List Int) (u ul y yl z : Value)
@[reducible] def qN8_4:Ev.AV:=(.agg [.xl y E.length 1 (cQw E),.xl yl L.length 2 (cR L)])
@[reducible] def qN8_5:Ev.AV:=(.agg [.xl u X.length 1 (cRw X),.xl ul Y.length 1 (cI Y)])
@[reducible] def qN8_1:Ev.Lit:=⟨[(0,(qN8_4 E L y yl)),(1,(qN8_5 X Y u ul)),(2,(.xl z M.length 1 (cI M)))],[],0,[]⟩
@[reducible] def qN8_6:Nat×Ev.AV:=(6,(.v (Value.slice none 0 0)))
@[reducible] def qN8_2:Ev.Lit:=⟨[qN8_6,(7,(.v (.int .i64 (ctE (cQw E) (cR L) L.length (cRw X) X.length (cI Y) Y.length))))],[],0,[]⟩
@[reducible] def qN8_3:Ev.Lit:=⟨[qN8_6,(7,(.v (.int .i64 (ccE (cQw E) E.length (cR L) L.length))))],[],0,[]⟩
end
def laS:List AV→List AB→Option ((AV×List AB)×List Prop):=fun args xs =>
 match args,xs with
 | [.agg [.xl y m k1 cE,.xl yl n k2 cL],.xl z r k5 cM],[]=>some ((.agg [.xl y m k1 cE,.xl yl n k2 cL,.fn (.func 78) [.xl z r k5 cM] []],[]),[IsEq k1 cE m,IsPr k2 n cL,IsI k5 r cM])
 | _,_=>none
def laO:OrcH:=mOrc 53 laS
theorem known_la:Known Try.prog (clsO laO):=known_m (fun args xs r ys ps h hp=>by
 unfold laS at h
 split at h
 ·cases h
  obtain ⟨⟨rfl,E,rfl,rfl⟩,⟨rfl,L,rfl,rfl⟩,⟨rfl,M,rfl,rfl⟩,-⟩:=hp
  exact ⟨fun x hx=>absurd hx List.not_mem_nil,fun x hx=>absurd hx List.not_mem_nil,la_g _ E _ L _ M⟩
 ·cases h)
def gsS:List AV→Option (Res1×List Prop):=fun vs =>
 match vs with
 | [.agg [.xl u mx k3 cX,.xl ul nx k4 cY],.xl z r k5 cM]=>some (.blk (fun b=>.sl b 0 3 3) (.cells (cI (tI (thA (nuP cX cY cM) r 3) 3)) 2),[NuOK k3 mx k4 nx k5 r cX cY cM r,r≤8])
 | _=>none
def gsO:OrcH:=extOrc 31 gsS
theorem known_gs:Known Try.prog (clsO gsO):=known_ext (fun vs r ps h hp=>by
 unfold gsS at h
 split at h
 ·cases h
  obtain ⟨⟨X,Y,M,⟨rfl,rfl,rfl⟩,⟨rfl,rfl,rfl⟩,⟨rfl,rfl,rfl⟩,h1,h2,h3,h4,h5,h6,h7⟩,h8,-⟩:=hp
  refine ⟨extL_cons (ext_true X Y) (extL_cons (ext_xl (extL_plain (cI_plain M))) extL_nil),?_⟩
  exact givesB_of (sr_g _ X _ Y _ M h8 h1 h2 h3 h5 h6 h7) (one_sl _ (cI_plain _))
 ·cases h)
noncomputable def nuocK1:Code:=bodyC Try.f16
theorem nuoc_2 (y:Value) (E:List (Value×List (Int×Int))) (yl:Value) (L:List (Int×Int)) (u:Value) (X:List (Value×List Int)) (ul:Value) (Y:List Int) (z:Value) (M:List Int) (hE3:E.length≤1000) (hC:¬ ccE (cQw E) E.length (cR L) L.length=0) (v:BaseW) (eb:Nat→Option Nat) (ec:Nat→Nat) (hs:List Nat):Goes Try.prog 31 nuocK1 ((qN8_1 E L M X Y u ul y yl z)) (BaseW.H (bw v 0 eb ec) hs) (OutM Try.prog Try.f16 31 ((.tup [.v (.slice none 0 0),.v (.int .i64 (ccE (cQw E) E.length (cR L) L.length))])) [] (bw v 0 eb ec)):=by
 have hcl_L:=cR_len L
 have hcl_Y:=cI_len Y
 have hcl_M:=cI_len M
 rcases Bool.eq_false_or_eq_true (eqI (ccE (cQw E) E.length (cR L) L.length) 0) with hqnuoc3_1 | hqnuoc3_1
 ·skip
  have ghqnuoc3_1:=eqI_true hqnuoc3_1
  rcases Bool.eq_false_or_eq_true (eqI M.length L.length) with hqnuoc3_2 | hqnuoc3_2
  ·skip
   have ghqnuoc3_2:=eqI_true hqnuoc3_2
   rcases Bool.eq_false_or_eq_true (afB 0 1000 (cI M) M.length) with hqnuoc3_3 | hqnuoc3_3
   ·skip
    rcases Bool.eq_false_or_eq_true (eqI (ctE (cQw E) (cR L) L.length (cRw X) X.length (cI Y) Y.length) 0) with hqnuoc3_4 | hqnuoc3_4
    ·skip
     have ghqnuoc3_4:=eqI_true hqnuoc3_4
     exact absurd (eqI_true hqnuoc3_1) hC
    ·skip
     have ghqnuoc3_4:=eqI_false hqnuoc3_4
     exact absurd (eqI_true hqnuoc3_1) hC
   ·skip
    exact absurd (eqI_true hqnuoc3_1) hC
  ·skip
   have ghqnuoc3_2:=eqI_false hqnuoc3_2
   exact absurd (eqI_true hqnuoc3_1) hC
 ·skip
  have ghqnuoc3_1:=eqI_false hqnuoc3_1
  exact goes_leafA isR_e (goes_cut Try.checked.mixed (known_or (known_or known_gc known_af) (known_or known_gt (known_or known_gn known_la))) 200 (T':=(qN8_3 E L)) (e:=.ret) (m:=4) (ps:=[IsEq 1 (cQw E) E.length,IsPr 2 L.length (cR L),E.length≤1000,(!eqI (ccE (cQw E) E.length (cR L) L.length) 0)=true,(!eqI (ccE (cQw E) E.length (cR L) L.length) 0)=true]) [.go,.go,.go,.go,.go,.go,.go,.go,.go,.go,.go,.go,.go,.b true,.go,.go,.go,.go,.go,.b true,.go,.go,.go] (by kernel_rfl) (by kernel_rfl) ⟨⟨rfl,E,rfl,rfl⟩,⟨rfl,L,rfl,rfl⟩,hE3,(by rw [hqnuoc3_1]; rfl),(by rw [hqnuoc3_1]; rfl),trivial⟩ rfl (by show 0≤4; decide) ⟨⟨nb_v _,nb_v _,trivial⟩,trivial,rfl⟩ (by show 0≤0; decide)) (en_eqM (r:=(.tup [(.v (Value.slice none 0 0)),(.v (.int .i64 (ccE (cQw E) E.length (cR L) L.length)))])) (ys:=[]) (by rfl) (by rfl) (en_retM (by kernel_rfl) (by kernel_rfl) rfl (.inr rfl)))
theorem nuoc_g (y:Value) (E:List (Value×List (Int×Int))) (yl:Value) (L:List (Int×Int)) (u:Value) (X:List (Value×List Int)) (ul:Value) (Y:List Int) (z:Value) (M:List Int) (hE3:E.length≤1000) (hC:¬ ccE (cQw E) E.length (cR L) L.length=0):GivesM Try.prog 16 [(qN8_4 E L y yl),(qN8_5 X Y u ul),(.xl z M.length 1 (cI M))] [] ((.tup [.v (.slice none 0 0),.v (.int .i64 (ccE (cQw E) E.length (cR L) L.length))])) [] :=
 givesM_parts 31 (by kernel_rfl) Try.func16 (by kernel_rfl) (by kernel_rfl) (by kernel_rfl) (fun v eb ec=>goes_less (by kernel_rfl) (by kernel_rfl) (by kernel_rfl) (by kernel_rfl) (nuoc_2 y E yl L u X ul Y z M hE3 hC v eb ec []))
noncomputable def nuohK1:Code:=bodyC Try.f16
theorem nuoh_2 (y:Value) (E:List (Value×List (Int×Int))) (yl:Value) (L:List (Int×Int)) (u:Value) (X:List (Value×List Int)) (ul:Value) (Y:List Int) (z:Value) (M:List Int) (hE3:E.length≤1000) (hX:X.length≤1000) (hM3:M.length≤1000) (hC:ccE (cQw E) E.length (cR L) L.length=0) (hH:¬ chE L.length (cI M) M.length=0) (v:BaseW) (eb:Nat→Option Nat) (ec:Nat→Nat) (hs:List Nat):Goes Try.prog 31 nuohK1 ((qN8_1 E L M X Y u ul y yl z)) (BaseW.H (bw v 0 eb ec) hs) (OutM Try.prog Try.f16 31 ((.tup [.v (.slice none 0 0),.v (.int .i64 (chE L.length (cI M) M.length))])) [] (bw v 0 eb ec)):=by
 have hcl_L:=cR_len L
 have hcl_Y:=cI_len Y
 have hcl_M:=cI_len M
 obtain ⟨hn,hm3,hrow,hlam,hcur⟩:=ccE_zero hC
 rcases Bool.eq_false_or_eq_true (eqI (ccE (cQw E) E.length (cR L) L.length) 0) with hqnuoh3_1 | hqnuoh3_1
 ·skip
  have ghqnuoh3_1:=eqI_true hqnuoh3_1
  rcases Bool.eq_false_or_eq_true (eqI M.length L.length) with hqnuoh3_2 | hqnuoh3_2
  ·skip
   have ghqnuoh3_2:=eqI_true hqnuoh3_2
   rcases Bool.eq_false_or_eq_true (afB 0 1000 (cI M) M.length) with hqnuoh3_3 | hqnuoh3_3
   ·skip
    rcases Bool.eq_false_or_eq_true (eqI (ctE (cQw E) (cR L) L.length (cRw X) X.length (cI Y) Y.length) 0) with hqnuoh3_4 | hqnuoh3_4
    ·skip
     have ghqnuoh3_4:=eqI_true hqnuoh3_4
     exact absurd (chE_ok (by have h9:=eqI_true hqnuoh3_2; omega) hqnuoh3_3) hH
    ·skip
     have ghqnuoh3_4:=eqI_false hqnuoh3_4
     exact absurd (chE_ok (by have h9:=eqI_true hqnuoh3_2; omega) hqnuoh3_3) hH
   ·skip
    exact goes_leafA isR_e (goes_cut Try.checked.mixed (known_or (known_or known_gc known_af) (known_or known_gt (known_or known_gn known_la))) 200 (T':=⟨[qN8_6,(7,(.v (.int .i64 (.ofNat 2))))],[],0,[]⟩) (e:=.ret) (m:=4) (ps:=[IsEq 1 (cQw E) E.length,IsPr 2 L.length (cR L),E.length≤1000,(!eqI (ccE (cQw E) E.length (cR L) L.length) 0)=false,ltI 0 1=true,(!eqI M.length L.length)=false,IsI 1 M.length (cI M),M.length≤1000,(!afB 0 1000 (cI M) M.length)=true,(!eqI 2 0)=true]) [.go,.go,.go,.go,.go,.go,.go,.go,.go,.go,.go,.go,.go,.b false,.go,.go,.go,.go,.b true,.go,.go,.go,.go,.go,.go,.go,.go,.go,.b false,.go,.go,.b true,.go,.go,.go,.go,.b true,.go,.go,.go] (by kernel_rfl) (by kernel_rfl) ⟨⟨rfl,E,rfl,rfl⟩,⟨rfl,L,rfl,rfl⟩,hE3,(by rw [hqnuoh3_1]; rfl),rfl,(by rw [hqnuoh3_2]; rfl),⟨rfl,M,rfl,rfl⟩,(by omega),(by rw [hqnuoh3_3]; rfl),rfl,trivial⟩ rfl (by show 0≤4; decide) ⟨⟨nb_v _,nb_v _,trivial⟩,trivial,rfl⟩ (by show 0≤0; decide)) (en_eqM (r:=(.tup [(.v (Value.slice none 0 0)),(.v (.int .i64 (.ofNat 2)))])) (ys:=[]) (by (rw [chE_bad (n:=L.length) (d:=cI M) (k:=M.length) (by omega) (by rw [hqnuoh3_3]; decide)]; rfl)) (by rfl) (en_retM (by kernel_rfl) (by kernel_rfl) rfl (.inr rfl)))
  ·skip
   have ghqnuoh3_2:=eqI_false hqnuoh3_2
   exact goes_leafA isR_e (goes_cut Try.checked.mixed (known_or (known_or known_gc known_af) (known_or known_gt (known_or known_gn known_la))) 200 (T':=⟨[qN8_6,(7,(.v (.int .i64 (.ofNat 15))))],[],0,[]⟩) (e:=.ret) (m:=4) (ps:=[IsEq 1 (cQw E) E.length,IsPr 2 L.length (cR L),E.length≤1000,(!eqI (ccE (cQw E) E.length (cR L) L.length) 0)=false,ltI 0 1=true,(!eqI M.length L.length)=true,(!eqI 15 0)=true]) [.go,.go,.go,.go,.go,.go,.go,.go,.go,.go,.go,.go,.go,.b false,.go,.go,.go,.go,.b true,.go,.go,.go,.go,.go,.go,.go,.go,.go,.b true,.go,.go,.go,.go,.b true,.go,.go,.go] (by kernel_rfl) (by kernel_rfl) ⟨⟨rfl,E,rfl,rfl⟩,⟨rfl,L,rfl,rfl⟩,hE3,(by rw [hqnuoh3_1]; rfl),rfl,(by rw [hqnuoh3_2]; rfl),rfl,trivial⟩ rfl (by show 0≤4; decide) ⟨⟨nb_v _,nb_v _,trivial⟩,trivial,rfl⟩ (by show 0≤0; decide)) (en_eqM (r:=(.tup [(.v (Value.slice none 0 0)),(.v (.int .i64 (.ofNat 15)))])) (ys:=[]) (by (rw [chE_len (n:=L.length) (d:=cI M) (k:=M.length) (by omega)]; rfl)) (by rfl) (en_retM (by kernel_rfl) (by kernel_rfl) rfl (.inr rfl)))
 ·skip
  have ghqnuoh3_1:=eqI_false hqnuoh3_1
  exact absurd hC (eqI_false hqnuoh3_1)
theorem nuoh_g (y:Value) (E:List (Value×List (Int×Int))) (yl:Value) (L:List (Int×Int)) (u:Value) (X:List (Value×List Int)) (ul:Value) (Y:List Int) (z:Value) (M:List Int) (hE3:E.length≤1000) (hX:X.length≤1000) (hM3:M.length≤1000) (hC:ccE (cQw E) E.length (cR L) L.length=0) (hH:¬ chE L.length (cI M) M.length=0):GivesM Try.prog 16 [(qN8_4 E L y yl),(qN8_5 X Y u ul),(.xl z M.length 1 (cI M))] [] ((.tup [.v (.slice none 0 0),.v (.int .i64 (chE L.length (cI M) M.length))])) [] :=
 givesM_parts 31 (by kernel_rfl) Try.func16 (by kernel_rfl) (by kernel_rfl) (by kernel_rfl) (fun v eb ec=>goes_less (by kernel_rfl) (by kernel_rfl) (by kernel_rfl) (by kernel_rfl) (nuoh_2 y E yl L u X ul Y z M hE3 hX hM3 hC hH v eb ec []))
noncomputable def nuotK1:Code:=bodyC Try.f16
theorem nuot_2 (y:Value) (E:List (Value×List (Int×Int))) (yl:Value) (L:List (Int×Int)) (u:Value) (X:List (Value×List Int)) (ul:Value) (Y:List Int) (z:Value) (M:List Int) (hE3:E.length≤1000) (hX:X.length≤1000) (hM3:M.length≤1000) (hC:ccE (cQw E) E.length (cR L) L.length=0) (hH:chE L.length (cI M) M.length=0) (hT:¬ ctE (cQw E) (cR L) L.length (cRw X) X.length (cI Y) Y.length=0) (v:BaseW) (eb:Nat→Option Nat) (ec:Nat→Nat) (hs:List Nat):Goes Try.prog 31 nuotK1 ((qN8_1 E L M X Y u ul y yl z)) (BaseW.H (bw v 0 eb ec) hs) (OutM Try.prog Try.f16 31 ((.tup [.v (.slice none 0 0),.v (.int .i64 (ctE (cQw E) (cR L) L.length (cRw X) X.length (cI Y) Y.length))])) [] (bw v 0 eb ec)):=by
 have hcl_L:=cR_len L
 have hcl_Y:=cI_len Y
 have hcl_M:=cI_len M
 obtain ⟨hn,hm3,hrow,hlam,hcur⟩:=ccE_zero hC
 rcases Bool.eq_false_or_eq_true (eqI (ccE (cQw E) E.length (cR L) L.length) 0) with hqnuot3_1 | hqnuot3_1
 ·skip
  have ghqnuot3_1:=eqI_true hqnuot3_1
  rcases Bool.eq_false_or_eq_true (eqI M.length L.length) with hqnuot3_2 | hqnuot3_2
  ·skip
   have ghqnuot3_2:=eqI_true hqnuot3_2
   rcases Bool.eq_false_or_eq_true (afB 0 1000 (cI M) M.length) with hqnuot3_3 | hqnuot3_3
   ·skip
    rcases Bool.eq_false_or_eq_true (eqI (ctE (cQw E) (cR L) L.length (cRw X) X.length (cI Y) Y.length) 0) with hqnuot3_4 | hqnuot3_4
    ·skip
     have ghqnuot3_4:=eqI_true hqnuot3_4
     exact absurd (eqI_true hqnuot3_4) hT
    ·skip
     have ghqnuot3_4:=eqI_false hqnuot3_4
     exact goes_leafA isR_e (goes_cut Try.checked.mixed (known_or (known_or known_gc known_af) (known_or known_gt (known_or known_gn known_la))) 200 (T':=(qN8_2 E L X Y)) (e:=.ret) (m:=4) (ps:=[IsEq 1 (cQw E) E.length,IsPr 2 L.length (cR L),E.length≤1000,(!eqI (ccE (cQw E) E.length (cR L) L.length) 0)=false,ltI 0 1=true,(!eqI M.length L.length)=false,IsI 1 M.length (cI M),M.length≤1000,(!afB 0 1000 (cI M) M.length)=false,inR IntKind.i64 (0 + 1),ltI (0 + 1) 1=false,(!eqI 0 0)=false,IsEq 1 (cQw E) E.length,IsPr 2 L.length (cR L),IsEi 1 (cRw X) X.length,IsI 1 Y.length (cI Y),ccE (cQw E) E.length (cR L) L.length=0,X.length≤1000,(!eqI (ctE (cQw E) (cR L) L.length (cRw X) X.length (cI Y) Y.length) 0)=true]) [.go,.go,.go,.go,.go,.go,.go,.go,.go,.go,.go,.go,.go,.b false,.go,.go,.go,.go,.b true,.go,.go,.go,.go,.go,.go,.go,.go,.go,.b false,.go,.go,.b false,.go,.go,.go,.b false,.go,.go,.go,.go,.b false,.go,.go,.go,.go,.go,.b true,.go,.go,.go] (by kernel_rfl) (by kernel_rfl) ⟨⟨rfl,E,rfl,rfl⟩,⟨rfl,L,rfl,rfl⟩,hE3,(by rw [hqnuot3_1]; rfl),rfl,(by rw [hqnuot3_2]; rfl),⟨rfl,M,rfl,rfl⟩,(by omega),(by rw [hqnuot3_3]; rfl),(by show -9223372036854775808≤(_:Int)∧(_:Int)≤9223372036854775807; constructor <;> decide),rfl,rfl,⟨rfl,E,rfl,rfl⟩,⟨rfl,L,rfl,rfl⟩,⟨rfl,X,rfl,rfl⟩,⟨rfl,Y,rfl,rfl⟩,hC,hX,(by rw [hqnuot3_4]; rfl),trivial⟩ rfl (by show 0≤4; decide) ⟨⟨nb_v _,nb_v _,trivial⟩,trivial,rfl⟩ (by show 0≤0; decide)) (en_eqM (r:=(.tup [(.v (Value.slice none 0 0)),(.v (.int .i64 (ctE (cQw E) (cR L) L.length (cRw X) X.length (cI Y) Y.length)))])) (ys:=[]) (by rfl) (by rfl) (en_retM (by kernel_rfl) (by kernel_rfl) rfl (.inr rfl)))
   ·skip
    exact absurd (chE_zero hH).2 (by rw [hqnuot3_3]; decide)
  ·skip
   have ghqnuot3_2:=eqI_false hqnuot3_2
   exfalso
   have h9:=(chE_zero hH).1
   have h8:=eqI_false hqnuot3_2
   omega
 ·skip
  have ghqnuot3_1:=eqI_false hqnuot3_1
  exact absurd hC (eqI_false hqnuot3_1)
theorem nuot_g (y:Value) (E:List (Value×List (Int×Int))) (yl:Value) (L:List (Int×Int)) (u:Value) (X:List (Value×List Int)) (ul:Value) (Y:List Int) (z:Value) (M:List Int) (hE3:E.length≤1000) (hX:X.length≤1000) (hM3:M.length≤1000) (hC:ccE (cQw E) E.length (cR L) L.length=0) (hH:chE L.length (cI M) M.length=0) (hT:¬ ctE (cQw E) (cR L) L.length (cRw X) X.length (cI Y) Y.length=0):GivesM Try.prog 16 [(qN8_4 E L y yl),(qN8_5 X Y u ul),(.xl z M.length 1 (cI M))] [] ((.tup [.v (.slice none 0 0),.v (.int .i64 (ctE (cQw E) (cR L) L.length (cRw X) X.length (cI Y) Y.length))])) [] :=
 givesM_parts 31 (by kernel_rfl) Try.func16 (by kernel_rfl) (by kernel_rfl) (by kernel_rfl) (fun v eb ec=>goes_less (by kernel_rfl) (by kernel_rfl) (by kernel_rfl) (by kernel_rfl) (nuot_2 y E yl L u X ul Y z M hE3 hX hM3 hC hH hT v eb ec []))
noncomputable def nuooK1:Code:=bodyC Try.f16
theorem nuoo_2 (y:Value) (E:List (Value×List (Int×Int))) (yl:Value) (L:List (Int×Int)) (u:Value) (X:List (Value×List Int)) (ul:Value) (Y:List Int) (z:Value) (M:List Int) (hE3:E.length≤1000) (hX:X.length≤1000) (hM3:M.length≤1000) (hC:ccE (cQw E) E.length (cR L) L.length=0) (hH:chE L.length (cI M) M.length=0) (hT:ctE (cQw E) (cR L) L.length (cRw X) X.length (cI Y) Y.length=0) (v:BaseW) (eb:Nat→Option Nat) (ec:Nat→Nat) (hs:List Nat):Goes Try.prog 31 nuooK1 (⟨[(0,(.agg [.xl y E.length 1 (cQw E),.xl yl L.length 2 (cR L)])),(1,(.agg [.xl u X.length 1 (cRw X),.xl ul Y.length 1 (cI Y)])),(2,(.xl z M.length 1 (cI M)))],[],0,[]⟩) (BaseW.H (bw v 0 eb ec) hs) (OutM Try.prog Try.f16 31 ((.tup [.sl 0 0 3 3,.v (.int .i64 0)])) [(.cells (cI (tI (thA (nuP (cRw X) (cI Y) (cI M)) L.length 3) 3)) 2)] (bw v 0 eb ec)):=by
 have hcl_L:=cR_len L
 have hcl_Y:=cI_len Y
 have hcl_M:=cI_len M
 obtain ⟨hn,hm3,hrow,hlam,hcur⟩:=ccE_zero hC
 rcases Bool.eq_false_or_eq_true (eqI (ccE (cQw E) E.length (cR L) L.length) 0) with hqnuoo3_1 | hqnuoo3_1
 ·skip
  have ghqnuoo3_1:=eqI_true hqnuoo3_1
  rcases Bool.eq_false_or_eq_true (eqI M.length L.length) with hqnuoo3_2 | hqnuoo3_2
  ·skip
   have ghqnuoo3_2:=eqI_true hqnuoo3_2
   rcases Bool.eq_false_or_eq_true (afB 0 1000 (cI M) M.length) with hqnuoo3_3 | hqnuoo3_3
   ·skip
    rcases Bool.eq_false_or_eq_true (eqI (ctE (cQw E) (cR L) L.length (cRw X) X.length (cI Y) Y.length) 0) with hqnuoo3_4 | hqnuoo3_4
    ·skip
     have ghqnuoo3_4:=eqI_true hqnuoo3_4
     exact goes_leafA isR_e (goes_cutR Try.checked.mixed (known_or (known_or known_gc known_af) (known_or known_gt (known_or known_gn known_la))) 200 (T':=⟨[(6,(.sl 0 0 3 3)),(7,(.v (.int .i64 (.ofNat 0))))],[],1,[(0,(.cells [(.v (.int .i64 (smF (nuP (cRw X) (cI Y) (cI M) 0) L.length))),(.v (.int .i64 (smF (nuP (cRw X) (cI Y) (cI M) 1) L.length))),(.v (.int .i64 (smF (nuP (cRw X) (cI Y) (cI M) 2) L.length)))] 2))]⟩) (e:=.ret) (m:=6) (ps:=[IsEq 1 (cQw E) E.length,IsPr 2 L.length (cR L),E.length≤1000,(!eqI (ccE (cQw E) E.length (cR L) L.length) 0)=false,ltI 0 1=true,(!eqI M.length L.length)=false,IsI 1 M.length (cI M),M.length≤1000,(!afB 0 1000 (cI M) M.length)=false,inR IntKind.i64 (0 + 1),ltI (0 + 1) 1=false,(!eqI 0 0)=false,IsEq 1 (cQw E) E.length,IsPr 2 L.length (cR L),IsEi 1 (cRw X) X.length,IsI 1 Y.length (cI Y),ccE (cQw E) E.length (cR L) L.length=0,X.length≤1000,(!eqI (ctE (cQw E) (cR L) L.length (cRw X) X.length (cI Y) Y.length) 0)=false,FreeL (cQw E),FreeL (cR L),FreeL (cI M),IsEq 1 (cQw E) E.length,IsPr 2 L.length (cR L),IsI 1 M.length (cI M),FreeL (cQw E),FreeL (cR L),FreeL (cI M),IsEq 1 (cQw E) E.length,IsPr 2 L.length (cR L),L.length≤8,NuOK 1 X.length 1 Y.length 1 M.length (cRw X) (cI Y) (cI M) L.length]) [.go,.go,.go,.go,.go,.go,.go,.go,.go,.go,.go,.go,.go,.b false,.go,.go,.go,.go,.b true,.go,.go,.go,.go,.go,.go,.go,.go,.go,.b false,.go,.go,.b false,.go,.go,.go,.b false,.go,.go,.go,.go,.b false,.go,.go,.go,.go,.go,.b false,.go,.go,.go,.go,.go,.go,.go,.go,.go,.go,.go,.go,.go,.go,.go,.go,.go,.go] [5] [(.sl 5 0 3 3),(.v (.int .i64 (.ofNat 0)))] [(.cells [(.v (.int .i64 (smF (nuP (cRw X) (cI Y) (cI M) 0) L.length))),(.v (.int .i64 (smF (nuP (cRw X) (cI Y) (cI M) 1) L.length))),(.v (.int .i64 (smF (nuP (cRw X) (cI Y) (cI M) 2) L.length)))] 2)] (by kernel_rfl) (by kernel_rfl) ⟨⟨rfl,E,rfl,rfl⟩,⟨rfl,L,rfl,rfl⟩,hE3,(by rw [hqnuoo3_1]; rfl),rfl,(by rw [hqnuoo3_2]; rfl),⟨rfl,M,rfl,rfl⟩,(by omega),(by rw [hqnuoo3_3]; rfl),(by show -9223372036854775808≤(_:Int)∧(_:Int)≤9223372036854775807; constructor <;> decide),rfl,rfl,⟨rfl,E,rfl,rfl⟩,⟨rfl,L,rfl,rfl⟩,⟨rfl,X,rfl,rfl⟩,⟨rfl,Y,rfl,rfl⟩,hC,hX,(by rw [hqnuoo3_4]; rfl),(freeL_plainQ E),(freeL_plain (cR_plain _)),(freeL_plain (cI_plain _)),⟨rfl,E,rfl,rfl⟩,⟨rfl,L,rfl,rfl⟩,⟨rfl,M,rfl,rfl⟩,(freeL_plainQ E),(freeL_plain (cR_plain _)),(freeL_plain (cI_plain _)),⟨rfl,E,rfl,rfl⟩,⟨rfl,L,rfl,rfl⟩,(by omega),(nuOK_of hC hT hH),trivial⟩ rfl rfl (by decide) rfl ⟨nr_sl rfl,nr_v _,trivial⟩ ⟨⟨by show 0 < 1; decide,nrb_cells (nrl_cons (nr_v _) (nrl_cons (nr_v _) (nrl_cons (nr_v _) (nrl_nil))))⟩,trivial⟩) (en_eqM (r:=(.tup [(.sl 0 0 3 3),(.v (.int .i64 (.ofNat 0)))])) (ys:=[(.cells [(.v (.int .i64 (smF (nuP (cRw X) (cI Y) (cI M) 0) L.length))),(.v (.int .i64 (smF (nuP (cRw X) (cI Y) (cI M) 1) L.length))),(.v (.int .i64 (smF (nuP (cRw X) (cI Y) (cI M) 2) L.length)))] 2)]) (by rfl) (by (rw [thA_all])) (en_retM (by kernel_rfl) (by kernel_rfl) rfl (.inr rfl)))
    ·skip
     have ghqnuoo3_4:=eqI_false hqnuoo3_4
     exact absurd hT (eqI_false hqnuoo3_4)
   ·skip
    exact absurd (chE_zero hH).2 (by rw [hqnuoo3_3]; decide)
  ·skip
   have ghqnuoo3_2:=eqI_false hqnuoo3_2
   exfalso
   have h9:=(chE_zero hH).1
   have h8:=eqI_false hqnuoo3_2
   omega
 ·skip
  have ghqnuoo3_1:=eqI_false hqnuoo3_1
  exact absurd hC (eqI_false hqnuoo3_1)
theorem nuoo_g (y:Value) (E:List (Value×List (Int×Int))) (yl:Value) (L:List (Int×Int)) (u:Value) (X:List (Value×List Int)) (ul:Value) (Y:List Int) (z:Value) (M:List Int) (hE3:E.length≤1000) (hX:X.length≤1000) (hM3:M.length≤1000) (hC:ccE (cQw E) E.length (cR L) L.length=0) (hH:chE L.length (cI M) M.length=0) (hT:ctE (cQw E) (cR L) L.length (cRw X) X.length (cI Y) Y.length=0):GivesM Try.prog 16 [(qN8_4 E L y yl),(qN8_5 X Y u ul),(.xl z M.length 1 (cI M))] [] ((.tup [.sl 0 0 3 3,.v (.int .i64 0)])) [(.cells (cI (tI (thA (nuP (cRw X) (cI Y) (cI M)) L.length 3) 3)) 2)] :=
 givesM_parts 31 (by kernel_rfl) Try.func16 (by kernel_rfl) (by kernel_rfl) (by kernel_rfl) (fun v eb ec=>goes_less (by kernel_rfl) (by kernel_rfl) (by kernel_rfl) (by kernel_rfl) (nuoo_2 y E yl L u X ul Y z M hE3 hX hM3 hC hH hT v eb ec []))
noncomputable def nurcK1:Code:=bodyC Try.f17
theorem nurc_2 (y:Value) (E:List (Value×List (Int×Int))) (yl:Value) (L:List (Int×Int)) (u:Value) (X:List (Value×List Int)) (ul:Value) (Y:List Int) (z:Value) (M:List Int) (hE3:E.length≤1000) (hC:¬ ccE (cQw E) E.length (cR L) L.length=0) (v:BaseW) (eb:Nat→Option Nat) (ec:Nat→Nat) (hs:List Nat):Goes Try.prog 30 nurcK1 ((qN8_1 E L M X Y u ul y yl z)) (BaseW.H (bw v 0 eb ec) hs) (OutM Try.prog Try.f17 30 ((.tup [.v (.slice none 0 0),.v (.int .i64 (ccE (cQw E) E.length (cR L) L.length))])) [] (bw v 0 eb ec)):=by
 have hcl_L:=cR_len L
 have hcl_Y:=cI_len Y
 have hcl_M:=cI_len M
 rcases Bool.eq_false_or_eq_true (eqI (ccE (cQw E) E.length (cR L) L.length) 0) with hqnurc3_1 | hqnurc3_1
 ·skip
  have ghqnurc3_1:=eqI_true hqnurc3_1
  rcases Bool.eq_false_or_eq_true (eqI (chE L.length (cI M) M.length) 0) with hqnurc3_2 | hqnurc3_2
  ·skip
   have ghqnurc3_2:=eqI_true hqnurc3_2
   rcases Bool.eq_false_or_eq_true (eqI (ctE (cQw E) (cR L) L.length (cRw X) X.length (cI Y) Y.length) 0) with hqnurc3_3 | hqnurc3_3
   ·skip
    have ghqnurc3_3:=eqI_true hqnurc3_3
    exact absurd (eqI_true hqnurc3_1) hC
   ·skip
    have ghqnurc3_3:=eqI_false hqnurc3_3
    exact absurd (eqI_true hqnurc3_1) hC
  ·skip
   have ghqnurc3_2:=eqI_false hqnurc3_2
   exact absurd (eqI_true hqnurc3_1) hC
 ·skip
  have ghqnurc3_1:=eqI_false hqnurc3_1
  exact goes_leafA isR_e (goes_cut Try.checked.mixed (known_or (known_or known_gr known_gp) (known_or known_gx known_gs)) 200 (T':=(qN8_3 E L)) (e:=.ret) (m:=2) (ps:=[IsEq 1 (cQw E) E.length,IsPr 2 L.length (cR L),E.length≤1000,(!eqI (ccE (cQw E) E.length (cR L) L.length) 0)=true,IsEq 1 (cQw E) E.length,IsPr 2 L.length (cR L),E.length≤1000]) [.go,.go,.go,.go,.go,.go,.b true,.go,.go,.go] (by kernel_rfl) (by kernel_rfl) ⟨⟨rfl,E,rfl,rfl⟩,⟨rfl,L,rfl,rfl⟩,hE3,(by rw [hqnurc3_1]; rfl),⟨rfl,E,rfl,rfl⟩,⟨rfl,L,rfl,rfl⟩,hE3,trivial⟩ rfl (by show 0≤2; decide) ⟨⟨nb_v _,nb_v _,trivial⟩,trivial,rfl⟩ (by show 0≤0; decide)) (en_eqM (r:=(.tup [(.v (Value.slice none 0 0)),(.v (.int .i64 (ccE (cQw E) E.length (cR L) L.length)))])) (ys:=[]) (by rfl) (by rfl) (en_retM (by kernel_rfl) (by kernel_rfl) rfl (.inr rfl)))
theorem nurc_g (y:Value) (E:List (Value×List (Int×Int))) (yl:Value) (L:List (Int×Int)) (u:Value) (X:List (Value×List Int)) (ul:Value) (Y:List Int) (z:Value) (M:List Int) (hE3:E.length≤1000) (hC:¬ ccE (cQw E) E.length (cR L) L.length=0):GivesM Try.prog 17 [(qN8_4 E L y yl),(qN8_5 X Y u ul),(.xl z M.length 1 (cI M))] [] ((.tup [.v (.slice none 0 0),.v (.int .i64 (ccE (cQw E) E.length (cR L) L.length))])) [] :=
 givesM_parts 30 (by kernel_rfl) Try.func17 (by kernel_rfl) (by kernel_rfl) (by kernel_rfl) (fun v eb ec=>goes_less (by kernel_rfl) (by kernel_rfl) (by kernel_rfl) (by kernel_rfl) (nurc_2 y E yl L u X ul Y z M hE3 hC v eb ec []))
noncomputable def nurhK1:Code:=bodyC Try.f17
theorem nurh_2 (y:Value) (E:List (Value×List (Int×Int))) (yl:Value) (L:List (Int×Int)) (u:Value) (X:List (Value×List Int)) (ul:Value) (Y:List Int) (z:Value) (M:List Int) (hE3:E.length≤1000) (hX:X.length≤1000) (hM3:M.length≤1000) (hC:ccE (cQw E) E.length (cR L) L.length=0) (hH:¬ chE L.length (cI M) M.length=0) (v:BaseW) (eb:Nat→Option Nat) (ec:Nat→Nat) (hs:List Nat):Goes Try.prog 30 nurhK1 ((qN8_1 E L M X Y u ul y yl z)) (BaseW.H (bw v 0 eb ec) hs) (OutM Try.prog Try.f17 30 ((.tup [.v (.slice none 0 0),.v (.int .i64 (chE L.length (cI M) M.length))])) [] (bw v 0 eb ec)):=by
 have hcl_L:=cR_len L
 have hcl_Y:=cI_len Y
 have hcl_M:=cI_len M
 obtain ⟨hn,hm3,hrow,hlam,hcur⟩:=ccE_zero hC
 rcases Bool.eq_false_or_eq_true (eqI (ccE (cQw E) E.length (cR L) L.length) 0) with hqnurh3_1 | hqnurh3_1
 ·skip
  have ghqnurh3_1:=eqI_true hqnurh3_1
  rcases Bool.eq_false_or_eq_true (eqI (chE L.length (cI M) M.length) 0) with hqnurh3_2 | hqnurh3_2
  ·skip
   have ghqnurh3_2:=eqI_true hqnurh3_2
   rcases Bool.eq_false_or_eq_true (eqI (ctE (cQw E) (cR L) L.length (cRw X) X.length (cI Y) Y.length) 0) with hqnurh3_3 | hqnurh3_3
   ·skip
    have ghqnurh3_3:=eqI_true hqnurh3_3
    exact absurd (eqI_true hqnurh3_2) hH
   ·skip
    have ghqnurh3_3:=eqI_false hqnurh3_3
    exact absurd (eqI_true hqnurh3_2) hH
  ·skip
   have ghqnurh3_2:=eqI_false hqnurh3_2
   exact goes_leafA isR_e (goes_cut Try.checked.mixed (known_or (known_or known_gr known_gp) (known_or known_gx known_gs)) 200 (T':=⟨[qN8_6,(7,(.v (.int .i64 (chE L.length (cI M) M.length))))],[],0,[]⟩) (e:=.ret) (m:=2) (ps:=[IsEq 1 (cQw E) E.length,IsPr 2 L.length (cR L),E.length≤1000,(!eqI (ccE (cQw E) E.length (cR L) L.length) 0)=false,IsEq 1 (cQw E) E.length,IsPr 2 L.length (cR L),IsI 1 M.length (cI M),L.length≤1000,(!eqI (chE L.length (cI M) M.length) 0)=true,IsEq 1 (cQw E) E.length,IsPr 2 L.length (cR L),IsI 1 M.length (cI M),L.length≤1000]) [.go,.go,.go,.go,.go,.go,.b false,.go,.go,.go,.b true,.go,.go,.go,.go] (by kernel_rfl) (by kernel_rfl) ⟨⟨rfl,E,rfl,rfl⟩,⟨rfl,L,rfl,rfl⟩,hE3,(by rw [hqnurh3_1]; rfl),⟨rfl,E,rfl,rfl⟩,⟨rfl,L,rfl,rfl⟩,⟨rfl,M,rfl,rfl⟩,(by omega),(by rw [hqnurh3_2]; rfl),⟨rfl,E,rfl,rfl⟩,⟨rfl,L,rfl,rfl⟩,⟨rfl,M,rfl,rfl⟩,(by omega),trivial⟩ rfl (by show 0≤2; decide) ⟨⟨nb_v _,nb_v _,trivial⟩,trivial,rfl⟩ (by show 0≤0; decide)) (en_eqM (r:=(.tup [(.v (Value.slice none 0 0)),(.v (.int .i64 (chE L.length (cI M) M.length)))])) (ys:=[]) (by rfl) (by rfl) (en_retM (by kernel_rfl) (by kernel_rfl) rfl (.inr rfl)))
 ·skip
  have ghqnurh3_1:=eqI_false hqnurh3_1
  exact absurd hC (eqI_false hqnurh3_1)
theorem nurh_g (y:Value) (E:List (Value×List (Int×Int))) (yl:Value) (L:List (Int×Int)) (u:Value) (X:List (Value×List Int)) (ul:Value) (Y:List Int) (z:Value) (M:List Int) (hE3:E.length≤1000) (hX:X.length≤1000) (hM3:M.length≤1000) (hC:ccE (cQw E) E.length (cR L) L.length=0) (hH:¬ chE L.length (cI M) M.length=0):GivesM Try.prog 17 [(qN8_4 E L y yl),(qN8_5 X Y u ul),(.xl z M.length 1 (cI M))] [] ((.tup [.v (.slice none 0 0),.v (.int .i64 (chE L.length (cI M) M.length))])) [] :=
 givesM_parts 30 (by kernel_rfl) Try.func17 (by kernel_rfl) (by kernel_rfl) (by kernel_rfl) (fun v eb ec=>goes_less (by kernel_rfl) (by kernel_rfl) (by kernel_rfl) (by kernel_rfl) (nurh_2 y E yl L u X ul Y z M hE3 hX hM3 hC hH v eb ec []))
noncomputable def nurtK1:Code:=bodyC Try.f17
theorem nurt_2 (y:Value) (E:List (Value×List (Int×Int))) (yl:Value) (L:List (Int×Int)) (u:Value) (X:List (Value×List Int)) (ul:Value) (Y:List Int) (z:Value) (M:List Int) (hE3:E.length≤1000) (hX:X.length≤1000) (hM3:M.length≤1000) (hC:ccE (cQw E) E.length (cR L) L.length=0) (hH:chE L.length (cI M) M.length=0) (hT:¬ ctE (cQw E) (cR L) L.length (cRw X) X.length (cI Y) Y.length=0) (v:BaseW) (eb:Nat→Option Nat) (ec:Nat→Nat) (hs:List Nat):Goes Try.prog 30 nurtK1 ((qN8_1 E L M X Y u ul y yl z)) (BaseW.H (bw v 0 eb ec) hs) (OutM Try.prog Try.f17 30 ((.tup [.v (.slice none 0 0),.v (.int .i64 (ctE (cQw E) (cR L) L.length (cRw X) X.length (cI Y) Y.length))])) [] (bw v 0 eb ec)):=by
 have hcl_L:=cR_len L
 have hcl_Y:=cI_len Y
 have hcl_M:=cI_len M
 obtain ⟨hn,hm3,hrow,hlam,hcur⟩:=ccE_zero hC
 rcases Bool.eq_false_or_eq_true (eqI (ccE (cQw E) E.length (cR L) L.length) 0) with hqnurt3_1 | hqnurt3_1
 ·skip
  have ghqnurt3_1:=eqI_true hqnurt3_1
  rcases Bool.eq_false_or_eq_true (eqI (chE L.length (cI M) M.length) 0) with hqnurt3_2 | hqnurt3_2
  ·skip
   have ghqnurt3_2:=eqI_true hqnurt3_2
   rcases Bool.eq_false_or_eq_true (eqI (ctE (cQw E) (cR L) L.length (cRw X) X.length (cI Y) Y.length) 0) with hqnurt3_3 | hqnurt3_3
   ·skip
    have ghqnurt3_3:=eqI_true hqnurt3_3
    exact absurd (eqI_true hqnurt3_3) hT
   ·skip
    have ghqnurt3_3:=eqI_false hqnurt3_3
    exact goes_leafA isR_e (goes_cut Try.checked.mixed (known_or (known_or known_gr known_gp) (known_or known_gx known_gs)) 200 (T':=(qN8_2 E L X Y)) (e:=.ret) (m:=2) (ps:=[IsEq 1 (cQw E) E.length,IsPr 2 L.length (cR L),E.length≤1000,(!eqI (ccE (cQw E) E.length (cR L) L.length) 0)=false,IsEq 1 (cQw E) E.length,IsPr 2 L.length (cR L),IsI 1 M.length (cI M),L.length≤1000,(!eqI (chE L.length (cI M) M.length) 0)=false,IsEq 1 (cQw E) E.length,IsPr 2 L.length (cR L),IsEi 1 (cRw X) X.length,IsI 1 Y.length (cI Y),ccE (cQw E) E.length (cR L) L.length=0,X.length≤1000,(!eqI (ctE (cQw E) (cR L) L.length (cRw X) X.length (cI Y) Y.length) 0)=true,IsEq 1 (cQw E) E.length,IsPr 2 L.length (cR L),IsEi 1 (cRw X) X.length,IsI 1 Y.length (cI Y),ccE (cQw E) E.length (cR L) L.length=0,X.length≤1000]) [.go,.go,.go,.go,.go,.go,.b false,.go,.go,.go,.b false,.go,.go,.go,.b true,.go,.go,.go,.go] (by kernel_rfl) (by kernel_rfl) ⟨⟨rfl,E,rfl,rfl⟩,⟨rfl,L,rfl,rfl⟩,hE3,(by rw [hqnurt3_1]; rfl),⟨rfl,E,rfl,rfl⟩,⟨rfl,L,rfl,rfl⟩,⟨rfl,M,rfl,rfl⟩,(by omega),(by rw [hqnurt3_2]; rfl),⟨rfl,E,rfl,rfl⟩,⟨rfl,L,rfl,rfl⟩,⟨rfl,X,rfl,rfl⟩,⟨rfl,Y,rfl,rfl⟩,hC,hX,(by rw [hqnurt3_3]; rfl),⟨rfl,E,rfl,rfl⟩,⟨rfl,L,rfl,rfl⟩,⟨rfl,X,rfl,rfl⟩,⟨rfl,Y,rfl,rfl⟩,hC,hX,trivial⟩ rfl (by show 0≤2; decide) ⟨⟨nb_v _,nb_v _,trivial⟩,trivial,rfl⟩ (by show 0≤0; decide)) (en_eqM (r:=(.tup [(.v (Value.slice none 0 0)),(.v (.int .i64 (ctE (cQw E) (cR L) L.length (cRw X) X.length (cI Y) Y.length)))])) (ys:=[]) (by rfl) (by rfl) (en_retM (by kernel_rfl) (by kernel_rfl) rfl (.inr rfl)))
  ·skip
   have ghqnurt3_2:=eqI_false hqnurt3_2
   exact absurd hH (eqI_false hqnurt3_2)
 ·skip
  have ghqnurt3_1:=eqI_false hqnurt3_1
  exact absurd hC (eqI_false hqnurt3_1)
theorem nurt_g (y:Value) (E:List (Value×List (Int×Int))) (yl:Value) (L:List (Int×Int)) (u:Value) (X:List (Value×List Int)) (ul:Value) (Y:List Int) (z:Value) (M:List Int) (hE3:E.length≤1000) (hX:X.length≤1000) (hM3:M.length≤1000) (hC:ccE (cQw E) E.length (cR L) L.length=0) (hH:chE L.length (cI M) M.length=0) (hT:¬ ctE (cQw E) (cR L) L.length (cRw X) X.length (cI Y) Y.length=0):GivesM Try.prog 17 [(qN8_4 E L y yl),(qN8_5 X Y u ul),(.xl z M.length 1 (cI M))] [] ((.tup [.v (.slice none 0 0),.v (.int .i64 (ctE (cQw E) (cR L) L.length (cRw X) X.length (cI Y) Y.length))])) [] :=
 givesM_parts 30 (by kernel_rfl) Try.func17 (by kernel_rfl) (by kernel_rfl) (by kernel_rfl) (fun v eb ec=>goes_less (by kernel_rfl) (by kernel_rfl) (by kernel_rfl) (by kernel_rfl) (nurt_2 y E yl L u X ul Y z M hE3 hX hM3 hC hH hT v eb ec []))
noncomputable def nuroK1:Code:=bodyC Try.f17
theorem nuro_2 (y:Value) (E:List (Value×List (Int×Int))) (yl:Value) (L:List (Int×Int)) (u:Value) (X:List (Value×List Int)) (ul:Value) (Y:List Int) (z:Value) (M:List Int) (hE3:E.length≤1000) (hX:X.length≤1000) (hM3:M.length≤1000) (hC:ccE (cQw E) E.length (cR L) L.length=0) (hH:chE L.length (cI M) M.length=0) (hT:ctE (cQw E) (cR L) L.length (cRw X) X.length (cI Y) Y.length=0) (v:BaseW) (eb:Nat→Option Nat) (ec:Nat→Nat) (hs:List Nat):Goes Try.prog 30 nuroK1 (⟨[(0,(.agg [.xl y E.length 1 (cQw E),.xl yl L.length 2 (cR L)])),(1,(.agg [.xl u X.length 1 (cRw X),.xl ul Y.length 1 (cI Y)])),(2,(.xl z M.length 1 (cI M)))],[],0,[]⟩) (BaseW.H (bw v 0 eb ec) hs) (OutM Try.prog Try.f17 30 ((.tup [.sl 0 0 3 3,.v (.int .i64 0)])) [(.cells (cI (tI (thA (nuP (cRw X) (cI Y) (cI M)) L.length 3) 3)) 2)] (bw v 0 eb ec)):=by
 have hcl_L:=cR_len L
 have hcl_Y:=cI_len Y
 have hcl_M:=cI_len M
 obtain ⟨hn,hm3,hrow,hlam,hcur⟩:=ccE_zero hC
 rcases Bool.eq_false_or_eq_true (eqI (ccE (cQw E) E.length (cR L) L.length) 0) with hqnuro3_1 | hqnuro3_1
 ·skip
  have ghqnuro3_1:=eqI_true hqnuro3_1
  rcases Bool.eq_false_or_eq_true (eqI (chE L.length (cI M) M.length) 0) with hqnuro3_2 | hqnuro3_2
  ·skip
   have ghqnuro3_2:=eqI_true hqnuro3_2
   rcases Bool.eq_false_or_eq_true (eqI (ctE (cQw E) (cR L) L.length (cRw X) X.length (cI Y) Y.length) 0) with hqnuro3_3 | hqnuro3_3
   ·skip
    have ghqnuro3_3:=eqI_true hqnuro3_3
    exact goes_leafA isR_e (goes_cutR Try.checked.mixed (known_or (known_or known_gr known_gp) (known_or known_gx known_gs)) 200 (T':=⟨[(6,(.sl 0 0 3 3)),(7,(.v (.int .i64 (.ofNat 0))))],[],1,[(0,(.cells (cI (tI (thA (nuP (cRw X) (cI Y) (cI M)) M.length 3) 3)) 2))]⟩) (e:=.ret) (m:=3) (ps:=[IsEq 1 (cQw E) E.length,IsPr 2 L.length (cR L),E.length≤1000,(!eqI (ccE (cQw E) E.length (cR L) L.length) 0)=false,IsEq 1 (cQw E) E.length,IsPr 2 L.length (cR L),IsI 1 M.length (cI M),L.length≤1000,(!eqI (chE L.length (cI M) M.length) 0)=false,IsEq 1 (cQw E) E.length,IsPr 2 L.length (cR L),IsEi 1 (cRw X) X.length,IsI 1 Y.length (cI Y),ccE (cQw E) E.length (cR L) L.length=0,X.length≤1000,(!eqI (ctE (cQw E) (cR L) L.length (cRw X) X.length (cI Y) Y.length) 0)=false,NuOK 1 X.length 1 Y.length 1 M.length (cRw X) (cI Y) (cI M) M.length,M.length≤8]) [.go,.go,.go,.go,.go,.go,.b false,.go,.go,.go,.b false,.go,.go,.go,.b false,.go,.go,.go,.go] [2] [(.sl 2 0 3 3),(.v (.int .i64 (.ofNat 0)))] [(.cells (cI (tI (thA (nuP (cRw X) (cI Y) (cI M)) M.length 3) 3)) 2)] (by kernel_rfl) (by kernel_rfl) ⟨⟨rfl,E,rfl,rfl⟩,⟨rfl,L,rfl,rfl⟩,hE3,(by rw [hqnuro3_1]; rfl),⟨rfl,E,rfl,rfl⟩,⟨rfl,L,rfl,rfl⟩,⟨rfl,M,rfl,rfl⟩,(by omega),(by rw [hqnuro3_2]; rfl),⟨rfl,E,rfl,rfl⟩,⟨rfl,L,rfl,rfl⟩,⟨rfl,X,rfl,rfl⟩,⟨rfl,Y,rfl,rfl⟩,hC,hX,(by rw [hqnuro3_3]; rfl),(by have h9:=nuOK_of hC hT hH; rw [(chE_zero hH).1] at h9 ⊢; exact h9),(by have h9:=(chE_zero hH).1; omega),trivial⟩ rfl rfl (by decide) rfl ⟨nr_sl rfl,nr_v _,trivial⟩ ⟨⟨by show 0 < 1; decide,nrb_cells (nrl_plain (cI_plain _))⟩,trivial⟩) (en_eqM (r:=(.tup [(.sl 0 0 3 3),(.v (.int .i64 (.ofNat 0)))])) (ys:=[(.cells (cI (tI (thA (nuP (cRw X) (cI Y) (cI M)) M.length 3) 3)) 2)]) (by rfl) (by (rw [(chE_zero hH).1])) (en_retM (by kernel_rfl) (by kernel_rfl) rfl (.inr rfl)))
   ·skip
    have ghqnuro3_3:=eqI_false hqnuro3_3
    exact absurd hT (eqI_false hqnuro3_3)
  ·skip
   have ghqnuro3_2:=eqI_false hqnuro3_2
   exact absurd hH (eqI_false hqnuro3_2)
 ·skip
  have ghqnuro3_1:=eqI_false hqnuro3_1
  exact absurd hC (eqI_false hqnuro3_1)
theorem nuro_g (y:Value) (E:List (Value×List (Int×Int))) (yl:Value) (L:List (Int×Int)) (u:Value) (X:List (Value×List Int)) (ul:Value) (Y:List Int) (z:Value) (M:List Int) (hE3:E.length≤1000) (hX:X.length≤1000) (hM3:M.length≤1000) (hC:ccE (cQw E) E.length (cR L) L.length=0) (hH:chE L.length (cI M) M.length=0) (hT:ctE (cQw E) (cR L) L.length (cRw X) X.length (cI Y) Y.length=0):GivesM Try.prog 17 [(qN8_4 E L y yl),(qN8_5 X Y u ul),(.xl z M.length 1 (cI M))] [] ((.tup [.sl 0 0 3 3,.v (.int .i64 0)])) [(.cells (cI (tI (thA (nuP (cRw X) (cI Y) (cI M)) L.length 3) 3)) 2)] :=
 givesM_parts 30 (by kernel_rfl) Try.func17 (by kernel_rfl) (by kernel_rfl) (by kernel_rfl) (fun v eb ec=>goes_less (by kernel_rfl) (by kernel_rfl) (by kernel_rfl) (by kernel_rfl) (nuro_2 y E yl L u X ul Y z M hE3 hX hM3 hC hH hT v eb ec []))
end
end Go.Proofs.Ytegmogadbnfbgaa
