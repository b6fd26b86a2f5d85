import Derived.Test.YtegmogadbnfbgaaN12
set_option maxHeartbeats 2000000
set_option linter.all false
/- What is known of spans. -/
namespace Go.Proofs.Ytegmogadbnfbgaa
open Go Ev
noncomputable section
section
variable (E : List (Value × List (Int × Int))) (L : List (Int × Int)) (M : List Int) (P0 P1 P2 : List (Int × Int)) (v0 v1 v2 y yl z : Value)
@[reducible] def qN13_1:Ev.AB:=(.row [(.v (.int .i64 (spN (cR P0) (cR P1) (cR P2) (cR L) (cI M) L.length false 0))),(.v (.int .i64 (spN (cR P0) (cR P1) (cR P2) (cR L) (cI M) L.length true 0))),(.v (.int .i64 (spN (cR P0) (cR P1) (cR P2) (cR L) (cI M) L.length false 1))),(.v (.int .i64 (spN (cR P0) (cR P1) (cR P2) (cR L) (cI M) L.length true 1))),(.v (.int .i64 (spN (cR P0) (cR P1) (cR P2) (cR L) (cI M) L.length false 2))),(.v (.int .i64 (spN (cR P0) (cR P1) (cR P2) (cR L) (cI M) L.length true 2)))] 65 2)
@[reducible] def qN13_2:Ev.AB:=(.row [.v (.int .i64 (spN (cR P0) (cR P1) (cR P2) (cR L) (cI M) L.length false 0)),.v (.int .i64 (spN (cR P0) (cR P1) (cR P2) (cR L) (cI M) L.length true 0)),.v (.int .i64 (spN (cR P0) (cR P1) (cR P2) (cR L) (cI M) L.length false 1)),.v (.int .i64 (spN (cR P0) (cR P1) (cR P2) (cR L) (cI M) L.length true 1)),.v (.int .i64 (spN (cR P0) (cR P1) (cR P2) (cR L) (cI M) L.length false 2)),.v (.int .i64 (spN (cR P0) (cR P1) (cR P2) (cR L) (cI M) L.length true 2))] 65 2)
@[reducible] def qN13_8:Ev.AV:=(.agg [.xl y E.length 1 (cQw E),.xl yl L.length 2 (cR L)])
@[reducible] def qN13_3:Ev.Lit:=⟨[(0,(qN13_8 E L y yl)),(1,(.xl z M.length 1 (cI M)))],[],0,[]⟩
@[reducible] def qN13_9:Nat×Ev.AV:=(4,(.v (Value.slice none 0 0)))
@[reducible] def qN13_4:Ev.Lit:=⟨[qN13_9,(5,(.v (.int .i64 (ccE (cQw E) E.length (cR L) L.length))))],[],0,[]⟩
@[reducible] def qN13_5:Ev.AB:=(.cells (cI (tI (s6A (loP (cQw E) (cR L) (cI M)) (hiP (cQw E) (cR L) (cI M)) L.length 3) 6)) 65)
@[reducible] def qN13_6:List Ev.AV:=[AV.xl v0 P0.length 2 (cR P0),AV.xl v1 P1.length 2 (cR P1),AV.xl v2 P2.length 2 (cR P2)]
@[reducible] def qN13_7:List Ev.AV:=[.xl v0 P0.length 2 (cR P0),.xl v1 P1.length 2 (cR P1),.xl v2 P2.length 2 (cR P2)]
end
def SpOK (c0 c1 c2 cL cM:List AV) (n:Nat):Prop:=(∀ b,b < n→rngAt 100 cL b)∧(∀ b,b < n→rngAt 100 c0 b)∧(∀ b,b < n→rngAt 100 c1 b)∧(∀ b,b < n→rngAt 100 c2 b)∧(∀ b,b < n→0≤intAt cM (b * 1)∧intAt cM (b * 1)≤1000)
def Is1 (k:Nat):Prop:=k=1
def ossS:List AV→List AB→Option ((AV×List AB)×List Prop):=fun args xs =>
 match args,xs with
 | [.agg [.xl y m k1 cE,.xl yl n k2 cL,.fn (.func f) lz lc]],[]=>match cE,lz,lc,Nat.beq f 78 with
  | [.xl v0 n0 j0 c0,.xl v1 n1 j1 c1,.xl v2 n2 j2 c2],[.xl z r k5 cM],[],true=>some ((.slu 0 0 3 0,[.row [.v (.int .i64 (spN c0 c1 c2 cL cM n false 0)),.v (.int .i64 (spN c0 c1 c2 cL cM n true 0)),.v (.int .i64 (spN c0 c1 c2 cL cM n false 1)),.v (.int .i64 (spN c0 c1 c2 cL cM n true 1)),.v (.int .i64 (spN c0 c1 c2 cL cM n false 2)),.v (.int .i64 (spN c0 c1 c2 cL cM n true 2))] 65 2]),[IsPr k2 n cL,IsI k5 r cM,IsPr j0 n0 c0,IsPr j1 n1 c1,IsPr j2 n2 c2,1≤n∧n≤8,n0=n,n1=n,n2=n,r=n,Is1 k1,Is3 m,SpOK c0 c1 c2 cL cM n])
  | _,_,_,_=>none
 | _,_=>none
def ossO:OrcH:=mOrc 57 ossS
theorem known_oss:Known Try.prog (clsO ossO):=known_m (fun args xs r ys ps h hp=>by
 unfold ossS at h
 split at h
 ·split at h
  ·rename_i e1
   cases h
   obtain ⟨⟨rfl,L,rfl,rfl⟩,⟨rfl,M,rfl,rfl⟩,⟨rfl,P0,rfl,rfl⟩,⟨rfl,P1,rfl,rfl⟩,⟨rfl,P2,rfl,rfl⟩,h1,h2,h3,h4,h5,rfl,rfl,⟨q0,q1,q2,q3,q4⟩,-⟩:=hp
   rw [Nat.eq_of_beq_eq_true e1]
   refine ⟨fun x hx=>absurd hx List.not_mem_nil,fun x hx=>?_,so_g _ _ P0 _ P1 _ P2 _ L _ M h1 h2 h3 h4 h5 q0 q1 q2 q3 q4⟩
   rw [List.mem_singleton.1 hx]
   exact freeB_row (freeL_plain (show plainL [.v (.int .i64 (spN (cR P0) (cR P1) (cR P2) (cR L) (cI M) L.length false 0)),.v (.int .i64 (spN (cR P0) (cR P1) (cR P2) (cR L) (cI M) L.length true 0)),.v (.int .i64 (spN (cR P0) (cR P1) (cR P2) (cR L) (cI M) L.length false 1)),.v (.int .i64 (spN (cR P0) (cR P1) (cR P2) (cR L) (cI M) L.length true 1)),.v (.int .i64 (spN (cR P0) (cR P1) (cR P2) (cR L) (cI M) L.length false 2)),.v (.int .i64 (spN (cR P0) (cR P1) (cR P2) (cR L) (cI M) L.length true 2))]=some _ from rfl))
  ·cases h
 ·cases h)
def RsOK (cE cL cM:List AV) (n:Nat):Prop:=(∀ i,i < 3→xlN cE (i * 1)=n)∧(∀ b,b < n→rngAt 100 cL b)∧(∀ i,i < 3→∀ b,b < n→rngAt 100 (xlC cE (i * 1)) b)∧(∀ b,b < n→0≤intAt cM (b * 1)∧intAt cM (b * 1)≤1000)
def rssS:List AV→Option (Res1×List Prop):=fun vs =>
 match vs with
 | [.agg [.xl y m k1 cE,.xl yl n k2 cL],.xl z r k5 cM]=>some (.blk (fun b=>.sl b 0 3 3) (.cells (cI (tI (s6A (loP cE cL cM) (hiP cE cL cM) n 3) 6)) 65),[IsEq k1 cE m,IsPr k2 n cL,IsI k5 r cM,Is3 m,r=n,n≤8,RsOK cE cL cM n])
 | _=>none
def rssO:OrcH:=extOrc 59 rssS
theorem known_rss:Known Try.prog (clsO rssO):=known_ext (fun vs r ps h hp=>by
 unfold rssS at h
 split at h
 ·cases h
  obtain ⟨⟨rfl,E,rfl,rfl⟩,⟨rfl,L,rfl,rfl⟩,⟨rfl,M,rfl,rfl⟩,h3,h1,h8,⟨q1,q2,q3,q4⟩,-⟩:=hp
  refine ⟨extL_cons (ext_case E L) (extL_cons (ext_xl (extL_plain (cI_plain M))) extL_nil),?_⟩
  exact givesB_of (rs_g _ E _ L _ M h8 h3 q1 h1 q2 q3 q4) (one_sl _ (cI_plain _))
 ·cases h)
noncomputable def spocK1:Code:=bodyC Try.f18
theorem spoc_2 (y:Value) (E:List (Value×List (Int×Int))) (yl:Value) (L:List (Int×Int)) (z:Value) (M:List Int) (hE3:E.length≤1000) (hC:¬ ccE (cQw E) E.length (cR L) L.length=0) (v:BaseW) (eb:Nat→Option Nat) (ec:Nat→Nat) (hs:List Nat):Goes Try.prog 18 spocK1 ((qN13_3 E L M y yl z)) (BaseW.H (bw v 0 eb ec) hs) (OutM Try.prog Try.f18 18 ((.tup [.v (.slice none 0 0),.v (.int .i64 (ccE (cQw E) E.length (cR L) L.length))])) [] (bw v 0 eb ec)):=by
 have hcl_L:=cR_len L
 have hcl_M:=cI_len M
 rcases Bool.eq_false_or_eq_true (eqI (ccE (cQw E) E.length (cR L) L.length) 0) with hqspoc3_1 | hqspoc3_1
 ·skip
  have ghqspoc3_1:=eqI_true hqspoc3_1
  rcases Bool.eq_false_or_eq_true (eqI M.length L.length) with hqspoc3_2 | hqspoc3_2
  ·skip
   have ghqspoc3_2:=eqI_true hqspoc3_2
   rcases Bool.eq_false_or_eq_true (afB 0 1000 (cI M) M.length) with hqspoc3_3 | hqspoc3_3
   ·skip
    exact absurd (eqI_true hqspoc3_1) hC
   ·skip
    exact absurd (eqI_true hqspoc3_1) hC
  ·skip
   have ghqspoc3_2:=eqI_false hqspoc3_2
   exact absurd (eqI_true hqspoc3_1) hC
 ·skip
  have ghqspoc3_1:=eqI_false hqspoc3_1
  exact goes_leafA isR_e (goes_cut Try.checked.mixed (known_or (known_or known_gc known_af) (known_or known_la known_oss)) 200 (T':=(qN13_4 E L)) (e:=.ret) (m:=3) (ps:=[IsEq 1 (cQw E) E.length,IsPr 2 L.length (cR L),E.length≤1000,(!eqI (ccE (cQw E) E.length (cR L) L.length) 0)=true,(!eqI (ccE (cQw E) E.length (cR L) L.length) 0)=true]) [.go,.go,.go,.go,.go,.go,.go,.go,.go,.go,.go,.go,.b true,.go,.go,.go,.go,.go,.b true,.go,.go,.go] (by kernel_rfl) (by kernel_rfl) ⟨⟨rfl,E,rfl,rfl⟩,⟨rfl,L,rfl,rfl⟩,hE3,(by rw [hqspoc3_1]; rfl),(by rw [hqspoc3_1]; rfl),trivial⟩ rfl (by show 0≤3; decide) ⟨⟨nb_v _,nb_v _,trivial⟩,trivial,rfl⟩ (by show 0≤0; decide)) (en_eqM (r:=(.tup [(.v (Value.slice none 0 0)),(.v (.int .i64 (ccE (cQw E) E.length (cR L) L.length)))])) (ys:=[]) (by rfl) (by rfl) (en_retM (by kernel_rfl) (by kernel_rfl) rfl (.inr rfl)))
theorem spoc_g (y:Value) (E:List (Value×List (Int×Int))) (yl:Value) (L:List (Int×Int)) (z:Value) (M:List Int) (hE3:E.length≤1000) (hC:¬ ccE (cQw E) E.length (cR L) L.length=0):GivesM Try.prog 18 [(qN13_8 E L y yl),(.xl z M.length 1 (cI M))] [] ((.tup [.v (.slice none 0 0),.v (.int .i64 (ccE (cQw E) E.length (cR L) L.length))])) [] :=
 givesM_parts 18 (by kernel_rfl) Try.func18 (by kernel_rfl) (by kernel_rfl) (by kernel_rfl) (fun v eb ec=>goes_less (by kernel_rfl) (by kernel_rfl) (by kernel_rfl) (by kernel_rfl) (spoc_2 y E yl L z M hE3 hC v eb ec []))
noncomputable def spohK1:Code:=bodyC Try.f18
theorem spoh_2 (y:Value) (E:List (Value×List (Int×Int))) (yl:Value) (L:List (Int×Int)) (z:Value) (M:List Int) (hE3:E.length≤1000) (hM3:M.length≤1000) (hC:ccE (cQw E) E.length (cR L) L.length=0) (hH:¬ chE L.length (cI M) M.length=0) (v:BaseW) (eb:Nat→Option Nat) (ec:Nat→Nat) (hs:List Nat):Goes Try.prog 18 spohK1 ((qN13_3 E L M y yl z)) (BaseW.H (bw v 0 eb ec) hs) (OutM Try.prog Try.f18 18 ((.tup [.v (.slice none 0 0),.v (.int .i64 (chE L.length (cI M) M.length))])) [] (bw v 0 eb ec)):=by
 have hcl_L:=cR_len L
 have hcl_M:=cI_len M
 obtain ⟨hn,hm3,hrow,hlam,hcur⟩:=ccE_zero hC
 rcases Bool.eq_false_or_eq_true (eqI (ccE (cQw E) E.length (cR L) L.length) 0) with hqspoh3_1 | hqspoh3_1
 ·skip
  have ghqspoh3_1:=eqI_true hqspoh3_1
  rcases Bool.eq_false_or_eq_true (eqI M.length L.length) with hqspoh3_2 | hqspoh3_2
  ·skip
   have ghqspoh3_2:=eqI_true hqspoh3_2
   rcases Bool.eq_false_or_eq_true (afB 0 1000 (cI M) M.length) with hqspoh3_3 | hqspoh3_3
   ·skip
    exact absurd (chE_ok (by have h9:=eqI_true hqspoh3_2; omega) hqspoh3_3) hH
   ·skip
    exact goes_leafA isR_e (goes_cut Try.checked.mixed (known_or (known_or known_gc known_af) (known_or known_la known_oss)) 200 (T':=⟨[qN13_9,(5,(.v (.int .i64 (.ofNat 2))))],[],0,[]⟩) (e:=.ret) (m:=3) (ps:=[IsEq 1 (cQw E) E.length,IsPr 2 L.length (cR L),E.length≤1000,(!eqI (ccE (cQw E) E.length (cR L) L.length) 0)=false,ltI 0 1=true,(!eqI M.length L.length)=false,IsI 1 M.length (cI M),M.length≤1000,(!afB 0 1000 (cI M) M.length)=true,(!eqI 2 0)=true]) [.go,.go,.go,.go,.go,.go,.go,.go,.go,.go,.go,.go,.b false,.go,.go,.go,.go,.b true,.go,.go,.go,.go,.go,.go,.go,.go,.go,.b false,.go,.go,.b true,.go,.go,.go,.go,.b true,.go,.go,.go] (by kernel_rfl) (by kernel_rfl) ⟨⟨rfl,E,rfl,rfl⟩,⟨rfl,L,rfl,rfl⟩,hE3,(by rw [hqspoh3_1]; rfl),rfl,(by rw [hqspoh3_2]; rfl),⟨rfl,M,rfl,rfl⟩,(by omega),(by rw [hqspoh3_3]; rfl),rfl,trivial⟩ rfl (by show 0≤3; decide) ⟨⟨nb_v _,nb_v _,trivial⟩,trivial,rfl⟩ (by show 0≤0; decide)) (en_eqM (r:=(.tup [(.v (Value.slice none 0 0)),(.v (.int .i64 (.ofNat 2)))])) (ys:=[]) (by (rw [chE_bad (n:=L.length) (d:=cI M) (k:=M.length) (by omega) (by rw [hqspoh3_3]; decide)]; rfl)) (by rfl) (en_retM (by kernel_rfl) (by kernel_rfl) rfl (.inr rfl)))
  ·skip
   have ghqspoh3_2:=eqI_false hqspoh3_2
   exact goes_leafA isR_e (goes_cut Try.checked.mixed (known_or (known_or known_gc known_af) (known_or known_la known_oss)) 200 (T':=⟨[qN13_9,(5,(.v (.int .i64 (.ofNat 15))))],[],0,[]⟩) (e:=.ret) (m:=3) (ps:=[IsEq 1 (cQw E) E.length,IsPr 2 L.length (cR L),E.length≤1000,(!eqI (ccE (cQw E) E.length (cR L) L.length) 0)=false,ltI 0 1=true,(!eqI M.length L.length)=true,(!eqI 15 0)=true]) [.go,.go,.go,.go,.go,.go,.go,.go,.go,.go,.go,.go,.b false,.go,.go,.go,.go,.b true,.go,.go,.go,.go,.go,.go,.go,.go,.go,.b true,.go,.go,.go,.go,.b true,.go,.go,.go] (by kernel_rfl) (by kernel_rfl) ⟨⟨rfl,E,rfl,rfl⟩,⟨rfl,L,rfl,rfl⟩,hE3,(by rw [hqspoh3_1]; rfl),rfl,(by rw [hqspoh3_2]; rfl),rfl,trivial⟩ rfl (by show 0≤3; decide) ⟨⟨nb_v _,nb_v _,trivial⟩,trivial,rfl⟩ (by show 0≤0; decide)) (en_eqM (r:=(.tup [(.v (Value.slice none 0 0)),(.v (.int .i64 (.ofNat 15)))])) (ys:=[]) (by (rw [chE_len (n:=L.length) (d:=cI M) (k:=M.length) (by omega)]; rfl)) (by rfl) (en_retM (by kernel_rfl) (by kernel_rfl) rfl (.inr rfl)))
 ·skip
  have ghqspoh3_1:=eqI_false hqspoh3_1
  exact absurd hC (eqI_false hqspoh3_1)
theorem spoh_g (y:Value) (E:List (Value×List (Int×Int))) (yl:Value) (L:List (Int×Int)) (z:Value) (M:List Int) (hE3:E.length≤1000) (hM3:M.length≤1000) (hC:ccE (cQw E) E.length (cR L) L.length=0) (hH:¬ chE L.length (cI M) M.length=0):GivesM Try.prog 18 [(qN13_8 E L y yl),(.xl z M.length 1 (cI M))] [] ((.tup [.v (.slice none 0 0),.v (.int .i64 (chE L.length (cI M) M.length))])) [] :=
 givesM_parts 18 (by kernel_rfl) Try.func18 (by kernel_rfl) (by kernel_rfl) (by kernel_rfl) (fun v eb ec=>goes_less (by kernel_rfl) (by kernel_rfl) (by kernel_rfl) (by kernel_rfl) (spoh_2 y E yl L z M hE3 hM3 hC hH v eb ec []))
noncomputable def spooK1:Code:=bodyC Try.f18
theorem spoo_2 (y v0:Value) (P0:List (Int×Int)) (v1:Value) (P1:List (Int×Int)) (v2:Value) (P2:List (Int×Int)) (yl:Value) (L:List (Int×Int)) (z:Value) (M:List Int) (hM3:M.length≤1000) (hC:ccE (qN13_7 P0 P1 P2 v0 v1 v2) 3 (cR L) L.length=0) (hH:chE L.length (cI M) M.length=0) (v:BaseW) (eb:Nat→Option Nat) (ec:Nat→Nat) (hs:List Nat):Goes Try.prog 18 spooK1 (⟨[(0,(.agg [.xl y 3 1 (qN13_7 P0 P1 P2 v0 v1 v2),.xl yl L.length 2 (cR L)])),(1,(.xl z M.length 1 (cI M)))],[],0,[]⟩) (BaseW.H (bw v 0 eb ec) hs) (OutM Try.prog Try.f18 18 ((.tup [.slu 0 0 3 0,.v (.int .i64 0)])) [(qN13_2 L M P0 P1 P2)] (bw v 0 eb ec)):=by
 have hcl_P0:=cR_len P0
 have hcl_P1:=cR_len P1
 have hcl_P2:=cR_len P2
 have hcl_L:=cR_len L
 have hcl_M:=cI_len M
 obtain ⟨hn,hm3,hrow,hlam,hcur⟩:=ccE_zero hC
 have hH1:=(chE_zero hH).1
 have hH2:∀ b,b < L.length→0≤intAt (cI M) (b * 1)∧intAt (cI M) (b * 1)≤1000:=fun b hb=>afB_true.1 (chE_zero hH).2 b (by omega)
 rcases Bool.eq_false_or_eq_true (eqI (ccE (qN13_6 P0 P1 P2 v0 v1 v2) 3 (cR L) L.length) 0) with hqspoo3_1 | hqspoo3_1
 ·skip
  have ghqspoo3_1:=eqI_true hqspoo3_1
  rcases Bool.eq_false_or_eq_true (eqI M.length L.length) with hqspoo3_2 | hqspoo3_2
  ·skip
   have ghqspoo3_2:=eqI_true hqspoo3_2
   rcases Bool.eq_false_or_eq_true (afB 0 1000 (cI M) M.length) with hqspoo3_3 | hqspoo3_3
   ·skip
    exact goes_leafA isR_e (goes_cutR Try.checked.mixed (known_or (known_or known_gc known_af) (known_or known_la known_oss)) 200 (T':=⟨[(4,(.slu 0 0 3 0)),(5,(.v (.int .i64 (.ofNat 0))))],[],1,[(0,(qN13_1 L M P0 P1 P2))]⟩) (e:=.ret) (m:=4) (ps:=[IsEq 1 (qN13_6 P0 P1 P2 v0 v1 v2) 3,IsPr 2 L.length (cR L),((3:Nat)≤1000),(!eqI (ccE (qN13_6 P0 P1 P2 v0 v1 v2) 3 (cR L) L.length) 0)=false,ltI 0 1=true,(!eqI M.length L.length)=false,IsI 1 M.length (cI M),M.length≤1000,(!afB 0 1000 (cI M) M.length)=false,inR IntKind.i64 (0 + 1),ltI (0 + 1) 1=false,(!eqI 0 0)=false,FreeL (qN13_6 P0 P1 P2 v0 v1 v2),FreeL (cR L),FreeL (cI M),IsEq 1 (qN13_6 P0 P1 P2 v0 v1 v2) 3,IsPr 2 L.length (cR L),IsI 1 M.length (cI M),FreeL (qN13_6 P0 P1 P2 v0 v1 v2),FreeL (cR L),FreeL (cI M),FreeL (qN13_6 P0 P1 P2 v0 v1 v2),FreeL (cR L),FreeL (cI M),IsPr 2 L.length (cR L),IsI 1 M.length (cI M),IsPr 2 P0.length (cR P0),IsPr 2 P1.length (cR P1),IsPr 2 P2.length (cR P2),1≤L.length∧L.length≤8,P0.length=L.length,P1.length=L.length,P2.length=L.length,M.length=L.length,Is1 1,Is3 3,SpOK (cR P0) (cR P1) (cR P2) (cR L) (cI M) L.length]) [.go,.go,.go,.go,.go,.go,.go,.go,.go,.go,.go,.go,.b false,.go,.go,.go,.go,.b true,.go,.go,.go,.go,.go,.go,.go,.go,.go,.b false,.go,.go,.b false,.go,.go,.go,.b false,.go,.go,.go,.go,.b false,.go,.go,.go,.go] [3] [(.slu 3 0 3 0),(.v (.int .i64 (.ofNat 0)))] [(qN13_1 L M P0 P1 P2)] (by kernel_rfl) (by kernel_rfl) ⟨⟨rfl,[(v0,P0),(v1,P1),(v2,P2)],rfl,rfl⟩,⟨rfl,L,rfl,rfl⟩,(by decide),(by rw [hqspoo3_1]; rfl),rfl,(by rw [hqspoo3_2]; rfl),⟨rfl,M,rfl,rfl⟩,(by omega),(by rw [hqspoo3_3]; rfl),(by show -9223372036854775808≤(_:Int)∧(_:Int)≤9223372036854775807; constructor <;> decide),rfl,rfl,(freeL_plainQ [(v0,P0),(v1,P1),(v2,P2)]),(freeL_plain (cR_plain _)),(freeL_plain (cI_plain _)),⟨rfl,[(v0,P0),(v1,P1),(v2,P2)],rfl,rfl⟩,⟨rfl,L,rfl,rfl⟩,⟨rfl,M,rfl,rfl⟩,(freeL_plainQ [(v0,P0),(v1,P1),(v2,P2)]),(freeL_plain (cR_plain _)),(freeL_plain (cI_plain _)),(freeL_plainQ [(v0,P0),(v1,P1),(v2,P2)]),(freeL_plain (cR_plain _)),(freeL_plain (cI_plain _)),⟨rfl,L,rfl,rfl⟩,⟨rfl,M,rfl,rfl⟩,⟨rfl,P0,rfl,rfl⟩,⟨rfl,P1,rfl,rfl⟩,⟨rfl,P2,rfl,rfl⟩,hn,(hrow 0 (by decide)),(hrow 1 (by decide)),(hrow 2 (by decide)),hH1,rfl,rfl,⟨hlam,hcur 0 (by decide),hcur 1 (by decide),hcur 2 (by decide),hH2⟩,trivial⟩ rfl rfl (by decide) rfl ⟨nr_slu rfl,nr_v _,trivial⟩ ⟨⟨by show 0 < 1; decide,nrb_row (nrl_cons (nr_v _) (nrl_cons (nr_v _) (nrl_cons (nr_v _) (nrl_cons (nr_v _) (nrl_cons (nr_v _) (nrl_cons (nr_v _) (nrl_nil)))))))⟩,trivial⟩) (en_eqM (r:=(.tup [(.slu 0 0 3 0),(.v (.int .i64 (.ofNat 0)))])) (ys:=[(qN13_1 L M P0 P1 P2)]) (by rfl) (by rfl) (en_retM (by kernel_rfl) (by kernel_rfl) rfl (.inr rfl)))
   ·skip
    exact absurd (chE_zero hH).2 (by rw [hqspoo3_3]; decide)
  ·skip
   have ghqspoo3_2:=eqI_false hqspoo3_2
   exfalso
   have h9:=(chE_zero hH).1
   have h8:=eqI_false hqspoo3_2
   omega
 ·skip
  have ghqspoo3_1:=eqI_false hqspoo3_1
  exact absurd hC (eqI_false hqspoo3_1)
theorem spoo_g (y v0:Value) (P0:List (Int×Int)) (v1:Value) (P1:List (Int×Int)) (v2:Value) (P2:List (Int×Int)) (yl:Value) (L:List (Int×Int)) (z:Value) (M:List Int) (hM3:M.length≤1000) (hC:ccE (qN13_7 P0 P1 P2 v0 v1 v2) 3 (cR L) L.length=0) (hH:chE L.length (cI M) M.length=0):GivesM Try.prog 18 [(.agg [.xl y 3 1 (qN13_7 P0 P1 P2 v0 v1 v2),.xl yl L.length 2 (cR L)]),(.xl z M.length 1 (cI M))] [] ((.tup [.slu 0 0 3 0,.v (.int .i64 0)])) [(qN13_2 L M P0 P1 P2)] :=
 givesM_parts 18 (by kernel_rfl) Try.func18 (by kernel_rfl) (by kernel_rfl) (by kernel_rfl) (fun v eb ec=>goes_less (by kernel_rfl) (by kernel_rfl) (by kernel_rfl) (by kernel_rfl) (spoo_2 y v0 P0 v1 P1 v2 P2 yl L z M hM3 hC hH v eb ec []))
noncomputable def sprcK1:Code:=bodyC Try.f19
theorem sprc_2 (y:Value) (E:List (Value×List (Int×Int))) (yl:Value) (L:List (Int×Int)) (z:Value) (M:List Int) (hE3:E.length≤1000) (hC:¬ ccE (cQw E) E.length (cR L) L.length=0) (v:BaseW) (eb:Nat→Option Nat) (ec:Nat→Nat) (hs:List Nat):Goes Try.prog 18 sprcK1 ((qN13_3 E L M y yl z)) (BaseW.H (bw v 0 eb ec) hs) (OutM Try.prog Try.f19 18 ((.tup [.v (.slice none 0 0),.v (.int .i64 (ccE (cQw E) E.length (cR L) L.length))])) [] (bw v 0 eb ec)):=by
 have hcl_L:=cR_len L
 have hcl_M:=cI_len M
 rcases Bool.eq_false_or_eq_true (eqI (ccE (cQw E) E.length (cR L) L.length) 0) with hqsprc3_1 | hqsprc3_1
 ·skip
  have ghqsprc3_1:=eqI_true hqsprc3_1
  rcases Bool.eq_false_or_eq_true (eqI (chE L.length (cI M) M.length) 0) with hqsprc3_2 | hqsprc3_2
  ·skip
   have ghqsprc3_2:=eqI_true hqsprc3_2
   exact absurd (eqI_true hqsprc3_1) hC
  ·skip
   have ghqsprc3_2:=eqI_false hqsprc3_2
   exact absurd (eqI_true hqsprc3_1) hC
 ·skip
  have ghqsprc3_1:=eqI_false hqsprc3_1
  exact goes_leafA isR_e (goes_cut Try.checked.mixed (known_or (known_or known_gr known_gp) known_rss) 200 (T':=(qN13_4 E L)) (e:=.ret) (m:=3) (ps:=[IsEq 1 (cQw E) E.length,IsPr 2 L.length (cR L),E.length≤1000,(!eqI (ccE (cQw E) E.length (cR L) L.length) 0)=true,IsEq 1 (cQw E) E.length,IsPr 2 L.length (cR L),E.length≤1000,(!eqI (ccE (cQw E) E.length (cR L) L.length) 0)=true,IsEq 1 (cQw E) E.length,IsPr 2 L.length (cR L),E.length≤1000,(!eqI (ccE (cQw E) E.length (cR L) L.length) 0)=true,IsEq 1 (cQw E) E.length,IsPr 2 L.length (cR L),E.length≤1000]) [.go,.go,.go,.go,.go,.go,.go,.go,.go,.go,.b true,.go,.go,.go,.b true,.go,.go,.go,.go,.go,.go,.go,.b true,.go,.go,.go,.go] (by kernel_rfl) (by kernel_rfl) ⟨⟨rfl,E,rfl,rfl⟩,⟨rfl,L,rfl,rfl⟩,hE3,(by rw [hqsprc3_1]; rfl),⟨rfl,E,rfl,rfl⟩,⟨rfl,L,rfl,rfl⟩,hE3,(by rw [hqsprc3_1]; rfl),⟨rfl,E,rfl,rfl⟩,⟨rfl,L,rfl,rfl⟩,hE3,(by rw [hqsprc3_1]; rfl),⟨rfl,E,rfl,rfl⟩,⟨rfl,L,rfl,rfl⟩,hE3,trivial⟩ rfl (by show 0≤3; decide) ⟨⟨nb_v _,nb_v _,trivial⟩,trivial,rfl⟩ (by show 0≤0; decide)) (en_eqM (r:=(.tup [(.v (Value.slice none 0 0)),(.v (.int .i64 (ccE (cQw E) E.length (cR L) L.length)))])) (ys:=[]) (by rfl) (by rfl) (en_retM (by kernel_rfl) (by kernel_rfl) rfl (.inr rfl)))
theorem sprc_g (y:Value) (E:List (Value×List (Int×Int))) (yl:Value) (L:List (Int×Int)) (z:Value) (M:List Int) (hE3:E.length≤1000) (hC:¬ ccE (cQw E) E.length (cR L) L.length=0):GivesM Try.prog 19 [(qN13_8 E L y yl),(.xl z M.length 1 (cI M))] [] ((.tup [.v (.slice none 0 0),.v (.int .i64 (ccE (cQw E) E.length (cR L) L.length))])) [] :=
 givesM_parts 18 (by kernel_rfl) Try.func19 (by kernel_rfl) (by kernel_rfl) (by kernel_rfl) (fun v eb ec=>goes_less (by kernel_rfl) (by kernel_rfl) (by kernel_rfl) (by kernel_rfl) (sprc_2 y E yl L z M hE3 hC v eb ec []))
noncomputable def sprhK1:Code:=bodyC Try.f19
theorem sprh_2 (y:Value) (E:List (Value×List (Int×Int))) (yl:Value) (L:List (Int×Int)) (z:Value) (M:List Int) (hE3:E.length≤1000) (hM3:M.length≤1000) (hC:ccE (cQw E) E.length (cR L) L.length=0) (hH:¬ chE L.length (cI M) M.length=0) (v:BaseW) (eb:Nat→Option Nat) (ec:Nat→Nat) (hs:List Nat):Goes Try.prog 18 sprhK1 ((qN13_3 E L M y yl z)) (BaseW.H (bw v 0 eb ec) hs) (OutM Try.prog Try.f19 18 ((.tup [.v (.slice none 0 0),.v (.int .i64 (chE L.length (cI M) M.length))])) [] (bw v 0 eb ec)):=by
 have hcl_L:=cR_len L
 have hcl_M:=cI_len M
 obtain ⟨hn,hm3,hrow,hlam,hcur⟩:=ccE_zero hC
 rcases Bool.eq_false_or_eq_true (eqI (ccE (cQw E) E.length (cR L) L.length) 0) with hqsprh3_1 | hqsprh3_1
 ·skip
  have ghqsprh3_1:=eqI_true hqsprh3_1
  rcases Bool.eq_false_or_eq_true (eqI (chE L.length (cI M) M.length) 0) with hqsprh3_2 | hqsprh3_2
  ·skip
   have ghqsprh3_2:=eqI_true hqsprh3_2
   exact absurd (eqI_true hqsprh3_2) hH
  ·skip
   have ghqsprh3_2:=eqI_false hqsprh3_2
   exact goes_leafA isR_e (goes_cut Try.checked.mixed (known_or (known_or known_gr known_gp) known_rss) 200 (T':=⟨[qN13_9,(5,(.v (.int .i64 (chE L.length (cI M) M.length))))],[],0,[]⟩) (e:=.ret) (m:=3) (ps:=[IsEq 1 (cQw E) E.length,IsPr 2 L.length (cR L),E.length≤1000,(!eqI (ccE (cQw E) E.length (cR L) L.length) 0)=false,IsEq 1 (cQw E) E.length,IsPr 2 L.length (cR L),IsI 1 M.length (cI M),L.length≤1000,(!eqI (chE L.length (cI M) M.length) 0)=true,IsEq 1 (cQw E) E.length,IsPr 2 L.length (cR L),IsI 1 M.length (cI M),L.length≤1000,(!eqI (chE L.length (cI M) M.length) 0)=true,IsEq 1 (cQw E) E.length,IsPr 2 L.length (cR L),E.length≤1000,(!eqI (ccE (cQw E) E.length (cR L) L.length) 0)=false,IsEq 1 (cQw E) E.length,IsPr 2 L.length (cR L),IsI 1 M.length (cI M),L.length≤1000,(!eqI (chE L.length (cI M) M.length) 0)=true,IsEq 1 (cQw E) E.length,IsPr 2 L.length (cR L),IsI 1 M.length (cI M),L.length≤1000]) [.go,.go,.go,.go,.go,.go,.go,.go,.go,.go,.b false,.go,.go,.go,.b true,.go,.go,.go,.go,.b true,.go,.go,.go,.go,.go,.go,.go,.b false,.go,.go,.go,.b true,.go,.go,.go,.go,.go] (by kernel_rfl) (by kernel_rfl) ⟨⟨rfl,E,rfl,rfl⟩,⟨rfl,L,rfl,rfl⟩,hE3,(by rw [hqsprh3_1]; rfl),⟨rfl,E,rfl,rfl⟩,⟨rfl,L,rfl,rfl⟩,⟨rfl,M,rfl,rfl⟩,(by omega),(by rw [hqsprh3_2]; rfl),⟨rfl,E,rfl,rfl⟩,⟨rfl,L,rfl,rfl⟩,⟨rfl,M,rfl,rfl⟩,(by omega),(by rw [hqsprh3_2]; rfl),⟨rfl,E,rfl,rfl⟩,⟨rfl,L,rfl,rfl⟩,hE3,(by rw [hqsprh3_1]; rfl),⟨rfl,E,rfl,rfl⟩,⟨rfl,L,rfl,rfl⟩,⟨rfl,M,rfl,rfl⟩,(by omega),(by rw [hqsprh3_2]; rfl),⟨rfl,E,rfl,rfl⟩,⟨rfl,L,rfl,rfl⟩,⟨rfl,M,rfl,rfl⟩,(by omega),trivial⟩ rfl (by show 0≤3; decide) ⟨⟨nb_v _,nb_v _,trivial⟩,trivial,rfl⟩ (by show 0≤0; decide)) (en_eqM (r:=(.tup [(.v (Value.slice none 0 0)),(.v (.int .i64 (chE L.length (cI M) M.length)))])) (ys:=[]) (by rfl) (by rfl) (en_retM (by kernel_rfl) (by kernel_rfl) rfl (.inr rfl)))
 ·skip
  have ghqsprh3_1:=eqI_false hqsprh3_1
  exact absurd hC (eqI_false hqsprh3_1)
theorem sprh_g (y:Value) (E:List (Value×List (Int×Int))) (yl:Value) (L:List (Int×Int)) (z:Value) (M:List Int) (hE3:E.length≤1000) (hM3:M.length≤1000) (hC:ccE (cQw E) E.length (cR L) L.length=0) (hH:¬ chE L.length (cI M) M.length=0):GivesM Try.prog 19 [(qN13_8 E L y yl),(.xl z M.length 1 (cI M))] [] ((.tup [.v (.slice none 0 0),.v (.int .i64 (chE L.length (cI M) M.length))])) [] :=
 givesM_parts 18 (by kernel_rfl) Try.func19 (by kernel_rfl) (by kernel_rfl) (by kernel_rfl) (fun v eb ec=>goes_less (by kernel_rfl) (by kernel_rfl) (by kernel_rfl) (by kernel_rfl) (sprh_2 y E yl L z M hE3 hM3 hC hH v eb ec []))
noncomputable def sproK1:Code:=bodyC Try.f19
theorem spro_2 (y:Value) (E:List (Value×List (Int×Int))) (yl:Value) (L:List (Int×Int)) (z:Value) (M:List Int) (hE3:E.length≤1000) (hM3:M.length≤1000) (hC:ccE (cQw E) E.length (cR L) L.length=0) (hH:chE L.length (cI M) M.length=0) (v:BaseW) (eb:Nat→Option Nat) (ec:Nat→Nat) (hs:List Nat):Goes Try.prog 18 sproK1 ((qN13_3 E L M y yl z)) (BaseW.H (bw v 0 eb ec) hs) (OutM Try.prog Try.f19 18 ((.tup [.sl 0 0 3 3,.v (.int .i64 0)])) [(qN13_5 E L M)] (bw v 0 eb ec)):=by
 have hcl_L:=cR_len L
 have hcl_M:=cI_len M
 obtain ⟨hn,hm3,hrow,hlam,hcur⟩:=ccE_zero hC
 have hH1:=(chE_zero hH).1
 have hH2:∀ b,b < L.length→0≤intAt (cI M) (b * 1)∧intAt (cI M) (b * 1)≤1000:=fun b hb=>afB_true.1 (chE_zero hH).2 b (by omega)
 rcases Bool.eq_false_or_eq_true (eqI (ccE (cQw E) E.length (cR L) L.length) 0) with hqspro3_1 | hqspro3_1
 ·skip
  have ghqspro3_1:=eqI_true hqspro3_1
  rcases Bool.eq_false_or_eq_true (eqI (chE L.length (cI M) M.length) 0) with hqspro3_2 | hqspro3_2
  ·skip
   have ghqspro3_2:=eqI_true hqspro3_2
   exact goes_leafA isR_e (goes_cutR Try.checked.mixed (known_or (known_or known_gr known_gp) known_rss) 200 (T':=⟨[(4,(.sl 0 0 3 3)),(5,(.v (.int .i64 (.ofNat 0))))],[],1,[(0,(qN13_5 E L M))]⟩) (e:=.ret) (m:=3) (ps:=[IsEq 1 (cQw E) E.length,IsPr 2 L.length (cR L),E.length≤1000,(!eqI (ccE (cQw E) E.length (cR L) L.length) 0)=false,IsEq 1 (cQw E) E.length,IsPr 2 L.length (cR L),IsI 1 M.length (cI M),L.length≤1000,(!eqI (chE L.length (cI M) M.length) 0)=false,IsEq 1 (cQw E) E.length,IsPr 2 L.length (cR L),IsI 1 M.length (cI M),L.length≤1000,(!eqI (chE L.length (cI M) M.length) 0)=false,IsEq 1 (cQw E) E.length,IsPr 2 L.length (cR L),IsI 1 M.length (cI M),Is3 E.length,M.length=L.length,L.length≤8,RsOK (cQw E) (cR L) (cI M) L.length]) [.go,.go,.go,.go,.go,.go,.go,.go,.go,.go,.b false,.go,.go,.go,.b false,.go,.go,.go,.go,.b false,.go,.go,.go,.go] [2] [(.sl 2 0 3 3),(.v (.int .i64 (.ofNat 0)))] [(qN13_5 E L M)] (by kernel_rfl) (by kernel_rfl) ⟨⟨rfl,E,rfl,rfl⟩,⟨rfl,L,rfl,rfl⟩,hE3,(by rw [hqspro3_1]; rfl),⟨rfl,E,rfl,rfl⟩,⟨rfl,L,rfl,rfl⟩,⟨rfl,M,rfl,rfl⟩,(by omega),(by rw [hqspro3_2]; rfl),⟨rfl,E,rfl,rfl⟩,⟨rfl,L,rfl,rfl⟩,⟨rfl,M,rfl,rfl⟩,(by omega),(by rw [hqspro3_2]; rfl),⟨rfl,E,rfl,rfl⟩,⟨rfl,L,rfl,rfl⟩,⟨rfl,M,rfl,rfl⟩,(by first | rfl | exact hm3),hH1,hn.2,⟨hrow,hlam,hcur,hH2⟩,trivial⟩ rfl rfl (by decide) rfl ⟨nr_sl rfl,nr_v _,trivial⟩ ⟨⟨by show 0 < 1; decide,nrb_cells (nrl_plain (cI_plain _))⟩,trivial⟩) (en_eqM (r:=(.tup [(.sl 0 0 3 3),(.v (.int .i64 (.ofNat 0)))])) (ys:=[(qN13_5 E L M)]) (by rfl) (by rfl) (en_retM (by kernel_rfl) (by kernel_rfl) rfl (.inr rfl)))
  ·skip
   have ghqspro3_2:=eqI_false hqspro3_2
   exact absurd hH (eqI_false hqspro3_2)
 ·skip
  have ghqspro3_1:=eqI_false hqspro3_1
  exact absurd hC (eqI_false hqspro3_1)
theorem spro_g (y:Value) (E:List (Value×List (Int×Int))) (yl:Value) (L:List (Int×Int)) (z:Value) (M:List Int) (hE3:E.length≤1000) (hM3:M.length≤1000) (hC:ccE (cQw E) E.length (cR L) L.length=0) (hH:chE L.length (cI M) M.length=0):GivesM Try.prog 19 [(.agg [.xl y E.length 1 (cQw E),.xl yl L.length 2 (cR L)]),(.xl z M.length 1 (cI M))] [] ((.tup [.sl 0 0 3 3,.v (.int .i64 0)])) [(.cells (cI (tI (s6A (loP (cQw E) (cR L) (cI M)) (hiP (cQw E) (cR L) (cI M)) L.length 3) 6)) 65)] :=
 givesM_parts 18 (by kernel_rfl) Try.func19 (by kernel_rfl) (by kernel_rfl) (by kernel_rfl) (fun v eb ec=>goes_less (by kernel_rfl) (by kernel_rfl) (by kernel_rfl) (by kernel_rfl) (spro_2 y E yl L z M hE3 hM3 hC hH v eb ec []))
end
end Go.Proofs.Ytegmogadbnfbgaa
