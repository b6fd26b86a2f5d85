import Derived.Test.YtegmogadbnfbgaaN14
set_option linter.all false
/- What is known of what MetamerNumbers calls. -/
namespace Go.Proofs.Ytegmogadbnfbgaa
open Go Ev
noncomputable section
theorem spro_l (y:Value) (E:List (Value×List (Int×Int))) (yl:Value) (L:List (Int×Int)) (z:Value) (M:List Int) (h1:E.length≤1000) (h2:M.length≤1000) (h3:ccE (cQw E) E.length (cR L) L.length=0) (h4:chE L.length (cI M) M.length=0):GivesM Try.prog 19 [.agg [.xl y E.length 1 (cQw E),.xl yl L.length 2 (cR L)],.xl z M.length 1 (cI M)] [] (.tup [.sl 0 0 3 3,.v (.int .i64 0)]) [.cells [.v (.int .i64 (smF (loP (cQw E) (cR L) (cI M) 0) L.length)),.v (.int .i64 (smF (hiP (cQw E) (cR L) (cI M) 0) L.length)),.v (.int .i64 (smF (loP (cQw E) (cR L) (cI M) 1) L.length)),.v (.int .i64 (smF (hiP (cQw E) (cR L) (cI M) 1) L.length)),.v (.int .i64 (smF (loP (cQw E) (cR L) (cI M) 2) L.length)),.v (.int .i64 (smF (hiP (cQw E) (cR L) (cI M) 2) L.length))] 65]:=by
 have h:=spro_g y E yl L z M h1 h2 h3 h4
 rw [s6A_all] at h
 exact h
def gwgS:List AV→Option (Res1×List Prop):=fun vs =>
 match vs with
 | [.agg [.xl y m k1 cE,.xl yl n k2 cL]]=>some (.val (.v (.bool (gwB cE m n))),[IsEq k1 cE m,IsPr k2 n cL])
 | _=>none
def gwgO:OrcH:=extOrc 13 gwgS
theorem known_gwg:Known Try.prog (clsO gwgO):=known_ext (fun vs r ps h hp=>by
 unfold gwgS at h
 split at h
 ·cases h
  obtain ⟨⟨rfl,E,rfl,rfl⟩,⟨rfl,L,rfl,rfl⟩,-⟩:=hp
  exact ⟨extL_cons (ext_case E L) extL_nil,_,rfl,gwg_g _ E _ L⟩
 ·cases h)
def gwwS:List AV→Option (Res1×List Prop):=fun vs =>
 match vs with
 | [.agg [.xl u mx k3 cX,.xl ul nx k4 cY]]=>some (.val (.v (.bool (gwB cX mx nx))),[IsEi k3 cX mx,IsI k4 nx cY])
 | _=>none
def gwwO:OrcH:=extOrc 14 gwwS
theorem known_gww:Known Try.prog (clsO gwwO):=known_ext (fun vs r ps h hp=>by
 unfold gwwS at h
 split at h
 ·cases h
  obtain ⟨⟨rfl,X,rfl,rfl⟩,⟨rfl,Y,rfl,rfl⟩,-⟩:=hp
  exact ⟨extL_cons (ext_true X Y) extL_nil,_,rfl,gww_g _ X _ Y⟩
 ·cases h)
def isO1:Nat→Bool
 | 1=>true
 | _=>false
theorem isO1_ok {n:Nat} (h:isO1 n=true):n=1:=by
 match n,h with
 | 1,_=>rfl
def isZ0:Nat→Bool
 | 0=>true
 | _=>false
theorem isZ0_ok {n:Nat} (h:isZ0 n=true):n=0:=by
 match n,h with
 | 0,_=>rfl
def IsLo2 (t:TypeId):Prop:=t=2
def IsRn (t:TypeId):Prop:=t=65
def IsTwo3 (c:List AV) (n n2:Nat) (d:List AV) (m m2:Nat):Prop:=∃ X:List Int,c=cI X∧d=cI X∧n=X.length∧n2=X.length∧m=X.length∧m2=X.length∧X.length≤5000
def lgS:List AV→List AB→Option ((AV×List AB)×List Prop):=fun args xs =>
 match args,xs with
 | [.sl b o n n2,.sl b2 o2 m m2],[.cells c t,.cells d t2]=>match isZ0 b,isZ0 o,isO1 b2,isZ0 o2 with
  | true,true,true,true=>some ((.v (.bool true),[.cells c t,.cells d t2]),[IsLo2 t,IsLo2 t2,IsTwo3 c n n2 d m m2])
  | _,_,_,_=>none
 | _,_=>none
def lgO:OrcH:=mOrc 22 lgS
theorem known_lg:Known Try.prog (clsO lgO):=known_m (fun args xs r ys ps h hp=>by
 unfold lgS at h
 split at h
 ·split at h
  ·rename_i e1 e2 e3 e4
   cases h
   obtain ⟨rfl,rfl,⟨X,rfl,rfl,rfl,rfl,rfl,rfl,hX⟩,-⟩:=hp
   rw [isZ0_ok e1,isZ0_ok e2,isO1_ok e3,isZ0_ok e4]
   have hF:∀ x,x∈[AB.cells (cI X) 2,AB.cells (cI X) 2]→FreeB x:=fun x hx=>by
    rcases List.mem_cons.1 hx with rfl | hx
    ·exact freeB_cells (freeL_plain (cI_plain _))
    ·rw [List.mem_singleton.1 hx]; exact freeB_cells (freeL_plain (cI_plain _))
   exact ⟨hF,hF,lg_g X hX⟩
  ·cases h
 ·cases h)
def Same6 (c d:List AV):Prop:=∃ a0 a1 a2 a3 a4 a5:Int,c=[.v (.int .i64 a0),.v (.int .i64 a1),.v (.int .i64 a2),.v (.int .i64 a3),.v (.int .i64 a4),.v (.int .i64 a5)]∧d=[.v (.int .i64 a0),.v (.int .i64 a1),.v (.int .i64 a2),.v (.int .i64 a3),.v (.int .i64 a4),.v (.int .i64 a5)]
def Is2 (k:Nat):Prop:=k=2
def rnS:List AV→List AB→Option ((AV×List AB)×List Prop):=fun args xs =>
 match args,xs with
 | [.slu b o n d1,.sl b2 o2 m m2],[.row c t k,.cells d t2]=>match isZ0 b,isZ0 o,isO1 b2,isZ0 o2,isZ0 d1 with
  | true,true,true,true,true=>some ((.v (.bool true),[.row c t k,.cells d t2]),[IsRn t,IsRn t2,Is2 k,Is3 n,Is3 m,Is3 m2,Same6 c d])
  | _,_,_,_,_=>none
 | _,_=>none
def rnO:OrcH:=mOrc 23 rnS
theorem known_rn:Known Try.prog (clsO rnO):=known_m (fun args xs r ys ps h hp=>by
 unfold rnS at h
 split at h
 ·split at h
  ·rename_i e1 e2 e3 e4 e5
   cases h
   obtain ⟨rfl,rfl,rfl,rfl,rfl,rfl,⟨a0,a1,a2,a3,a4,a5,rfl,rfl⟩,-⟩:=hp
   rw [isZ0_ok e1,isZ0_ok e2,isO1_ok e3,isZ0_ok e4,isZ0_ok e5]
   have hF:∀ x,x∈[AB.row [.v (.int .i64 a0),.v (.int .i64 a1),.v (.int .i64 a2),.v (.int .i64 a3),.v (.int .i64 a4),.v (.int .i64 a5)] 65 2,AB.cells [.v (.int .i64 a0),.v (.int .i64 a1),.v (.int .i64 a2),.v (.int .i64 a3),.v (.int .i64 a4),.v (.int .i64 a5)] 65]→FreeB x:=fun x hx=>by
    rcases List.mem_cons.1 hx with rfl | hx
    ·exact freeB_row (freeL_plain (cI_plain [a0,a1,a2,a3,a4,a5]))
    ·rw [List.mem_singleton.1 hx]; exact freeB_cells (freeL_plain (cI_plain [a0,a1,a2,a3,a4,a5]))
   exact ⟨hF,hF,rn_g a0 a1 a2 a3 a4 a5⟩
  ·cases h
 ·cases h)
def wkO:OrcH:=plainOrc 15 (fun xs=>match xs with | []=>some (.v (.bool true)) | _=>none)
def nuocS:List AV→List AB→Option ((AV×List AB)×List Prop):=fun args xs =>
 match args,xs with
 | [.agg [.xl y m k1 cE,.xl yl n k2 cL],.agg [.xl u mx k3 cX,.xl ul nx k4 cY],.xl z r k5 cM],[]=>some ((.tup [.v (.slice none 0 0),.v (.int .i64 (ccE cE m cL n))],[]),[IsEq k1 cE m,IsPr k2 n cL,IsEi k3 cX mx,IsI k4 nx cY,IsI k5 r cM,m≤1000,¬ ccE cE m cL n=0])
 | _,_=>none
def nuocO:OrcH:=mOrc 16 nuocS
theorem known_nuoc:Known Try.prog (clsO nuocO):=known_m (fun args xs r ys ps h hp=>by
 unfold nuocS at h
 split at h
 ·cases h
  obtain ⟨⟨rfl,E,rfl,rfl⟩,⟨rfl,L,rfl,rfl⟩,⟨rfl,X,rfl,rfl⟩,⟨rfl,Y,rfl,rfl⟩,⟨rfl,M,rfl,rfl⟩,h1,h2,-⟩:=hp
  exact ⟨fun x hx=>absurd hx List.not_mem_nil,fun x hx=>absurd hx List.not_mem_nil,nuoc_g _ E _ L _ X _ Y _ M h1 h2⟩
 ·cases h)
def nuohS:List AV→List AB→Option ((AV×List AB)×List Prop):=fun args xs =>
 match args,xs with
 | [.agg [.xl y m k1 cE,.xl yl n k2 cL],.agg [.xl u mx k3 cX,.xl ul nx k4 cY],.xl z r k5 cM],[]=>some ((.tup [.v (.slice none 0 0),.v (.int .i64 (chE n cM r))],[]),[IsEq k1 cE m,IsPr k2 n cL,IsEi k3 cX mx,IsI k4 nx cY,IsI k5 r cM,m≤1000,mx≤1000,r≤1000,ccE cE m cL n=0,¬ chE n cM r=0])
 | _,_=>none
def nuohO:OrcH:=mOrc 16 nuohS
theorem known_nuoh:Known Try.prog (clsO nuohO):=known_m (fun args xs r ys ps h hp=>by
 unfold nuohS at h
 split at h
 ·cases h
  obtain ⟨⟨rfl,E,rfl,rfl⟩,⟨rfl,L,rfl,rfl⟩,⟨rfl,X,rfl,rfl⟩,⟨rfl,Y,rfl,rfl⟩,⟨rfl,M,rfl,rfl⟩,h1,h2,h3,h4,h5,-⟩:=hp
  exact ⟨fun x hx=>absurd hx List.not_mem_nil,fun x hx=>absurd hx List.not_mem_nil,nuoh_g _ E _ L _ X _ Y _ M h1 h2 h3 h4 h5⟩
 ·cases h)
def nuotS:List AV→List AB→Option ((AV×List AB)×List Prop):=fun args xs =>
 match args,xs with
 | [.agg [.xl y m k1 cE,.xl yl n k2 cL],.agg [.xl u mx k3 cX,.xl ul nx k4 cY],.xl z r k5 cM],[]=>some ((.tup [.v (.slice none 0 0),.v (.int .i64 (ctE cE cL n cX mx cY nx))],[]),[IsEq k1 cE m,IsPr k2 n cL,IsEi k3 cX mx,IsI k4 nx cY,IsI k5 r cM,m≤1000,mx≤1000,r≤1000,ccE cE m cL n=0,chE n cM r=0,¬ ctE cE cL n cX mx cY nx=0])
 | _,_=>none
def nuotO:OrcH:=mOrc 16 nuotS
theorem known_nuot:Known Try.prog (clsO nuotO):=known_m (fun args xs r ys ps h hp=>by
 unfold nuotS at h
 split at h
 ·cases h
  obtain ⟨⟨rfl,E,rfl,rfl⟩,⟨rfl,L,rfl,rfl⟩,⟨rfl,X,rfl,rfl⟩,⟨rfl,Y,rfl,rfl⟩,⟨rfl,M,rfl,rfl⟩,h1,h2,h3,h4,h5,h6,-⟩:=hp
  exact ⟨fun x hx=>absurd hx List.not_mem_nil,fun x hx=>absurd hx List.not_mem_nil,nuot_g _ E _ L _ X _ Y _ M h1 h2 h3 h4 h5 h6⟩
 ·cases h)
def nuooS:List AV→List AB→Option ((AV×List AB)×List Prop):=fun args xs =>
 match args,xs with
 | [.agg [.xl y m k1 cE,.xl yl n k2 cL],.agg [.xl u mx k3 cX,.xl ul nx k4 cY],.xl z r k5 cM],[]=>some ((.tup [.sl 0 0 3 3,.v (.int .i64 0)],[.cells (cI (tI (thA (nuP cX cY cM) n 3) 3)) 2]),[IsEq k1 cE m,IsPr k2 n cL,IsEi k3 cX mx,IsI k4 nx cY,IsI k5 r cM,m≤1000,mx≤1000,r≤1000,ccE cE m cL n=0,chE n cM r=0,ctE cE cL n cX mx cY nx=0])
 | _,_=>none
def nuooO:OrcH:=mOrc 16 nuooS
theorem known_nuoo:Known Try.prog (clsO nuooO):=known_m (fun args xs r ys ps h hp=>by
 unfold nuooS at h
 split at h
 ·cases h
  obtain ⟨⟨rfl,E,rfl,rfl⟩,⟨rfl,L,rfl,rfl⟩,⟨rfl,X,rfl,rfl⟩,⟨rfl,Y,rfl,rfl⟩,⟨rfl,M,rfl,rfl⟩,h1,h2,h3,h4,h5,h6,-⟩:=hp
  exact ⟨fun x hx=>absurd hx List.not_mem_nil,(fun x hx=>by rw [List.mem_singleton.1 hx]; exact freeB_cells (freeL_plain (cI_plain _))),nuoo_g _ E _ L _ X _ Y _ M h1 h2 h3 h4 h5 h6⟩
 ·cases h)
def spocS:List AV→List AB→Option ((AV×List AB)×List Prop):=fun args xs =>
 match args,xs with
 | [.agg [.xl y m k1 cE,.xl yl n k2 cL],.xl z r k5 cM],[]=>some ((.tup [.v (.slice none 0 0),.v (.int .i64 (ccE cE m cL n))],[]),[IsEq k1 cE m,IsPr k2 n cL,IsI k5 r cM,m≤1000,¬ ccE cE m cL n=0])
 | _,_=>none
def spocO:OrcH:=mOrc 18 spocS
theorem known_spoc:Known Try.prog (clsO spocO):=known_m (fun args xs r ys ps h hp=>by
 unfold spocS at h
 split at h
 ·cases h
  obtain ⟨⟨rfl,E,rfl,rfl⟩,⟨rfl,L,rfl,rfl⟩,⟨rfl,M,rfl,rfl⟩,h1,h2,-⟩:=hp
  exact ⟨fun x hx=>absurd hx List.not_mem_nil,fun x hx=>absurd hx List.not_mem_nil,spoc_g _ E _ L _ M h1 h2⟩
 ·cases h)
def spohS:List AV→List AB→Option ((AV×List AB)×List Prop):=fun args xs =>
 match args,xs with
 | [.agg [.xl y m k1 cE,.xl yl n k2 cL],.xl z r k5 cM],[]=>some ((.tup [.v (.slice none 0 0),.v (.int .i64 (chE n cM r))],[]),[IsEq k1 cE m,IsPr k2 n cL,IsI k5 r cM,m≤1000,r≤1000,ccE cE m cL n=0,¬ chE n cM r=0])
 | _,_=>none
def spohO:OrcH:=mOrc 18 spohS
theorem known_spoh:Known Try.prog (clsO spohO):=known_m (fun args xs r ys ps h hp=>by
 unfold spohS at h
 split at h
 ·cases h
  obtain ⟨⟨rfl,E,rfl,rfl⟩,⟨rfl,L,rfl,rfl⟩,⟨rfl,M,rfl,rfl⟩,h1,h2,h3,h4,-⟩:=hp
  exact ⟨fun x hx=>absurd hx List.not_mem_nil,fun x hx=>absurd hx List.not_mem_nil,spoh_g _ E _ L _ M h1 h2 h3 h4⟩
 ·cases h)
def nurcS:List AV→List AB→Option ((AV×List AB)×List Prop):=fun args xs =>
 match args,xs with
 | [.agg [.xl y m k1 cE,.xl yl n k2 cL],.agg [.xl u mx k3 cX,.xl ul nx k4 cY],.xl z r k5 cM],[]=>some ((.tup [.v (.slice none 0 0),.v (.int .i64 (ccE cE m cL n))],[]),[IsEq k1 cE m,IsPr k2 n cL,IsEi k3 cX mx,IsI k4 nx cY,IsI k5 r cM,m≤1000,¬ ccE cE m cL n=0])
 | _,_=>none
def nurcO:OrcH:=mOrc 17 nurcS
theorem known_nurc:Known Try.prog (clsO nurcO):=known_m (fun args xs r ys ps h hp=>by
 unfold nurcS at h
 split at h
 ·cases h
  obtain ⟨⟨rfl,E,rfl,rfl⟩,⟨rfl,L,rfl,rfl⟩,⟨rfl,X,rfl,rfl⟩,⟨rfl,Y,rfl,rfl⟩,⟨rfl,M,rfl,rfl⟩,h1,h2,-⟩:=hp
  exact ⟨fun x hx=>absurd hx List.not_mem_nil,fun x hx=>absurd hx List.not_mem_nil,nurc_g _ E _ L _ X _ Y _ M h1 h2⟩
 ·cases h)
def nurhS:List AV→List AB→Option ((AV×List AB)×List Prop):=fun args xs =>
 match args,xs with
 | [.agg [.xl y m k1 cE,.xl yl n k2 cL],.agg [.xl u mx k3 cX,.xl ul nx k4 cY],.xl z r k5 cM],[]=>some ((.tup [.v (.slice none 0 0),.v (.int .i64 (chE n cM r))],[]),[IsEq k1 cE m,IsPr k2 n cL,IsEi k3 cX mx,IsI k4 nx cY,IsI k5 r cM,m≤1000,mx≤1000,r≤1000,ccE cE m cL n=0,¬ chE n cM r=0])
 | _,_=>none
def nurhO:OrcH:=mOrc 17 nurhS
theorem known_nurh:Known Try.prog (clsO nurhO):=known_m (fun args xs r ys ps h hp=>by
 unfold nurhS at h
 split at h
 ·cases h
  obtain ⟨⟨rfl,E,rfl,rfl⟩,⟨rfl,L,rfl,rfl⟩,⟨rfl,X,rfl,rfl⟩,⟨rfl,Y,rfl,rfl⟩,⟨rfl,M,rfl,rfl⟩,h1,h2,h3,h4,h5,-⟩:=hp
  exact ⟨fun x hx=>absurd hx List.not_mem_nil,fun x hx=>absurd hx List.not_mem_nil,nurh_g _ E _ L _ X _ Y _ M h1 h2 h3 h4 h5⟩
 ·cases h)
def nurtS:List AV→List AB→Option ((AV×List AB)×List Prop):=fun args xs =>
 match args,xs with
 | [.agg [.xl y m k1 cE,.xl yl n k2 cL],.agg [.xl u mx k3 cX,.xl ul nx k4 cY],.xl z r k5 cM],[]=>some ((.tup [.v (.slice none 0 0),.v (.int .i64 (ctE cE cL n cX mx cY nx))],[]),[IsEq k1 cE m,IsPr k2 n cL,IsEi k3 cX mx,IsI k4 nx cY,IsI k5 r cM,m≤1000,mx≤1000,r≤1000,ccE cE m cL n=0,chE n cM r=0,¬ ctE cE cL n cX mx cY nx=0])
 | _,_=>none
def nurtO:OrcH:=mOrc 17 nurtS
theorem known_nurt:Known Try.prog (clsO nurtO):=known_m (fun args xs r ys ps h hp=>by
 unfold nurtS at h
 split at h
 ·cases h
  obtain ⟨⟨rfl,E,rfl,rfl⟩,⟨rfl,L,rfl,rfl⟩,⟨rfl,X,rfl,rfl⟩,⟨rfl,Y,rfl,rfl⟩,⟨rfl,M,rfl,rfl⟩,h1,h2,h3,h4,h5,h6,-⟩:=hp
  exact ⟨fun x hx=>absurd hx List.not_mem_nil,fun x hx=>absurd hx List.not_mem_nil,nurt_g _ E _ L _ X _ Y _ M h1 h2 h3 h4 h5 h6⟩
 ·cases h)
def nuroS:List AV→List AB→Option ((AV×List AB)×List Prop):=fun args xs =>
 match args,xs with
 | [.agg [.xl y m k1 cE,.xl yl n k2 cL],.agg [.xl u mx k3 cX,.xl ul nx k4 cY],.xl z r k5 cM],[]=>some ((.tup [.sl 0 0 3 3,.v (.int .i64 0)],[.cells (cI (tI (thA (nuP cX cY cM) n 3) 3)) 2]),[IsEq k1 cE m,IsPr k2 n cL,IsEi k3 cX mx,IsI k4 nx cY,IsI k5 r cM,m≤1000,mx≤1000,r≤1000,ccE cE m cL n=0,chE n cM r=0,ctE cE cL n cX mx cY nx=0])
 | _,_=>none
def nuroO:OrcH:=mOrc 17 nuroS
theorem known_nuro:Known Try.prog (clsO nuroO):=known_m (fun args xs r ys ps h hp=>by
 unfold nuroS at h
 split at h
 ·cases h
  obtain ⟨⟨rfl,E,rfl,rfl⟩,⟨rfl,L,rfl,rfl⟩,⟨rfl,X,rfl,rfl⟩,⟨rfl,Y,rfl,rfl⟩,⟨rfl,M,rfl,rfl⟩,h1,h2,h3,h4,h5,h6,-⟩:=hp
  exact ⟨fun x hx=>absurd hx List.not_mem_nil,(fun x hx=>by rw [List.mem_singleton.1 hx]; exact freeB_cells (freeL_plain (cI_plain _))),nuro_g _ E _ L _ X _ Y _ M h1 h2 h3 h4 h5 h6⟩
 ·cases h)
def sprcS:List AV→List AB→Option ((AV×List AB)×List Prop):=fun args xs =>
 match args,xs with
 | [.agg [.xl y m k1 cE,.xl yl n k2 cL],.xl z r k5 cM],[]=>some ((.tup [.v (.slice none 0 0),.v (.int .i64 (ccE cE m cL n))],[]),[IsEq k1 cE m,IsPr k2 n cL,IsI k5 r cM,m≤1000,¬ ccE cE m cL n=0])
 | _,_=>none
def sprcO:OrcH:=mOrc 19 sprcS
theorem known_sprc:Known Try.prog (clsO sprcO):=known_m (fun args xs r ys ps h hp=>by
 unfold sprcS at h
 split at h
 ·cases h
  obtain ⟨⟨rfl,E,rfl,rfl⟩,⟨rfl,L,rfl,rfl⟩,⟨rfl,M,rfl,rfl⟩,h1,h2,-⟩:=hp
  exact ⟨fun x hx=>absurd hx List.not_mem_nil,fun x hx=>absurd hx List.not_mem_nil,sprc_g _ E _ L _ M h1 h2⟩
 ·cases h)
def sprhS:List AV→List AB→Option ((AV×List AB)×List Prop):=fun args xs =>
 match args,xs with
 | [.agg [.xl y m k1 cE,.xl yl n k2 cL],.xl z r k5 cM],[]=>some ((.tup [.v (.slice none 0 0),.v (.int .i64 (chE n cM r))],[]),[IsEq k1 cE m,IsPr k2 n cL,IsI k5 r cM,m≤1000,r≤1000,ccE cE m cL n=0,¬ chE n cM r=0])
 | _,_=>none
def sprhO:OrcH:=mOrc 19 sprhS
theorem known_sprh:Known Try.prog (clsO sprhO):=known_m (fun args xs r ys ps h hp=>by
 unfold sprhS at h
 split at h
 ·cases h
  obtain ⟨⟨rfl,E,rfl,rfl⟩,⟨rfl,L,rfl,rfl⟩,⟨rfl,M,rfl,rfl⟩,h1,h2,h3,h4,-⟩:=hp
  exact ⟨fun x hx=>absurd hx List.not_mem_nil,fun x hx=>absurd hx List.not_mem_nil,sprh_g _ E _ L _ M h1 h2 h3 h4⟩
 ·cases h)
def spooS:List AV→List AB→Option ((AV×List AB)×List Prop):=fun args xs =>
 match args,xs with
 | [.agg [.xl y m k1 [.xl v0 n0 j0 c0,.xl v1 n1 j1 c1,.xl v2 n2 j2 c2],.xl yl n k2 cL],.xl z r k5 cM],[]=>some ((.tup [.slu 0 0 3 0,.v (.int .i64 0)],[.row [.v (.int .i64 (spN c0 c1 c2 cL cM n false 0)),.v (.int .i64 (spN c0 c1 c2 cL cM n true 0)),.v (.int .i64 (spN c0 c1 c2 cL cM n false 1)),.v (.int .i64 (spN c0 c1 c2 cL cM n true 1)),.v (.int .i64 (spN c0 c1 c2 cL cM n false 2)),.v (.int .i64 (spN c0 c1 c2 cL cM n true 2))] 65 2]),[Is1 k1,Is3 m,IsPr j0 n0 c0,IsPr j1 n1 c1,IsPr j2 n2 c2,IsPr k2 n cL,IsI k5 r cM,r≤1000,ccE [.xl v0 n0 j0 c0,.xl v1 n1 j1 c1,.xl v2 n2 j2 c2] 3 cL n=0,chE n cM r=0])
 | _,_=>none
def spooO:OrcH:=mOrc 18 spooS
theorem known_spoo:Known Try.prog (clsO spooO):=known_m (fun args xs r ys ps h hp=>by
 unfold spooS at h
 split at h
 ·cases h
  obtain ⟨rfl,rfl,⟨rfl,P0,rfl,rfl⟩,⟨rfl,P1,rfl,rfl⟩,⟨rfl,P2,rfl,rfl⟩,⟨rfl,L,rfl,rfl⟩,⟨rfl,M,rfl,rfl⟩,h1,h2,h3,-⟩:=hp
  exact ⟨fun x hx=>absurd hx List.not_mem_nil,(fun x hx=>by rw [List.mem_singleton.1 hx]; exact freeB_row (freeL_plain (show plainL [.v (.int .i64 (spN (cR P0) (cR P1) (cR P2) (cR L) (cI M) L.length false 0)),.v (.int .i64 (spN (cR P0) (cR P1) (cR P2) (cR L) (cI M) L.length true 0)),.v (.int .i64 (spN (cR P0) (cR P1) (cR P2) (cR L) (cI M) L.length false 1)),.v (.int .i64 (spN (cR P0) (cR P1) (cR P2) (cR L) (cI M) L.length true 1)),.v (.int .i64 (spN (cR P0) (cR P1) (cR P2) (cR L) (cI M) L.length false 2)),.v (.int .i64 (spN (cR P0) (cR P1) (cR P2) (cR L) (cI M) L.length true 2))]=some _ from rfl))),spoo_g _ _ P0 _ P1 _ P2 _ L _ M h1 h2 h3⟩
 ·cases h)
def sproS:List AV→List AB→Option ((AV×List AB)×List Prop):=fun args xs =>
 match args,xs with
 | [.agg [.xl y m k1 cE,.xl yl n k2 cL],.xl z r k5 cM],[]=>some ((.tup [.sl 0 0 3 3,.v (.int .i64 0)],[.cells [.v (.int .i64 (smF (loP cE cL cM 0) n)),.v (.int .i64 (smF (hiP cE cL cM 0) n)),.v (.int .i64 (smF (loP cE cL cM 1) n)),.v (.int .i64 (smF (hiP cE cL cM 1) n)),.v (.int .i64 (smF (loP cE cL cM 2) n)),.v (.int .i64 (smF (hiP cE cL cM 2) n))] 65]),[IsEq k1 cE m,IsPr k2 n cL,IsI k5 r cM,m≤1000,r≤1000,ccE cE m cL n=0,chE n cM r=0])
 | _,_=>none
def sproO:OrcH:=mOrc 19 sproS
theorem known_spro:Known Try.prog (clsO sproO):=known_m (fun args xs r ys ps h hp=>by
 unfold sproS at h
 split at h
 ·cases h
  obtain ⟨⟨rfl,E,rfl,rfl⟩,⟨rfl,L,rfl,rfl⟩,⟨rfl,M,rfl,rfl⟩,h1,h2,h3,h4,-⟩:=hp
  exact ⟨fun x hx=>absurd hx List.not_mem_nil,(fun x hx=>by rw [List.mem_singleton.1 hx]; exact freeB_cells (freeL_plain (show plainL [.v (.int .i64 (smF (loP (cQw E) (cR L) (cI M) 0) L.length)),.v (.int .i64 (smF (hiP (cQw E) (cR L) (cI M) 0) L.length)),.v (.int .i64 (smF (loP (cQw E) (cR L) (cI M) 1) L.length)),.v (.int .i64 (smF (hiP (cQw E) (cR L) (cI M) 1) L.length)),.v (.int .i64 (smF (loP (cQw E) (cR L) (cI M) 2) L.length)),.v (.int .i64 (smF (hiP (cQw E) (cR L) (cI M) 2) L.length))]=some _ from rfl))),spro_l _ E _ L _ M h1 h2 h3 h4⟩
 ·cases h)
def lNc:OrcH:=orO (orO (orO gwgO gwwO) (orO gcO grO)) (orO (orO (orO nuocO nurcO) (orO spocO sprcO)) (orO (orO lgO rnO) wkO))
theorem known_lNc (hw:Known Try.prog (clsO wkO)):Known Try.prog (clsO lNc):=known_or (known_or (known_or known_gwg known_gww) (known_or known_gc known_gr)) (known_or (known_or (known_or known_nuoc known_nurc) (known_or known_spoc known_sprc)) (known_or (known_or known_lg known_rn) hw))
def lNh:OrcH:=orO (orO (orO gwgO gwwO) (orO gcO grO)) (orO (orO (orO nuohO nurhO) (orO spohO sprhO)) (orO (orO lgO rnO) wkO))
theorem known_lNh (hw:Known Try.prog (clsO wkO)):Known Try.prog (clsO lNh):=known_or (known_or (known_or known_gwg known_gww) (known_or known_gc known_gr)) (known_or (known_or (known_or known_nuoh known_nurh) (known_or known_spoh known_sprh)) (known_or (known_or known_lg known_rn) hw))
def lNt:OrcH:=orO (orO (orO gwgO gwwO) (orO gcO grO)) (orO (orO (orO nuotO nurtO) (orO spooO sproO)) (orO (orO lgO rnO) wkO))
theorem known_lNt (hw:Known Try.prog (clsO wkO)):Known Try.prog (clsO lNt):=known_or (known_or (known_or known_gwg known_gww) (known_or known_gc known_gr)) (known_or (known_or (known_or known_nuot known_nurt) (known_or known_spoo known_spro)) (known_or (known_or known_lg known_rn) hw))
def lNo:OrcH:=orO (orO (orO gwgO gwwO) (orO gcO grO)) (orO (orO (orO nuooO nuroO) (orO spooO sproO)) (orO (orO lgO rnO) wkO))
theorem known_lNo (hw:Known Try.prog (clsO wkO)):Known Try.prog (clsO lNo):=known_or (known_or (known_or known_gwg known_gww) (known_or known_gc known_gr)) (known_or (known_or (known_or known_nuoo known_nuro) (known_or known_spoo known_spro)) (known_or (known_or known_lg known_rn) hw))
end
end Go.Proofs.Ytegmogadbnfbgaa
