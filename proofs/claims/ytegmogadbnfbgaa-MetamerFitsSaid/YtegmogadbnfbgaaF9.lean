import Derived.Test.YtegmogadbnfbgaaF8
set_option maxHeartbeats 2000000
set_option linter.all false
/- What is known of what MetamerFits calls. -/
namespace Go.Proofs.Ytegmogadbnfbgaa
open Go Ev
noncomputable section
def IsTwo (c:List AV) (n n2:Nat) (d:List AV) (m m2:Nat):Prop:=∃ X:List Int,c=cI X∧d=cI X∧n=X.length∧n2=X.length∧m=X.length∧m2=X.length∧X.length≤5000
def IsRoT (t:TypeId):Prop:=t=3
def isO:Nat→Bool
 | 1=>true
 | _=>false
theorem isO_ok {n:Nat} (h:isO n=true):n=1:=by
 match n,h with
 | 1,_=>rfl
def loS:List AV→List AB→Option ((AV×List AB)×List Prop):=fun args xs =>
 match args,xs with
 | [.sl b o n n2,.sl b2 o2 m m2],[.cells c t,.cells d t2]=>match isZ b,isZ o,isO b2,isZ o2 with
  | true,true,true,true=>some ((.v (.bool true),[.cells c t,.cells d t2]),[IsLoT t,IsLoT t2,IsTwo c n n2 d m m2])
  | _,_,_,_=>none
 | _,_=>none
def loO:OrcH:=mOrc 22 loS
theorem known_lo:Known Try.prog (clsO loO):=known_m (fun args xs r ys ps h hp=>by
 unfold loS at h
 split at h
 ·split at h
  ·rename_i e1 e2 e3 e4
   cases h
   obtain ⟨rfl,rfl,⟨X,rfl,rfl,rfl,rfl,rfl,rfl,hX⟩,-⟩:=hp
   rw [isZ_ok e1,isZ_ok e2,isO_ok e3,isZ_ok e4]
   have hF:∀ x,x∈[AB.cells (cI X) 2,AB.cells (cI X) 2]→FreeB x:=fun x hx=>by
    rcases List.mem_cons.1 hx with rfl | hx
    ·exact freeB_cells (freeL_plain (cI_plain _))
    ·rw [List.mem_singleton.1 hx]; exact freeB_cells (freeL_plain (cI_plain _))
   exact ⟨hF,hF,lo_g X hX⟩
  ·cases h
 ·cases h)
def itS:List AV→List AB→Option ((AV×List AB)×List Prop):=fun args xs =>
 match args,xs with
 | [.slu b o n d1,.slu b2 o2 m d2],[.row c t k,.row d t2 k2]=>match isZ b,isZ o,isO b2,isZ o2,isZ d1,isZ d2,isO k,isO k2 with
  | true,true,true,true,true,true,true,true=>some ((.v (.bool true),[.row c t 1,.row d t2 1]),[IsRoT t,IsRoT t2,IsTwo c n n d m m])
  | _,_,_,_,_,_,_,_=>none
 | _,_=>none
def itO:OrcH:=mOrc 39 itS
theorem known_it:Known Try.prog (clsO itO):=known_m (fun args xs r ys ps h hp=>by
 unfold itS at h
 split at h
 ·split at h
  ·rename_i e1 e2 e3 e4 e5 e6 e7 e8
   cases h
   obtain ⟨rfl,rfl,⟨X,rfl,rfl,rfl,-,rfl,-,hX⟩,-⟩:=hp
   rw [isZ_ok e1,isZ_ok e2,isO_ok e3,isZ_ok e4,isZ_ok e5,isZ_ok e6,isO_ok e7,isO_ok e8]
   have hF:∀ x,x∈[AB.row (cI X) 3 1,AB.row (cI X) 3 1]→FreeB x:=fun x hx=>by
    rcases List.mem_cons.1 hx with rfl | hx
    ·exact freeB_row (freeL_plain (cI_plain _))
    ·rw [List.mem_singleton.1 hx]; exact freeB_row (freeL_plain (cI_plain _))
   exact ⟨hF,hF,it_g X hX⟩
  ·cases h
 ·cases h)
def gbS:List AV→Option (Res1×List Prop):=fun vs =>
 match vs with
 | [.agg [.xl y n k c,.v u],.v v]=>match numV u,numV v with
  | some e,some b=>some (.val (.v (.bool (brB b c n))),[IsPal k c n])
  | _,_=>none
 | _=>none
def gbO:OrcH:=extOrc 32 gbS
theorem known_gb:Known Try.prog (clsO gbO):=known_ext (fun vs r ps h hp=>by
 unfold gbS at h
 split at h
 ·split at h
  ·rename_i e b e1 e2
   cases h
   obtain ⟨⟨rfl,R,rfl,rfl⟩,-⟩:=hp
   rw [numV_eq e1,numV_eq e2]
   exact ⟨extL_cons (ext_pal _ _) (extL_cons (ext_v _) extL_nil),_,rfl,br_g _ R e b⟩
  ·cases h
 ·cases h)
def wkO:OrcH:=plainOrc 15 (fun xs=>match xs with | []=>some (.v (.bool true)) | _=>none)
def qOeS:List AV→List AB→Option ((AV×List AB)×List Prop):=fun args xs =>
 match args with
 | [.agg [.xl y n k c,.v u],.v v]=>match numV u,numV v,xs with
  | some e,some s,[]=>some ((.tup [.v (.slice none 0 0),.v (.int .i64 (ppE c n e))],[]),[IsPal k c n,¬ ppE c n e=0])
  | _,_,_=>none
 | _=>none
def qOeO:OrcH:=mOrc 33 qOeS
theorem known_qOe:Known Try.prog (clsO qOeO):=known_m (fun args xs r ys ps h hp=>by
 unfold qOeS at h
 split at h
 ·split at h
  ·rename_i e s e1 e2
   cases h
   obtain ⟨⟨rfl,R,rfl,rfl⟩,h1,-⟩:=hp
   rw [numV_eq e1,numV_eq e2]
   exact ⟨fun x hx=>absurd hx List.not_mem_nil,fun x hx=>absurd hx List.not_mem_nil,miOe_g _ R e s h1⟩
  ·cases h
 ·cases h)
def qOrS:List AV→List AB→Option ((AV×List AB)×List Prop):=fun args xs =>
 match args with
 | [.agg [.xl y n k c,.v u],.v v]=>match numV u,numV v,xs with
  | some e,some s,[]=>some ((.tup [.v (.slice none 0 0),.v (.int .i64 (3))],[]),[IsPal k c n,ppE c n e=0,¬ (0≤s∧s < ((2 ^ n:Nat):Int))])
  | _,_,_=>none
 | _=>none
def qOrO:OrcH:=mOrc 33 qOrS
theorem known_qOr:Known Try.prog (clsO qOrO):=known_m (fun args xs r ys ps h hp=>by
 unfold qOrS at h
 split at h
 ·split at h
  ·rename_i e s e1 e2
   cases h
   obtain ⟨⟨rfl,R,rfl,rfl⟩,h1,h2,-⟩:=hp
   rw [numV_eq e1,numV_eq e2]
   exact ⟨fun x hx=>absurd hx List.not_mem_nil,fun x hx=>absurd hx List.not_mem_nil,miOr_g _ R e s h1 h2⟩
  ·cases h
 ·cases h)
def qOoS:List AV→List AB→Option ((AV×List AB)×List Prop):=fun args xs =>
 match args with
 | [.agg [.xl y n k c,.v u],.v v]=>match numV u,numV v,xs with
  | some e,some s,[]=>some ((.tup [.sl 0 0 (xlN c (0 * 1)) (xlN c (0 * 1)),.v (.int .i64 0)],[.cells (cI (tI (mxI c s n) (xlN c (0 * 1)))) 2]),[IsPal k c n,ppE c n e=0,0≤s∧s < ((2 ^ n:Nat):Int)])
  | _,_,_=>none
 | _=>none
def qOoO:OrcH:=mOrc 33 qOoS
theorem known_qOo:Known Try.prog (clsO qOoO):=known_m (fun args xs r ys ps h hp=>by
 unfold qOoS at h
 split at h
 ·split at h
  ·rename_i e s e1 e2
   cases h
   obtain ⟨⟨rfl,R,rfl,rfl⟩,h1,h2,-⟩:=hp
   rw [numV_eq e1,numV_eq e2]
   exact ⟨fun x hx=>absurd hx List.not_mem_nil,(fun x hx=>by rw [List.mem_singleton.1 hx]; exact freeB_cells (freeL_plain (cI_plain _))),miOo_g _ R e s h1 h2⟩
  ·cases h
 ·cases h)
def pOeS:List AV→List AB→Option ((AV×List AB)×List Prop):=fun args xs =>
 match args with
 | [.agg [.xl y n k c,.v u],.xl z m j d]=>match numV u,xs with
  | some e,[]=>some ((.tup [.v (.slice none 0 0),.v (.int .i64 (ppE c n e))],[]),[IsPal k c n,IsI j m d,¬ ppE c n e=0])
  | _,_=>none
 | _=>none
def pOeO:OrcH:=mOrc 35 pOeS
theorem known_pOe:Known Try.prog (clsO pOeO):=known_m (fun args xs r ys ps h hp=>by
 unfold pOeS at h
 split at h
 ·split at h
  ·rename_i e e1
   cases h
   obtain ⟨⟨rfl,R,rfl,rfl⟩,⟨rfl,M,rfl,rfl⟩,h1,-⟩:=hp
   rw [numV_eq e1]
   exact ⟨fun x hx=>absurd hx List.not_mem_nil,fun x hx=>absurd hx List.not_mem_nil,fiOe_g _ R e _ M h1⟩
  ·cases h
 ·cases h)
def pOlS:List AV→List AB→Option ((AV×List AB)×List Prop):=fun args xs =>
 match args with
 | [.agg [.xl y n k c,.v u],.xl z m j d]=>match numV u,xs with
  | some e,[]=>some ((.tup [.v (.slice none 0 0),.v (.int .i64 (15))],[]),[IsPal k c n,IsI j m d,ppE c n e=0,¬ m=(xlN c (0 * 1))])
  | _,_=>none
 | _=>none
def pOlO:OrcH:=mOrc 35 pOlS
theorem known_pOl:Known Try.prog (clsO pOlO):=known_m (fun args xs r ys ps h hp=>by
 unfold pOlS at h
 split at h
 ·split at h
  ·rename_i e e1
   cases h
   obtain ⟨⟨rfl,R,rfl,rfl⟩,⟨rfl,M,rfl,rfl⟩,h1,h2,-⟩:=hp
   rw [numV_eq e1]
   exact ⟨fun x hx=>absurd hx List.not_mem_nil,fun x hx=>absurd hx List.not_mem_nil,fiOl_g _ R e _ M h1 h2⟩
  ·cases h
 ·cases h)
def pOaS:List AV→List AB→Option ((AV×List AB)×List Prop):=fun args xs =>
 match args with
 | [.agg [.xl y n k c,.v u],.xl z m j d]=>match numV u,xs with
  | some e,[]=>some ((.tup [.v (.slice none 0 0),.v (.int .i64 (0))],[]),[IsPal k c n,IsI j m d,ppE c n e=0,m=(xlN c (0 * 1)),(flt (fiB c n e d m) (2 ^ n)).length=0])
  | _,_=>none
 | _=>none
def pOaO:OrcH:=mOrc 35 pOaS
theorem known_pOa:Known Try.prog (clsO pOaO):=known_m (fun args xs r ys ps h hp=>by
 unfold pOaS at h
 split at h
 ·split at h
  ·rename_i e e1
   cases h
   obtain ⟨⟨rfl,R,rfl,rfl⟩,⟨rfl,M,rfl,rfl⟩,h1,h2,h3,-⟩:=hp
   rw [numV_eq e1]
   exact ⟨fun x hx=>absurd hx List.not_mem_nil,fun x hx=>absurd hx List.not_mem_nil,fiOa_g _ R e _ M h1 h2 h3⟩
  ·cases h
 ·cases h)
def pObS:List AV→List AB→Option ((AV×List AB)×List Prop):=fun args xs =>
 match args with
 | [.agg [.xl y n k c,.v u],.xl z m j d]=>match numV u,xs with
  | some e,[]=>some ((.tup [.slu 0 0 (flt (fiB c n e d m) (2 ^ n)).length 0,.v (.int .i64 0)],[.row (cI (flt (fiB c n e d m) (2 ^ n))) 3 1]),[IsPal k c n,IsI j m d,ppE c n e=0,m=(xlN c (0 * 1)),0 < (flt (fiB c n e d m) (2 ^ n)).length])
  | _,_=>none
 | _=>none
def pObO:OrcH:=mOrc 35 pObS
theorem known_pOb:Known Try.prog (clsO pObO):=known_m (fun args xs r ys ps h hp=>by
 unfold pObS at h
 split at h
 ·split at h
  ·rename_i e e1
   cases h
   obtain ⟨⟨rfl,R,rfl,rfl⟩,⟨rfl,M,rfl,rfl⟩,h1,h2,h3,-⟩:=hp
   rw [numV_eq e1]
   exact ⟨fun x hx=>absurd hx List.not_mem_nil,(fun x hx=>by rw [List.mem_singleton.1 hx]; exact freeB_row (freeL_plain (cI_plain _))),fiOb_g _ R e _ M h1 h2 h3⟩
  ·cases h
 ·cases h)
def qReS:List AV→List AB→Option ((AV×List AB)×List Prop):=fun args xs =>
 match args with
 | [.agg [.xl y n k c,.v u],.v v]=>match numV u,numV v,xs with
  | some e,some s,[]=>some ((.tup [.v (.slice none 0 0),.v (.int .i64 (ppE c n e))],[]),[IsPal k c n,¬ ppE c n e=0])
  | _,_,_=>none
 | _=>none
def qReO:OrcH:=mOrc 34 qReS
theorem known_qRe:Known Try.prog (clsO qReO):=known_m (fun args xs r ys ps h hp=>by
 unfold qReS at h
 split at h
 ·split at h
  ·rename_i e s e1 e2
   cases h
   obtain ⟨⟨rfl,R,rfl,rfl⟩,h1,-⟩:=hp
   rw [numV_eq e1,numV_eq e2]
   exact ⟨fun x hx=>absurd hx List.not_mem_nil,fun x hx=>absurd hx List.not_mem_nil,miRe_g _ R e s h1⟩
  ·cases h
 ·cases h)
def qRrS:List AV→List AB→Option ((AV×List AB)×List Prop):=fun args xs =>
 match args with
 | [.agg [.xl y n k c,.v u],.v v]=>match numV u,numV v,xs with
  | some e,some s,[]=>some ((.tup [.v (.slice none 0 0),.v (.int .i64 (3))],[]),[IsPal k c n,ppE c n e=0,¬ (0≤s∧s < ((2 ^ n:Nat):Int))])
  | _,_,_=>none
 | _=>none
def qRrO:OrcH:=mOrc 34 qRrS
theorem known_qRr:Known Try.prog (clsO qRrO):=known_m (fun args xs r ys ps h hp=>by
 unfold qRrS at h
 split at h
 ·split at h
  ·rename_i e s e1 e2
   cases h
   obtain ⟨⟨rfl,R,rfl,rfl⟩,h1,h2,-⟩:=hp
   rw [numV_eq e1,numV_eq e2]
   exact ⟨fun x hx=>absurd hx List.not_mem_nil,fun x hx=>absurd hx List.not_mem_nil,miRr_g _ R e s h1 h2⟩
  ·cases h
 ·cases h)
def qRoS:List AV→List AB→Option ((AV×List AB)×List Prop):=fun args xs =>
 match args with
 | [.agg [.xl y n k c,.v u],.v v]=>match numV u,numV v,xs with
  | some e,some s,[]=>some ((.tup [.sl 0 0 (xlN c (0 * 1)) (xlN c (0 * 1)),.v (.int .i64 0)],[.cells (cI (tI (mxI c s n) (xlN c (0 * 1)))) 2]),[IsPal k c n,ppE c n e=0,0≤s∧s < ((2 ^ n:Nat):Int)])
  | _,_,_=>none
 | _=>none
def qRoO:OrcH:=mOrc 34 qRoS
theorem known_qRo:Known Try.prog (clsO qRoO):=known_m (fun args xs r ys ps h hp=>by
 unfold qRoS at h
 split at h
 ·split at h
  ·rename_i e s e1 e2
   cases h
   obtain ⟨⟨rfl,R,rfl,rfl⟩,h1,h2,-⟩:=hp
   rw [numV_eq e1,numV_eq e2]
   exact ⟨fun x hx=>absurd hx List.not_mem_nil,(fun x hx=>by rw [List.mem_singleton.1 hx]; exact freeB_cells (freeL_plain (cI_plain _))),miRo_g _ R e s h1 h2⟩
  ·cases h
 ·cases h)
def pReS:List AV→List AB→Option ((AV×List AB)×List Prop):=fun args xs =>
 match args with
 | [.agg [.xl y n k c,.v u],.xl z m j d]=>match numV u,xs with
  | some e,[]=>some ((.tup [.v (.slice none 0 0),.v (.int .i64 (ppE c n e))],[]),[IsPal k c n,IsI j m d,¬ ppE c n e=0])
  | _,_=>none
 | _=>none
def pReO:OrcH:=mOrc 36 pReS
theorem known_pRe:Known Try.prog (clsO pReO):=known_m (fun args xs r ys ps h hp=>by
 unfold pReS at h
 split at h
 ·split at h
  ·rename_i e e1
   cases h
   obtain ⟨⟨rfl,R,rfl,rfl⟩,⟨rfl,M,rfl,rfl⟩,h1,-⟩:=hp
   rw [numV_eq e1]
   exact ⟨fun x hx=>absurd hx List.not_mem_nil,fun x hx=>absurd hx List.not_mem_nil,fiRe_g _ R e _ M h1⟩
  ·cases h
 ·cases h)
def pRlS:List AV→List AB→Option ((AV×List AB)×List Prop):=fun args xs =>
 match args with
 | [.agg [.xl y n k c,.v u],.xl z m j d]=>match numV u,xs with
  | some e,[]=>some ((.tup [.v (.slice none 0 0),.v (.int .i64 (15))],[]),[IsPal k c n,IsI j m d,ppE c n e=0,¬ m=(xlN c (0 * 1))])
  | _,_=>none
 | _=>none
def pRlO:OrcH:=mOrc 36 pRlS
theorem known_pRl:Known Try.prog (clsO pRlO):=known_m (fun args xs r ys ps h hp=>by
 unfold pRlS at h
 split at h
 ·split at h
  ·rename_i e e1
   cases h
   obtain ⟨⟨rfl,R,rfl,rfl⟩,⟨rfl,M,rfl,rfl⟩,h1,h2,-⟩:=hp
   rw [numV_eq e1]
   exact ⟨fun x hx=>absurd hx List.not_mem_nil,fun x hx=>absurd hx List.not_mem_nil,fiRl_g _ R e _ M h1 h2⟩
  ·cases h
 ·cases h)
def pRaS:List AV→List AB→Option ((AV×List AB)×List Prop):=fun args xs =>
 match args with
 | [.agg [.xl y n k c,.v u],.xl z m j d]=>match numV u,xs with
  | some e,[]=>some ((.tup [.v (.slice none 0 0),.v (.int .i64 (0))],[]),[IsPal k c n,IsI j m d,ppE c n e=0,m=(xlN c (0 * 1)),(flt (fiB c n e d m) (2 ^ n)).length=0])
  | _,_=>none
 | _=>none
def pRaO:OrcH:=mOrc 36 pRaS
theorem known_pRa:Known Try.prog (clsO pRaO):=known_m (fun args xs r ys ps h hp=>by
 unfold pRaS at h
 split at h
 ·split at h
  ·rename_i e e1
   cases h
   obtain ⟨⟨rfl,R,rfl,rfl⟩,⟨rfl,M,rfl,rfl⟩,h1,h2,h3,-⟩:=hp
   rw [numV_eq e1]
   exact ⟨fun x hx=>absurd hx List.not_mem_nil,fun x hx=>absurd hx List.not_mem_nil,fiRa_g _ R e _ M h1 h2 h3⟩
  ·cases h
 ·cases h)
def pRbS:List AV→List AB→Option ((AV×List AB)×List Prop):=fun args xs =>
 match args with
 | [.agg [.xl y n k c,.v u],.xl z m j d]=>match numV u,xs with
  | some e,[]=>some ((.tup [.slu 0 0 (flt (fiB c n e d m) (2 ^ n)).length 0,.v (.int .i64 0)],[.row (cI (flt (fiB c n e d m) (2 ^ n))) 3 1]),[IsPal k c n,IsI j m d,ppE c n e=0,m=(xlN c (0 * 1)),0 < (flt (fiB c n e d m) (2 ^ n)).length])
  | _,_=>none
 | _=>none
def pRbO:OrcH:=mOrc 36 pRbS
theorem known_pRb:Known Try.prog (clsO pRbO):=known_m (fun args xs r ys ps h hp=>by
 unfold pRbS at h
 split at h
 ·split at h
  ·rename_i e e1
   cases h
   obtain ⟨⟨rfl,R,rfl,rfl⟩,⟨rfl,M,rfl,rfl⟩,h1,h2,h3,-⟩:=hp
   rw [numV_eq e1]
   exact ⟨fun x hx=>absurd hx List.not_mem_nil,(fun x hx=>by rw [List.mem_singleton.1 hx]; exact freeB_row (freeL_plain (cI_plain _))),fiRb_g _ R e _ M h1 h2 h3⟩
  ·cases h
 ·cases h)
def l9ee:OrcH:=orO (orO (orO gbO qpO) (orO qrO loO)) (orO (orO (orO qOeO qReO) (orO pOeO pReO)) (orO itO wkO))
theorem known_l9ee (hw:Known Try.prog (clsO wkO)):Known Try.prog (clsO l9ee):=known_or (known_or (known_or known_gb known_qp) (known_or known_qr known_lo)) (known_or (known_or (known_or known_qOe known_qRe) (known_or known_pOe known_pRe)) (known_or known_it hw))
def l9rl:OrcH:=orO (orO (orO gbO qpO) (orO qrO loO)) (orO (orO (orO qOrO qRrO) (orO pOlO pRlO)) (orO itO wkO))
theorem known_l9rl (hw:Known Try.prog (clsO wkO)):Known Try.prog (clsO l9rl):=known_or (known_or (known_or known_gb known_qp) (known_or known_qr known_lo)) (known_or (known_or (known_or known_qOr known_qRr) (known_or known_pOl known_pRl)) (known_or known_it hw))
def l9ra:OrcH:=orO (orO (orO gbO qpO) (orO qrO loO)) (orO (orO (orO qOrO qRrO) (orO pOaO pRaO)) (orO itO wkO))
theorem known_l9ra (hw:Known Try.prog (clsO wkO)):Known Try.prog (clsO l9ra):=known_or (known_or (known_or known_gb known_qp) (known_or known_qr known_lo)) (known_or (known_or (known_or known_qOr known_qRr) (known_or known_pOa known_pRa)) (known_or known_it hw))
def l9rb:OrcH:=orO (orO (orO gbO qpO) (orO qrO loO)) (orO (orO (orO qOrO qRrO) (orO pObO pRbO)) (orO itO wkO))
theorem known_l9rb (hw:Known Try.prog (clsO wkO)):Known Try.prog (clsO l9rb):=known_or (known_or (known_or known_gb known_qp) (known_or known_qr known_lo)) (known_or (known_or (known_or known_qOr known_qRr) (known_or known_pOb known_pRb)) (known_or known_it hw))
def l9ol:OrcH:=orO (orO (orO gbO qpO) (orO qrO loO)) (orO (orO (orO qOoO qRoO) (orO pOlO pRlO)) (orO itO wkO))
theorem known_l9ol (hw:Known Try.prog (clsO wkO)):Known Try.prog (clsO l9ol):=known_or (known_or (known_or known_gb known_qp) (known_or known_qr known_lo)) (known_or (known_or (known_or known_qOo known_qRo) (known_or known_pOl known_pRl)) (known_or known_it hw))
def l9oa:OrcH:=orO (orO (orO gbO qpO) (orO qrO loO)) (orO (orO (orO qOoO qRoO) (orO pOaO pRaO)) (orO itO wkO))
theorem known_l9oa (hw:Known Try.prog (clsO wkO)):Known Try.prog (clsO l9oa):=known_or (known_or (known_or known_gb known_qp) (known_or known_qr known_lo)) (known_or (known_or (known_or known_qOo known_qRo) (known_or known_pOa known_pRa)) (known_or known_it hw))
def l9ob:OrcH:=orO (orO (orO gbO qpO) (orO qrO loO)) (orO (orO (orO qOoO qRoO) (orO pObO pRbO)) (orO itO wkO))
theorem known_l9ob (hw:Known Try.prog (clsO wkO)):Known Try.prog (clsO l9ob):=known_or (known_or (known_or known_gb known_qp) (known_or known_qr known_lo)) (known_or (known_or (known_or known_qOo known_qRo) (known_or known_pOb known_pRb)) (known_or known_it hw))
noncomputable def kBK1:Code:=bodyC Try.f5
theorem kB_2 (y:Value) (R:List (Value×List Int)) (e s:Int) (z:Value) (M:List Int) (hw:Known Try.prog (clsO wkO)) (hB:brB 8 (cRw R) R.length=true∨20 < M.length) (w:World) (hs:List Nat):Goes Try.prog 75 kBK1 (⟨[(0,(.agg [.xl y R.length 1 (cRw R),.v (.int .i64 e)])),(1,(.v (.int .i64 s))),(2,(.xl z M.length 1 (cI M)))],[],0,[]⟩) (BaseW.H w hs) (OutH Try.prog Try.f5 75 (.bool true) w):=by
 have hcl_M:=cI_len M
 rcases Bool.eq_false_or_eq_true (brB 8 (cRw R) R.length) with hqkB3_1 | hqkB3_1
 ·skip
  exact goes_leafA isR_e (goes_told Try.checked.mixed (known_l9ee hw) 200 (T':=⟨[(6,(.v (.bool .true)))],[],1,[]⟩) (e:=.ret) (ps:=[IsPal 1 (cRw R) R.length,brB 8 (cRw R) R.length=true,true=true,true=true,true=true]) [.go,.go,.go,.go,.b true,.b true,.b true,.go,.b true,.go] (by kernel_rfl) (by kernel_rfl) ⟨⟨rfl,R,rfl,rfl⟩,hqkB3_1,rfl,rfl,rfl,trivial⟩ rfl) (Hd.en_eq (r:=(.bool .true)) (by rfl) (Hd.en_ret (v:=(.v (.bool .true))) (by kernel_rfl) rfl))
 ·skip
  rcases Bool.eq_false_or_eq_true (ltI 20 ((M.length:Nat):Int)) with hqkB3_2 | hqkB3_2
  ·skip
   have ghqkB3_2:=ltI_true hqkB3_2
   exact goes_leafA isR_e (goes_told Try.checked.mixed (known_l9ee hw) 200 (T':=⟨[(6,(.v (.bool .true)))],[],1,[]⟩) (e:=.ret) (ps:=[IsPal 1 (cRw R) R.length,brB 8 (cRw R) R.length=false,false=false,false=false,ltI 20 ((M.length:Nat):Int)=true]) [.go,.go,.go,.go,.b false,.go,.b false,.go,.b false,.go,.go,.b true,.go] (by kernel_rfl) (by kernel_rfl) ⟨⟨rfl,R,rfl,rfl⟩,hqkB3_1,rfl,rfl,hqkB3_2,trivial⟩ rfl) (Hd.en_eq (r:=(.bool .true)) (by rfl) (Hd.en_ret (v:=(.v (.bool .true))) (by kernel_rfl) rfl))
  ·skip
   have ghqkB3_2:=ltI_false hqkB3_2
   rcases Bool.eq_false_or_eq_true (eqI (ppE (cRw R) R.length e) (ppE (cRw R) R.length e)) with hqkB3_3 | hqkB3_3
   ·skip
    have ghqkB3_3:=eqI_true hqkB3_3
    exfalso
    rcases hB with h9 | h9
    ·rw [h9] at hqkB3_1; exact absurd hqkB3_1 (by decide)
    ·have h8:=ltI_false hqkB3_2; omega
   ·skip
    have ghqkB3_3:=eqI_false hqkB3_3
    exfalso
    rcases hB with h9 | h9
    ·rw [h9] at hqkB3_1; exact absurd hqkB3_1 (by decide)
    ·have h8:=ltI_false hqkB3_2; omega
theorem law_kB (y:Value) (R:List (Value×List Int)) (e s:Int) (z:Value) (M:List Int) (hw:Known Try.prog (clsO wkO)) (hB:brB 8 (cRw R) R.length=true∨20 < M.length):GivesA Try.prog 5 [(.agg [.xl y R.length 1 (cRw R),.v (.int .i64 e)]),(.v (.int .i64 s)),(.xl z M.length 1 (cI M))] (.bool true) :=
 givesA_partsH 75 Try.func5 (by kernel_rfl) (by kernel_rfl) (by kernel_rfl) (fun w=>goes_less (by kernel_rfl) (by kernel_rfl) (by kernel_rfl) (by kernel_rfl) (kB_2 y R e s z M hw hB w []))
noncomputable def keK1:Code:=bodyC Try.f5
theorem ke_2 (y:Value) (R:List (Value×List Int)) (e s:Int) (z:Value) (M:List Int) (hw:Known Try.prog (clsO wkO)) (hB:¬ (brB 8 (cRw R) R.length=true∨20 < M.length)) (hE:¬ ppE (cRw R) R.length e=0) (w:World) (hs:List Nat):Goes Try.prog 75 keK1 (⟨[(0,(.agg [.xl y R.length 1 (cRw R),.v (.int .i64 e)])),(1,(.v (.int .i64 s))),(2,(.xl z M.length 1 (cI M)))],[],0,[]⟩) (BaseW.H w hs) (OutH Try.prog Try.f5 75 (.bool true) w):=by
 have hcl_M:=cI_len M
 rcases Bool.eq_false_or_eq_true (brB 8 (cRw R) R.length) with hqke3_1 | hqke3_1
 ·skip
  exact absurd (.inl hqke3_1) hB
 ·skip
  rcases Bool.eq_false_or_eq_true (ltI 20 ((M.length:Nat):Int)) with hqke3_2 | hqke3_2
  ·skip
   have ghqke3_2:=ltI_true hqke3_2
   exact absurd (.inr (by have h9:=ltI_true hqke3_2; omega)) hB
  ·skip
   have ghqke3_2:=ltI_false hqke3_2
   rcases Bool.eq_false_or_eq_true (eqI (ppE (cRw R) R.length e) (ppE (cRw R) R.length e)) with hqke3_3 | hqke3_3
   ·skip
    have ghqke3_3:=eqI_true hqke3_3
    exact goes_leafA isR_e (goes_told Try.checked.mixed (known_l9ee hw) 200 (T':=⟨[(6,(.v (.bool .true)))],[],1,[]⟩) (e:=.ret) (ps:=[IsPal 1 (cRw R) R.length,brB 8 (cRw R) R.length=false,false=false,false=false,ltI 20 ((M.length:Nat):Int)=false,FreeL (cRw R),IsPal 1 (cRw R) R.length,¬ppE (cRw R) R.length e=0,FreeL (cRw R),IsPal 1 (cRw R) R.length,¬ppE (cRw R) R.length e=0,FreeL (cRw R),FreeL (cI M),IsPal 1 (cRw R) R.length,IsI 1 M.length (cI M),¬ppE (cRw R) R.length e=0,FreeL (cRw R),FreeL (cI M),IsPal 1 (cRw R) R.length,IsI 1 M.length (cI M),¬ppE (cRw R) R.length e=0,IsPal 1 (cRw R) R.length,IsPal 1 (cRw R) R.length,eqI (ppE (cRw R) R.length e) (ppE (cRw R) R.length e)=true,true=true,true=true,(!eqI ((0:Nat):Int) ((0:Nat):Int))=false,ltI 0 ((0:Nat):Int)=false,true=true,true=true,true=true,eqI (ppE (cRw R) R.length e) (ppE (cRw R) R.length e)=true,true=true,true=true,(!eqI ((0:Nat):Int) ((0:Nat):Int))=false,ltI 0 ((0:Nat):Int)=false,true=true,true=true,true=true,eqI (ppE (cRw R) R.length e) (ppE (cRw R) R.length e)=true]) [.go,.go,.go,.go,.b false,.go,.b false,.go,.b false,.go,.go,.b false,.go,.go,.go,.go,.go,.go,.go,.go,.go,.go,.go,.go,.go,.go,.go,.go,.go,.go,.go,.go,.go,.go,.go,.go,.go,.go,.go,.go,.go,.go,.go,.go,.b true,.go,.b true,.go,.b true,.go,.go,.go,.go,.go,.go,.b false,.go,.go,.go,.go,.go,.b false,.go,.go,.go,.b true,.go,.b true,.go,.b true,.go,.go,.go,.b true,.go,.b true,.go,.b true,.go,.go,.go,.go,.go,.go,.b false,.go,.go,.go,.go,.go,.b false,.go,.go,.go,.b true,.go,.b true,.go,.b true,.go,.go,.go,.b true,.go,.go] (by kernel_rfl) (by kernel_rfl) ⟨⟨rfl,R,rfl,rfl⟩,hqke3_1,rfl,rfl,hqke3_2,(freeL_plainR R),⟨rfl,R,rfl,rfl⟩,hE,(freeL_plainR R),⟨rfl,R,rfl,rfl⟩,hE,(freeL_plainR R),(freeL_plain (cI_plain _)),⟨rfl,R,rfl,rfl⟩,⟨rfl,M,rfl,rfl⟩,hE,(freeL_plainR R),(freeL_plain (cI_plain _)),⟨rfl,R,rfl,rfl⟩,⟨rfl,M,rfl,rfl⟩,hE,⟨rfl,R,rfl,rfl⟩,⟨rfl,R,rfl,rfl⟩,hqke3_3,rfl,rfl,rfl,rfl,rfl,rfl,rfl,hqke3_3,rfl,rfl,rfl,rfl,rfl,rfl,rfl,hqke3_3,trivial⟩ rfl) (Hd.en_eq (r:=(.bool .true)) (by rfl) (Hd.en_ret (v:=(.v (.bool .true))) (by kernel_rfl) rfl))
   ·skip
    have ghqke3_3:=eqI_false hqke3_3
    exact absurd rfl (eqI_false hqke3_3)
theorem law_ke (y:Value) (R:List (Value×List Int)) (e s:Int) (z:Value) (M:List Int) (hw:Known Try.prog (clsO wkO)) (hB:¬ (brB 8 (cRw R) R.length=true∨20 < M.length)) (hE:¬ ppE (cRw R) R.length e=0):GivesA Try.prog 5 [(.agg [.xl y R.length 1 (cRw R),.v (.int .i64 e)]),(.v (.int .i64 s)),(.xl z M.length 1 (cI M))] (.bool true) :=
 givesA_partsH 75 Try.func5 (by kernel_rfl) (by kernel_rfl) (by kernel_rfl) (fun w=>goes_less (by kernel_rfl) (by kernel_rfl) (by kernel_rfl) (by kernel_rfl) (ke_2 y R e s z M hw hB hE w []))
noncomputable def krlK1:Code:=bodyC Try.f5
theorem krl_2 (y:Value) (R:List (Value×List Int)) (e s:Int) (z:Value) (M:List Int) (hw:Known Try.prog (clsO wkO)) (hB:¬ (brB 8 (cRw R) R.length=true∨20 < M.length)) (hE:ppE (cRw R) R.length e=0) (hr:¬ (0≤s∧s < ((2 ^ R.length:Nat):Int))) (hM:¬ M.length=xlN (cRw R) (0 * 1)) (w:World) (hs:List Nat):Goes Try.prog 75 krlK1 (⟨[(0,(.agg [.xl y R.length 1 (cRw R),.v (.int .i64 e)])),(1,(.v (.int .i64 s))),(2,(.xl z M.length 1 (cI M)))],[],0,[]⟩) (BaseW.H w hs) (OutH Try.prog Try.f5 75 (.bool true) w):=by
 have hcl_M:=cI_len M
 obtain ⟨⟨⟨hn1,hn2⟩,hm1,hm2⟩,-,-,he⟩:=ppE_zero hE
 have hpw:=pow_12 (n:=R.length) (by omega)
 rcases Bool.eq_false_or_eq_true (brB 8 (cRw R) R.length) with hqkrl3_1 | hqkrl3_1
 ·skip
  exact absurd (.inl hqkrl3_1) hB
 ·skip
  rcases Bool.eq_false_or_eq_true (ltI 20 ((M.length:Nat):Int)) with hqkrl3_2 | hqkrl3_2
  ·skip
   have ghqkrl3_2:=ltI_true hqkrl3_2
   exact absurd (.inr (by have h9:=ltI_true hqkrl3_2; omega)) hB
  ·skip
   have ghqkrl3_2:=ltI_false hqkrl3_2
   rcases Bool.eq_false_or_eq_true (eqI (ppE (cRw R) R.length e) (ppE (cRw R) R.length e)) with hqkrl3_3 | hqkrl3_3
   ·skip
    have ghqkrl3_3:=eqI_true hqkrl3_3
    exact goes_leafA isR_e (goes_told Try.checked.mixed (known_l9rl hw) 200 (T':=⟨[(6,(.v (.bool .true)))],[],1,[]⟩) (e:=.ret) (ps:=[IsPal 1 (cRw R) R.length,brB 8 (cRw R) R.length=false,false=false,false=false,ltI 20 ((M.length:Nat):Int)=false,FreeL (cRw R),IsPal 1 (cRw R) R.length,ppE (cRw R) R.length e=0,¬(0≤s∧s < ((2 ^ R.length:Nat):Int)),FreeL (cRw R),IsPal 1 (cRw R) R.length,ppE (cRw R) R.length e=0,¬(0≤s∧s < ((2 ^ R.length:Nat):Int)),FreeL (cRw R),FreeL (cI M),IsPal 1 (cRw R) R.length,IsI 1 M.length (cI M),ppE (cRw R) R.length e=0,¬M.length=xlN (cRw R) (0 * 1),FreeL (cRw R),FreeL (cI M),IsPal 1 (cRw R) R.length,IsI 1 M.length (cI M),ppE (cRw R) R.length e=0,¬M.length=xlN (cRw R) (0 * 1),IsPal 1 (cRw R) R.length,IsPal 1 (cRw R) R.length,eqI (ppE (cRw R) R.length e) (ppE (cRw R) R.length e)=true,true=true,true=true,(!eqI ((0:Nat):Int) ((0:Nat):Int))=false,ltI 0 ((0:Nat):Int)=false,true=true,true=true,true=true,eqI 3 3=true,true=true,true=true,(!eqI ((0:Nat):Int) ((0:Nat):Int))=false,ltI 0 ((0:Nat):Int)=false,true=true,true=true,true=true,eqI 15 15=true]) [.go,.go,.go,.go,.b false,.go,.b false,.go,.b false,.go,.go,.b false,.go,.go,.go,.go,.go,.go,.go,.go,.go,.go,.go,.go,.go,.go,.go,.go,.go,.go,.go,.go,.go,.go,.go,.go,.go,.go,.go,.go,.go,.go,.go,.go,.b true,.go,.b true,.go,.b true,.go,.go,.go,.go,.go,.go,.b false,.go,.go,.go,.go,.go,.b false,.go,.go,.go,.b true,.go,.b true,.go,.b true,.go,.go,.go,.b true,.go,.b true,.go,.b true,.go,.go,.go,.go,.go,.go,.b false,.go,.go,.go,.go,.go,.b false,.go,.go,.go,.b true,.go,.b true,.go,.b true,.go,.go,.go,.b true,.go,.go] (by kernel_rfl) (by kernel_rfl) ⟨⟨rfl,R,rfl,rfl⟩,hqkrl3_1,rfl,rfl,hqkrl3_2,(freeL_plainR R),⟨rfl,R,rfl,rfl⟩,hE,hr,(freeL_plainR R),⟨rfl,R,rfl,rfl⟩,hE,hr,(freeL_plainR R),(freeL_plain (cI_plain _)),⟨rfl,R,rfl,rfl⟩,⟨rfl,M,rfl,rfl⟩,hE,hM,(freeL_plainR R),(freeL_plain (cI_plain _)),⟨rfl,R,rfl,rfl⟩,⟨rfl,M,rfl,rfl⟩,hE,hM,⟨rfl,R,rfl,rfl⟩,⟨rfl,R,rfl,rfl⟩,hqkrl3_3,rfl,rfl,rfl,rfl,rfl,rfl,rfl,(by simp [eqI_iff]),rfl,rfl,rfl,rfl,rfl,rfl,rfl,(by simp [eqI_iff]),trivial⟩ rfl) (Hd.en_eq (r:=(.bool .true)) (by rfl) (Hd.en_ret (v:=(.v (.bool .true))) (by kernel_rfl) rfl))
   ·skip
    have ghqkrl3_3:=eqI_false hqkrl3_3
    exact absurd rfl (eqI_false hqkrl3_3)
theorem law_krl (y:Value) (R:List (Value×List Int)) (e s:Int) (z:Value) (M:List Int) (hw:Known Try.prog (clsO wkO)) (hB:¬ (brB 8 (cRw R) R.length=true∨20 < M.length)) (hE:ppE (cRw R) R.length e=0) (hr:¬ (0≤s∧s < ((2 ^ R.length:Nat):Int))) (hM:¬ M.length=xlN (cRw R) (0 * 1)):GivesA Try.prog 5 [(.agg [.xl y R.length 1 (cRw R),.v (.int .i64 e)]),(.v (.int .i64 s)),(.xl z M.length 1 (cI M))] (.bool true) :=
 givesA_partsH 75 Try.func5 (by kernel_rfl) (by kernel_rfl) (by kernel_rfl) (fun w=>goes_less (by kernel_rfl) (by kernel_rfl) (by kernel_rfl) (by kernel_rfl) (krl_2 y R e s z M hw hB hE hr hM w []))
noncomputable def kraK1:Code:=bodyC Try.f5
theorem kra_2 (y:Value) (R:List (Value×List Int)) (e s:Int) (z:Value) (M:List Int) (hw:Known Try.prog (clsO wkO)) (hB:¬ (brB 8 (cRw R) R.length=true∨20 < M.length)) (hE:ppE (cRw R) R.length e=0) (hr:¬ (0≤s∧s < ((2 ^ R.length:Nat):Int))) (hM:M.length=xlN (cRw R) (0 * 1)) (h0:(flt (fiB (cRw R) R.length e (cI M) M.length) (2 ^ R.length)).length=0) (w:World) (hs:List Nat):Goes Try.prog 75 kraK1 (⟨[(0,(.agg [.xl y R.length 1 (cRw R),.v (.int .i64 e)])),(1,(.v (.int .i64 s))),(2,(.xl z M.length 1 (cI M)))],[],0,[]⟩) (BaseW.H w hs) (OutH Try.prog Try.f5 75 (.bool true) w):=by
 have hcl_M:=cI_len M
 obtain ⟨⟨⟨hn1,hn2⟩,hm1,hm2⟩,-,-,he⟩:=ppE_zero hE
 have hpw:=pow_12 (n:=R.length) (by omega)
 rcases Bool.eq_false_or_eq_true (brB 8 (cRw R) R.length) with hqkra3_1 | hqkra3_1
 ·skip
  exact absurd (.inl hqkra3_1) hB
 ·skip
  rcases Bool.eq_false_or_eq_true (ltI 20 ((M.length:Nat):Int)) with hqkra3_2 | hqkra3_2
  ·skip
   have ghqkra3_2:=ltI_true hqkra3_2
   exact absurd (.inr (by have h9:=ltI_true hqkra3_2; omega)) hB
  ·skip
   have ghqkra3_2:=ltI_false hqkra3_2
   rcases Bool.eq_false_or_eq_true (eqI (ppE (cRw R) R.length e) (ppE (cRw R) R.length e)) with hqkra3_3 | hqkra3_3
   ·skip
    have ghqkra3_3:=eqI_true hqkra3_3
    exact goes_leafA isR_e (goes_told Try.checked.mixed (known_l9ra hw) 200 (T':=⟨[(6,(.v (.bool .true)))],[],1,[]⟩) (e:=.ret) (ps:=[IsPal 1 (cRw R) R.length,brB 8 (cRw R) R.length=false,false=false,false=false,ltI 20 ((M.length:Nat):Int)=false,FreeL (cRw R),IsPal 1 (cRw R) R.length,ppE (cRw R) R.length e=0,¬(0≤s∧s < ((2 ^ R.length:Nat):Int)),FreeL (cRw R),IsPal 1 (cRw R) R.length,ppE (cRw R) R.length e=0,¬(0≤s∧s < ((2 ^ R.length:Nat):Int)),FreeL (cRw R),FreeL (cI M),IsPal 1 (cRw R) R.length,IsI 1 M.length (cI M),ppE (cRw R) R.length e=0,M.length=xlN (cRw R) (0 * 1),(flt (fiB (cRw R) R.length e (cI M) M.length) (2 ^ R.length)).length=0,FreeL (cRw R),FreeL (cI M),IsPal 1 (cRw R) R.length,IsI 1 M.length (cI M),ppE (cRw R) R.length e=0,M.length=xlN (cRw R) (0 * 1),(flt (fiB (cRw R) R.length e (cI M) M.length) (2 ^ R.length)).length=0,IsPal 1 (cRw R) R.length,IsPal 1 (cRw R) R.length,eqI (ppE (cRw R) R.length e) (ppE (cRw R) R.length e)=true,true=true,true=true,(!eqI ((0:Nat):Int) ((0:Nat):Int))=false,ltI 0 ((0:Nat):Int)=false,true=true,true=true,true=true,eqI 3 3=true,true=true,true=true,(!eqI ((0:Nat):Int) ((0:Nat):Int))=false,ltI 0 ((0:Nat):Int)=false,true=true,true=true,true=true,eqI 0 0=true]) [.go,.go,.go,.go,.b false,.go,.b false,.go,.b false,.go,.go,.b false,.go,.go,.go,.go,.go,.go,.go,.go,.go,.go,.go,.go,.go,.go,.go,.go,.go,.go,.go,.go,.go,.go,.go,.go,.go,.go,.go,.go,.go,.go,.go,.go,.b true,.go,.b true,.go,.b true,.go,.go,.go,.go,.go,.go,.b false,.go,.go,.go,.go,.go,.b false,.go,.go,.go,.b true,.go,.b true,.go,.b true,.go,.go,.go,.b true,.go,.b true,.go,.b true,.go,.go,.go,.go,.go,.go,.b false,.go,.go,.go,.go,.go,.b false,.go,.go,.go,.b true,.go,.b true,.go,.b true,.go,.go,.go,.b true,.go,.go] (by kernel_rfl) (by kernel_rfl) ⟨⟨rfl,R,rfl,rfl⟩,hqkra3_1,rfl,rfl,hqkra3_2,(freeL_plainR R),⟨rfl,R,rfl,rfl⟩,hE,hr,(freeL_plainR R),⟨rfl,R,rfl,rfl⟩,hE,hr,(freeL_plainR R),(freeL_plain (cI_plain _)),⟨rfl,R,rfl,rfl⟩,⟨rfl,M,rfl,rfl⟩,hE,hM,h0,(freeL_plainR R),(freeL_plain (cI_plain _)),⟨rfl,R,rfl,rfl⟩,⟨rfl,M,rfl,rfl⟩,hE,hM,h0,⟨rfl,R,rfl,rfl⟩,⟨rfl,R,rfl,rfl⟩,hqkra3_3,rfl,rfl,rfl,rfl,rfl,rfl,rfl,(by simp [eqI_iff]),rfl,rfl,rfl,rfl,rfl,rfl,rfl,(by simp [eqI_iff]),trivial⟩ rfl) (Hd.en_eq (r:=(.bool .true)) (by rfl) (Hd.en_ret (v:=(.v (.bool .true))) (by kernel_rfl) rfl))
   ·skip
    have ghqkra3_3:=eqI_false hqkra3_3
    exact absurd rfl (eqI_false hqkra3_3)
theorem law_kra (y:Value) (R:List (Value×List Int)) (e s:Int) (z:Value) (M:List Int) (hw:Known Try.prog (clsO wkO)) (hB:¬ (brB 8 (cRw R) R.length=true∨20 < M.length)) (hE:ppE (cRw R) R.length e=0) (hr:¬ (0≤s∧s < ((2 ^ R.length:Nat):Int))) (hM:M.length=xlN (cRw R) (0 * 1)) (h0:(flt (fiB (cRw R) R.length e (cI M) M.length) (2 ^ R.length)).length=0):GivesA Try.prog 5 [(.agg [.xl y R.length 1 (cRw R),.v (.int .i64 e)]),(.v (.int .i64 s)),(.xl z M.length 1 (cI M))] (.bool true) :=
 givesA_partsH 75 Try.func5 (by kernel_rfl) (by kernel_rfl) (by kernel_rfl) (fun w=>goes_less (by kernel_rfl) (by kernel_rfl) (by kernel_rfl) (by kernel_rfl) (kra_2 y R e s z M hw hB hE hr hM h0 w []))
noncomputable def krbK1:Code:=bodyC Try.f5
theorem krb_2 (y:Value) (R:List (Value×List Int)) (e s:Int) (z:Value) (M:List Int) (hw:Known Try.prog (clsO wkO)) (hB:¬ (brB 8 (cRw R) R.length=true∨20 < M.length)) (hE:ppE (cRw R) R.length e=0) (hr:¬ (0≤s∧s < ((2 ^ R.length:Nat):Int))) (hM:M.length=xlN (cRw R) (0 * 1)) (h0:0 < (flt (fiB (cRw R) R.length e (cI M) M.length) (2 ^ R.length)).length) (w:World) (hs:List Nat):Goes Try.prog 75 krbK1 (⟨[(0,(.agg [.xl y R.length 1 (cRw R),.v (.int .i64 e)])),(1,(.v (.int .i64 s))),(2,(.xl z M.length 1 (cI M)))],[],0,[]⟩) (BaseW.H w hs) (OutH Try.prog Try.f5 75 (.bool true) w):=by
 have hcl_M:=cI_len M
 obtain ⟨⟨⟨hn1,hn2⟩,hm1,hm2⟩,-,-,he⟩:=ppE_zero hE
 have hpw:=pow_12 (n:=R.length) (by omega)
 rcases Bool.eq_false_or_eq_true (brB 8 (cRw R) R.length) with hqkrb3_1 | hqkrb3_1
 ·skip
  exact absurd (.inl hqkrb3_1) hB
 ·skip
  rcases Bool.eq_false_or_eq_true (ltI 20 ((M.length:Nat):Int)) with hqkrb3_2 | hqkrb3_2
  ·skip
   have ghqkrb3_2:=ltI_true hqkrb3_2
   exact absurd (.inr (by have h9:=ltI_true hqkrb3_2; omega)) hB
  ·skip
   have ghqkrb3_2:=ltI_false hqkrb3_2
   rcases Bool.eq_false_or_eq_true (eqI (ppE (cRw R) R.length e) (ppE (cRw R) R.length e)) with hqkrb3_3 | hqkrb3_3
   ·skip
    have ghqkrb3_3:=eqI_true hqkrb3_3
    exact goes_leafA isR_e (goes_told Try.checked.mixed (known_l9rb hw) 200 (T':=⟨[(6,(.v (.bool .true)))],[],3,[]⟩) (e:=.ret) (ps:=[IsPal 1 (cRw R) R.length,brB 8 (cRw R) R.length=false,false=false,false=false,ltI 20 ((M.length:Nat):Int)=false,FreeL (cRw R),IsPal 1 (cRw R) R.length,ppE (cRw R) R.length e=0,¬(0≤s∧s < ((2 ^ R.length:Nat):Int)),FreeL (cRw R),IsPal 1 (cRw R) R.length,ppE (cRw R) R.length e=0,¬(0≤s∧s < ((2 ^ R.length:Nat):Int)),FreeL (cRw R),FreeL (cI M),IsPal 1 (cRw R) R.length,IsI 1 M.length (cI M),ppE (cRw R) R.length e=0,M.length=xlN (cRw R) (0 * 1),0 < (flt (fiB (cRw R) R.length e (cI M) M.length) (2 ^ R.length)).length,FreeL (cRw R),FreeL (cI M),IsPal 1 (cRw R) R.length,IsI 1 M.length (cI M),ppE (cRw R) R.length e=0,M.length=xlN (cRw R) (0 * 1),0 < (flt (fiB (cRw R) R.length e (cI M) M.length) (2 ^ R.length)).length,IsPal 1 (cRw R) R.length,IsPal 1 (cRw R) R.length,eqI (ppE (cRw R) R.length e) (ppE (cRw R) R.length e)=true,true=true,true=true,(!eqI ((0:Nat):Int) ((0:Nat):Int))=false,ltI 0 ((0:Nat):Int)=false,true=true,true=true,true=true,eqI 3 3=true,true=true,true=true,IsRoT 3,IsRoT 3,IsTwo (cI (flt (fiB (cRw R) R.length e (cI M) M.length) (2 ^ R.length))) (flt (fiB (cRw R) R.length e (cI M) M.length) (2 ^ R.length)).length (flt (fiB (cRw R) R.length e (cI M) M.length) (2 ^ R.length)).length (cI (flt (fiB (cRw R) R.length e (cI M) M.length) (2 ^ R.length))) (flt (fiB (cRw R) R.length e (cI M) M.length) (2 ^ R.length)).length (flt (fiB (cRw R) R.length e (cI M) M.length) (2 ^ R.length)).length,true=true,true=true,true=true,eqI 0 0=true]) [.go,.go,.go,.go,.b false,.go,.b false,.go,.b false,.go,.go,.b false,.go,.go,.go,.go,.go,.go,.go,.go,.go,.go,.go,.go,.go,.go,.go,.go,.go,.go,.go,.go,.go,.go,.go,.go,.go,.go,.go,.go,.go,.go,.go,.go,.b true,.go,.b true,.go,.b true,.go,.go,.go,.go,.go,.go,.b false,.go,.go,.go,.go,.go,.b false,.go,.go,.go,.b true,.go,.b true,.go,.b true,.go,.go,.go,.b true,.go,.b true,.go,.b true,.go,.go,.b true,.go,.b true,.go,.b true,.go,.go,.go,.b true,.go,.go] (by kernel_rfl) (by kernel_rfl) ⟨⟨rfl,R,rfl,rfl⟩,hqkrb3_1,rfl,rfl,hqkrb3_2,(freeL_plainR R),⟨rfl,R,rfl,rfl⟩,hE,hr,(freeL_plainR R),⟨rfl,R,rfl,rfl⟩,hE,hr,(freeL_plainR R),(freeL_plain (cI_plain _)),⟨rfl,R,rfl,rfl⟩,⟨rfl,M,rfl,rfl⟩,hE,hM,h0,(freeL_plainR R),(freeL_plain (cI_plain _)),⟨rfl,R,rfl,rfl⟩,⟨rfl,M,rfl,rfl⟩,hE,hM,h0,⟨rfl,R,rfl,rfl⟩,⟨rfl,R,rfl,rfl⟩,hqkrb3_3,rfl,rfl,rfl,rfl,rfl,rfl,rfl,(by simp [eqI_iff]),rfl,rfl,rfl,rfl,⟨_,rfl,rfl,rfl,rfl,rfl,rfl,by have h9:=flt_le (fiB (cRw R) R.length e (cI M) M.length) (2 ^ R.length); omega⟩,rfl,rfl,rfl,(by simp [eqI_iff]),trivial⟩ rfl) (Hd.en_eq (r:=(.bool .true)) (by rfl) (Hd.en_ret (v:=(.v (.bool .true))) (by kernel_rfl) rfl))
   ·skip
    have ghqkrb3_3:=eqI_false hqkrb3_3
    exact absurd rfl (eqI_false hqkrb3_3)
theorem law_krb (y:Value) (R:List (Value×List Int)) (e s:Int) (z:Value) (M:List Int) (hw:Known Try.prog (clsO wkO)) (hB:¬ (brB 8 (cRw R) R.length=true∨20 < M.length)) (hE:ppE (cRw R) R.length e=0) (hr:¬ (0≤s∧s < ((2 ^ R.length:Nat):Int))) (hM:M.length=xlN (cRw R) (0 * 1)) (h0:0 < (flt (fiB (cRw R) R.length e (cI M) M.length) (2 ^ R.length)).length):GivesA Try.prog 5 [(.agg [.xl y R.length 1 (cRw R),.v (.int .i64 e)]),(.v (.int .i64 s)),(.xl z M.length 1 (cI M))] (.bool true) :=
 givesA_partsH 75 Try.func5 (by kernel_rfl) (by kernel_rfl) (by kernel_rfl) (fun w=>goes_less (by kernel_rfl) (by kernel_rfl) (by kernel_rfl) (by kernel_rfl) (krb_2 y R e s z M hw hB hE hr hM h0 w []))
noncomputable def kolK1:Code:=bodyC Try.f5
theorem kol_2 (y:Value) (R:List (Value×List Int)) (e s:Int) (z:Value) (M:List Int) (hw:Known Try.prog (clsO wkO)) (hB:¬ (brB 8 (cRw R) R.length=true∨20 < M.length)) (hE:ppE (cRw R) R.length e=0) (hr:0≤s∧s < ((2 ^ R.length:Nat):Int)) (hM:¬ M.length=xlN (cRw R) (0 * 1)) (w:World) (hs:List Nat):Goes Try.prog 75 kolK1 (⟨[(0,(.agg [.xl y R.length 1 (cRw R),.v (.int .i64 e)])),(1,(.v (.int .i64 s))),(2,(.xl z M.length 1 (cI M)))],[],0,[]⟩) (BaseW.H w hs) (OutH Try.prog Try.f5 75 (.bool true) w):=by
 have hcl_M:=cI_len M
 obtain ⟨⟨⟨hn1,hn2⟩,hm1,hm2⟩,-,-,he⟩:=ppE_zero hE
 have hpw:=pow_12 (n:=R.length) (by omega)
 rcases Bool.eq_false_or_eq_true (brB 8 (cRw R) R.length) with hqkol3_1 | hqkol3_1
 ·skip
  exact absurd (.inl hqkol3_1) hB
 ·skip
  rcases Bool.eq_false_or_eq_true (ltI 20 ((M.length:Nat):Int)) with hqkol3_2 | hqkol3_2
  ·skip
   have ghqkol3_2:=ltI_true hqkol3_2
   exact absurd (.inr (by have h9:=ltI_true hqkol3_2; omega)) hB
  ·skip
   have ghqkol3_2:=ltI_false hqkol3_2
   rcases Bool.eq_false_or_eq_true (eqI (ppE (cRw R) R.length e) (ppE (cRw R) R.length e)) with hqkol3_3 | hqkol3_3
   ·skip
    have ghqkol3_3:=eqI_true hqkol3_3
    exact goes_leafA isR_e (goes_told Try.checked.mixed (known_l9ol hw) 200 (T':=⟨[(6,(.v (.bool .true)))],[],3,[]⟩) (e:=.ret) (ps:=[IsPal 1 (cRw R) R.length,brB 8 (cRw R) R.length=false,false=false,false=false,ltI 20 ((M.length:Nat):Int)=false,FreeL (cRw R),IsPal 1 (cRw R) R.length,ppE (cRw R) R.length e=0,0≤s∧s < ((2 ^ R.length:Nat):Int),FreeL (cRw R),IsPal 1 (cRw R) R.length,ppE (cRw R) R.length e=0,0≤s∧s < ((2 ^ R.length:Nat):Int),FreeL (cRw R),FreeL (cI M),IsPal 1 (cRw R) R.length,IsI 1 M.length (cI M),ppE (cRw R) R.length e=0,¬M.length=xlN (cRw R) (0 * 1),FreeL (cRw R),FreeL (cI M),IsPal 1 (cRw R) R.length,IsI 1 M.length (cI M),ppE (cRw R) R.length e=0,¬M.length=xlN (cRw R) (0 * 1),IsPal 1 (cRw R) R.length,IsPal 1 (cRw R) R.length,eqI (ppE (cRw R) R.length e) (ppE (cRw R) R.length e)=true,true=true,true=true,IsLoT 2,IsLoT 2,IsTwo (cI (tI (mxI (cRw R) s R.length) (xlN (cRw R) (0 * 1)))) (xlN (cRw R) (0 * 1)) (xlN (cRw R) (0 * 1)) (cI (tI (mxI (cRw R) s R.length) (xlN (cRw R) (0 * 1)))) (xlN (cRw R) (0 * 1)) (xlN (cRw R) (0 * 1)),true=true,true=true,true=true,eqI 0 0=true,true=true,true=true,(!eqI ((0:Nat):Int) ((0:Nat):Int))=false,ltI 0 ((0:Nat):Int)=false,true=true,true=true,true=true,eqI 15 15=true]) [.go,.go,.go,.go,.b false,.go,.b false,.go,.b false,.go,.go,.b false,.go,.go,.go,.go,.go,.go,.go,.go,.go,.go,.go,.go,.go,.go,.go,.go,.go,.go,.go,.go,.go,.go,.go,.go,.go,.go,.go,.go,.go,.go,.go,.go,.b true,.go,.b true,.go,.b true,.go,.go,.b true,.go,.b true,.go,.b true,.go,.go,.go,.b true,.go,.b true,.go,.b true,.go,.go,.go,.go,.go,.go,.b false,.go,.go,.go,.go,.go,.b false,.go,.go,.go,.b true,.go,.b true,.go,.b true,.go,.go,.go,.b true,.go,.go] (by kernel_rfl) (by kernel_rfl) ⟨⟨rfl,R,rfl,rfl⟩,hqkol3_1,rfl,rfl,hqkol3_2,(freeL_plainR R),⟨rfl,R,rfl,rfl⟩,hE,hr,(freeL_plainR R),⟨rfl,R,rfl,rfl⟩,hE,hr,(freeL_plainR R),(freeL_plain (cI_plain _)),⟨rfl,R,rfl,rfl⟩,⟨rfl,M,rfl,rfl⟩,hE,hM,(freeL_plainR R),(freeL_plain (cI_plain _)),⟨rfl,R,rfl,rfl⟩,⟨rfl,M,rfl,rfl⟩,hE,hM,⟨rfl,R,rfl,rfl⟩,⟨rfl,R,rfl,rfl⟩,hqkol3_3,rfl,rfl,rfl,rfl,⟨_,rfl,rfl,(tI_len _ _).symm,(tI_len _ _).symm,(tI_len _ _).symm,(tI_len _ _).symm,by rw [tI_len]; omega⟩,rfl,rfl,rfl,(by simp [eqI_iff]),rfl,rfl,rfl,rfl,rfl,rfl,rfl,(by simp [eqI_iff]),trivial⟩ rfl) (Hd.en_eq (r:=(.bool .true)) (by rfl) (Hd.en_ret (v:=(.v (.bool .true))) (by kernel_rfl) rfl))
   ·skip
    have ghqkol3_3:=eqI_false hqkol3_3
    exact absurd rfl (eqI_false hqkol3_3)
theorem law_kol (y:Value) (R:List (Value×List Int)) (e s:Int) (z:Value) (M:List Int) (hw:Known Try.prog (clsO wkO)) (hB:¬ (brB 8 (cRw R) R.length=true∨20 < M.length)) (hE:ppE (cRw R) R.length e=0) (hr:0≤s∧s < ((2 ^ R.length:Nat):Int)) (hM:¬ M.length=xlN (cRw R) (0 * 1)):GivesA Try.prog 5 [(.agg [.xl y R.length 1 (cRw R),.v (.int .i64 e)]),(.v (.int .i64 s)),(.xl z M.length 1 (cI M))] (.bool true) :=
 givesA_partsH 75 Try.func5 (by kernel_rfl) (by kernel_rfl) (by kernel_rfl) (fun w=>goes_less (by kernel_rfl) (by kernel_rfl) (by kernel_rfl) (by kernel_rfl) (kol_2 y R e s z M hw hB hE hr hM w []))
noncomputable def koaK1:Code:=bodyC Try.f5
theorem koa_2 (y:Value) (R:List (Value×List Int)) (e s:Int) (z:Value) (M:List Int) (hw:Known Try.prog (clsO wkO)) (hB:¬ (brB 8 (cRw R) R.length=true∨20 < M.length)) (hE:ppE (cRw R) R.length e=0) (hr:0≤s∧s < ((2 ^ R.length:Nat):Int)) (hM:M.length=xlN (cRw R) (0 * 1)) (h0:(flt (fiB (cRw R) R.length e (cI M) M.length) (2 ^ R.length)).length=0) (w:World) (hs:List Nat):Goes Try.prog 75 koaK1 (⟨[(0,(.agg [.xl y R.length 1 (cRw R),.v (.int .i64 e)])),(1,(.v (.int .i64 s))),(2,(.xl z M.length 1 (cI M)))],[],0,[]⟩) (BaseW.H w hs) (OutH Try.prog Try.f5 75 (.bool true) w):=by
 have hcl_M:=cI_len M
 obtain ⟨⟨⟨hn1,hn2⟩,hm1,hm2⟩,-,-,he⟩:=ppE_zero hE
 have hpw:=pow_12 (n:=R.length) (by omega)
 rcases Bool.eq_false_or_eq_true (brB 8 (cRw R) R.length) with hqkoa3_1 | hqkoa3_1
 ·skip
  exact absurd (.inl hqkoa3_1) hB
 ·skip
  rcases Bool.eq_false_or_eq_true (ltI 20 ((M.length:Nat):Int)) with hqkoa3_2 | hqkoa3_2
  ·skip
   have ghqkoa3_2:=ltI_true hqkoa3_2
   exact absurd (.inr (by have h9:=ltI_true hqkoa3_2; omega)) hB
  ·skip
   have ghqkoa3_2:=ltI_false hqkoa3_2
   rcases Bool.eq_false_or_eq_true (eqI (ppE (cRw R) R.length e) (ppE (cRw R) R.length e)) with hqkoa3_3 | hqkoa3_3
   ·skip
    have ghqkoa3_3:=eqI_true hqkoa3_3
    exact goes_leafA isR_e (goes_told Try.checked.mixed (known_l9oa hw) 200 (T':=⟨[(6,(.v (.bool .true)))],[],3,[]⟩) (e:=.ret) (ps:=[IsPal 1 (cRw R) R.length,brB 8 (cRw R) R.length=false,false=false,false=false,ltI 20 ((M.length:Nat):Int)=false,FreeL (cRw R),IsPal 1 (cRw R) R.length,ppE (cRw R) R.length e=0,0≤s∧s < ((2 ^ R.length:Nat):Int),FreeL (cRw R),IsPal 1 (cRw R) R.length,ppE (cRw R) R.length e=0,0≤s∧s < ((2 ^ R.length:Nat):Int),FreeL (cRw R),FreeL (cI M),IsPal 1 (cRw R) R.length,IsI 1 M.length (cI M),ppE (cRw R) R.length e=0,M.length=xlN (cRw R) (0 * 1),(flt (fiB (cRw R) R.length e (cI M) M.length) (2 ^ R.length)).length=0,FreeL (cRw R),FreeL (cI M),IsPal 1 (cRw R) R.length,IsI 1 M.length (cI M),ppE (cRw R) R.length e=0,M.length=xlN (cRw R) (0 * 1),(flt (fiB (cRw R) R.length e (cI M) M.length) (2 ^ R.length)).length=0,IsPal 1 (cRw R) R.length,IsPal 1 (cRw R) R.length,eqI (ppE (cRw R) R.length e) (ppE (cRw R) R.length e)=true,true=true,true=true,IsLoT 2,IsLoT 2,IsTwo (cI (tI (mxI (cRw R) s R.length) (xlN (cRw R) (0 * 1)))) (xlN (cRw R) (0 * 1)) (xlN (cRw R) (0 * 1)) (cI (tI (mxI (cRw R) s R.length) (xlN (cRw R) (0 * 1)))) (xlN (cRw R) (0 * 1)) (xlN (cRw R) (0 * 1)),true=true,true=true,true=true,eqI 0 0=true,true=true,true=true,(!eqI ((0:Nat):Int) ((0:Nat):Int))=false,ltI 0 ((0:Nat):Int)=false,true=true,true=true,true=true,eqI 0 0=true]) [.go,.go,.go,.go,.b false,.go,.b false,.go,.b false,.go,.go,.b false,.go,.go,.go,.go,.go,.go,.go,.go,.go,.go,.go,.go,.go,.go,.go,.go,.go,.go,.go,.go,.go,.go,.go,.go,.go,.go,.go,.go,.go,.go,.go,.go,.b true,.go,.b true,.go,.b true,.go,.go,.b true,.go,.b true,.go,.b true,.go,.go,.go,.b true,.go,.b true,.go,.b true,.go,.go,.go,.go,.go,.go,.b false,.go,.go,.go,.go,.go,.b false,.go,.go,.go,.b true,.go,.b true,.go,.b true,.go,.go,.go,.b true,.go,.go] (by kernel_rfl) (by kernel_rfl) ⟨⟨rfl,R,rfl,rfl⟩,hqkoa3_1,rfl,rfl,hqkoa3_2,(freeL_plainR R),⟨rfl,R,rfl,rfl⟩,hE,hr,(freeL_plainR R),⟨rfl,R,rfl,rfl⟩,hE,hr,(freeL_plainR R),(freeL_plain (cI_plain _)),⟨rfl,R,rfl,rfl⟩,⟨rfl,M,rfl,rfl⟩,hE,hM,h0,(freeL_plainR R),(freeL_plain (cI_plain _)),⟨rfl,R,rfl,rfl⟩,⟨rfl,M,rfl,rfl⟩,hE,hM,h0,⟨rfl,R,rfl,rfl⟩,⟨rfl,R,rfl,rfl⟩,hqkoa3_3,rfl,rfl,rfl,rfl,⟨_,rfl,rfl,(tI_len _ _).symm,(tI_len _ _).symm,(tI_len _ _).symm,(tI_len _ _).symm,by rw [tI_len]; omega⟩,rfl,rfl,rfl,(by simp [eqI_iff]),rfl,rfl,rfl,rfl,rfl,rfl,rfl,(by simp [eqI_iff]),trivial⟩ rfl) (Hd.en_eq (r:=(.bool .true)) (by rfl) (Hd.en_ret (v:=(.v (.bool .true))) (by kernel_rfl) rfl))
   ·skip
    have ghqkoa3_3:=eqI_false hqkoa3_3
    exact absurd rfl (eqI_false hqkoa3_3)
theorem law_koa (y:Value) (R:List (Value×List Int)) (e s:Int) (z:Value) (M:List Int) (hw:Known Try.prog (clsO wkO)) (hB:¬ (brB 8 (cRw R) R.length=true∨20 < M.length)) (hE:ppE (cRw R) R.length e=0) (hr:0≤s∧s < ((2 ^ R.length:Nat):Int)) (hM:M.length=xlN (cRw R) (0 * 1)) (h0:(flt (fiB (cRw R) R.length e (cI M) M.length) (2 ^ R.length)).length=0):GivesA Try.prog 5 [(.agg [.xl y R.length 1 (cRw R),.v (.int .i64 e)]),(.v (.int .i64 s)),(.xl z M.length 1 (cI M))] (.bool true) :=
 givesA_partsH 75 Try.func5 (by kernel_rfl) (by kernel_rfl) (by kernel_rfl) (fun w=>goes_less (by kernel_rfl) (by kernel_rfl) (by kernel_rfl) (by kernel_rfl) (koa_2 y R e s z M hw hB hE hr hM h0 w []))
noncomputable def kobK1:Code:=bodyC Try.f5
theorem kob_2 (y:Value) (R:List (Value×List Int)) (e s:Int) (z:Value) (M:List Int) (hw:Known Try.prog (clsO wkO)) (hB:¬ (brB 8 (cRw R) R.length=true∨20 < M.length)) (hE:ppE (cRw R) R.length e=0) (hr:0≤s∧s < ((2 ^ R.length:Nat):Int)) (hM:M.length=xlN (cRw R) (0 * 1)) (h0:0 < (flt (fiB (cRw R) R.length e (cI M) M.length) (2 ^ R.length)).length) (w:World) (hs:List Nat):Goes Try.prog 75 kobK1 (⟨[(0,(.agg [.xl y R.length 1 (cRw R),.v (.int .i64 e)])),(1,(.v (.int .i64 s))),(2,(.xl z M.length 1 (cI M)))],[],0,[]⟩) (BaseW.H w hs) (OutH Try.prog Try.f5 75 (.bool true) w):=by
 have hcl_M:=cI_len M
 obtain ⟨⟨⟨hn1,hn2⟩,hm1,hm2⟩,-,-,he⟩:=ppE_zero hE
 have hpw:=pow_12 (n:=R.length) (by omega)
 rcases Bool.eq_false_or_eq_true (brB 8 (cRw R) R.length) with hqkob3_1 | hqkob3_1
 ·skip
  exact absurd (.inl hqkob3_1) hB
 ·skip
  rcases Bool.eq_false_or_eq_true (ltI 20 ((M.length:Nat):Int)) with hqkob3_2 | hqkob3_2
  ·skip
   have ghqkob3_2:=ltI_true hqkob3_2
   exact absurd (.inr (by have h9:=ltI_true hqkob3_2; omega)) hB
  ·skip
   have ghqkob3_2:=ltI_false hqkob3_2
   rcases Bool.eq_false_or_eq_true (eqI (ppE (cRw R) R.length e) (ppE (cRw R) R.length e)) with hqkob3_3 | hqkob3_3
   ·skip
    have ghqkob3_3:=eqI_true hqkob3_3
    exact goes_leafA isR_e (goes_told Try.checked.mixed (known_l9ob hw) 200 (T':=⟨[(6,(.v (.bool .true)))],[],5,[]⟩) (e:=.ret) (ps:=[IsPal 1 (cRw R) R.length,brB 8 (cRw R) R.length=false,false=false,false=false,ltI 20 ((M.length:Nat):Int)=false,FreeL (cRw R),IsPal 1 (cRw R) R.length,ppE (cRw R) R.length e=0,0≤s∧s < ((2 ^ R.length:Nat):Int),FreeL (cRw R),IsPal 1 (cRw R) R.length,ppE (cRw R) R.length e=0,0≤s∧s < ((2 ^ R.length:Nat):Int),FreeL (cRw R),FreeL (cI M),IsPal 1 (cRw R) R.length,IsI 1 M.length (cI M),ppE (cRw R) R.length e=0,M.length=xlN (cRw R) (0 * 1),0 < (flt (fiB (cRw R) R.length e (cI M) M.length) (2 ^ R.length)).length,FreeL (cRw R),FreeL (cI M),IsPal 1 (cRw R) R.length,IsI 1 M.length (cI M),ppE (cRw R) R.length e=0,M.length=xlN (cRw R) (0 * 1),0 < (flt (fiB (cRw R) R.length e (cI M) M.length) (2 ^ R.length)).length,IsPal 1 (cRw R) R.length,IsPal 1 (cRw R) R.length,eqI (ppE (cRw R) R.length e) (ppE (cRw R) R.length e)=true,true=true,true=true,IsLoT 2,IsLoT 2,IsTwo (cI (tI (mxI (cRw R) s R.length) (xlN (cRw R) (0 * 1)))) (xlN (cRw R) (0 * 1)) (xlN (cRw R) (0 * 1)) (cI (tI (mxI (cRw R) s R.length) (xlN (cRw R) (0 * 1)))) (xlN (cRw R) (0 * 1)) (xlN (cRw R) (0 * 1)),true=true,true=true,true=true,eqI 0 0=true,true=true,true=true,IsRoT 3,IsRoT 3,IsTwo (cI (flt (fiB (cRw R) R.length e (cI M) M.length) (2 ^ R.length))) (flt (fiB (cRw R) R.length e (cI M) M.length) (2 ^ R.length)).length (flt (fiB (cRw R) R.length e (cI M) M.length) (2 ^ R.length)).length (cI (flt (fiB (cRw R) R.length e (cI M) M.length) (2 ^ R.length))) (flt (fiB (cRw R) R.length e (cI M) M.length) (2 ^ R.length)).length (flt (fiB (cRw R) R.length e (cI M) M.length) (2 ^ R.length)).length,true=true,true=true,true=true,eqI 0 0=true]) [.go,.go,.go,.go,.b false,.go,.b false,.go,.b false,.go,.go,.b false,.go,.go,.go,.go,.go,.go,.go,.go,.go,.go,.go,.go,.go,.go,.go,.go,.go,.go,.go,.go,.go,.go,.go,.go,.go,.go,.go,.go,.go,.go,.go,.go,.b true,.go,.b true,.go,.b true,.go,.go,.b true,.go,.b true,.go,.b true,.go,.go,.go,.b true,.go,.b true,.go,.b true,.go,.go,.b true,.go,.b true,.go,.b true,.go,.go,.go,.b true,.go,.go] (by kernel_rfl) (by kernel_rfl) ⟨⟨rfl,R,rfl,rfl⟩,hqkob3_1,rfl,rfl,hqkob3_2,(freeL_plainR R),⟨rfl,R,rfl,rfl⟩,hE,hr,(freeL_plainR R),⟨rfl,R,rfl,rfl⟩,hE,hr,(freeL_plainR R),(freeL_plain (cI_plain _)),⟨rfl,R,rfl,rfl⟩,⟨rfl,M,rfl,rfl⟩,hE,hM,h0,(freeL_plainR R),(freeL_plain (cI_plain _)),⟨rfl,R,rfl,rfl⟩,⟨rfl,M,rfl,rfl⟩,hE,hM,h0,⟨rfl,R,rfl,rfl⟩,⟨rfl,R,rfl,rfl⟩,hqkob3_3,rfl,rfl,rfl,rfl,⟨_,rfl,rfl,(tI_len _ _).symm,(tI_len _ _).symm,(tI_len _ _).symm,(tI_len _ _).symm,by rw [tI_len]; omega⟩,rfl,rfl,rfl,(by simp [eqI_iff]),rfl,rfl,rfl,rfl,⟨_,rfl,rfl,rfl,rfl,rfl,rfl,by have h9:=flt_le (fiB (cRw R) R.length e (cI M) M.length) (2 ^ R.length); omega⟩,rfl,rfl,rfl,(by simp [eqI_iff]),trivial⟩ rfl) (Hd.en_eq (r:=(.bool .true)) (by rfl) (Hd.en_ret (v:=(.v (.bool .true))) (by kernel_rfl) rfl))
   ·skip
    have ghqkob3_3:=eqI_false hqkob3_3
    exact absurd rfl (eqI_false hqkob3_3)
theorem law_kob (y:Value) (R:List (Value×List Int)) (e s:Int) (z:Value) (M:List Int) (hw:Known Try.prog (clsO wkO)) (hB:¬ (brB 8 (cRw R) R.length=true∨20 < M.length)) (hE:ppE (cRw R) R.length e=0) (hr:0≤s∧s < ((2 ^ R.length:Nat):Int)) (hM:M.length=xlN (cRw R) (0 * 1)) (h0:0 < (flt (fiB (cRw R) R.length e (cI M) M.length) (2 ^ R.length)).length):GivesA Try.prog 5 [(.agg [.xl y R.length 1 (cRw R),.v (.int .i64 e)]),(.v (.int .i64 s)),(.xl z M.length 1 (cI M))] (.bool true) :=
 givesA_partsH 75 Try.func5 (by kernel_rfl) (by kernel_rfl) (by kernel_rfl) (fun w=>goes_less (by kernel_rfl) (by kernel_rfl) (by kernel_rfl) (by kernel_rfl) (kob_2 y R e s z M hw hB hE hr hM h0 w []))
theorem law_fits (hw:Known Try.prog (clsO wkO)) (y:Value) (R:List (Value×List Int)) (e s:Int) (z:Value) (M:List Int):GivesA Try.prog 5 [(.agg [.xl y R.length 1 (cRw R),.v (.int .i64 e)]),(.v (.int .i64 s)),(.xl z M.length 1 (cI M))] (.bool true):=by
 by_cases hB:brB 8 (cRw R) R.length=true∨20 < M.length
 ·exact law_kB y R e s z M hw hB
 by_cases hE:ppE (cRw R) R.length e=0
 ·by_cases hr:0≤s∧s < ((2 ^ R.length:Nat):Int) <;> by_cases hM:M.length=xlN (cRw R) (0 * 1)
  ·rcases Nat.eq_zero_or_pos (flt (fiB (cRw R) R.length e (cI M) M.length) (2 ^ R.length)).length with h0 | h0
   ·exact law_koa y R e s z M hw hB hE hr hM h0
   ·exact law_kob y R e s z M hw hB hE hr hM h0
  ·exact law_kol y R e s z M hw hB hE hr hM
  ·rcases Nat.eq_zero_or_pos (flt (fiB (cRw R) R.length e (cI M) M.length) (2 ^ R.length)).length with h0 | h0
   ·exact law_kra y R e s z M hw hB hE hr hM h0
   ·exact law_krb y R e s z M hw hB hE hr hM h0
  ·exact law_krl y R e s z M hw hB hE hr hM
 ·exact law_ke y R e s z M hw hB hE
end
end Go.Proofs.Ytegmogadbnfbgaa
