import Derived.Test.YtmankoikpadkpaaL6
set_option linter.all false
/- Oracles for the law AtlasPlans. -/
namespace Go.Proofs.Ytmankoikpadkpaa
open Go Ev
noncomputable section
def wkS:List Value→Option AV:=fun xs=>match xs with | []=>some (.v (.bool true)) | _=>none
def grS:List AV→Option (Res1×List Prop):=fun args =>
 match args with
 | [a]=>match planV a with
  | some (n,y,m,c)=>some (.val (.v (.bool (grB c m))),[IsR m c])
  | none=>none
 | _=>none
def seXS:List AV→Option (Res1×List Prop):=fun args =>
 match args with
 | [p,x]=>match planV p with
  | some (n,y,m,c)=>match numC x with
   | some (a,b)=>some (.val (.tup [.v (.slice none 0 0),.v (.int .i64 (seE n c m a b))]),[IsR m c,¬ seE n c m a b=0])
   | none=>none
  | none=>none
 | _=>none
def seYS0:List AV→Option (Res1×List Prop):=fun args =>
 match args with
 | [p,x]=>match planV p with
  | some (n,y,m,c)=>match numC x with
   | some (a,b)=>match Nat.beq m 0 with
    | true=>some (.blk (fun k=>.tup [.sl k 0 0 0,.v (.int .i64 (.ofNat 0))]) (.cells [.v (.int .i64 (sv c 0 a b 0)),.v (.int .i64 (sv c 0 a b 1)),.v (.int .i64 (sv c 0 a b 2)),.v (.int .i64 (sv c 0 a b 3))] 61),[IsR m c,plE n c 0=0,caB n a b=true])
    | false=>none
   | none=>none
  | none=>none
 | _=>none
def seYO0:OrcH:=extOrc 16 seYS0
theorem known_seY0:Known Try.prog (clsO seYO0):=known_ext (fun args r ps h hp=>by
 unfold seYS0 at h
 split at h
 ·split at h
  ·rename_i n y m c e
   split at h
   ·rename_i a b e2
    split at h
    ·rename_i hb
     cases h
     have hb':=Nat.eq_of_beq_eq_true hb
     subst hb'
     obtain ⟨⟨R,rfl,hm⟩,h1,h2,-⟩:=hp
     rw [planV_eq e,numC_eq e2]
     have hx:ExtL [.agg [.v (.int .i64 n),.xl y 0 1 (cRw R)],.agg [.v (.int .i64 a),.v (.int .i64 b)]]:=by
      have:=extL_cons (ext_plan n y R) (extL_cons (ext_num a b) extL_nil)
      rwa [← hm] at this
     exact ⟨hx,se_ok0 n y R a b hm h1 h2⟩
    ·cases h
   ·cases h
  ·cases h
 ·cases h)
def seYS1:List AV→Option (Res1×List Prop):=fun args =>
 match args with
 | [p,x]=>match planV p with
  | some (n,y,m,c)=>match numC x with
   | some (a,b)=>match Nat.beq m 1 with
    | true=>some (.blk (fun k=>.tup [.sl k 0 1 1,.v (.int .i64 (.ofNat 0))]) (.cells [.v (.int .i64 (sv c 1 a b 0)),.v (.int .i64 (sv c 1 a b 1)),.v (.int .i64 (sv c 1 a b 2)),.v (.int .i64 (sv c 1 a b 3))] 61),[IsR m c,plE n c 1=0,caB n a b=true])
    | false=>none
   | none=>none
  | none=>none
 | _=>none
def seYO1:OrcH:=extOrc 16 seYS1
theorem known_seY1:Known Try.prog (clsO seYO1):=known_ext (fun args r ps h hp=>by
 unfold seYS1 at h
 split at h
 ·split at h
  ·rename_i n y m c e
   split at h
   ·rename_i a b e2
    split at h
    ·rename_i hb
     cases h
     have hb':=Nat.eq_of_beq_eq_true hb
     subst hb'
     obtain ⟨⟨R,rfl,hm⟩,h1,h2,-⟩:=hp
     rw [planV_eq e,numC_eq e2]
     have hx:ExtL [.agg [.v (.int .i64 n),.xl y 1 1 (cRw R)],.agg [.v (.int .i64 a),.v (.int .i64 b)]]:=by
      have:=extL_cons (ext_plan n y R) (extL_cons (ext_num a b) extL_nil)
      rwa [← hm] at this
     exact ⟨hx,se_ok1 n y R a b hm h1 h2⟩
    ·cases h
   ·cases h
  ·cases h
 ·cases h)
def seYS2:List AV→Option (Res1×List Prop):=fun args =>
 match args with
 | [p,x]=>match planV p with
  | some (n,y,m,c)=>match numC x with
   | some (a,b)=>match Nat.beq m 2 with
    | true=>some (.blk (fun k=>.tup [.sl k 0 2 2,.v (.int .i64 (.ofNat 0))]) (.cells [.v (.int .i64 (sv c 2 a b 0)),.v (.int .i64 (sv c 2 a b 1)),.v (.int .i64 (sv c 2 a b 2)),.v (.int .i64 (sv c 2 a b 3))] 61),[IsR m c,plE n c 2=0,caB n a b=true])
    | false=>none
   | none=>none
  | none=>none
 | _=>none
def seYO2:OrcH:=extOrc 16 seYS2
theorem known_seY2:Known Try.prog (clsO seYO2):=known_ext (fun args r ps h hp=>by
 unfold seYS2 at h
 split at h
 ·split at h
  ·rename_i n y m c e
   split at h
   ·rename_i a b e2
    split at h
    ·rename_i hb
     cases h
     have hb':=Nat.eq_of_beq_eq_true hb
     subst hb'
     obtain ⟨⟨R,rfl,hm⟩,h1,h2,-⟩:=hp
     rw [planV_eq e,numC_eq e2]
     have hx:ExtL [.agg [.v (.int .i64 n),.xl y 2 1 (cRw R)],.agg [.v (.int .i64 a),.v (.int .i64 b)]]:=by
      have:=extL_cons (ext_plan n y R) (extL_cons (ext_num a b) extL_nil)
      rwa [← hm] at this
     exact ⟨hx,se_ok2 n y R a b hm h1 h2⟩
    ·cases h
   ·cases h
  ·cases h
 ·cases h)
def seYS3:List AV→Option (Res1×List Prop):=fun args =>
 match args with
 | [p,x]=>match planV p with
  | some (n,y,m,c)=>match numC x with
   | some (a,b)=>match Nat.beq m 3 with
    | true=>some (.blk (fun k=>.tup [.sl k 0 3 3,.v (.int .i64 (.ofNat 0))]) (.cells [.v (.int .i64 (sv c 3 a b 0)),.v (.int .i64 (sv c 3 a b 1)),.v (.int .i64 (sv c 3 a b 2)),.v (.int .i64 (sv c 3 a b 3))] 61),[IsR m c,plE n c 3=0,caB n a b=true])
    | false=>none
   | none=>none
  | none=>none
 | _=>none
def seYO3:OrcH:=extOrc 16 seYS3
theorem known_seY3:Known Try.prog (clsO seYO3):=known_ext (fun args r ps h hp=>by
 unfold seYS3 at h
 split at h
 ·split at h
  ·rename_i n y m c e
   split at h
   ·rename_i a b e2
    split at h
    ·rename_i hb
     cases h
     have hb':=Nat.eq_of_beq_eq_true hb
     subst hb'
     obtain ⟨⟨R,rfl,hm⟩,h1,h2,-⟩:=hp
     rw [planV_eq e,numC_eq e2]
     have hx:ExtL [.agg [.v (.int .i64 n),.xl y 3 1 (cRw R)],.agg [.v (.int .i64 a),.v (.int .i64 b)]]:=by
      have:=extL_cons (ext_plan n y R) (extL_cons (ext_num a b) extL_nil)
      rwa [← hm] at this
     exact ⟨hx,se_ok3 n y R a b hm h1 h2⟩
    ·cases h
   ·cases h
  ·cases h
 ·cases h)
def seYS4:List AV→Option (Res1×List Prop):=fun args =>
 match args with
 | [p,x]=>match planV p with
  | some (n,y,m,c)=>match numC x with
   | some (a,b)=>match Nat.beq m 4 with
    | true=>some (.blk (fun k=>.tup [.sl k 0 4 4,.v (.int .i64 (.ofNat 0))]) (.cells [.v (.int .i64 (sv c 4 a b 0)),.v (.int .i64 (sv c 4 a b 1)),.v (.int .i64 (sv c 4 a b 2)),.v (.int .i64 (sv c 4 a b 3))] 61),[IsR m c,plE n c 4=0,caB n a b=true])
    | false=>none
   | none=>none
  | none=>none
 | _=>none
def seYO4:OrcH:=extOrc 16 seYS4
theorem known_seY4:Known Try.prog (clsO seYO4):=known_ext (fun args r ps h hp=>by
 unfold seYS4 at h
 split at h
 ·split at h
  ·rename_i n y m c e
   split at h
   ·rename_i a b e2
    split at h
    ·rename_i hb
     cases h
     have hb':=Nat.eq_of_beq_eq_true hb
     subst hb'
     obtain ⟨⟨R,rfl,hm⟩,h1,h2,-⟩:=hp
     rw [planV_eq e,numC_eq e2]
     have hx:ExtL [.agg [.v (.int .i64 n),.xl y 4 1 (cRw R)],.agg [.v (.int .i64 a),.v (.int .i64 b)]]:=by
      have:=extL_cons (ext_plan n y R) (extL_cons (ext_num a b) extL_nil)
      rwa [← hm] at this
     exact ⟨hx,se_ok4 n y R a b hm h1 h2⟩
    ·cases h
   ·cases h
  ·cases h
 ·cases h)
end
end Go.Proofs.Ytmankoikpadkpaa
