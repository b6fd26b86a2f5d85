import Derived.Test.YtmankoikpadkpaaL3
set_option maxHeartbeats 4000000
set_option linter.all false
/- Oracles of CheckPlan. -/
namespace Go.Proofs.Ytmankoikpadkpaa
open Go Ev
noncomputable section
theorem iRL4 {a:Int} (h : -9223372036854775808≤a) (k:a≤9223372036854775807):inR .i64 a:=⟨h,k⟩
def IsR (m:Nat) (c:List AV):Prop:=∃ R,c=cRw R∧m=R.length
theorem ext_rows:∀ R:List (Value×List Int),ExtL (cRw R)
 | []=>extL_nil
 | r :: l=>extL_cons (ext_xl (extL_plain (cI_plain r.2))) (ext_rows l)
theorem ext_plan (n:Int) (y:Value) (R:List (Value×List Int)):Ext (.agg [.v (.int .i64 n),.xl y R.length 1 (cRw R)]) :=
 ext_agg (extL_cons (ext_v _) (extL_cons (ext_xl (ext_rows R)) extL_nil))
def planV (a:AV):Option (Int×Value×Nat×List AV) :=
 match a with
 | .agg l=>match l with
  | [x,b]=>match x with
   | .v v=>match numV v with
    | some n=>match b with
     | .xl y m k c=>match k with
      | 1=>some (n,y,m,c)
      | _=>none
     | _=>none
    | none=>none
   | _=>none
  | _=>none
 | _=>none
theorem planV_eq {a:AV} {n:Int} {y:Value} {m:Nat} {c:List AV} (h:planV a=some (n,y,m,c)):a = .agg [.v (.int .i64 n),.xl y m 1 c]:=by
 unfold planV at h
 split at h
 ·split at h
  ·split at h
   ·split at h
    ·rename_i e
     split at h
     ·split at h
      ·cases h
       rw [numV_eq e]
      ·cases h
     ·cases h
    ·cases h
   ·cases h
  ·cases h
 ·cases h
def plS:List AV→Option (Res1×List Prop):=fun args =>
 match args with
 | [a]=>match planV a with
  | some (n,y,m,c)=>some (.val (.v (.int .i64 (plE n c m))),[IsR m c])
  | none=>none
 | _=>none
def plO:OrcH:=extOrc 18 plS
def rplO:OrcH:=extOrc 19 plS
theorem known_pl:Known Try.prog (clsO plO):=known_ext (fun args r ps h hp=>by
 unfold plS at h
 split at h
 ·split at h
  ·rename_i n y m c e
   cases h
   obtain ⟨⟨R,rfl,rfl⟩,-⟩:=hp
   rw [planV_eq e]
   exact ⟨extL_cons (ext_plan n y R) extL_nil,_,rfl,pl_g n y R⟩
  ·cases h
 ·cases h)
theorem known_rpl:Known Try.prog (clsO rplO):=known_ext (fun args r ps h hp=>by
 unfold plS at h
 split at h
 ·split at h
  ·rename_i n y m c e
   cases h
   obtain ⟨⟨R,rfl,rfl⟩,-⟩:=hp
   rw [planV_eq e]
   exact ⟨extL_cons (ext_plan n y R) extL_nil,_,rfl,rp_g n y R⟩
  ·cases h
 ·cases h)
open Classical in
def grB (c:List AV) (m:Nat):Bool:=if m≤8 then (if ∀ i,i < m→xlN c (i * 1)≤60 then false else true) else true
theorem grB_many {c:List AV} {m:Nat} (h:¬ m≤8):grB c m=true:=if_neg h
theorem grB_long {c:List AV} {m i:Nat} (h:m≤8) (hi:i < m) (h2:¬ xlN c (i * 1)≤60):grB c m=true:=by unfold grB; rw [if_pos h,if_neg (fun k=>h2 (k i hi))]
theorem grB_ok {c:List AV} {m:Nat} (h:m≤8) (h2:∀ i,i < m→xlN c (i * 1)≤60):grB c m=false:=by unfold grB; rw [if_pos h,if_pos h2]
def grC0:Code:=bodyC Try.f14
def grC1:Code:=tlC grC0
theorem gr_0 (n:Int) (y:Value) (R:List (Value×List Int)) (w:World) (hc:Goes Try.prog 22 grC1 (⟨[(1,.ptr 0 0)],[],1,[(0,.cells [.v (.int .i64 n),.xl y R.length 1 (cRw R)] 24)]⟩) w (OutR Try.prog Try.f14 22 (.bool (grB (cRw R) R.length)) w)):Goes Try.prog 22 grC0 (argLit [.agg [.v (.int .i64 n),.xl y R.length 1 (cRw R)]]) w (OutR Try.prog Try.f14 22 (.bool (grB (cRw R) R.length)) w):=by
 exact goes_spine (T':=⟨[(1,.ptr 0 0)],[],1,[(0,.cells [.v (.int .i64 n),.xl y R.length 1 (cRw R)] 24)]⟩) (by kernel_rfl) (goes_told Try.checked.mixed (known_none) 200 (e:=.normal) (ps:=[]) [.go,.go] (by kernel_rfl) (by kernel_rfl) trivial rfl) (hc)
def grC2:Code:=tlC grC1
theorem gr_1 (n:Int) (y:Value) (R:List (Value×List Int)) (w:World) (hc:R.length≤8→Goes Try.prog 22 grC2 (⟨[(1,.ptr 0 0)],[],1,[(0,.cells [.v (.int .i64 n),.xl y R.length 1 (cRw R)] 24)]⟩) w (OutR Try.prog Try.f14 22 (.bool (grB (cRw R) R.length)) w)):Goes Try.prog 22 grC1 (⟨[(1,.ptr 0 0)],[],1,[(0,.cells [.v (.int .i64 n),.xl y R.length 1 (cRw R)] 24)]⟩) w (OutR Try.prog Try.f14 22 (.bool (grB (cRw R) R.length)) w):=by
 cases hq1:(ltI 8 ↑R.length) with
 | true =>
  have ghq1:=ltI_true hq1
  rw [grB_many (by omega)]
  exact goes_out Try.checked.mixed (known_none) 200 (v:=(.v (.bool .true))) (ps:=[ltI 8 ↑R.length=true]) [.go,.go,.go,.go,.b true,.go] (by kernel_rfl) (by kernel_rfl) ⟨hq1,trivial⟩ rfl
 | false =>
  have ghq1:=ltI_false hq1
  exact goes_spine (T':=⟨[(1,.ptr 0 0)],[],1,[(0,.cells [.v (.int .i64 n),.xl y R.length 1 (cRw R)] 24)]⟩) (by kernel_rfl) (goes_told Try.checked.mixed (known_none) 200 (e:=.normal) (ps:=[ltI 8 ↑R.length=false]) [.go,.go,.go,.go,.b false] (by kernel_rfl) (by kernel_rfl) ⟨hq1,trivial⟩ rfl) (hc (by omega))
def grC3:Code:=tlC grC2
theorem gr_2 (n:Int) (y:Value) (R:List (Value×List Int)) (hm:R.length≤8) (w:World) (hc:∀ i:UpI (fun i=>xlN (cRw R) (i * 1)≤60) R.length,R.length≤i.1→Goes Try.prog 22 grC3 (⟨[(1,.ptr 0 0),(3,.v (.int .i64 (((i.1:Nat):Int))))],[],1,[(0,.cells [.v (.int .i64 n),.xl y R.length 1 (cRw R)] 24)]⟩) w (OutR Try.prog Try.f14 22 (.bool (grB (cRw R) R.length)) w)):Goes Try.prog 22 grC2 (⟨[(1,.ptr 0 0)],[],1,[(0,.cells [.v (.int .i64 n),.xl y R.length 1 (cRw R)] 24)]⟩) w (OutR Try.prog Try.f14 22 (.bool (grB (cRw R) R.length)) w):=by
 refine goes_spineQ (ι:=UpI (fun i=>xlN (cRw R) (i * 1)≤60) R.length) (T:=fun i=>⟨[(1,.ptr 0 0),(3,.v (.int .i64 (((i.1:Nat):Int))))],[],1,[(0,.cells [.v (.int .i64 n),.xl y R.length 1 (cRw R)] 24)]⟩) (R:=fun i=>R.length≤i.1) (by kernel_rfl)
  (goes_spine (T':=⟨[(1,.ptr 0 0),(3,.v (.int .i64 (((0:Nat):Int))))],[],1,[(0,.cells [.v (.int .i64 n),.xl y R.length 1 (cRw R)] 24)]⟩) (by kernel_rfl) (goes_told Try.checked.mixed (known_none) 200 (e:=.normal) (ps:=[]) [.go] (by kernel_rfl) (by kernel_rfl) trivial rfl)
   (goes_blockloop (by kernel_rfl) (fun i:UpI (fun i=>xlN (cRw R) (i * 1)≤60) R.length=>⟨[(1,.ptr 0 0),(3,.v (.int .i64 (((i.1:Nat):Int))))],[],1,[(0,.cells [.v (.int .i64 n),.xl y R.length 1 (cRw R)] 24)]⟩) (fun i=>R.length - i.1) (fun i=>?_) ⟨0,Nat.zero_le _,fun j hj=>by omega⟩)) hc
 obtain ⟨i,hi1,hi2⟩:=i
 show (∃ j:UpI (fun i=>xlN (cRw R) (i * 1)≤60) R.length,R.length - j.1 < R.length - i∧Goes Try.prog 22 (loopC (tlC (hdC grC2))) (⟨[(1,.ptr 0 0),(3,.v (.int .i64 (((i:Nat):Int))))],[],1,[(0,.cells [.v (.int .i64 n),.xl y R.length 1 (cRw R)] 24)]⟩) w (Land 22 isN (⟨[(1,.ptr 0 0),(3,.v (.int .i64 (((j.1:Nat):Int))))],[],1,[(0,.cells [.v (.int .i64 n),.xl y R.length 1 (cRw R)] 24)]⟩) w))∨(R.length≤i∧Goes Try.prog 22 (loopC (tlC (hdC grC2))) (⟨[(1,.ptr 0 0),(3,.v (.int .i64 (((i:Nat):Int))))],[],1,[(0,.cells [.v (.int .i64 n),.xl y R.length 1 (cRw R)] 24)]⟩) w (Land 22 (isX 0) (⟨[(1,.ptr 0 0),(3,.v (.int .i64 (((i:Nat):Int))))],[],1,[(0,.cells [.v (.int .i64 n),.xl y R.length 1 (cRw R)] 24)]⟩) w))∨Goes Try.prog 22 (loopC (tlC (hdC grC2))) (⟨[(1,.ptr 0 0),(3,.v (.int .i64 (((i:Nat):Int))))],[],1,[(0,.cells [.v (.int .i64 n),.xl y R.length 1 (cRw R)] 24)]⟩) w (fun e a w'=>e = .ret∧(OutR Try.prog Try.f14 22 (.bool (grB (cRw R) R.length)) w) .ret a w')
 have hcl:=cRw_len R
 cases hq1:(ltI ↑i ↑R.length) with
 | true =>
  have ghq1:=ltI_true hq1
  cases hq2:(ltI 60 ↑(xlN (cRw R) (i * 1))) with
  | true =>
   have ghq2:=ltI_true hq2
   rw [grB_long hm (show i < R.length by omega) (by omega)]
   exact .inr (.inr (goes_ret Try.checked.mixed (known_none) 200 (v:=(.v (.bool .true))) (ps:=[ltI ↑i ↑R.length=true,i < R.length,loadL Try.prog (cRw R) (i * 1) 29=some (AV.xl (xlY (cRw R) (i * 1)) (xlN (cRw R) (i * 1)) 1 (xlC (cRw R) (i * 1))),ltI 60 ↑(xlN (cRw R) (i * 1))=true]) [.go,.go,.go,.go,.go,.b true,.go,.go,.go,.sym,.sym,.go,.go,.b true,.go] (by kernel_rfl) (by kernel_rfl) ⟨hq1,(by omega),(by rw [Nat.mul_one]; exact cRw_load (by omega) 29 (Try.underlying29) rfl),hq2,trivial⟩ rfl))
  | false =>
   have ghq2:=ltI_false hq2
   refine .inl ⟨⟨i + 1,by omega,up_next hi2 (show xlN (cRw R) (i * 1)≤60 by omega)⟩,(by show R.length - (i + 1) < R.length - i; omega),?_⟩
   exact goes_told Try.checked.mixed (known_none) 200 (e:=.normal) (ps:=[ltI ↑i ↑R.length=true,i < R.length,loadL Try.prog (cRw R) (i * 1) 29=some (AV.xl (xlY (cRw R) (i * 1)) (xlN (cRw R) (i * 1)) 1 (xlC (cRw R) (i * 1))),ltI 60 ↑(xlN (cRw R) (i * 1))=false,inR IntKind.i64 (↑i + 1)]) [.go,.go,.go,.go,.go,.b true,.go,.go,.go,.sym,.sym,.go,.go,.b false,.go,.go,.go] (by kernel_rfl) (by kernel_rfl) ⟨hq1,(by omega),(by rw [Nat.mul_one]; exact cRw_load (by omega) 29 (Try.underlying29) rfl),hq2,(iRL4 (by omega) (by omega)),trivial⟩ rfl
 | false =>
  have ghq1:=ltI_false hq1
  exact .inr (.inl ⟨(by show R.length≤i; omega),goes_told Try.checked.mixed (known_none) 200 (e:=.exit 0) (ps:=[ltI ↑i ↑R.length=false]) [.go,.go,.go,.go,.go,.b false] (by kernel_rfl) (by kernel_rfl) ⟨hq1,trivial⟩ rfl⟩)
theorem gr_3 (n:Int) (y:Value) (R:List (Value×List Int)) (i0:Nat) (hm:R.length≤8) (hs:∀ i,i < R.length→xlN (cRw R) (i * 1)≤60) (w:World):Goes Try.prog 22 grC3 (⟨[(1,.ptr 0 0),(3,.v (.int .i64 (((i0:Nat):Int))))],[],1,[(0,.cells [.v (.int .i64 n),.xl y R.length 1 (cRw R)] 24)]⟩) w (OutR Try.prog Try.f14 22 (.bool (grB (cRw R) R.length)) w):=by
 rw [grB_ok hm hs]
 exact goes_out Try.checked.mixed (known_none) 200 (v:=(.v (.bool .false))) (ps:=[]) [.go] (by kernel_rfl) (by kernel_rfl) trivial rfl
theorem gr_g (n:Int) (y:Value) (R:List (Value×List Int)):GivesA Try.prog 14 [.agg [.v (.int .i64 n),.xl y R.length 1 (cRw R)]] (.bool (grB (cRw R) R.length)) :=
 givesA_parts 22 Try.func14 (by kernel_rfl) (by kernel_rfl) (by kernel_rfl) (fun w =>
  gr_0 n y R w (gr_1 n y R w (fun hm=>gr_2 n y R hm w (fun i hi=>gr_3 n y R i.1 hm (fun j hj=>i.2.2 j (Nat.lt_of_lt_of_le hj hi)) w))))
def caB (n a b:Int):Bool:=decide ((b=0∧a=0)∨((b=1∨b = -1)∧0≤a∧a < n))
theorem ca_g (n:Int) (y:Value) (R:List (Value×List Int)) (a b:Int) (hn:1≤n∧n≤39):GivesA Try.prog 51 [.agg [.v (.int .i64 n),.xl y R.length 1 (cRw R)],.agg [.v (.int .i64 a),.v (.int .i64 b)]] (.bool (caB n a b)):=by
 cases hq1:(eqI b 0) with
 | true =>
  have ghq1:=eqI_true hq1
  rw [show caB n a b=(eqI a 0 && (eqI b 0 && true)) by rw [Bool.eq_iff_iff]; unfold caB; simp [ltI_iff,eqI_iff] at *; omega]
  exact givesA_told (v:=(.v (.bool (eqI a 0 && (eqI b 0 && true))))) (ps:=[eqI b 0=true]) Try.checked.mixed known_none 200 [.go,.go,.go,.go,.go,.go,.b true,.go,.go,.go,.go] (by kernel_rfl) ⟨hq1,trivial⟩ rfl
 | false =>
  have ghq1:=eqI_false hq1
  cases hq2:(ltI b (-1)) with
  | true =>
   have ghq2:=ltI_true hq2
   rw [show caB n a b = .false by rw [Bool.eq_iff_iff]; unfold caB; simp [ltI_iff,eqI_iff] at *; omega]
   exact givesA_told (v:=(.v (.bool .false))) (ps:=[eqI b 0=false,ltI 0 ↑1=true,(!ltI b (-1))=false,false=false,false=false,(!false)=true,false=false,false=false,false=false,false=false,false=false,false=false]) Try.checked.mixed known_none 200 [.go,.go,.go,.go,.go,.go,.b false,.go,.go,.go,.go,.go,.go,.go,.go,.b true,.go,.go,.go,.go,.go,.go,.go,.go,.go,.b false,.b false,.b false,.go,.go,.go,.b true,.go,.go,.b false,.b false,.b false,.b false,.b false,.b false,.go,.go] (by kernel_rfl) ⟨hq1,(by rw [ltI_iff]; decide),(by rw [hq2]; rfl),rfl,rfl,rfl,rfl,rfl,rfl,rfl,rfl,rfl,trivial⟩ rfl
  | false =>
   have ghq2:=ltI_false hq2
   cases hq3:(ltI 1 b) with
   | true =>
    have ghq3:=ltI_true hq3
    rw [show caB n a b = .false by rw [Bool.eq_iff_iff]; unfold caB; simp [ltI_iff,eqI_iff] at *; omega]
    exact givesA_told (v:=(.v (.bool .false))) (ps:=[eqI b 0=false,ltI 0 ↑1=true,(!ltI b (-1))=true,true=true,true=true,(!!ltI 1 b)=true,false=false,false=false,false=false,false=false,false=false,false=false]) Try.checked.mixed known_none 200 [.go,.go,.go,.go,.go,.go,.b false,.go,.go,.go,.go,.go,.go,.go,.go,.b true,.go,.go,.go,.go,.go,.go,.go,.go,.go,.b true,.go,.b true,.go,.b true,.go,.go,.go,.go,.b true,.go,.go,.b false,.b false,.b false,.b false,.b false,.b false,.go,.go] (by kernel_rfl) ⟨hq1,(by rw [ltI_iff]; decide),(by rw [hq2]; rfl),rfl,rfl,(by rw [hq3]; rfl),rfl,rfl,rfl,rfl,rfl,rfl,trivial⟩ rfl
   | false =>
    have ghq3:=ltI_false hq3
    cases hq4:(ltI a 0) with
    | true =>
     have ghq4:=ltI_true hq4
     rw [show caB n a b = .false by rw [Bool.eq_iff_iff]; unfold caB; simp [ltI_iff,eqI_iff] at *; omega]
     exact givesA_told (v:=(.v (.bool .false))) (ps:=[eqI b 0=false,ltI 0 ↑1=true,(!ltI b (-1))=true,true=true,true=true,(!!ltI 1 b)=false,inR IntKind.i64 (0 + 1),ltI (0 + 1) ↑1=false,true=true,true=true,true=true,true=true,true=true,inR IntKind.i64 (n - 1),true=true,(!ltI a 0)=false,false=false,false=false]) Try.checked.mixed known_none 200 [.go,.go,.go,.go,.go,.go,.b false,.go,.go,.go,.go,.go,.go,.go,.go,.b true,.go,.go,.go,.go,.go,.go,.go,.go,.go,.b true,.go,.b true,.go,.b true,.go,.go,.go,.go,.b false,.go,.go,.go,.b false,.go,.go,.b true,.go,.b true,.go,.b true,.go,.b true,.go,.b true,.go,.b true,.go,.go,.go,.go,.go,.b false,.b false,.b false,.go,.go,.go,.go] (by kernel_rfl) ⟨hq1,(by rw [ltI_iff]; decide),(by rw [hq2]; rfl),rfl,rfl,(by rw [hq3]; rfl),(iRL4 (by omega) (by omega)),(by rw [ltI_iff]; decide),rfl,rfl,rfl,rfl,rfl,(iRL4 (by omega) (by omega)),rfl,(by rw [hq4]; rfl),rfl,rfl,trivial⟩ rfl
    | false =>
     have ghq4:=ltI_false hq4
     rw [show caB n a b=(!ltI (n - 1) a) by rw [Bool.eq_iff_iff]; unfold caB; simp [ltI_iff,eqI_iff] at *; omega]
     exact givesA_told (v:=(.v (.bool (!ltI (n - 1) a)))) (ps:=[eqI b 0=false,ltI 0 ↑1=true,(!ltI b (-1))=true,true=true,true=true,(!!ltI 1 b)=false,inR IntKind.i64 (0 + 1),ltI (0 + 1) ↑1=false,true=true,true=true,true=true,true=true,true=true,inR IntKind.i64 (n - 1),true=true,(!ltI a 0)=true,true=true,true=true]) Try.checked.mixed known_none 200 [.go,.go,.go,.go,.go,.go,.b false,.go,.go,.go,.go,.go,.go,.go,.go,.b true,.go,.go,.go,.go,.go,.go,.go,.go,.go,.b true,.go,.b true,.go,.b true,.go,.go,.go,.go,.b false,.go,.go,.go,.b false,.go,.go,.b true,.go,.b true,.go,.b true,.go,.b true,.go,.b true,.go,.b true,.go,.go,.go,.go,.go,.b true,.go,.b true,.go,.b true,.go,.go,.go,.go,.go] (by kernel_rfl) ⟨hq1,(by rw [ltI_iff]; decide),(by rw [hq2]; rfl),rfl,rfl,(by rw [hq3]; rfl),(iRL4 (by omega) (by omega)),(by rw [ltI_iff]; decide),rfl,rfl,rfl,rfl,rfl,(iRL4 (by omega) (by omega)),rfl,(by rw [hq4]; rfl),rfl,rfl,trivial⟩ rfl
end
end Go.Proofs.Ytmankoikpadkpaa
