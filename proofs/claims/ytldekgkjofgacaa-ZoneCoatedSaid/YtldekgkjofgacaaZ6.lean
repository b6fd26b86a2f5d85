import Derived.Test.YtldekgkjofgacaaZ3a
import Derived.Test.YtldekgkjofgacaaAu
set_option maxHeartbeats 4000000
set_option linter.all false
/- True lanterns: what is asked of them. -/
namespace Go.Proofs.Ytldekgkjofgacaa
open Go Ev
noncomputable section
section
variable (A : List Int) (B : List Bool) (L : List (Int × Int)) (W : List Int) (x : Int) (ya yf yl yw : Value)
@[reducible] def q6_3:Nat×Ev.AB:=(0,(.cells [(.xl (ya) (A.length) 1 (cI A)),(.xl (yl) (L.length) 2 (cR L)),(.xl (yf) (B.length) 1 (cB B)),(.xl (yw) (W.length) 1 (cI W))] 26))
@[reducible] def q6_1:Ev.Lit:=⟨[(1,(.v (.int .i64 (x)))),(2,(.ptr 0 0)),(5,(.v (.int .i64 (.ofNat 0))))],[],1,[(q6_3 A B L W ya yf yl yw)]⟩
@[reducible] def q6_2:Ev.Lit:=⟨[(1,(.v (.int .i64 (x)))),(2,(.ptr 0 0))],[],1,[(q6_3 A B L W ya yf yl yw)]⟩
end
def clB (p:Prop):Bool:=@decide p (Classical.propDecidable _)
theorem clB_true {p:Prop}:clB p=true↔p:=by unfold clB; exact @decide_eq_true_iff _ (Classical.propDecidable _)
theorem clB_yes {p:Prop} (h:p):clB p=true:=clB_true.2 h
theorem clB_no {p:Prop} (h:¬ p):clB p=false:=by
 cases e:clB p with
 | true=>exact absurd (clB_true.1 e) h
 | false=>rfl
theorem clB_false {p:Prop} (h:clB p=false):¬ p:=fun k=>by rw [clB_true.2 k] at h; cases h
theorem cB_at:∀ (L:List Bool) (i:Nat) (h:i < L.length),(cB L)[i]? = some (.v (.bool (L[i])))
 | [],i,h=>by simp at h
 | x :: l,0,h=>rfl
 | x :: l,i + 1,h=>cB_at l i (by simpa using h)
theorem cB_ld {L:List Bool} {j:Nat} (h:j < L.length) (t:TypeId) {d:TypeDesc} (hd:Try.prog.underlying t=some d) (ha:aggD d=false):loadL Try.prog (cB L) j t=some (.v (.bool (boolAt (cB L) j))):=by
 simp only [loadL,hd,ha,getL_eq,cB_at L j h,boolAt]
theorem cR_ld {L:List (Int×Int)} {j:Nat} (h:j < L.length * 2) (t:TypeId) {d:TypeDesc} (hd:Try.prog.underlying t=some d) (ha:aggD d=false):loadL Try.prog (cR L) j t=some (.v (.int .i64 (intAt (cR L) j))):=by
 have hi:j / 2 < L.length:=by omega
 obtain ⟨h3,h4⟩:=cR_at L (j / 2) L[j / 2] (List.getElem?_eq_getElem hi)
 have hj:j=j / 2 * 2∨j=j / 2 * 2 + 1:=by omega
 rcases hj with e | e
 ·rw [e]; simp only [loadL,hd,ha,getL_eq,h3,intAt]
 ·rw [e]; simp only [loadL,hd,ha,getL_eq,h4,intAt]
def degA (A:List AV) (i:Nat):Int:=intAt A (i * 1) - intAt A (0 * 1)
theorem ang_up {A:List AV} {n:Nat} (h:∀ i,i < n→angAt A i):∀ i j,i + j < n→intAt A (i * 1) + j≤intAt A ((i + j) * 1)
 | i,0,hj=>by simp
 | i,j + 1,hj=>by
  have h1:=ang_up h i j (by omega)
  have h2:=h (i + j + 1) hj
  simp only [angAt,bfI] at h2
  rw [show i + (j + 1)=i + j + 1 by omega]
  omega
theorem deg_bd {A:List AV} {n nl nf nw:Nat} (hn:2≤n∧n≤10) (ha:∀ i,i < n→angAt A i) (he:eqP A n nl nf nw) (i:Nat) (hi:i < n):0≤intAt A (i * 1) - intAt A (0 * 1)∧intAt A (i * 1) - intAt A (0 * 1) < nw∧nw≤91∧0≤intAt A (i * 1)∧intAt A (i * 1)≤90:=by
 have h0:=ang_up ha 0 i (by omega)
 have h1:=ang_up ha i (n - 1 - i) (by omega)
 rw [Nat.zero_add] at h0
 rw [show i + (n - 1 - i)=n - 1 by omega] at h1
 have hq:=he.2.2
 unfold degI at hq
 have b0:=ang_bd ha 0 (by omega)
 have b1:=ang_bd ha (n - 1) (by omega)
 have b2:=ang_bd ha i hi
 omega
section
variable {A L B W X : List AV} {n nl nf nw nx i : Nat}
end
def gapF (A:List AV) (x:Int):Nat→Nat→Nat
 | 0,i=>i
 | f + 1,i=>if intAt A ((i + 1) * 1) < x then gapF A x f (i + 1) else i
section
variable (A : List Int) (w : World) (x : Int)
@[reducible] def q6_4:=(OutR Try.prog Try.f58 17 (.int .i64 (gapF (cI A) x A.length 0)) w)
end
theorem gapF_at {A:List AV} {x:Int}:∀ (f i k:Nat),k < f→(∀ j,j < k→intAt A ((i + j + 1) * 1) < x)→¬ intAt A ((i + k + 1) * 1) < x→gapF A x f i=i + k
 | 0,i,k,hk,_,_=>by omega
 | f + 1,i,0,hk,h,h2=>if_neg h2
 | f + 1,i,k + 1,hk,h,h2=>by
  have h0:=h 0 (by omega)
  unfold gapF
  rw [if_pos h0,gapF_at f (i + 1) k (by omega) (fun j hj=>by rw [show i + 1 + j + 1=i + (j + 1) + 1 by omega]; exact h (j + 1) (by omega)) (by rw [show i + 1 + k + 1=i + (k + 1) + 1 by omega]; exact h2)]
  omega
def IsLamp (ca:List AV) (na:Nat) (cl:List AV) (nl:Nat) (cf:List AV) (nf:Nat) (cw:List AV) (nw:Nat):Prop:=∃ (A:List Int) (L:List (Int×Int)) (B:List Bool) (W:List Int),ca=cI A∧na=A.length∧cl=cR L∧nl=L.length∧cf=cB B∧nf=B.length∧cw=cI W∧nw=W.length
theorem ext_lamp {ya yl yf yw:Value} {A:List Int} {L:List (Int×Int)} {B:List Bool} {W:List Int} {a l f w:Nat}:Ext (.agg [.xl ya a 1 (cI A),.xl yl l 2 (cR L),.xl yf f 1 (cB B),.xl yw w 1 (cI W)]) :=
 ext_agg (extL_cons (ext_xl (extL_plain (cI_plain A))) (extL_cons (ext_xl (extL_plain (cR_plain L))) (extL_cons (ext_xl (extL_plain (cB_plain B))) (extL_cons (ext_xl (extL_plain (cI_plain W))) extL_nil))))
noncomputable def gpK1:Code:=bodyC Try.f58
noncomputable def gpK3:Code:=tlC gpK1
noncomputable def gpK5:Code:=tlC gpK3
noncomputable def gpK7:Code:=loopC (hdC gpK5)
noncomputable def gpK8:Code:=tlC gpK5
theorem gp_9 (ya yl yf yw:Value) (A:List Int) (L:List (Int×Int)) (B:List Bool) (W:List Int) (x:Int) (hz:clE (cI A) A.length (cR L) L.length B.length (cI W) W.length=0) (hx:intAt (cI A) (0 * 1) < x∧x≤intAt (cI A) ((A.length - 1) * 1)) (i0:Nat) (h0a:i0≤(A.length - 2)) (h0b:∀ j,j < i0→intAt (cI A) ((0 + j + 1) * 1) < x) (h0c:¬ intAt (cI A) ((i0 + 1) * 1) < x) (w:World):Goes Try.prog 17 gpK8 (⟨[(5,(.v (.int .i64 ((i0:Nat):Int))))],[],1,[]⟩) w (q6_4 A w x):=by
 exact goes_eqR (r:=(.int .i64 (↑i0))) (by rw [gapF_at A.length 0 i0 (by have:=(clE_zero hz).1; omega) h0b (by rw [Nat.zero_add]; exact h0c),Nat.zero_add]) (goes_out Try.checked.mixed (known_none) 200 (v:=(.v (.int .i64 (↑i0)))) (ps:=[]) [.go,.go] (by kernel_rfl) (by kernel_rfl) trivial rfl)
theorem gp_6 (ya yl yf yw:Value) (A:List Int) (L:List (Int×Int)) (B:List Bool) (W:List Int) (x:Int) (hz:clE (cI A) A.length (cR L) L.length B.length (cI W) W.length=0) (hx:intAt (cI A) (0 * 1) < x∧x≤intAt (cI A) ((A.length - 1) * 1)) (w:World):Goes Try.prog 17 gpK5 ((q6_1 A B L W x ya yf yl yw)) w (q6_4 A w x):=by
 obtain ⟨hn,ha,he,-,-⟩:=clE_zero hz
 refine goes_less (T':=⟨[(1,(.v (.int .i64 (x)))),(2,(.ptr 0 0)),(5,(.v (.int .i64 ((0:Nat):Int))))],[],1,[(q6_3 A B L W ya yf yl yw)]⟩) (by kernel_rfl) (by kernel_rfl) (by kernel_rfl) (by kernel_rfl) (goes_spineQ (ι:={i:Nat // i≤(A.length - 2)∧∀ j,j < i→intAt (cI A) ((0 + j + 1) * 1) < x}) (T:=(fun i:{i:Nat // i≤(A.length - 2)∧∀ j,j < i→intAt (cI A) ((0 + j + 1) * 1) < x}=>⟨[(1,(.v (.int .i64 (x)))),(2,(.ptr 0 0)),(5,(.v (.int .i64 ((i.1:Nat):Int))))],[],1,[(q6_3 A B L W ya yf yl yw)]⟩)) (R:=(fun i:{i:Nat // i≤(A.length - 2)∧∀ j,j < i→intAt (cI A) ((0 + j + 1) * 1) < x}=>¬ intAt (cI A) ((i.1 + 1) * 1) < x)) (by kernel_rfl) (goes_blockstep (by kernel_rfl) (fun i:{i:Nat // i≤(A.length - 2)∧∀ j,j < i→intAt (cI A) ((0 + j + 1) * 1) < x}=>⟨[(1,(.v (.int .i64 (x)))),(2,(.ptr 0 0)),(5,(.v (.int .i64 ((i.1:Nat):Int))))],[],1,[(q6_3 A B L W ya yf yl yw)]⟩) (fun i:{i:Nat // i≤(A.length - 2)∧∀ j,j < i→intAt (cI A) ((0 + j + 1) * 1) < x}=>(A.length - 2) - i.1) (fun i=>?_) ⟨0,Nat.zero_le _,(fun j hj=>by omega)⟩) (fun ixR hxR=>goes_less (by kernel_rfl) (by kernel_rfl) (by kernel_rfl) (by kernel_rfl) (gp_9 ya yl yf yw A L B W x hz hx ixR.1 ixR.2.1 ixR.2.2 hxR w)))
 obtain ⟨i,hi1,hi2⟩:=i
 have e1:((i:Int) + 1).toNat=i + 1:=by omega
 show Goes Try.prog 17 gpK7 (⟨[(1,(.v (.int .i64 (x)))),(2,(.ptr 0 0)),(5,(.v (.int .i64 ((i:Nat):Int))))],[],1,[(q6_3 A B L W ya yf yl yw)]⟩) w (StepQ _ _ _ _ _ _ _ _)
 cases hl0_1:(ltI (intAt (cI A) ((i + 1) * 1)) x) with
 | true =>
  have ghl0_1:=ltI_true hl0_1
  have hlt:i + 1≠A.length - 1:=fun q=>by rw [← q] at hx; omega
  refine Ev.step_on ⟨i + 1,by omega,(fun j hj=>by by_cases q:j < i; exact hi2 j q; (rw [show 0 + j + 1=i + 1 by omega]; omega))⟩ (by show (A.length - 2) - (i + 1) < (A.length - 2) - i; omega) ?_
  exact goes_told Try.checked.mixed (known_none) 200 (T':=⟨[(1,(.v (.int .i64 (x)))),(2,(.ptr 0 0)),(5,(.v (.int .i64 (((i + 1):Nat):Int))))],[],1,[(q6_3 A B L W ya yf yl yw)]⟩) (e:=.normal) (ps:=[inR IntKind.i64 (↑i + 1),i + 1 < A.length,loadL Try.prog (cI A) ((i + 1) * 1) 2=some (AV.v (Value.int IntKind.i64 (intAt (cI A) ((i + 1) * 1)))),ltI (intAt (cI A) ((i + 1) * 1)) x=true,inR IntKind.i64 (↑i + 1)]) [.go,.go,.go,.go,.sym,.sym,.go,.go,.b true,.go,.go,.go] (by kernel_rfl) (by kernel_rfl) ⟨(by show -9223372036854775808≤_∧_≤9223372036854775807; constructor <;> omega),(by omega),(cI_ld (by omega) 2 (Try.underlying2) rfl),hl0_1,(by show -9223372036854775808≤_∧_≤9223372036854775807; constructor <;> omega),trivial⟩ rfl
 | false =>
  have ghl0_1:=ltI_false hl0_1
  exact Ev.step_out (by show ¬ intAt (cI A) ((i + 1) * 1) < x; omega) (goes_told Try.checked.mixed (known_none) 200 (T':=⟨[(1,(.v (.int .i64 (x)))),(2,(.ptr 0 0)),(5,(.v (.int .i64 ((i:Nat):Int))))],[],1,[(q6_3 A B L W ya yf yl yw)]⟩) (e:=.exit 0) (ps:=[inR IntKind.i64 (↑i + 1),i + 1 < A.length,loadL Try.prog (cI A) ((i + 1) * 1) 2=some (AV.v (Value.int IntKind.i64 (intAt (cI A) ((i + 1) * 1)))),ltI (intAt (cI A) ((i + 1) * 1)) x=false]) [.go,.go,.go,.go,.sym,.sym,.go,.go,.b false] (by kernel_rfl) (by kernel_rfl) ⟨(by show -9223372036854775808≤_∧_≤9223372036854775807; constructor <;> omega),(by omega),(cI_ld (by omega) 2 (Try.underlying2) rfl),hl0_1,trivial⟩ rfl)
theorem gp_4 (ya yl yf yw:Value) (A:List Int) (L:List (Int×Int)) (B:List Bool) (W:List Int) (x:Int) (hz:clE (cI A) A.length (cR L) L.length B.length (cI W) W.length=0) (hx:intAt (cI A) (0 * 1) < x∧x≤intAt (cI A) ((A.length - 1) * 1)) (w:World):Goes Try.prog 17 gpK3 ((q6_2 A B L W x ya yf yl yw)) w (q6_4 A w x):=by
 exact goes_spine (T':=(q6_1 A B L W x ya yf yl yw)) (by kernel_rfl) (goes_told Try.checked.mixed (known_none) 200 (T':=(q6_1 A B L W x ya yf yl yw)) (e:=.normal) (ps:=[]) [.go] (by kernel_rfl) (by kernel_rfl) trivial rfl) (gp_6 ya yl yf yw A L B W x hz hx w)
theorem gp_2 (ya yl yf yw:Value) (A:List Int) (L:List (Int×Int)) (B:List Bool) (W:List Int) (x:Int) (hz:clE (cI A) A.length (cR L) L.length B.length (cI W) W.length=0) (hx:intAt (cI A) (0 * 1) < x∧x≤intAt (cI A) ((A.length - 1) * 1)) (w:World):Goes Try.prog 17 gpK1 (⟨[(0,.agg [.xl ya A.length 1 (cI A),.xl yl L.length 2 (cR L),.xl yf B.length 1 (cB B),.xl yw W.length 1 (cI W)]),(1,.v (.int .i64 x))],[],0,[]⟩) w (q6_4 A w x):=by
 exact goes_spine (T':=(q6_2 A B L W x ya yf yl yw)) (by kernel_rfl) (goes_told Try.checked.mixed (known_none) 200 (T':=(q6_2 A B L W x ya yf yl yw)) (e:=.normal) (ps:=[]) [.go,.go] (by kernel_rfl) (by kernel_rfl) trivial rfl) (gp_4 ya yl yf yw A L B W x hz hx w)
theorem gp_g (ya yl yf yw:Value) (A:List Int) (L:List (Int×Int)) (B:List Bool) (W:List Int) (x:Int) (hz:clE (cI A) A.length (cR L) L.length B.length (cI W) W.length=0) (hx:intAt (cI A) (0 * 1) < x∧x≤intAt (cI A) ((A.length - 1) * 1)):GivesA Try.prog 58 [.agg [.xl ya A.length 1 (cI A),.xl yl L.length 2 (cR L),.xl yf B.length 1 (cB B),.xl yw W.length 1 (cI W)],.v (.int .i64 x)] (.int .i64 (gapF (cI A) x A.length 0)) :=
 givesA_parts 17 Try.func58 (by kernel_rfl) (by kernel_rfl) (by kernel_rfl) (fun w=>goes_less (by kernel_rfl) (by kernel_rfl) (by kernel_rfl) (by kernel_rfl) (gp_2 ya yl yf yw A L B W x hz hx w))
end
end Go.Proofs.Ytldekgkjofgacaa
