import Derived.Test.YtldekgkjofgacaaZ23
import Derived.Test.YtldekgkjofgacaaZ24
import Derived.Test.YtldekgkjofgacaaZ26
import Derived.Test.YtldekgkjofgacaaGo
set_option linter.all false
/- Oracles of open and settle: bounds as the reference has them. -/
namespace Go.Proofs.Ytldekgkjofgacaa
open Go Ev
noncomputable section
section
variable (A : List Int) (B : List Bool) (L : PR) (W : List Int) (ya yf yl yw : Value)
abbrev q27_1:List Ev.AV:=[.xl ya A.length 1 (cI A),.xl yl L.length 2 (cR L),.xl yf B.length 1 (cB B),.xl yw W.length 1 (cI W)]
end
theorem settle_ref (ya yl yf yw:Value) (A:List Int) (L:PR) (B:List Bool) (W:List Int) (hz:ZK A L B W) :
  GivesW pg 75 [.ptr 0 0] (.cells (bdT (q27_1 A B L W ya yf yl yw) (opA (cI A) (cR L) A.length).1 (opA (cI A) (cR L) A.length).2) 95) (.tuple #[])
   (.cells (bdT (q27_1 A B L W ya yf yl yw) (rdB (cI A) A.length (cR L) (cB B) W.length W.length).1 (rdB (cI A) A.length (cR L) (cB B) W.length W.length).2) 95):=by
 obtain ⟨hn,ha,he,hl,hw⟩:=clE_zero hz
 have hb:B.length=A.length - 1:=by have:=he.2.1; omega
 exact settle_g ya yl yf yw A L B W (fun i j=>stG (cI A) (cB B) (rnG (cI A) (cR L) (cB B) A.length i) j) (zG (cI A) (cR L) (cB B) A.length) 40000 (rdB (cI A) A.length (cR L) (cB B) W.length W.length) hz (fun i j _=>rfl) (fun i=>by show rnG _ _ _ _ (i + 1)=stG _ _ _ B.length; rw [hb]; rfl) rfl (fun i=>rfl)
  (fun i h=>zG_bound hn ha he hl i h) (fun i _ h k hk=>zG_end hn ha he hl i h k hk)
def IsT95 (t:TypeId):Prop:=t=95
def IsOpR (l c:List AV) (x:XX):Prop:=c=bdC l x.1 x.2
theorem isOpR_of {l c:List AV} {x:XX} (h:c=bdT l x.1 x.2):IsOpR l c x:=h.trans bdT_eq
def allI:List AV→Nat→Bool
 | [],0=>true
 | a :: l,n + 1=>match a with
  | .v x=>match x with
   | .int k _=>match k with
    | .i64=>allI l n
    | _=>false
   | _=>false
  | _=>false
 | _,_=>false
theorem allI_at:∀ {l:List AV} {n:Nat},allI l n=true→l.length=n∧∀ k,k < n→∃ x,l[k]? = some (.v (.int .i64 x))
 | [],0,_=>⟨rfl,fun k hk=>by omega⟩
 | [],_ + 1,h=>by simp [allI] at h
 | a :: l,0,h=>by simp [allI] at h
 | a :: l,n + 1,h=>by
  unfold allI at h
  split at h
  ·split at h
   ·split at h
    ·rename_i x
     obtain ⟨h1,h2⟩:=allI_at h
     refine ⟨by simp [h1],fun k hk=>?_⟩
     cases k with
     | zero=>exact ⟨_,rfl⟩
     | succ k=>simpa using h2 k (by omega)
    ·cases h
   ·cases h
  ·cases h
theorem allI_bd {l:List AV} (h:allI l 182=true):∃ lo hi,l=bdR lo hi:=by
 obtain ⟨h1,h2⟩:=allI_at h
 refine ⟨fun k=>intAt l k,fun k=>intAt l (91 + k),?_⟩
 rw [bdR_eq]
 apply List.ext_getElem?
 intro k
 have at':∀ k,k < 182→l[k]? = some (.v (.int .i64 (intAt l k))):=fun k hk=>by
  obtain ⟨x,hx⟩:=h2 k hk
  unfold intAt
  rw [hx]
 by_cases c1:k < 91
 ·rw [List.getElem?_append_left (by rw [cI_tab_len]; exact c1),cI_tab_at c1,at' k (by omega)]
 ·rw [List.getElem?_append_right (by rw [cI_tab_len]; omega),cI_tab_len]
  by_cases c2:k < 182
  ·rw [cI_tab_at (by omega),at' k c2,show 91 + (k - 91)=k by omega]
  ·rw [List.getElem?_eq_none (by omega),List.getElem?_eq_none (by rw [cI_tab_len]; omega)]
def opS:AB→List AV→Option ((AB×Value)×List Prop):=fun x rest =>
 match x with
 | .cells c t=>match c with
  | a1 :: a2 :: a3 :: a4 :: r=>match a1,a2,a3,a4,rest with
   | .xl ya na k1 ca,.xl yl nl k2 cl,.xl yf nf k3 cf,.xl yw nw k4 cw,[]=>match allI r 182 with
    | true=>some ((.cells (bdT [.xl ya na k1 ca,.xl yl nl k2 cl,.xl yf nf k3 cf,.xl yw nw k4 cw] (opA ca cl na).1 (opA ca cl na).2) t,.tuple #[]),[IsT95 t,IsLampK k1 k2 k3 k4 ca na cl nl cf nf cw nw,clE ca na cl nl nf cw nw=0])
    | false=>none
   | _,_,_,_,_=>none
  | _=>none
 | _=>none
theorem free_lamp {ya yl yf yw:Value} {A:List Int} {L:PR} {B:List Bool} {W:List Int}:FreeL (q27_1 A B L W ya yf yl yw) :=
 freeL_cons (freeL_xl (freeL_plain (cI_plain A))) (freeL_cons (freeL_xl (freeL_plain (cR_plain L))) (freeL_cons (freeL_xl (freeL_plain (cB_plain B))) (freeL_cons (freeL_xl (freeL_plain (cI_plain W))) freeL_nil)))
def opO:OrcH:=wOrc 74 opS
theorem open_C (ya yl yf yw:Value) (A:List Int) (L:PR) (B:List Bool) (W:List Int) (lo hi:Nat→Int) (hz:ZK A L B W) :
  GivesW pg 74 [.ptr 0 0] (.cells (bdC (q27_1 A B L W ya yf yl yw) lo hi) 95) (.tuple #[])
   (.cells (bdC (q27_1 A B L W ya yf yl yw) (opA (cI A) (cR L) A.length).1 (opA (cI A) (cR L) A.length).2) 95):=by
 have hg:=open_g ya yl yf yw A L B W lo hi hz
 rw [bdT_eq] at hg
 exact hg
theorem known_op:Known pg (clsO opO):=known_w (fun x rest x' r ps h hp=>by
 unfold opS at h
 split at h
 ·split at h
  ·split at h
   ·split at h
    ·rename_i hall
     cases h
     obtain ⟨ht,⟨rfl,rfl,rfl,rfl,A,L,B,W,rfl,rfl,rfl,rfl,rfl,rfl,rfl,rfl⟩,hz,-⟩:=hp
     cases ht
     obtain ⟨lo,hi,rfl⟩:=allI_bd hall
     rw [bdT_eq]
     exact ⟨free_bd (lo:=lo) (hi:=hi) free_lamp,free_bd free_lamp,open_C _ _ _ _ A L B W lo hi hz⟩
    ·cases h
   ·cases h
  ·cases h
 ·cases h)
def seS:AB→List AV→Option ((AB×Value)×List Prop):=fun x rest =>
 match x with
 | .cells c t=>match c with
  | a1 :: a2 :: a3 :: a4 :: r=>match a1,a2,a3,a4,rest with
   | .xl ya na k1 ca,.xl yl nl k2 cl,.xl yf nf k3 cf,.xl yw nw k4 cw,[]=>some ((.cells (bdT [.xl ya na k1 ca,.xl yl nl k2 cl,.xl yf nf k3 cf,.xl yw nw k4 cw] (rdB ca na cl cf nw nw).1 (rdB ca na cl cf nw nw).2) t,.tuple #[]),[IsT95 t,IsLampK k1 k2 k3 k4 ca na cl nl cf nf cw nw,IsOpR [.xl ya na k1 ca,.xl yl nl k2 cl,.xl yf nf k3 cf,.xl yw nw k4 cw] c (opA ca cl na),clE ca na cl nl nf cw nw=0])
   | _,_,_,_,_=>none
  | _=>none
 | _=>none
def seO:OrcH:=wOrc 75 seS
theorem known_se:Known pg (clsO seO):=known_w (fun x rest x' r ps h hp=>by
 unfold seS at h
 split at h
 ·split at h
  ·split at h
   ·cases h
    rename_i ya na k1 ca yl nl k2 cl yf nf k3 cf yw nw k4 cw
    obtain ⟨ht,⟨rfl,rfl,rfl,rfl,A,L,B,W,rfl,rfl,rfl,rfl,rfl,rfl,rfl,rfl⟩,hr,hz,-⟩:=hp
    cases ht
    unfold IsOpR at hr
    simp only [bdC,List.cons_append,List.nil_append,List.cons.injEq,true_and] at hr
    subst hr
    have hg:=settle_ref ya yl yf yw A L B W hz
    rw [bdT_eq,bdT_eq] at hg
    rw [bdT_eq]
    exact ⟨free_bd free_lamp,free_bd free_lamp,hg⟩
   ·cases h
  ·cases h
 ·cases h)
def sumG (c:List AV) (f:Nat→Int):Nat→Int
 | 0=>0
 | n + 1=>sumG c f n + intAt c (n * 1) * f n
theorem sumG_bd {c:List AV} {f:Nat→Int}:∀ n:Nat,(∀ i,i < n→0≤intAt c (i * 1)∧intAt c (i * 1)≤1000)→(∀ i,i < n→0≤f i∧f i≤200)→0≤sumG c f n∧sumG c f n≤200000 * n
 | 0,_,_=>by simp [sumG]
 | n + 1,h,k=>by
  have h1:=sumG_bd n (fun i hi=>h i (by omega)) (fun i hi=>k i (by omega))
  have h2:=h n (by omega)
  have h3:=k n (by omega)
  have h4:0≤intAt c (n * 1) * f n:=Int.mul_nonneg h2.1 h3.1
  have h5:intAt c (n * 1) * f n≤1000 * 200:=Int.mul_le_mul h2.2 h3.2 h3.1 (by omega)
  simp only [sumG]
  omega
theorem mul_bdG {a b:Int} (h2:0≤a∧a≤1000) (h3:0≤b∧b≤200):0≤a * b∧a * b≤200000 :=
 ⟨Int.mul_nonneg h2.1 h3.1,Int.le_trans (Int.mul_le_mul h2.2 h3.2 h3.1 (by omega)) (by omega)⟩
theorem sumG_ext {c:List AV} {f g:Nat→Int}:∀ n:Nat,(∀ i,i < n→f i=g i)→sumG c f n=sumG c g n
 | 0,_=>rfl
 | n + 1,h=>by unfold sumG; rw [sumG_ext n (fun i hi=>h i (by omega)),h n (by omega)]
theorem bdT_ld {l:List AV} {lo hi:Nat→Int} (hl:l.length=4) {j:Nat} (h4:4≤j) (h:j < 186) (t:TypeId) {d:TypeDesc} (hd:pg.underlying t=some d) (ha:aggD d=false):loadL pg (bdT l lo hi) j t=some (.v (.int .i64 (intAt (bdT l lo hi) j))):=by
 rw [bdT_eq]; exact bd_ld hl h4 h t hd ha
theorem bdT_lo {l:List AV} {lo hi:Nat→Int} (hl:l.length=4) {i j:Nat} (e:i=4 + j) (h:j < 91):intAt (bdT l lo hi) i=lo j:=by rw [bdT_eq]; exact bd_intLo hl e h
theorem bdT_hi {l:List AV} {lo hi:Nat→Int} (hl:l.length=4) {i j:Nat} (e:i=95 + j) (h:j < 91):intAt (bdT l lo hi) i=hi j:=by rw [bdT_eq]; exact bd_intHi hl e h
end
end Go.Proofs.Ytldekgkjofgacaa
