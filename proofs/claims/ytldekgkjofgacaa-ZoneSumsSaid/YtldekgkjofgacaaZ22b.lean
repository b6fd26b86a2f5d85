import Derived.Test.YtldekgkjofgacaaZ20a
import Derived.Test.YtldekgkjofgacaaGo
set_option linter.all false
/- A lamp with its bounds: cells, loads and stores; bounds c -/
namespace Go.Proofs.Ytldekgkjofgacaa
open Go Ev
noncomputable section
def bdR:(Nat→Int)→(Nat→Int)→List AV:=Classical.choose (⟨fun lo hi=>cI (tabL lo 91) ++ cI (tabL hi 91),fun _ _=>rfl⟩:∃ g:(Nat→Int)→(Nat→Int)→List AV,∀ lo hi,g lo hi=cI (tabL lo 91) ++ cI (tabL hi 91))
theorem bdR_eq (lo hi:Nat→Int):bdR lo hi=cI (tabL lo 91) ++ cI (tabL hi 91):=Classical.choose_spec (⟨fun lo hi=>cI (tabL lo 91) ++ cI (tabL hi 91),fun _ _=>rfl⟩:∃ g:(Nat→Int)→(Nat→Int)→List AV,∀ lo hi,g lo hi=cI (tabL lo 91) ++ cI (tabL hi 91)) lo hi
abbrev bdC (l:List AV) (lo hi:Nat→Int):List AV:=l ++ bdR lo hi
theorem bdC_eq (l:List AV) (lo hi:Nat→Int):bdC l lo hi=l ++ (cI (tabL lo 91) ++ cI (tabL hi 91)):=by unfold bdC; rw [bdR_eq]
abbrev bdT (l:List AV) (lo hi:Nat→Int):List AV:=l ++ (cI (tabL lo 91) ++ cI (tabL hi 91))
section
variable {l : List AV} {lo hi : Nat → Int}
theorem bdT_eq:bdT l lo hi=bdC l lo hi:=(bdC_eq l lo hi).symm
theorem cI_tab_len (f:Nat→Int) (n:Nat):(cI (tabL f n)).length=n:=by rw [cI_len,tabL_len]
theorem cI_tab_at {f:Nat→Int} {n j:Nat} (h:j < n):(cI (tabL f n))[j]? = some (.v (.int .i64 (f j))):=by
 rw [cI_map,List.getElem?_map,tabL_at f n j h]; rfl
theorem bdC_len (hl:l.length=4):(bdC l lo hi).length=186:=by
 rw [bdC_eq,List.length_append,List.length_append,cI_tab_len,cI_tab_len,hl]
theorem bdC_lo (hl:l.length=4) {j:Nat} (h:j < 91):(bdC l lo hi)[4 + j]? = some (.v (.int .i64 (lo j))):=by
 rw [bdC_eq,List.getElem?_append_right (by omega),hl,Nat.add_sub_cancel_left,List.getElem?_append_left (by rw [cI_tab_len]; exact h)]
 exact cI_tab_at h
theorem bdC_hi (hl:l.length=4) {j:Nat} (h:j < 91):(bdC l lo hi)[95 + j]? = some (.v (.int .i64 (hi j))):=by
 rw [bdC_eq,List.getElem?_append_right (by omega),hl,List.getElem?_append_right (by rw [cI_tab_len]; omega),cI_tab_len,show 95 + j - 4 - 91=j by omega]
 exact cI_tab_at h
theorem bd_intLo (hl:l.length=4) {i j:Nat} (e:i=4 + j) (h:j < 91):intAt (bdC l lo hi) i=lo j:=by subst e; unfold intAt; rw [bdC_lo hl h]
theorem bd_intHi (hl:l.length=4) {i j:Nat} (e:i=95 + j) (h:j < 91):intAt (bdC l lo hi) i=hi j:=by subst e; unfold intAt; rw [bdC_hi hl h]
theorem bdC_get (hl:l.length=4) (q:Nat):(bdC l lo hi)[q]? = if q < 4 then l[q]? else if q < 95 then some (.v (.int .i64 (lo (q - 4)))) else if q < 186 then some (.v (.int .i64 (hi (q - 95)))) else none:=by
 by_cases h1:q < 4
 ·rw [if_pos h1,bdC_eq,List.getElem?_append_left (by omega)]
 ·rw [if_neg h1]
  by_cases h2:q < 95
  ·rw [if_pos h2]
   have:=bdC_lo (lo:=lo) (hi:=hi) hl (j:=q - 4) (by omega)
   rw [show 4 + (q - 4)=q by omega] at this
   exact this
  ·rw [if_neg h2]
   by_cases h3:q < 186
   ·rw [if_pos h3]
    have:=bdC_hi (lo:=lo) (hi:=hi) hl (j:=q - 95) (by omega)
    rw [show 95 + (q - 95)=q by omega] at this
    exact this
   ·rw [if_neg h3,List.getElem?_eq_none (by rw [bdC_len hl]; omega)]
theorem bdC_setLo (hl:l.length=4) {i j:Nat} (e:i=4 + j) (h:j < 91) (x:Int):splice (bdC l lo hi) i (AV.v (.int .i64 x)).cells=bdC l (updI lo j x) hi:=by
 subst e
 apply List.ext_getElem?
 intro q
 show (splice _ _ [AV.v (.int .i64 x)])[q]? = _
 rw [splice_get (by rw [bdC_len hl,List.length_singleton]; omega),bdC_get hl,bdC_get hl,List.length_singleton]
 unfold updI
 by_cases h1:q=4 + j
 ·subst h1
  rw [if_pos (by omega),if_neg (by omega),if_pos (by omega),if_pos (by omega),Nat.sub_self]
  rfl
 ·rw [if_neg (by omega)]
  split
  ·rfl
  ·split
   ·rw [if_neg (by omega)]
   ·rfl
theorem bdC_setHi (hl:l.length=4) {i j:Nat} (e:i=95 + j) (h:j < 91) (x:Int):splice (bdC l lo hi) i (AV.v (.int .i64 x)).cells=bdC l lo (updI hi j x):=by
 subst e
 apply List.ext_getElem?
 intro q
 show (splice _ _ [AV.v (.int .i64 x)])[q]? = _
 rw [splice_get (by rw [bdC_len hl,List.length_singleton]; omega),bdC_get hl,bdC_get hl,List.length_singleton]
 unfold updI
 by_cases h1:q=95 + j
 ·subst h1
  rw [if_pos (by omega),if_neg (by omega),if_neg (by omega),if_pos (by omega),if_pos (by omega),Nat.sub_self]
  rfl
 ·rw [if_neg (by omega)]
  split
  ·rfl
  ·split
   ·rfl
   ·split
    ·rw [if_neg (by omega)]
    ·rfl
theorem bd_ld (hl:l.length=4) {j:Nat} (h4:4≤j) (h:j < 186) (t:TypeId) {d:TypeDesc} (hd:pg.underlying t=some d) (ha:aggD d=false):loadL pg (bdC l lo hi) j t=some (.v (.int .i64 (intAt (bdC l lo hi) j))):=by
 have e:∃ x,(bdC l lo hi)[j]? = some (.v (.int .i64 x)):=by
  rw [bdC_get hl,if_neg (by omega)]
  split
  ·exact ⟨_,rfl⟩
  ·exact ⟨_,rfl⟩
 obtain ⟨x,e⟩:=e
 simp only [loadL,hd,ha,getL_eq,e,intAt]
theorem bd_minHi (hl:l.length=4) {i j k:Nat} (x y:Nat) (hi1:i=95 + x) (hj:j=95 + y) (hk:k=95 + x) (hx:x < 91) (hy:y < 91):splice (bdC l lo hi) i (AV.v (.int .i64 (if intAt (bdC l lo hi) j < intAt (bdC l lo hi) k then intAt (bdC l lo hi) j else intAt (bdC l lo hi) k))).cells=bdC l lo (updI hi x (min (hi x) (hi y))):=by
 rw [bd_intHi hl hj hy,bd_intHi hl hk hx,bdC_setHi hl hi1 hx]
 congr 2
 split <;> omega
theorem bd_maxLo (hl:l.length=4) {i j k:Nat} (x y:Nat) (hi1:i=4 + x) (hj:j=4 + y) (hk:k=4 + x) (hx:x < 91) (hy:y < 91):splice (bdC l lo hi) i (AV.v (.int .i64 (if intAt (bdC l lo hi) j > intAt (bdC l lo hi) k then intAt (bdC l lo hi) j else intAt (bdC l lo hi) k))).cells=bdC l (updI lo x (max (lo x) (lo y))) hi:=by
 rw [bd_intLo hl hj hy,bd_intLo hl hk hx,bdC_setLo hl hi1 hx]
 congr 2
 split <;> omega
theorem bd_nar (hl:l.length=4) {i1 i2 j1 j2:Nat} (d:Nat) (a b:Int) (h1:i1=4 + d) (h2:i2=95 + d) (h3:j1=4 + d) (h4:j2=95 + d) (hd:d < 91) :
  splice (splice (bdC l lo hi) i1 (AV.v (.int .i64 (if a > intAt (bdC l lo hi) j1 then a else intAt (bdC l lo hi) j1))).cells) i2 (AV.v (.int .i64 (if b < intAt (bdC l lo hi) j2 then b else intAt (bdC l lo hi) j2))).cells=bdC l (updI lo d (max (lo d) a)) (updI hi d (min (hi d) b)):=by
 rw [bd_intLo hl h3 hd,bd_intHi hl h4 hd,bdC_setLo hl h1 hd,bdC_setHi hl h2 hd]
 have e1:(if a > lo d then a else lo d)=max (lo d) a:=by split <;> omega
 have e2:(if b < hi d then b else hi d)=min (hi d) b:=by split <;> omega
 rw [e1,e2]
theorem bdC_ext {lo' hi':Nat→Int} (h1:∀ k,k < 91→lo k=lo' k) (h2:∀ k,k < 91→hi k=hi' k):bdC l lo hi=bdC l lo' hi':=by
 rw [bdC_eq,bdC_eq,← tI_eq,← tI_eq,← tI_eq,← tI_eq,tI_ext h1,tI_ext h2]
def filA (f:Nat→Int):Nat→Nat→Int
 | 0=>f
 | d + 1=>updI (filA f d) d 200
theorem filA_at (f:Nat→Int):∀ (d k:Nat),k < d→filA f d k=200
 | 0,k,h=>by omega
 | d + 1,k,h=>by
  unfold filA
  by_cases e:k=d
  ·subst e; exact updI_same _ _ _
  ·rw [updI_ne _ _ e]; exact filA_at f d k (by omega)
def swU (op:Int→Int→Int) (f:Nat→Int) (p:Nat):Nat→Nat→Int
 | 0=>f
 | t + 1=>updI (swU op f p t) (p + t + 1) (op (swU op f p t (p + t + 1)) (swU op f p t (p + t)))
def swD (op:Int→Int→Int) (f:Nat→Int) (q:Nat):Nat→Nat→Int
 | 0=>f
 | t + 1=>updI (swD op f q t) (q - t - 1) (op (swD op f q t (q - t - 1)) (swD op f q t (q - t)))
end
def opA (A L:List AV):Nat→(Nat→Int)×(Nat→Int)
 | 0=>(fun _=>0,fun _=>200)
 | i + 1=>(updI (opA A L i).1 (degA A i).toNat (max ((opA A L i).1 (degA A i).toNat) (intAt L (i * 2 + 0))),updI (opA A L i).2 (degA A i).toNat (min ((opA A L i).2 (degA A i).toNat) (intAt L (i * 2 + 1))))
theorem nbA_splice {K k:Nat} {l v:List AV} (h:∀ u∈l,NB K u) (h2:∀ u∈v,NB K u):∀ u∈splice l k v,NB K u:=fun u hu=>by
 unfold splice at hu
 rcases List.mem_append.1 hu with h3 | h3
 ·exact h u (List.mem_of_mem_take h3)
 ·rcases List.mem_append.1 h3 with h4 | h4
  ·exact h2 u h4
  ·exact h u (List.mem_of_mem_drop h4)
theorem nbA_v {K:Nat} {k:IntKind} {x:Int}:∀ u∈(AV.v (.int k x)).cells,NB K u:=nb_cons (nb_v _) (fun _ hz=>absurd hz List.not_mem_nil)
theorem nbA_cI {K:Nat} (L:List Int):∀ u∈cI L,NB K u:=fun u hu=>by
 rw [cI_map] at hu
 obtain ⟨n,_,rfl⟩:=List.mem_map.1 hu
 exact nb_v _
theorem nbA_bdT {K:Nat} {l:List AV} {lo hi:Nat→Int} (h:∀ u∈l,NB K u):∀ u∈bdT l lo hi,NB K u:=fun u hu=>by
 rcases List.mem_append.1 hu with h1 | h1
 ·exact h u h1
 ·rcases List.mem_append.1 h1 with h1 | h1
  ·exact nbA_cI _ u h1
  ·exact nbA_cI _ u h1
theorem nbA_bdC {K:Nat} {l:List AV} {lo hi:Nat→Int} (h:∀ u∈l,NB K u):∀ u∈bdC l lo hi,NB K u:=by
 rw [bdC_eq]; exact nbA_bdT h
end
end Go.Proofs.Ytldekgkjofgacaa
