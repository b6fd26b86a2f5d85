import Derived.Test.YtldekgkjofgacaaZ19
import Derived.Test.YtldekgkjofgacaaZ17
set_option linter.all false
/- Lists of what a function gives, as cells that are stored into. -/
namespace Go.Proofs.Ytldekgkjofgacaa
open Go Ev
noncomputable section
def Ev.fam0 {α:Type} (a:α) (f:Nat→α):Nat→α
 | 0=>a
 | n + 1=>f n
def tI:(Nat→Int)→Nat→List Int:=Classical.choose (⟨tabL,fun _ _=>rfl⟩:∃ g:(Nat→Int)→Nat→List Int,∀ f n,g f n=tabL f n)
theorem tI_eq (f:Nat→Int) (n:Nat):tI f n=tabL f n:=Classical.choose_spec (⟨tabL,fun _ _=>rfl⟩:∃ g:(Nat→Int)→Nat→List Int,∀ f n,g f n=tabL f n) f n
theorem tabL_set (f:Nat→Int) (x:Int) {n i:Nat} (h:i < n):(tabL f n).set i x=tabL (fun j=>if j=i then x else f j) n:=by
 apply List.ext_getElem?
 intro j
 by_cases hj:j < n
 ·rw [tabL_at _ n j hj]
  by_cases e:j=i
  ·subst e
   rw [List.getElem?_set_self (by rw [tabL_len]; exact h),if_pos rfl]
  ·rw [List.getElem?_set_ne (Ne.symm e),tabL_at f n j hj,if_neg e]
 ·rw [List.getElem?_eq_none (by rw [List.length_set,tabL_len]; omega),List.getElem?_eq_none (by rw [tabL_len]; omega)]
theorem cI_set {L:List Int} {i:Nat} (h:i < L.length) (x:Int):splice (cI L) i [.v (.int .i64 x)]=cI (L.set i x):=by
 rw [cI_map,cI_map]
 unfold splice
 apply List.ext_getElem?
 intro j
 simp only [List.length_singleton]
 by_cases h1:j < i
 ·rw [List.getElem?_append_left (by rw [List.length_take,List.length_map]; omega),List.getElem?_take,if_pos h1,List.getElem?_map,List.getElem?_map,List.getElem?_set_ne (by omega)]
 ·rw [List.getElem?_append_right (by rw [List.length_take,List.length_map]; omega),List.length_take,List.length_map,Nat.min_eq_left (by omega)]
  by_cases h2:j=i
  ·subst h2
   simp [h]
  ·rw [List.getElem?_append_right (by simp; omega),List.getElem?_drop,List.getElem?_map,List.getElem?_map,List.getElem?_set_ne (by omega)]
   congr 2
   simp only [List.length_singleton]
   omega
theorem tI_len (f:Nat→Int) (n:Nat):(tI f n).length=n:=by rw [tI_eq,tabL_len]
theorem tI_ld {f:Nat→Int} {n j:Nat} (h:j < n) (t:TypeId) {d:TypeDesc} (hd:pg.underlying t=some d) (ha:aggD d=false):loadL pg (cI (tI f n)) j t=some (.v (.int .i64 (intAt (cI (tI f n)) j))):=cI_load (by rw [tI_len]; exact h) t hd ha
theorem tI_int {f:Nat→Int} {n j:Nat} (h:j < n):intAt (cI (tI f n)) j=f j:=by
 have e:(cI (tI f n))[j]? = some (.v (.int .i64 (f j))):=by
  rw [cI_map,List.getElem?_map,tI_eq,tabL_at f n j h]; rfl
 unfold intAt
 rw [e]
theorem tI_ext {f g:Nat→Int} {n:Nat} (h:∀ j,j < n→f j=g j):tI f n=tI g n:=by
 rw [tI_eq,tI_eq]
 induction n with
 | zero=>rfl
 | succ n ih=>simp only [tabL]; rw [ih (fun j hj=>h j (by omega)),h n (by omega)]
theorem tI_app (f:Nat→Int) (n:Nat):cI (tI f n) ++ [.v (.int .i64 (f n))]=cI (tI f (n + 1)):=by
 rw [tI_eq,tI_eq]
 show cI (tabL f n) ++ cI [f n]=_
 rw [cI_app]; rfl
theorem tI_one (f:Nat→Int):[.v (.int .i64 (f 0))]=cI (tI f 1):=by rw [tI_eq]; rfl
theorem tI_set {f:Nat→Int} {n x:Nat} (h:x < n) (v:Int):splice (cI (tI f n)) x [.v (.int .i64 v)]=cI (tI (updI f x v) n):=by
 rw [cI_set (by rw [tI_len]; exact h),tI_eq,tI_eq,tabL_set _ _ h]
 rfl
theorem up_max {f:Nat→Int} {n i j l:Nat} (x y:Nat) (hi:i=x) (hj:j=y) (hl:l=x) (hx:x < n) (hy:y < n):splice (cI (tI f n)) i (AV.v (.int .i64 (if intAt (cI (tI f n)) j > intAt (cI (tI f n)) l then intAt (cI (tI f n)) j else intAt (cI (tI f n)) l))).cells=cI (tI (updI f x (max (f x) (f y))) n):=by
 subst hi hj hl
 rw [tI_int hx,tI_int hy]
 show splice _ _ [_]=_
 rw [tI_set hx]
 congr 3
 split <;> omega
theorem up_min {f:Nat→Int} {n i j l:Nat} (x y:Nat) (hi:i=x) (hj:j=y) (hl:l=x) (hx:x < n) (hy:y < n):splice (cI (tI f n)) i (AV.v (.int .i64 (if intAt (cI (tI f n)) j < intAt (cI (tI f n)) l then intAt (cI (tI f n)) j else intAt (cI (tI f n)) l))).cells=cI (tI (updI f x (min (f x) (f y))) n):=by
 subst hi hj hl
 rw [tI_int hx,tI_int hy]
 show splice _ _ [_]=_
 rw [tI_set hx]
 congr 3
 split <;> omega
theorem up_at {f:Nat→Int} {n i:Nat} (x:Nat) (v:Int) (hi:i=x) (hx:x < n):splice (cI (tI f n)) i (AV.v (.int .i64 v)).cells=cI (tI (updI f x v) n):=by
 subst hi; exact tI_set hx v
theorem sw_t1 {A:List AV} {n:Nat} {B:List AV} {p:(Nat→Int)×(Nat→Int)} {k:Nat} (hf:faB A n B k=true):(swB A n B p (k + 1)).1=updI (swB A n B p k).1 k (max ((swB A n B p k).1 k) ((swB A n B p k).1 (k + 1))):=by
 show (stB (faB A n B k) k _).1=_
 rw [hf]; rfl
theorem sw_t2 {A:List AV} {n:Nat} {B:List AV} {p:(Nat→Int)×(Nat→Int)} {k:Nat} (hf:faB A n B k=true):(swB A n B p (k + 1)).2=updI (swB A n B p k).2 (k + 1) (min ((swB A n B p k).2 (k + 1)) ((swB A n B p k).2 k)):=by
 show (stB (faB A n B k) k _).2=_
 rw [hf]; rfl
theorem sw_f1 {A:List AV} {n:Nat} {B:List AV} {p:(Nat→Int)×(Nat→Int)} {k:Nat} (hf:faB A n B k=false):(swB A n B p (k + 1)).1=updI (swB A n B p k).1 (k + 1) (max ((swB A n B p k).1 (k + 1)) ((swB A n B p k).1 k)):=by
 show (stB (faB A n B k) k _).1=_
 rw [hf]; rfl
theorem sw_f2 {A:List AV} {n:Nat} {B:List AV} {p:(Nat→Int)×(Nat→Int)} {k:Nat} (hf:faB A n B k=false):(swB A n B p (k + 1)).2=updI (swB A n B p k).2 k (min ((swB A n B p k).2 k) ((swB A n B p k).2 (k + 1))):=by
 show (stB (faB A n B k) k _).2=_
 rw [hf]; rfl
end
end Go.Proofs.Ytldekgkjofgacaa
