import Derived.Test.YtegmogadbnfbgaaGs
import Derived.Test.YtegmogadbnfbgaaAu
set_option linter.all false
/- Mathematics of palettes: lists of flags, spectra of sets. -/
namespace Go.Proofs.Ytegmogadbnfbgaa
open Go Ev
noncomputable section
def Ev.fam0 {α:Type} (a:α) (f:Nat→α):Nat→α
 | 0=>a
 | n + 1=>f n
def tI:(Nat→Int)→Nat→List Int:=Classical.choose (⟨tabL,fun _ _=>rfl⟩:∃ g:(Nat→Int)→Nat→List Int,∀ f n,g f n=tabL f n)
theorem tI_eq (f:Nat→Int) (n:Nat):tI f n=tabL f n:=Classical.choose_spec (⟨tabL,fun _ _=>rfl⟩:∃ g:(Nat→Int)→Nat→List Int,∀ f n,g f n=tabL f n) f n
theorem tI_len (f:Nat→Int) (n:Nat):(tI f n).length=n:=by rw [tI_eq,tabL_len]
theorem tI_at {f:Nat→Int} {n j:Nat} (h:j < n):(tI f n)[j]? = some (f j):=by rw [tI_eq]; exact tabL_at f n j h
theorem tI_int {f:Nat→Int} {n j:Nat} (h:j < n):intAt (cI (tI f n)) j=f j:=by
 rw [cI_int (show j < (tI f n).length by rw [tI_len]; exact h)]
 have h1:=tI_at (f:=f) h
 rw [List.getElem?_eq_getElem (by rw [tI_len]; exact h)] at h1
 exact Option.some.inj h1
theorem tI_ext {f g:Nat→Int} {n:Nat} (h:∀ j,j < n→f j=g j):tI f n=tI g n:=by
 apply List.ext_getElem?
 intro j
 by_cases e:j < n
 ·rw [tI_at e,tI_at e,h j e]
 ·rw [List.getElem?_eq_none (by rw [tI_len]; omega),List.getElem?_eq_none (by rw [tI_len]; omega)]
def updI (f:Nat→Int) (x:Nat) (v:Int):Nat→Int:=fun j=>if j=x then v else f j
theorem cI_set {L:List Int} {i:Nat} (h:i < L.length) (x:Int):splice (cI L) i [.v (.int .i64 x)]=cI (L.set i x):=by
 rw [cI_map,cI_map]
 unfold splice
 apply List.ext_getElem?
 intro j
 simp only [List.length_singleton]
 by_cases h1:j < i
 ·rw [List.getElem?_append_left (by rw [List.length_take,List.length_map]; omega),List.getElem?_take,if_pos h1,List.getElem?_map,List.getElem?_map,List.getElem?_set_ne (by omega)]
 ·rw [List.getElem?_append_right (by rw [List.length_take,List.length_map]; omega),List.length_take,List.length_map,Nat.min_eq_left (by omega)]
  by_cases h2:j=i
  ·subst h2
   simp [h]
  ·rw [List.getElem?_append_right (by simp; omega),List.getElem?_drop,List.getElem?_map,List.getElem?_map,List.getElem?_set_ne (by omega)]
   congr 2
   simp only [List.length_singleton]
   omega
theorem tI_set {f:Nat→Int} {n x:Nat} (h:x < n) (v:Int):splice (cI (tI f n)) x [.v (.int .i64 v)]=cI (tI (updI f x v) n):=by
 rw [cI_set (by rw [tI_len]; exact h)]
 congr 1
 apply List.ext_getElem?
 intro j
 rw [List.getElem?_set,tI_len]
 by_cases e:j < n
 ·rw [tI_at e,tI_at e]
  unfold updI
  by_cases e2:x=j
  ·rw [if_pos e2,if_pos h,if_pos e2.symm]
  ·rw [if_neg e2,if_neg (fun h=>e2 h.symm)]
 ·rw [List.getElem?_eq_none (l:=tI (updI f x v) n) (by rw [tI_len]; omega),List.getElem?_eq_none (l:=tI f n) (by rw [tI_len]; omega)]
  rw [if_neg (by omega)]
theorem freeL_plainR:∀ R:List (Value×List Int),FreeL (cRw R)
 | []=>freeL_nil
 | r :: l=>freeL_cons (freeL_xl (freeL_plain (cI_plain _))) (freeL_plainR l)
theorem nb_free {K:Nat} {v:AV} (h:FreeL [v]):NB K v:=fun σ x e=>by
 have:=h σ (σ.cut K) rfl [x] (by simp only [denL,e])
 simp only [denL] at this
 split at this
 ·rename_i y z e1 e2
  cases e2
  cases this
  exact e1
 ·cases this
theorem nr_free {rs:List Nat} {v:AV} (h:FreeL [v]):NR rs v v:=fun σ x e=>by
 have:=h σ (σ.ren rs) rfl [x] (by simp only [denL,e])
 simp only [denL] at this
 split at this
 ·rename_i y z e1 e2
  cases e2
  cases this
  exact e1
 ·cases this
def afP (lo hi:Int) (c:List AV) (n:Nat):Prop:=∀ i,i < n→lo≤intAt c (i * 1)∧intAt c (i * 1)≤hi
instance (lo hi:Int) (c:List AV) (n:Nat):Decidable (afP lo hi c n):=by unfold afP; exact inferInstance
def afB (lo hi:Int) (c:List AV) (n:Nat):Bool:=decide (afP lo hi c n)
theorem afB_true {lo hi:Int} {c:List AV} {n:Nat}:afB lo hi c n=true↔afP lo hi c n:=by unfold afB; rw [decide_eq_true_eq]
theorem afB_false {lo hi:Int} {c:List AV} {n:Nat}:afB lo hi c n=false↔¬ afP lo hi c n:=by unfold afB; rw [decide_eq_false_iff_not]
theorem afB_no {lo hi:Int} {c:List AV} {n i:Nat} (hi2:i < n) (h:¬ (lo≤intAt c (i * 1)∧intAt c (i * 1)≤hi)):afB lo hi c n=false:=afB_false.2 (fun k=>h (k i hi2))
section
variable {c : List AV} {n i : Nat} {e : Int}
end
section
variable {c : List AV} {n : Nat} {e s : Int}
end
end
end Go.Proofs.Ytegmogadbnfbgaa
