import Derived.Test.YtldekgkjofgacaaZ19
import Derived.Test.YtldekgkjofgacaaZ17
set_option maxHeartbeats 4000000
set_option linter.all false
/- Lists of what a function gives, as cells that are stored into. -/
namespace Go.Proofs.Ytldekgkjofgacaa
open Go Ev
noncomputable section
theorem hcZ20 (A:List Int) (B:List Bool) (L:List (Int×Int)) (W:List Int):(cI A).length=A.length∧(cR L).length=L.length * 2∧(cB B).length=B.length∧(cI W).length=W.length:=⟨cI_len A,cR_len L,cB_len B,cI_len W⟩
theorem iRZ20 {a:Int} (h : -9223372036854775808≤a) (k:a≤9223372036854775807):inR .i64 a:=⟨h,k⟩
section
variable (A : List Int) (B : List Bool) (L : List (Int × Int)) (W : List Int) (k m r : Nat) (ya yf yl yw : Value)
@[reducible] def q20_36:Nat×Ev.AV:=(9,(.v (.int .i64 (((r:Nat):Int)))))
@[reducible] def q20_27:Ev.AB:=(.cells [(.xl (ya) (A.length) 1 (cI A)),(.xl (yl) (L.length) 2 (cR L)),(.xl (yf) (B.length) 1 (cB B)),(.xl (yw) (W.length) 1 (cI W))] 26)
@[reducible] def q20_26:Nat×Ev.AB:=(1,(q20_27 A B L W ya yf yl yw))
@[reducible] def q20_35:=(rdB (cI A) A.length (cR L) (cB B) (m + 1) r)
@[reducible] def q20_34:=(swB (cI A) A.length (cB B) (q20_35 A B L m r) k)
@[reducible] def q20_33:=(swB (cI A) A.length (cB B) (q20_35 A B L m r) (k + 1))
@[reducible] def q20_15:Ev.Lit:=⟨[(1,(.ptr 1 0)),(4,(.v (Value.slice none 0 0))),(5,(.v (Value.slice none 0 0))),(6,(.v (.int .i64 ((0:Nat):Int))))],[],2,[(q20_26 A B L W ya yf yl yw)]⟩
@[reducible] def q20_16:Ev.Lit:=⟨[(1,(.ptr 1 0)),(4,(.v (Value.slice none 0 0))),(5,(.v (Value.slice none 0 0))),(6,(.v (.int .i64 (.ofNat 0))))],[],2,[(q20_26 A B L W ya yf yl yw)]⟩
@[reducible] def q20_20:Ev.Lit:=⟨[(1,(.ptr 1 0)),(4,(.v (Value.slice none 0 0))),(5,(.v (Value.slice none 0 0)))],[],2,[(q20_26 A B L W ya yf yl yw)]⟩
@[reducible] def q20_23:Ev.Lit:=⟨[(1,(.ptr 0 0))],[],1,[(0,(q20_27 A B L W ya yf yl yw))]⟩
@[reducible] def q20_24:Ev.Lit:=⟨[(1,(.ptr 1 0))],[],2,[(q20_26 A B L W ya yf yl yw)]⟩
@[reducible] def q20_25:Ev.Lit:=⟨[(0,(.agg [(.xl (ya) (A.length) 1 (cI A)),(.xl (yl) (L.length) 2 (cR L)),(.xl (yf) (B.length) 1 (cB B)),(.xl (yw) (W.length) 1 (cI W))]))],[],1,[]⟩
@[reducible] def q20_30:=(boolAt (cB B) (gapF (cI A) (intAt (cI A) (0 * 1) + ((k + 1:Nat):Int)) A.length 0 * 1))
end
def Ev.fam0 {α:Type} (a:α) (f:Nat→α):Nat→α
 | 0=>a
 | n + 1=>f n
def tI:(Nat→Int)→Nat→List Int:=Classical.choose (⟨tabL,fun _ _=>rfl⟩:∃ g:(Nat→Int)→Nat→List Int,∀ f n,g f n=tabL f n)
section
variable (A : List Int) (B : List Bool) (L : List (Int × Int)) (W : List Int) (eb : Nat → Option Nat) (ec : Nat → Nat) (i j k m r : Nat) (v : BaseW) (ya yf yl yw : Value)
@[reducible] def q20_29:=(cI (tI (q20_34 A B L k m r).fst (m + 1)))
@[reducible] def q20_28:=(cI (tI (q20_34 A B L k m r).snd (m + 1)))
@[reducible] def q20_1:Ev.Lit:=⟨[(1,(.ptr 1 0)),(4,(.slu 2 0 (m + 1) 0)),(5,(.slu 3 0 (m + 1) 0)),(q20_36 r),(10,(.v (.int .i64 (((k + 1) + 1:Nat):Int))))],[],4,[(q20_26 A B L W ya yf yl yw),(2,(.row (splice (q20_29 A B L k m r) (0 + (k + 1) * 1) (AV.v (Value.int IntKind.i64 (if intAt (q20_29 A B L k m r) (0 + (((k + 1:Nat):Int) - 1).toNat * 1) > intAt (q20_29 A B L k m r) (0 + (k + 1) * 1) then intAt (q20_29 A B L k m r) (0 + (((k + 1:Nat):Int) - 1).toNat * 1) else intAt (q20_29 A B L k m r) (0 + (k + 1) * 1)))).cells) 2 1)),(3,(.row (splice (q20_28 A B L k m r) (0 + (((k + 1:Nat):Int) - 1).toNat * 1) (AV.v (Value.int IntKind.i64 (if intAt (q20_28 A B L k m r) (0 + (k + 1) * 1) < intAt (q20_28 A B L k m r) (0 + (((k + 1:Nat):Int) - 1).toNat * 1) then intAt (q20_28 A B L k m r) (0 + (k + 1) * 1) else intAt (q20_28 A B L k m r) (0 + (((k + 1:Nat):Int) - 1).toNat * 1)))).cells) 2 1))]⟩
@[reducible] def q20_2:Ev.Lit:=⟨[(1,(.ptr 1 0)),(4,(.slu 2 0 (m + 1) 0)),(5,(.slu 3 0 (m + 1) 0)),(q20_36 r),(10,(.v (.int .i64 (((k + 1) + 1:Nat):Int))))],[],4,[(q20_26 A B L W ya yf yl yw),(2,(.row (splice (q20_29 A B L k m r) (0 + (((k + 1:Nat):Int) - 1).toNat * 1) (AV.v (Value.int IntKind.i64 (if intAt (q20_29 A B L k m r) (0 + (k + 1) * 1) > intAt (q20_29 A B L k m r) (0 + (((k + 1:Nat):Int) - 1).toNat * 1) then intAt (q20_29 A B L k m r) (0 + (k + 1) * 1) else intAt (q20_29 A B L k m r) (0 + (((k + 1:Nat):Int) - 1).toNat * 1)))).cells) 2 1)),(3,(.row (splice (q20_28 A B L k m r) (0 + (k + 1) * 1) (AV.v (Value.int IntKind.i64 (if intAt (q20_28 A B L k m r) (0 + (((k + 1:Nat):Int) - 1).toNat * 1) < intAt (q20_28 A B L k m r) (0 + (k + 1) * 1) then intAt (q20_28 A B L k m r) (0 + (((k + 1:Nat):Int) - 1).toNat * 1) else intAt (q20_28 A B L k m r) (0 + (k + 1) * 1)))).cells) 2 1))]⟩
@[reducible] def q20_3:Ev.Lit:=⟨[(1,(.ptr 1 0)),(4,(.slu 2 0 (m + 1) 0)),(5,(.slu 3 0 (m + 1) 0)),(7,(.v (.int .i64 (((j + 1):Nat):Int))))],[],4,[(q20_26 A B L W ya yf yl yw),(2,(.row (splice (cI (tI (loA (cI A) (cR L) j) (m + 1))) (0 + (intAt (cI A) (j * 1) - intAt (cI A) (0 * 1)).toNat * 1) (AV.v (Value.int IntKind.i64 (intAt (cR L) (j * 2 + 0)))).cells) 2 1)),(3,(.row (splice (cI (tI (hiA (cI A) (cR L) j) (m + 1))) (0 + (intAt (cI A) (j * 1) - intAt (cI A) (0 * 1)).toNat * 1) (AV.v (Value.int IntKind.i64 (intAt (cR L) (j * 2 + 1)))).cells) 2 1))]⟩
@[reducible] def q20_4:Ev.Lit:=⟨[(1,(.ptr 1 0)),(4,(.slu 2 0 (m + 1) 0)),(5,(.slu 3 0 (m + 1) 0)),(q20_36 r),(10,(.v (.int .i64 (((k + 1) + 1:Nat):Int))))],[],4,[(q20_26 A B L W ya yf yl yw),(2,(.row (cI (tI ((q20_33 A B L k m r).1) (m + 1))) 2 1)),(3,(.row (cI (tI ((q20_33 A B L k m r).2) (m + 1))) 2 1))]⟩
@[reducible] def q20_5:Ev.Lit:=⟨[(1,(.ptr 1 0)),(4,(.slu 2 0 (m + 1) 0)),(5,(.slu 3 0 (m + 1) 0)),(q20_36 r)],[],4,[(q20_26 A B L W ya yf yl yw),(2,(.row (cI (tI (swB (cI A) A.length (cB B) (q20_35 A B L m r) (m)).fst (m + 1))) 2 1)),(3,(.row (cI (tI (swB (cI A) A.length (cB B) (q20_35 A B L m r) (m)).snd (m + 1))) 2 1))]⟩
@[reducible] def q20_6:Ev.Lit:=⟨[(1,(.ptr 1 0)),(4,(.slu 2 0 (m + 1) 0)),(5,(.slu 3 0 (m + 1) 0)),(q20_36 r),(10,(.v (.int .i64 (.ofNat 1))))],[],4,[(q20_26 A B L W ya yf yl yw),(2,(.row (cI (tI (q20_35 A B L m r).fst (m + 1))) 2 1)),(3,(.row (cI (tI (q20_35 A B L m r).snd (m + 1))) 2 1))]⟩
@[reducible] def q20_7:Ev.Lit:=⟨[(1,(.ptr 1 0)),(4,(.slu 2 0 (m + 1) 0)),(5,(.slu 3 0 (m + 1) 0)),(q20_36 r)],[],4,[(q20_26 A B L W ya yf yl yw),(2,(.row (cI (tI (q20_35 A B L m r).fst (m + 1))) 2 1)),(3,(.row (cI (tI (q20_35 A B L m r).snd (m + 1))) 2 1))]⟩
@[reducible] def q20_8:Ev.Lit:=⟨[(1,(.ptr 1 0)),(4,(.slu 2 0 (m + 1) 0)),(5,(.slu 3 0 (m + 1) 0)),(9,(.v (.int .i64 (.ofNat 0))))],[],4,[(q20_26 A B L W ya yf yl yw),(2,(.row (cI (tI (loA (cI A) (cR L) A.length) (m + 1))) 2 1)),(3,(.row (cI (tI (hiA (cI A) (cR L) A.length) (m + 1))) 2 1))]⟩
@[reducible] def q20_9:Ev.Lit:=⟨[(1,(.ptr 1 0)),(4,(.slu 2 0 (i + 1) 0)),(5,(.slu 3 0 (i + 1) 0)),(6,(.v (.int .i64 (((i + 1):Nat):Int))))],[],4,[(q20_26 A B L W ya yf yl yw),(2,(.row (cI (tI (loA (cI A) (cR L) 0) (i + 1))) 2 1)),(3,(.row (cI (tI (hiA (cI A) (cR L) 0) (i + 1))) 2 1))]⟩
@[reducible] def q20_10:Ev.Lit:=⟨[(1,(.ptr 1 0)),(4,(.slu 2 0 (m + 1) 0)),(5,(.slu 3 0 (m + 1) 0)),(7,(.v (.int .i64 (.ofNat 0))))],[],4,[(q20_26 A B L W ya yf yl yw),(2,(.row (cI (tI (loA (cI A) (cR L) 0) (m + 1))) 2 1)),(3,(.row (cI (tI (hiA (cI A) (cR L) 0) (m + 1))) 2 1))]⟩
@[reducible] def q20_11:Ev.Lit:=⟨[(1,(.ptr 1 0)),(4,(.slu 2 0 (m + 1) 0)),(5,(.slu 3 0 (m + 1) 0))],[],4,[(q20_26 A B L W ya yf yl yw),(2,(.row (cI (tI (loA (cI A) (cR L) (A.length)) (m + 1))) 2 1)),(3,(.row (cI (tI (hiA (cI A) (cR L) (A.length)) (m + 1))) 2 1))]⟩
@[reducible] def q20_12:Ev.Lit:=⟨[(1,(.ptr 1 0)),(4,(.slu 2 0 ((m) + 1) 0)),(5,(.slu 3 0 ((m) + 1) 0))],[],4,[(q20_26 A B L W ya yf yl yw),(2,(.row (cI (tI (loA (cI A) (cR L) 0) ((m) + 1))) 2 1)),(3,(.row (cI (tI (hiA (cI A) (cR L) 0) ((m) + 1))) 2 1))]⟩
@[reducible] def q20_18:Ev.Lit:=⟨[(2,(.slu 2 0 (m + 1) 0)),(3,(.slu 3 0 (m + 1) 0))],[],4,[(2,(.row (cI (tI ((rdB (cI A) A.length (cR L) (cB B) (m + 1) (m + 1)).1) (m + 1))) 2 1)),(3,(.row (cI (tI ((rdB (cI A) A.length (cR L) (cB B) (m + 1) (m + 1)).2) (m + 1))) 2 1))]⟩
@[reducible] def q20_13:=(BackQ 117 (fun _:Unit=>(q20_18 A B L m)) (fun _:Unit=>True) (bw v 1 eb ec))
@[reducible] def q20_32:Nat×Ev.AB:=(2,(.row (cI (tI (rdB (cI A) A.length (cR L) (cB B) (m + 1) (m + 1)).fst (m + 1))) 2 1))
@[reducible] def q20_31:Nat×Ev.AB:=(3,(.row (cI (tI (rdB (cI A) A.length (cR L) (cB B) (m + 1) (m + 1)).snd (m + 1))) 2 1))
@[reducible] def q20_14:Ev.Lit:=⟨[(3,(.slu 2 0 (m + 1) 0)),(4,(.slu 3 0 (m + 1) 0)),(5,(.v (.int .i64 ((0:Nat):Int))))],[],4,[(q20_32 A B L m),(q20_31 A B L m)]⟩
@[reducible] def q20_17:Ev.Lit:=⟨[(4,(.slu 2 0 (m + 1) 0)),(5,(.slu 3 0 (m + 1) 0))],[],4,[(2,(.row (cI (tI (rdB (cI A) A.length (cR L) (cB B) (m + 1) ((m + 1))).fst (m + 1))) 2 1)),(3,(.row (cI (tI (rdB (cI A) A.length (cR L) (cB B) (m + 1) ((m + 1))).snd (m + 1))) 2 1))]⟩
@[reducible] def q20_19:Ev.Lit:=⟨[(3,(.slu 2 0 (m + 1) 0)),(4,(.slu 3 0 (m + 1) 0))],[],4,[(q20_32 A B L m),(q20_31 A B L m)]⟩
@[reducible] def q20_21:=(cI (tI (hiA (cI A) (cR L) 0) (i + 1)) ++ List.take (1 * 1) (List.drop 0 (splice (repL 1 (List.map AV.v (Value.int IntKind.i64 0).cells.toList)) (0 * 1) (AV.v (Value.int IntKind.i64 200)).cells)))
@[reducible] def q20_22:=(cI (tI (loA (cI A) (cR L) 0) (i + 1)) ++ List.take (1 * 1) (List.drop 0 (splice (repL 1 (List.map AV.v (Value.int IntKind.i64 0).cells.toList)) (0 * 1) (AV.v (Value.int IntKind.i64 0)).cells)))
end
theorem tI_eq (f:Nat→Int) (n:Nat):tI f n=tabL f n:=Classical.choose_spec (⟨tabL,fun _ _=>rfl⟩:∃ g:(Nat→Int)→Nat→List Int,∀ f n,g f n=tabL f n) f n
theorem tabL_set (f:Nat→Int) (x:Int) {n i:Nat} (h:i < n):(tabL f n).set i x=tabL (fun j=>if j=i then x else f j) n:=by
 apply List.ext_getElem?
 intro j
 by_cases hj:j < n
 ·rw [tabL_at _ n j hj]
  by_cases e:j=i
  ·subst e
   rw [List.getElem?_set_self (by rw [tabL_len]; exact h),if_pos rfl]
  ·rw [List.getElem?_set_ne (Ne.symm e),tabL_at f n j hj,if_neg e]
 ·rw [List.getElem?_eq_none (by rw [List.length_set,tabL_len]; omega),List.getElem?_eq_none (by rw [tabL_len]; omega)]
theorem cI_set {L:List Int} {i:Nat} (h:i < L.length) (x:Int):splice (cI L) i [.v (.int .i64 x)]=cI (L.set i x):=by
 rw [cI_map,cI_map]
 unfold splice
 apply List.ext_getElem?
 intro j
 simp only [List.length_singleton]
 by_cases h1:j < i
 ·rw [List.getElem?_append_left (by rw [List.length_take,List.length_map]; omega),List.getElem?_take,if_pos h1,List.getElem?_map,List.getElem?_map,List.getElem?_set_ne (by omega)]
 ·rw [List.getElem?_append_right (by rw [List.length_take,List.length_map]; omega),List.length_take,List.length_map,Nat.min_eq_left (by omega)]
  by_cases h2:j=i
  ·subst h2
   simp [h]
  ·rw [List.getElem?_append_right (by simp; omega),List.getElem?_drop,List.getElem?_map,List.getElem?_map,List.getElem?_set_ne (by omega)]
   congr 2
   simp only [List.length_singleton]
   omega
theorem tI_len (f:Nat→Int) (n:Nat):(tI f n).length=n:=by rw [tI_eq,tabL_len]
theorem tI_ld {f:Nat→Int} {n j:Nat} (h:j < n) (t:TypeId) {d:TypeDesc} (hd:Try.prog.underlying t=some d) (ha:aggD d=false):loadL Try.prog (cI (tI f n)) j t=some (.v (.int .i64 (intAt (cI (tI f n)) j))):=cI_load (by rw [tI_len]; exact h) t hd ha
theorem tI_int {f:Nat→Int} {n j:Nat} (h:j < n):intAt (cI (tI f n)) j=f j:=by
 have e:(cI (tI f n))[j]? = some (.v (.int .i64 (f j))):=by
  rw [cI_map,List.getElem?_map,tI_eq,tabL_at f n j h]; rfl
 unfold intAt
 rw [e]
theorem tI_ext {f g:Nat→Int} {n:Nat} (h:∀ j,j < n→f j=g j):tI f n=tI g n:=by
 rw [tI_eq,tI_eq]
 induction n with
 | zero=>rfl
 | succ n ih=>simp only [tabL]; rw [ih (fun j hj=>h j (by omega)),h n (by omega)]
theorem tI_app (f:Nat→Int) (n:Nat):cI (tI f n) ++ [.v (.int .i64 (f n))]=cI (tI f (n + 1)):=by
 rw [tI_eq,tI_eq]
 show cI (tabL f n) ++ cI [f n]=_
 rw [cI_app]; rfl
theorem tI_one (f:Nat→Int):[.v (.int .i64 (f 0))]=cI (tI f 1):=by rw [tI_eq]; rfl
theorem tI_set {f:Nat→Int} {n x:Nat} (h:x < n) (v:Int):splice (cI (tI f n)) x [.v (.int .i64 v)]=cI (tI (updI f x v) n):=by
 rw [cI_set (by rw [tI_len]; exact h),tI_eq,tI_eq,tabL_set _ _ h]
 rfl
theorem up_max {f:Nat→Int} {n i j l:Nat} (x y:Nat) (hi:i=x) (hj:j=y) (hl:l=x) (hx:x < n) (hy:y < n):splice (cI (tI f n)) i (AV.v (.int .i64 (if intAt (cI (tI f n)) j > intAt (cI (tI f n)) l then intAt (cI (tI f n)) j else intAt (cI (tI f n)) l))).cells=cI (tI (updI f x (max (f x) (f y))) n):=by
 subst hi hj hl
 rw [tI_int hx,tI_int hy]
 show splice _ _ [_]=_
 rw [tI_set hx]
 congr 3
 split <;> omega
theorem up_min {f:Nat→Int} {n i j l:Nat} (x y:Nat) (hi:i=x) (hj:j=y) (hl:l=x) (hx:x < n) (hy:y < n):splice (cI (tI f n)) i (AV.v (.int .i64 (if intAt (cI (tI f n)) j < intAt (cI (tI f n)) l then intAt (cI (tI f n)) j else intAt (cI (tI f n)) l))).cells=cI (tI (updI f x (min (f x) (f y))) n):=by
 subst hi hj hl
 rw [tI_int hx,tI_int hy]
 show splice _ _ [_]=_
 rw [tI_set hx]
 congr 3
 split <;> omega
theorem up_at {f:Nat→Int} {n i:Nat} (x:Nat) (v:Int) (hi:i=x) (hx:x < n):splice (cI (tI f n)) i (AV.v (.int .i64 v)).cells=cI (tI (updI f x v) n):=by
 subst hi; exact tI_set hx v
theorem sw_t1 {A:List AV} {n:Nat} {B:List AV} {p:(Nat→Int)×(Nat→Int)} {k:Nat} (hf:faB A n B k=true):(swB A n B p (k + 1)).1=updI (swB A n B p k).1 k (max ((swB A n B p k).1 k) ((swB A n B p k).1 (k + 1))):=by
 show (stB (faB A n B k) k _).1=_
 rw [hf]; rfl
theorem sw_t2 {A:List AV} {n:Nat} {B:List AV} {p:(Nat→Int)×(Nat→Int)} {k:Nat} (hf:faB A n B k=true):(swB A n B p (k + 1)).2=updI (swB A n B p k).2 (k + 1) (min ((swB A n B p k).2 (k + 1)) ((swB A n B p k).2 k)):=by
 show (stB (faB A n B k) k _).2=_
 rw [hf]; rfl
theorem sw_f1 {A:List AV} {n:Nat} {B:List AV} {p:(Nat→Int)×(Nat→Int)} {k:Nat} (hf:faB A n B k=false):(swB A n B p (k + 1)).1=updI (swB A n B p k).1 (k + 1) (max ((swB A n B p k).1 (k + 1)) ((swB A n B p k).1 k)):=by
 show (stB (faB A n B k) k _).1=_
 rw [hf]; rfl
theorem sw_f2 {A:List AV} {n:Nat} {B:List AV} {p:(Nat→Int)×(Nat→Int)} {k:Nat} (hf:faB A n B k=false):(swB A n B p (k + 1)).2=updI (swB A n B p k).2 k (min ((swB A n B p k).2 k) ((swB A n B p k).2 (k + 1))):=by
 show (stB (faB A n B k) k _).2=_
 rw [hf]; rfl
noncomputable def dtK1:Code:=bodyC Try.f26
noncomputable def dtK3:Code:=tlC dtK1
noncomputable def dtc1K1:Code:=bodyC Try.f61
noncomputable def dtc1K3:Code:=tlC dtc1K1
noncomputable def dtc1K6:Code:=tlC dtc1K3
noncomputable def dtc1K9:Code:=tlC dtc1K6
noncomputable def dtc1K10:Code:=(hdC dtc1K6)
noncomputable def dtc1K12:Code:=tlC dtc1K10
noncomputable def dtc1K17:Code:=loopC dtc1K12
theorem dtc1_18 (ya yl yf yw:Value) (A:List Int) (L:List (Int×Int)) (B:List Bool) (W:List Int) (m:Nat) (hz:clE (cI A) A.length (cR L) L.length B.length (cI W) W.length=0) (hm:W.length=m + 1) (hi1:0≤(m + 1)) (hi2:True) (v:BaseW) (eb:Nat→Option Nat) (ec:Nat→Nat):Goes Try.prog 117 dtc1K17 ((q20_15 A B L W ya yf yl yw)) (bw v 1 eb ec) (StepC Try.prog 117 0 (fun i:{i:Nat // i≤(m + 1)∧True}=>Ev.fam0 (q20_15 A B L W ya yf yl yw) (fun i=>(q20_9 A B L W i ya yf yl yw)) i.1) (fun i:{i:Nat // i≤(m + 1)∧True}=>(m + 1) - i.1) dtc1K9 (bw v 1 eb ec) (q20_13 A B L eb ec m v) (⟨0,hi1,hi2⟩:{i:Nat // i≤(m + 1)∧True})):=by
 obtain ⟨hcl_A,hcl_L,hcl_B,hcl_W⟩:=hcZ20 A B L W
 obtain ⟨hn,ha,he,hl,hw⟩:=clE_zero hz
 have he2:=he
 unfold eqP degI at he2
 have hm91:m + 1≤91:=by have:=deg_bd hn ha he 0 (by omega); omega
 rcases Bool.eq_false_or_eq_true (ltI ((0:Nat):Int) ((W.length:Nat):Int)) with hqdtc119_1 | hqdtc119_1
 ·skip
  have ghqdtc119_1:=ltI_true hqdtc119_1
  exact goes_leafA isN_e (goes_cutR Try.checked.mixed (known_gp) 200 (T':=⟨[(1,(.ptr 1 0)),(4,(.slu 2 0 (0 + 1) 0)),(5,(.slu 3 0 (0 + 1) 0)),(6,(.v (.int .i64 (((0 + 1):Nat):Int))))],[],4,[(q20_26 A B L W ya yf yl yw),(2,(.row (cI (tI (loA (cI A) (cR L) 0) (0 + 1))) 2 1)),(3,(.row (cI (tI (hiA (cI A) (cR L) 0) (0 + 1))) 2 1))]⟩) (e:=.normal) (m:=6) (ps:=[ltI ((0:Nat):Int) ((W.length:Nat):Int)=true,inR IntKind.i64 (((0:Nat):Int) + 1)]) [.go,.go,.go,.go,.go,.b true,.go,.go,.go,.go,.go,.go,.go,.go,.go,.go,.go] [0,1,3,5] [(.ptr 1 0),(.slu 3 0 1 0),(.slu 5 0 1 0),(.v (.int .i64 (.ofNat 1)))] [(q20_27 A B L W ya yf yl yw),(.row [(.v (.int .i64 (.ofNat 0)))] 2 1),(.row [(.v (.int .i64 (.ofNat 200)))] 2 1)] (by kernel_rfl) (by kernel_rfl) ⟨hqdtc119_1,(iRZ20 (by omega) (by omega)),trivial⟩ rfl rfl (by decide) rfl ⟨nr_ptr rfl,nr_slu rfl,nr_slu rfl,nr_int (show (1:Int)=(((0 + 1):Nat):Int) from by omega),trivial⟩ ⟨⟨by show 1 < 4; decide,nrb_cells (nrl_cons (nr_xl (nrl_plain (cI_plain A))) (nrl_cons (nr_xl (nrl_plain (cR_plain L))) (nrl_cons (nr_xl (nrl_plain (cB_plain B))) (nrl_cons (nr_xl (nrl_plain (cI_plain W))) (nrl_nil)))))⟩,⟨by show 2 < 4; decide,nrb_row (nrl_eq (show ((cI (tI (loA (cI A) (cR L) 0) (0 + 1))):List AV)=[(.v (.int .i64 (.ofNat 0)))] from by first | exact (tI_one _).symm | exact (tI_app _ _).symm) (cI_plain _))⟩,⟨by show 3 < 4; decide,nrb_row (nrl_eq (show ((cI (tI (hiA (cI A) (cR L) 0) (0 + 1))):List AV)=[(.v (.int .i64 (.ofNat 200)))] from by first | exact (tI_one _).symm | exact (tI_app _ _).symm) (cI_plain _))⟩,trivial⟩ (by show 1≤4; decide) (fun b hb=>(by have hb2:b < 1:=hb; match b,hb2 with | 0,_=>rfl))) (en_on (⟨0 + 1,by omega,trivial⟩) (by show (m + 1) - (0 + 1) < (m + 1) - 0; omega) rfl)
 ·skip
  have ghqdtc119_1:=ltI_false hqdtc119_1
  exfalso; omega
noncomputable def dtc1K23:Code:=tlC dtc1K9
noncomputable def dtc1K24:Code:=(hdC dtc1K9)
noncomputable def dtc1K26:Code:=tlC dtc1K24
noncomputable def dtc1K30:Code:=loopC dtc1K26
noncomputable def dtc1K34:Code:=tlC dtc1K23
noncomputable def dtc1K35:Code:=(hdC dtc1K23)
noncomputable def dtc1K37:Code:=tlC dtc1K35
noncomputable def dtc1K41:Code:=loopC dtc1K37
noncomputable def dtc1K44:Code:=tlC dtc1K41
noncomputable def dtc1K47:Code:=tlC dtc1K44
noncomputable def dtc1K49:Code:=blkB (hdC dtc1K44)
noncomputable def dtc1K51:Code:=tlC dtc1K49
noncomputable def dtc1K55:Code:=loopC dtc1K51
theorem dtc1_58 (ya yl yf yw:Value) (A:List Int) (L:List (Int×Int)) (B:List Bool) (W:List Int) (m:Nat) (hz:clE (cI A) A.length (cR L) L.length B.length (cI W) W.length=0) (hm:W.length=m + 1) (h0rb:True) (hqdtc121_1:(ltI (((m) + 1:Nat):Int) ((W.length:Nat):Int))=false) (h2rb:True) (hqdtc132_1:(ltI ((A.length:Nat):Int) ((A.length:Nat):Int))=false) (r:Nat) (hr1:r≤(m + 1)) (hr2:True) (hqdtc145_1:(ltI ((r:Nat):Int) ((m + 1:Nat):Int))=true) (hqdtc157_1:(ltI (((m) + 1:Nat):Int) ((m + 1:Nat):Int))=false) (v:BaseW) (eb:Nat→Option Nat) (ec:Nat→Nat):Goes Try.prog 117 dtc1K47 ((q20_5 A B L W m r ya yf yl yw)) (bw v 1 eb ec) (StepC Try.prog 117 4 (fun r:{r:Nat // r≤(m + 1)∧True}=>⟨[(1,(.ptr 1 0)),(4,(.slu 2 0 (m + 1) 0)),(5,(.slu 3 0 (m + 1) 0)),(9,(.v (.int .i64 ((r.1:Nat):Int))))],[],4,[(q20_26 A B L W ya yf yl yw),(2,(.row (cI (tI ((rdB (cI A) A.length (cR L) (cB B) (m + 1) r.1).1) (m + 1))) 2 1)),(3,(.row (cI (tI ((rdB (cI A) A.length (cR L) (cB B) (m + 1) r.1).2) (m + 1))) 2 1))]⟩) (fun r:{r:Nat // r≤(m + 1)∧True}=>(m + 1) - r.1) dtc1K34 (bw v 1 eb ec) (q20_13 A B L eb ec m v) (⟨r,hr1,hr2⟩:{r:Nat // r≤(m + 1)∧True})):=by
 obtain ⟨hcl_A,hcl_L,hcl_B,hcl_W⟩:=hcZ20 A B L W
 obtain ⟨hn,ha,he,hl,hw⟩:=clE_zero hz
 have he2:=he
 unfold eqP degI at he2
 have hm91:m + 1≤91:=by have:=deg_bd hn ha he 0 (by omega); omega
 have ghqdtc121_1:=ltI_false hqdtc121_1
 have ghqdtc132_1:=ltI_false hqdtc132_1
 have ghqdtc145_1:=ltI_true hqdtc145_1
 have ghqdtc157_1:=ltI_false hqdtc157_1
 exact goes_leafA isN_e (goes_told Try.checked.mixed (known_gp) 200 (T':=⟨[(1,(.ptr 1 0)),(4,(.slu 2 0 (m + 1) 0)),(5,(.slu 3 0 (m + 1) 0)),(9,(.v (.int .i64 (((r + 1):Nat):Int))))],[],4,[(q20_26 A B L W ya yf yl yw),(2,(.row (cI (tI ((rdB (cI A) A.length (cR L) (cB B) (m + 1) (r + 1)).1) (m + 1))) 2 1)),(3,(.row (cI (tI ((rdB (cI A) A.length (cR L) (cB B) (m + 1) (r + 1)).2) (m + 1))) 2 1))]⟩) (e:=.normal) (ps:=[inR IntKind.i64 (((r:Nat):Int) + 1)]) [.go,.go,.go] (by kernel_rfl) (by kernel_rfl) ⟨(iRZ20 (by omega) (by omega)),trivial⟩ rfl) (en_on (⟨r + 1,by omega,trivial⟩) (by show (m + 1) - (r + 1) < (m + 1) - r; omega) rfl)
theorem dtc1_56 (ya yl yf yw:Value) (A:List Int) (L:List (Int×Int)) (B:List Bool) (W:List Int) (m:Nat) (hz:clE (cI A) A.length (cR L) L.length B.length (cI W) W.length=0) (hm:W.length=m + 1) (h0rb:True) (hqdtc121_1:(ltI (((m) + 1:Nat):Int) ((W.length:Nat):Int))=false) (h2rb:True) (hqdtc132_1:(ltI ((A.length:Nat):Int) ((A.length:Nat):Int))=false) (r:Nat) (hr1:r≤(m + 1)) (hr2:True) (hqdtc145_1:(ltI ((r:Nat):Int) ((m + 1:Nat):Int))=true) (k:Nat) (hk1:k≤m) (hk2:True) (v:BaseW) (eb:Nat→Option Nat) (ec:Nat→Nat):Goes Try.prog 117 dtc1K55 (⟨[(1,(.ptr 1 0)),(4,(.slu 2 0 (m + 1) 0)),(5,(.slu 3 0 (m + 1) 0)),(q20_36 r),(10,(.v (.int .i64 ((k + 1:Nat):Int))))],[],4,[(q20_26 A B L W ya yf yl yw),(2,(.row (cI (tI ((q20_34 A B L k m r).1) (m + 1))) 2 1)),(3,(.row (cI (tI ((q20_34 A B L k m r).2) (m + 1))) 2 1))]⟩) (bw v 1 eb ec) (StepL 117 6 (fun k:{k:Nat // k≤m∧True}=>⟨[(1,(.ptr 1 0)),(4,(.slu 2 0 (m + 1) 0)),(5,(.slu 3 0 (m + 1) 0)),(q20_36 r),(10,(.v (.int .i64 ((k.1 + 1:Nat):Int))))],[],4,[(q20_26 A B L W ya yf yl yw),(2,(.row (cI (tI ((swB (cI A) A.length (cB B) (q20_35 A B L m r) k.1).1) (m + 1))) 2 1)),(3,(.row (cI (tI ((swB (cI A) A.length (cB B) (q20_35 A B L m r) k.1).2) (m + 1))) 2 1))]⟩) (fun k:{k:Nat // k≤m∧True}=>m - k.1) (bw v 1 eb ec) (AfterB Try.prog 117 5 dtc1K47 (bw v 1 eb ec) (StepC Try.prog 117 4 (fun r:{r:Nat // r≤(m + 1)∧True}=>⟨[(1,(.ptr 1 0)),(4,(.slu 2 0 (m + 1) 0)),(5,(.slu 3 0 (m + 1) 0)),(9,(.v (.int .i64 ((r.1:Nat):Int))))],[],4,[(q20_26 A B L W ya yf yl yw),(2,(.row (cI (tI ((rdB (cI A) A.length (cR L) (cB B) (m + 1) r.1).1) (m + 1))) 2 1)),(3,(.row (cI (tI ((rdB (cI A) A.length (cR L) (cB B) (m + 1) r.1).2) (m + 1))) 2 1))]⟩) (fun r:{r:Nat // r≤(m + 1)∧True}=>(m + 1) - r.1) dtc1K34 (bw v 1 eb ec) (q20_13 A B L eb ec m v) (⟨r,hr1,hr2⟩:{r:Nat // r≤(m + 1)∧True}))) (⟨k,hk1,hk2⟩:{k:Nat // k≤m∧True})):=by
 obtain ⟨hcl_A,hcl_L,hcl_B,hcl_W⟩:=hcZ20 A B L W
 obtain ⟨hn,ha,he,hl,hw⟩:=clE_zero hz
 have he2:=he
 unfold eqP degI at he2
 have hm91:m + 1≤91:=by have:=deg_bd hn ha he 0 (by omega); omega
 have ghqdtc121_1:=ltI_false hqdtc121_1
 have ghqdtc132_1:=ltI_false hqdtc132_1
 have ghqdtc145_1:=ltI_true hqdtc145_1
 rcases Bool.eq_false_or_eq_true (ltI ((k + 1:Nat):Int) ((m + 1:Nat):Int)) with hqdtc157_1 | hqdtc157_1
 ·skip
  have ghqdtc157_1:=ltI_true hqdtc157_1
  have hgp:=gap_of (j:=k) hn ha he (by omega)
  have hd0:=deg_bd hn ha he 0 (by omega)
  rcases Bool.eq_false_or_eq_true (q20_30 A B k) with hqdtc157_2 | hqdtc157_2
  ·skip
   have ghqdtc157_2:=hqdtc157_2
   exact goes_leafA isN_e (goes_told Try.checked.mixed (known_gp) 200 (T':=(q20_2 A B L W k m r ya yf yl yw)) (e:=.normal) (ps:=[ltI ((k + 1:Nat):Int) ((m + 1:Nat):Int)=true,inR IntKind.i64 (((k + 1:Nat):Int) - 1),0 < A.length,loadL Try.prog (cI A) (0 * 1) 2=some (AV.v (Value.int IntKind.i64 (intAt (cI A) (0 * 1)))),inR IntKind.i64 (intAt (cI A) (0 * 1) + ((k + 1:Nat):Int)),IsLampK 1 2 1 1 (cI A) A.length (cR L) L.length (cB B) B.length (cI W) W.length,clE (cI A) A.length (cR L) L.length B.length (cI W) W.length=0,intAt (cI A) (0 * 1) < intAt (cI A) (0 * 1) + ((k + 1:Nat):Int),intAt (cI A) (0 * 1) + ((k + 1:Nat):Int)≤intAt (cI A) ((A.length - 1) * 1),gapF (cI A) (intAt (cI A) (0 * 1) + ((k + 1:Nat):Int)) A.length 0 < B.length,loadL Try.prog (cB B) (gapF (cI A) (intAt (cI A) (0 * 1) + ((k + 1:Nat):Int)) A.length 0 * 1) 4=some (AV.v (Value.bool (q20_30 A B k))),boolAt (cB B) (gapF (cI A) (intAt (cI A) (0 * 1) + ((k + 1:Nat):Int)) A.length 0 * 1)=true,inR IntKind.i64 (((k + 1:Nat):Int) - 1),(0:Int)≤((k + 1:Nat):Int) - 1,(((k + 1:Nat):Int) - 1).toNat < m + 1,loadL Try.prog (q20_29 A B L k m r) (0 + (((k + 1:Nat):Int) - 1).toNat * 1) 2=some (AV.v (Value.int IntKind.i64 (intAt (q20_29 A B L k m r) (0 + (((k + 1:Nat):Int) - 1).toNat * 1)))),k + 1 < m + 1,loadL Try.prog (q20_29 A B L k m r) (0 + (k + 1) * 1) 2=some (AV.v (Value.int IntKind.i64 (intAt (q20_29 A B L k m r) (0 + (k + 1) * 1)))),(0:Int)≤((k + 1:Nat):Int) - 1,(((k + 1:Nat):Int) - 1).toNat < m + 1,0 + (((k + 1:Nat):Int) - 1).toNat * 1 + (AV.v (Value.int IntKind.i64 (if intAt (q20_29 A B L k m r) (0 + (k + 1) * 1) > intAt (q20_29 A B L k m r) (0 + (((k + 1:Nat):Int) - 1).toNat * 1) then intAt (q20_29 A B L k m r) (0 + (k + 1) * 1) else intAt (q20_29 A B L k m r) (0 + (((k + 1:Nat):Int) - 1).toNat * 1)))).cells.length≤(q20_29 A B L k m r).length,k + 1 < m + 1,loadL Try.prog (q20_28 A B L k m r) (0 + (k + 1) * 1) 2=some (AV.v (Value.int IntKind.i64 (intAt (q20_28 A B L k m r) (0 + (k + 1) * 1)))),(0:Int)≤((k + 1:Nat):Int) - 1,(((k + 1:Nat):Int) - 1).toNat < m + 1,loadL Try.prog (q20_28 A B L k m r) (0 + (((k + 1:Nat):Int) - 1).toNat * 1) 2=some (AV.v (Value.int IntKind.i64 (intAt (q20_28 A B L k m r) (0 + (((k + 1:Nat):Int) - 1).toNat * 1)))),k + 1 < m + 1,0 + (k + 1) * 1 + (AV.v (Value.int IntKind.i64 (if intAt (q20_28 A B L k m r) (0 + (((k + 1:Nat):Int) - 1).toNat * 1) < intAt (q20_28 A B L k m r) (0 + (k + 1) * 1) then intAt (q20_28 A B L k m r) (0 + (((k + 1:Nat):Int) - 1).toNat * 1) else intAt (q20_28 A B L k m r) (0 + (k + 1) * 1)))).cells.length≤(q20_28 A B L k m r).length,inR IntKind.i64 (((k + 1:Nat):Int) + 1)]) [.go,.go,.go,.go,.b true,.go,.go,.go,.go,.go,.go,.go,.go,.go,.go,.sym,.sym,.go,.go,.sym,.sym,.b true,.go,.go,.go,.go,.go,.go,.go,.go,.go,.nat,.sym,.go,.go,.sym,.sym,.go,.nat,.sym,.go,.go,.go,.go,.sym,.sym,.go,.go,.nat,.sym,.go,.sym,.sym,.go,.go,.go] (by kernel_rfl) (by kernel_rfl) ⟨hqdtc157_1,(iRZ20 (by omega) (by omega)),(by omega),(cI_ld (by omega) 2 (Try.underlying2) rfl),(iRZ20 (by omega) (by omega)),⟨rfl,rfl,rfl,rfl,A,L,B,W,rfl,rfl,rfl,rfl,rfl,rfl,rfl,rfl⟩,hz,(by omega),(by omega),(by omega),(cB_ld (by omega) 4 (Try.underlying4) rfl),hqdtc157_2,(iRZ20 (by omega) (by omega)),(by omega),(by omega),(tI_ld (by omega) 2 (Try.underlying2) rfl),(by omega),(tI_ld (by omega) 2 (Try.underlying2) rfl),(by omega),(by omega),(by show _ + 1≤_; rw [cI_len,tI_len]; omega),(by omega),(tI_ld (by omega) 2 (Try.underlying2) rfl),(by omega),(by omega),(tI_ld (by omega) 2 (Try.underlying2) rfl),(by omega),(by show _ + 1≤_; rw [cI_len,tI_len]; omega),(iRZ20 (by omega) (by omega)),trivial⟩ rfl) (en_tn (⟨k + 1,by omega,trivial⟩) (by show m - (k + 1) < m - k; omega) (show ((q20_2 A B L W k m r ya yf yl yw):Ev.Lit)=(q20_4 A B L W k m r ya yf yl yw) from by have hz_:=congr (congrArg (fun (xq0:Ev.AB) (xq1:Ev.AB)=>(⟨[(1,(.ptr 1 0)),(4,(.slu 2 0 (m + 1) 0)),(5,(.slu 3 0 (m + 1) 0)),(q20_36 r),(10,(.v (.int .i64 (((k + 1) + 1:Nat):Int))))],[],4,[(q20_26 A B L W ya yf yl yw),(2,xq0),(3,xq1)]⟩:Ev.Lit)) (congrArg (fun z=>Ev.AB.row z 2 1) (show ((splice (q20_29 A B L k m r) (0 + (((k + 1:Nat):Int) - 1).toNat * 1) (AV.v (Value.int IntKind.i64 (if intAt (q20_29 A B L k m r) (0 + (k + 1) * 1) > intAt (q20_29 A B L k m r) (0 + (((k + 1:Nat):Int) - 1).toNat * 1) then intAt (q20_29 A B L k m r) (0 + (k + 1) * 1) else intAt (q20_29 A B L k m r) (0 + (((k + 1:Nat):Int) - 1).toNat * 1)))).cells):List Ev.AV)=(cI (tI ((q20_33 A B L k m r).1) (m + 1))) from by rw [sw_t1 (show faB (cI A) A.length (cB B) k=true from hqdtc157_2)]; exact up_max k (k + 1) (by omega) (by omega) (by omega) (by omega) (by omega)))) (congrArg (fun z=>Ev.AB.row z 2 1) (show ((splice (q20_28 A B L k m r) (0 + (k + 1) * 1) (AV.v (Value.int IntKind.i64 (if intAt (q20_28 A B L k m r) (0 + (((k + 1:Nat):Int) - 1).toNat * 1) < intAt (q20_28 A B L k m r) (0 + (k + 1) * 1) then intAt (q20_28 A B L k m r) (0 + (((k + 1:Nat):Int) - 1).toNat * 1) else intAt (q20_28 A B L k m r) (0 + (k + 1) * 1)))).cells):List Ev.AV)=(cI (tI ((q20_33 A B L k m r).2) (m + 1))) from by rw [sw_t2 (show faB (cI A) A.length (cB B) k=true from hqdtc157_2)]; exact up_min (k + 1) k (by omega) (by omega) (by omega) (by omega) (by omega))); exact hz_))
  ·skip
   have ghqdtc157_2:=hqdtc157_2
   exact goes_leafA isN_e (goes_told Try.checked.mixed (known_gp) 200 (T':=(q20_1 A B L W k m r ya yf yl yw)) (e:=.normal) (ps:=[ltI ((k + 1:Nat):Int) ((m + 1:Nat):Int)=true,inR IntKind.i64 (((k + 1:Nat):Int) - 1),0 < A.length,loadL Try.prog (cI A) (0 * 1) 2=some (AV.v (Value.int IntKind.i64 (intAt (cI A) (0 * 1)))),inR IntKind.i64 (intAt (cI A) (0 * 1) + ((k + 1:Nat):Int)),IsLampK 1 2 1 1 (cI A) A.length (cR L) L.length (cB B) B.length (cI W) W.length,clE (cI A) A.length (cR L) L.length B.length (cI W) W.length=0,intAt (cI A) (0 * 1) < intAt (cI A) (0 * 1) + ((k + 1:Nat):Int),intAt (cI A) (0 * 1) + ((k + 1:Nat):Int)≤intAt (cI A) ((A.length - 1) * 1),gapF (cI A) (intAt (cI A) (0 * 1) + ((k + 1:Nat):Int)) A.length 0 < B.length,loadL Try.prog (cB B) (gapF (cI A) (intAt (cI A) (0 * 1) + ((k + 1:Nat):Int)) A.length 0 * 1) 4=some (AV.v (Value.bool (q20_30 A B k))),boolAt (cB B) (gapF (cI A) (intAt (cI A) (0 * 1) + ((k + 1:Nat):Int)) A.length 0 * 1)=false,k + 1 < m + 1,loadL Try.prog (q20_29 A B L k m r) (0 + (k + 1) * 1) 2=some (AV.v (Value.int IntKind.i64 (intAt (q20_29 A B L k m r) (0 + (k + 1) * 1)))),(0:Int)≤((k + 1:Nat):Int) - 1,(((k + 1:Nat):Int) - 1).toNat < m + 1,loadL Try.prog (q20_29 A B L k m r) (0 + (((k + 1:Nat):Int) - 1).toNat * 1) 2=some (AV.v (Value.int IntKind.i64 (intAt (q20_29 A B L k m r) (0 + (((k + 1:Nat):Int) - 1).toNat * 1)))),k + 1 < m + 1,0 + (k + 1) * 1 + (AV.v (Value.int IntKind.i64 (if intAt (q20_29 A B L k m r) (0 + (((k + 1:Nat):Int) - 1).toNat * 1) > intAt (q20_29 A B L k m r) (0 + (k + 1) * 1) then intAt (q20_29 A B L k m r) (0 + (((k + 1:Nat):Int) - 1).toNat * 1) else intAt (q20_29 A B L k m r) (0 + (k + 1) * 1)))).cells.length≤(q20_29 A B L k m r).length,(0:Int)≤((k + 1:Nat):Int) - 1,(((k + 1:Nat):Int) - 1).toNat < m + 1,loadL Try.prog (q20_28 A B L k m r) (0 + (((k + 1:Nat):Int) - 1).toNat * 1) 2=some (AV.v (Value.int IntKind.i64 (intAt (q20_28 A B L k m r) (0 + (((k + 1:Nat):Int) - 1).toNat * 1)))),k + 1 < m + 1,loadL Try.prog (q20_28 A B L k m r) (0 + (k + 1) * 1) 2=some (AV.v (Value.int IntKind.i64 (intAt (q20_28 A B L k m r) (0 + (k + 1) * 1)))),(0:Int)≤((k + 1:Nat):Int) - 1,(((k + 1:Nat):Int) - 1).toNat < m + 1,0 + (((k + 1:Nat):Int) - 1).toNat * 1 + (AV.v (Value.int IntKind.i64 (if intAt (q20_28 A B L k m r) (0 + (k + 1) * 1) < intAt (q20_28 A B L k m r) (0 + (((k + 1:Nat):Int) - 1).toNat * 1) then intAt (q20_28 A B L k m r) (0 + (k + 1) * 1) else intAt (q20_28 A B L k m r) (0 + (((k + 1:Nat):Int) - 1).toNat * 1)))).cells.length≤(q20_28 A B L k m r).length,inR IntKind.i64 (((k + 1:Nat):Int) + 1)]) [.go,.go,.go,.go,.b true,.go,.go,.go,.go,.go,.go,.go,.go,.go,.go,.sym,.sym,.go,.go,.sym,.sym,.b false,.go,.go,.go,.go,.sym,.sym,.go,.go,.nat,.sym,.go,.sym,.sym,.go,.go,.go,.go,.nat,.sym,.go,.go,.sym,.sym,.go,.nat,.sym,.go,.go,.go] (by kernel_rfl) (by kernel_rfl) ⟨hqdtc157_1,(iRZ20 (by omega) (by omega)),(by omega),(cI_ld (by omega) 2 (Try.underlying2) rfl),(iRZ20 (by omega) (by omega)),⟨rfl,rfl,rfl,rfl,A,L,B,W,rfl,rfl,rfl,rfl,rfl,rfl,rfl,rfl⟩,hz,(by omega),(by omega),(by omega),(cB_ld (by omega) 4 (Try.underlying4) rfl),hqdtc157_2,(by omega),(tI_ld (by omega) 2 (Try.underlying2) rfl),(by omega),(by omega),(tI_ld (by omega) 2 (Try.underlying2) rfl),(by omega),(by show _ + 1≤_; rw [cI_len,tI_len]; omega),(by omega),(by omega),(tI_ld (by omega) 2 (Try.underlying2) rfl),(by omega),(tI_ld (by omega) 2 (Try.underlying2) rfl),(by omega),(by omega),(by show _ + 1≤_; rw [cI_len,tI_len]; omega),(iRZ20 (by omega) (by omega)),trivial⟩ rfl) (en_tn (⟨k + 1,by omega,trivial⟩) (by show m - (k + 1) < m - k; omega) (show ((q20_1 A B L W k m r ya yf yl yw):Ev.Lit)=(q20_4 A B L W k m r ya yf yl yw) from by have hz_:=congr (congrArg (fun (xq0:Ev.AB) (xq1:Ev.AB)=>(⟨[(1,(.ptr 1 0)),(4,(.slu 2 0 (m + 1) 0)),(5,(.slu 3 0 (m + 1) 0)),(q20_36 r),(10,(.v (.int .i64 (((k + 1) + 1:Nat):Int))))],[],4,[(q20_26 A B L W ya yf yl yw),(2,xq0),(3,xq1)]⟩:Ev.Lit)) (congrArg (fun z=>Ev.AB.row z 2 1) (show ((splice (q20_29 A B L k m r) (0 + (k + 1) * 1) (AV.v (Value.int IntKind.i64 (if intAt (q20_29 A B L k m r) (0 + (((k + 1:Nat):Int) - 1).toNat * 1) > intAt (q20_29 A B L k m r) (0 + (k + 1) * 1) then intAt (q20_29 A B L k m r) (0 + (((k + 1:Nat):Int) - 1).toNat * 1) else intAt (q20_29 A B L k m r) (0 + (k + 1) * 1)))).cells):List Ev.AV)=(cI (tI ((q20_33 A B L k m r).1) (m + 1))) from by rw [sw_f1 (show faB (cI A) A.length (cB B) k=false from hqdtc157_2)]; exact up_max (k + 1) k (by omega) (by omega) (by omega) (by omega) (by omega)))) (congrArg (fun z=>Ev.AB.row z 2 1) (show ((splice (q20_28 A B L k m r) (0 + (((k + 1:Nat):Int) - 1).toNat * 1) (AV.v (Value.int IntKind.i64 (if intAt (q20_28 A B L k m r) (0 + (k + 1) * 1) < intAt (q20_28 A B L k m r) (0 + (((k + 1:Nat):Int) - 1).toNat * 1) then intAt (q20_28 A B L k m r) (0 + (k + 1) * 1) else intAt (q20_28 A B L k m r) (0 + (((k + 1:Nat):Int) - 1).toNat * 1)))).cells):List Ev.AV)=(cI (tI ((q20_33 A B L k m r).2) (m + 1))) from by rw [sw_f2 (show faB (cI A) A.length (cB B) k=false from hqdtc157_2)]; exact up_min k (k + 1) (by omega) (by omega) (by omega) (by omega) (by omega))); exact hz_))
 ·skip
  have ghqdtc157_1:=ltI_false hqdtc157_1
  obtain rfl:m=k:=by omega
  exact goes_leafA isX_e (goes_told Try.checked.mixed (known_gp) 200 (T':=(q20_5 A B L W m r ya yf yl yw)) (e:=.exit 6) (ps:=[ltI (((m) + 1:Nat):Int) ((m + 1:Nat):Int)=false]) [.go,.go,.go,.go,.b false] (by kernel_rfl) (by kernel_rfl) ⟨hqdtc157_1,trivial⟩ rfl) (en_tx (en_bn (dtc1_58 ya yl yf yw A L B W m hz hm h0rb hqdtc121_1 h2rb hqdtc132_1 r hr1 hr2 hqdtc145_1 hqdtc157_1 v eb ec)))
theorem dtc1_54 (ya yl yf yw:Value) (A:List Int) (L:List (Int×Int)) (B:List Bool) (W:List Int) (m:Nat) (hz:clE (cI A) A.length (cR L) L.length B.length (cI W) W.length=0) (hm:W.length=m + 1) (h0rb:True) (hqdtc121_1:(ltI (((m) + 1:Nat):Int) ((W.length:Nat):Int))=false) (h2rb:True) (hqdtc132_1:(ltI ((A.length:Nat):Int) ((A.length:Nat):Int))=false) (r:Nat) (hr1:r≤(m + 1)) (hr2:True) (hqdtc145_1:(ltI ((r:Nat):Int) ((m + 1:Nat):Int))=true) (v:BaseW) (eb:Nat→Option Nat) (ec:Nat→Nat):Goes Try.prog 117 dtc1K51 ((q20_6 A B L W m r ya yf yl yw)) (bw v 1 eb ec) (AfterB Try.prog 117 5 dtc1K47 (bw v 1 eb ec) (StepC Try.prog 117 4 (fun r:{r:Nat // r≤(m + 1)∧True}=>⟨[(1,(.ptr 1 0)),(4,(.slu 2 0 (m + 1) 0)),(5,(.slu 3 0 (m + 1) 0)),(9,(.v (.int .i64 ((r.1:Nat):Int))))],[],4,[(q20_26 A B L W ya yf yl yw),(2,(.row (cI (tI ((rdB (cI A) A.length (cR L) (cB B) (m + 1) r.1).1) (m + 1))) 2 1)),(3,(.row (cI (tI ((rdB (cI A) A.length (cR L) (cB B) (m + 1) r.1).2) (m + 1))) 2 1))]⟩) (fun r:{r:Nat // r≤(m + 1)∧True}=>(m + 1) - r.1) dtc1K34 (bw v 1 eb ec) (q20_13 A B L eb ec m v) (⟨r,hr1,hr2⟩:{r:Nat // r≤(m + 1)∧True}))):=by
 obtain ⟨hcl_A,hcl_L,hcl_B,hcl_W⟩:=hcZ20 A B L W
 obtain ⟨hn,ha,he,hl,hw⟩:=clE_zero hz
 have he2:=he
 unfold eqP degI at he2
 have hm91:m + 1≤91:=by have:=deg_bd hn ha he 0 (by omega); omega
 have ghqdtc121_1:=ltI_false hqdtc121_1
 have ghqdtc132_1:=ltI_false hqdtc132_1
 have ghqdtc145_1:=ltI_true hqdtc145_1
 exact goes_loopL (id:=6) (by kernel_rfl) (by kernel_rfl) (fun k:{k:Nat // k≤m∧True}=>⟨[(1,(.ptr 1 0)),(4,(.slu 2 0 (m + 1) 0)),(5,(.slu 3 0 (m + 1) 0)),(q20_36 r),(10,(.v (.int .i64 ((k.1 + 1:Nat):Int))))],[],4,[(q20_26 A B L W ya yf yl yw),(2,(.row (cI (tI ((swB (cI A) A.length (cB B) (q20_35 A B L m r) k.1).1) (m + 1))) 2 1)),(3,(.row (cI (tI ((swB (cI A) A.length (cB B) (q20_35 A B L m r) k.1).2) (m + 1))) 2 1))]⟩) (fun k:{k:Nat // k≤m∧True}=>m - k.1) (fun i=>dtc1_56 ya yl yf yw A L B W m hz hm h0rb hqdtc121_1 h2rb hqdtc132_1 r hr1 hr2 hqdtc145_1 i.1 i.2.1 i.2.2 v eb ec) ⟨0,Nat.zero_le _,trivial⟩
theorem dtc1_53 (ya yl yf yw:Value) (A:List Int) (L:List (Int×Int)) (B:List Bool) (W:List Int) (m:Nat) (hz:clE (cI A) A.length (cR L) L.length B.length (cI W) W.length=0) (hm:W.length=m + 1) (h0rb:True) (hqdtc121_1:(ltI (((m) + 1:Nat):Int) ((W.length:Nat):Int))=false) (h2rb:True) (hqdtc132_1:(ltI ((A.length:Nat):Int) ((A.length:Nat):Int))=false) (r:Nat) (hr1:r≤(m + 1)) (hr2:True) (hqdtc145_1:(ltI ((r:Nat):Int) ((m + 1:Nat):Int))=true) (v:BaseW) (eb:Nat→Option Nat) (ec:Nat→Nat):Goes Try.prog 117 dtc1K51 ((q20_6 A B L W m r ya yf yl yw)) (bw v 1 eb ec) (AfterB Try.prog 117 5 dtc1K47 (bw v 1 eb ec) (StepC Try.prog 117 4 (fun r:{r:Nat // r≤(m + 1)∧True}=>⟨[(1,(.ptr 1 0)),(4,(.slu 2 0 (m + 1) 0)),(5,(.slu 3 0 (m + 1) 0)),(9,(.v (.int .i64 ((r.1:Nat):Int))))],[],4,[(q20_26 A B L W ya yf yl yw),(2,(.row (cI (tI ((rdB (cI A) A.length (cR L) (cB B) (m + 1) r.1).1) (m + 1))) 2 1)),(3,(.row (cI (tI ((rdB (cI A) A.length (cR L) (cB B) (m + 1) r.1).2) (m + 1))) 2 1))]⟩) (fun r:{r:Nat // r≤(m + 1)∧True}=>(m + 1) - r.1) dtc1K34 (bw v 1 eb ec) (q20_13 A B L eb ec m v) (⟨r,hr1,hr2⟩:{r:Nat // r≤(m + 1)∧True}))):=by
 exact dtc1_54 ya yl yf yw A L B W m hz hm h0rb hqdtc121_1 h2rb hqdtc132_1 r hr1 hr2 hqdtc145_1 v eb ec
theorem dtc1_50 (ya yl yf yw:Value) (A:List Int) (L:List (Int×Int)) (B:List Bool) (W:List Int) (m:Nat) (hz:clE (cI A) A.length (cR L) L.length B.length (cI W) W.length=0) (hm:W.length=m + 1) (h0rb:True) (hqdtc121_1:(ltI (((m) + 1:Nat):Int) ((W.length:Nat):Int))=false) (h2rb:True) (hqdtc132_1:(ltI ((A.length:Nat):Int) ((A.length:Nat):Int))=false) (r:Nat) (hr1:r≤(m + 1)) (hr2:True) (hqdtc145_1:(ltI ((r:Nat):Int) ((m + 1:Nat):Int))=true) (v:BaseW) (eb:Nat→Option Nat) (ec:Nat→Nat):Goes Try.prog 117 dtc1K49 ((q20_7 A B L W m r ya yf yl yw)) (bw v 1 eb ec) (AfterB Try.prog 117 5 dtc1K47 (bw v 1 eb ec) (StepC Try.prog 117 4 (fun r:{r:Nat // r≤(m + 1)∧True}=>⟨[(1,(.ptr 1 0)),(4,(.slu 2 0 (m + 1) 0)),(5,(.slu 3 0 (m + 1) 0)),(9,(.v (.int .i64 ((r.1:Nat):Int))))],[],4,[(q20_26 A B L W ya yf yl yw),(2,(.row (cI (tI ((rdB (cI A) A.length (cR L) (cB B) (m + 1) r.1).1) (m + 1))) 2 1)),(3,(.row (cI (tI ((rdB (cI A) A.length (cR L) (cB B) (m + 1) r.1).2) (m + 1))) 2 1))]⟩) (fun r:{r:Nat // r≤(m + 1)∧True}=>(m + 1) - r.1) dtc1K34 (bw v 1 eb ec) (q20_13 A B L eb ec m v) (⟨r,hr1,hr2⟩:{r:Nat // r≤(m + 1)∧True}))):=by
 obtain ⟨hcl_A,hcl_L,hcl_B,hcl_W⟩:=hcZ20 A B L W
 obtain ⟨hn,ha,he,hl,hw⟩:=clE_zero hz
 have he2:=he
 unfold eqP degI at he2
 have hm91:m + 1≤91:=by have:=deg_bd hn ha he 0 (by omega); omega
 have ghqdtc121_1:=ltI_false hqdtc121_1
 have ghqdtc132_1:=ltI_false hqdtc132_1
 have ghqdtc145_1:=ltI_true hqdtc145_1
 refine goes_seqA (by kernel_rfl) ?_
 exact goes_leafA isN_e (goes_told Try.checked.mixed (known_gp) 200 (T':=(q20_6 A B L W m r ya yf yl yw)) (e:=.normal) (ps:=[]) [.go] (by kernel_rfl) (by kernel_rfl) trivial rfl) (en_n (dtc1_53 ya yl yf yw A L B W m hz hm h0rb hqdtc121_1 h2rb hqdtc132_1 r hr1 hr2 hqdtc145_1 v eb ec))
theorem dtc1_48 (ya yl yf yw:Value) (A:List Int) (L:List (Int×Int)) (B:List Bool) (W:List Int) (m:Nat) (hz:clE (cI A) A.length (cR L) L.length B.length (cI W) W.length=0) (hm:W.length=m + 1) (h0rb:True) (hqdtc121_1:(ltI (((m) + 1:Nat):Int) ((W.length:Nat):Int))=false) (h2rb:True) (hqdtc132_1:(ltI ((A.length:Nat):Int) ((A.length:Nat):Int))=false) (r:Nat) (hr1:r≤(m + 1)) (hr2:True) (hqdtc145_1:(ltI ((r:Nat):Int) ((m + 1:Nat):Int))=true) (v:BaseW) (eb:Nat→Option Nat) (ec:Nat→Nat):Goes Try.prog 117 (hdC dtc1K44) ((q20_7 A B L W m r ya yf yl yw)) (bw v 1 eb ec) (AfterN Try.prog 117 dtc1K47 (bw v 1 eb ec) (StepC Try.prog 117 4 (fun r:{r:Nat // r≤(m + 1)∧True}=>⟨[(1,(.ptr 1 0)),(4,(.slu 2 0 (m + 1) 0)),(5,(.slu 3 0 (m + 1) 0)),(9,(.v (.int .i64 ((r.1:Nat):Int))))],[],4,[(q20_26 A B L W ya yf yl yw),(2,(.row (cI (tI ((rdB (cI A) A.length (cR L) (cB B) (m + 1) r.1).1) (m + 1))) 2 1)),(3,(.row (cI (tI ((rdB (cI A) A.length (cR L) (cB B) (m + 1) r.1).2) (m + 1))) 2 1))]⟩) (fun r:{r:Nat // r≤(m + 1)∧True}=>(m + 1) - r.1) dtc1K34 (bw v 1 eb ec) (q20_13 A B L eb ec m v) (⟨r,hr1,hr2⟩:{r:Nat // r≤(m + 1)∧True}))):=by
 exact goes_blkA (id:=5) (by kernel_rfl) (by kernel_rfl) (dtc1_50 ya yl yf yw A L B W m hz hm h0rb hqdtc121_1 h2rb hqdtc132_1 r hr1 hr2 hqdtc145_1 v eb ec)
theorem dtc1_46 (ya yl yf yw:Value) (A:List Int) (L:List (Int×Int)) (B:List Bool) (W:List Int) (m:Nat) (hz:clE (cI A) A.length (cR L) L.length B.length (cI W) W.length=0) (hm:W.length=m + 1) (h0rb:True) (hqdtc121_1:(ltI (((m) + 1:Nat):Int) ((W.length:Nat):Int))=false) (h2rb:True) (hqdtc132_1:(ltI ((A.length:Nat):Int) ((A.length:Nat):Int))=false) (r:Nat) (hr1:r≤(m + 1)) (hr2:True) (hqdtc145_1:(ltI ((r:Nat):Int) ((m + 1:Nat):Int))=true) (v:BaseW) (eb:Nat→Option Nat) (ec:Nat→Nat):Goes Try.prog 117 dtc1K44 ((q20_7 A B L W m r ya yf yl yw)) (bw v 1 eb ec) (StepC Try.prog 117 4 (fun r:{r:Nat // r≤(m + 1)∧True}=>⟨[(1,(.ptr 1 0)),(4,(.slu 2 0 (m + 1) 0)),(5,(.slu 3 0 (m + 1) 0)),(9,(.v (.int .i64 ((r.1:Nat):Int))))],[],4,[(q20_26 A B L W ya yf yl yw),(2,(.row (cI (tI ((rdB (cI A) A.length (cR L) (cB B) (m + 1) r.1).1) (m + 1))) 2 1)),(3,(.row (cI (tI ((rdB (cI A) A.length (cR L) (cB B) (m + 1) r.1).2) (m + 1))) 2 1))]⟩) (fun r:{r:Nat // r≤(m + 1)∧True}=>(m + 1) - r.1) dtc1K34 (bw v 1 eb ec) (q20_13 A B L eb ec m v) (⟨r,hr1,hr2⟩:{r:Nat // r≤(m + 1)∧True})):=by
 exact goes_seqA (by kernel_rfl) (dtc1_48 ya yl yf yw A L B W m hz hm h0rb hqdtc121_1 h2rb hqdtc132_1 r hr1 hr2 hqdtc145_1 v eb ec)
theorem dtc1_60 (ya yl yf yw:Value) (A:List Int) (L:List (Int×Int)) (B:List Bool) (W:List Int) (m:Nat) (hz:clE (cI A) A.length (cR L) L.length B.length (cI W) W.length=0) (hm:W.length=m + 1) (h0rb:True) (hqdtc121_1:(ltI (((m) + 1:Nat):Int) ((W.length:Nat):Int))=false) (h2rb:True) (hqdtc132_1:(ltI ((A.length:Nat):Int) ((A.length:Nat):Int))=false) (h4rb:True) (hqdtc145_1:(ltI (((m + 1):Nat):Int) ((m + 1:Nat):Int))=false) (v:BaseW) (eb:Nat→Option Nat) (ec:Nat→Nat):Goes Try.prog 117 dtc1K34 ((q20_17 A B L m)) (bw v 1 eb ec) (q20_13 A B L eb ec m v):=by
 obtain ⟨hcl_A,hcl_L,hcl_B,hcl_W⟩:=hcZ20 A B L W
 obtain ⟨hn,ha,he,hl,hw⟩:=clE_zero hz
 have he2:=he
 unfold eqP degI at he2
 have hm91:m + 1≤91:=by have:=deg_bd hn ha he 0 (by omega); omega
 have ghqdtc121_1:=ltI_false hqdtc121_1
 have ghqdtc132_1:=ltI_false hqdtc132_1
 have ghqdtc145_1:=ltI_false hqdtc145_1
 exact goes_leafA isR_e (goes_told Try.checked.mixed (known_gp) 200 (T':=(q20_18 A B L m)) (e:=.ret) (ps:=[]) [.go,.go,.go,.go] (by kernel_rfl) (by kernel_rfl) trivial rfl) (en_back (()) (show True from trivial) rfl)
theorem dtc1_43 (ya yl yf yw:Value) (A:List Int) (L:List (Int×Int)) (B:List Bool) (W:List Int) (m:Nat) (hz:clE (cI A) A.length (cR L) L.length B.length (cI W) W.length=0) (hm:W.length=m + 1) (h0rb:True) (hqdtc121_1:(ltI (((m) + 1:Nat):Int) ((W.length:Nat):Int))=false) (h2rb:True) (hqdtc132_1:(ltI ((A.length:Nat):Int) ((A.length:Nat):Int))=false) (r:Nat) (hr1:r≤(m + 1)) (hr2:True) (v:BaseW) (eb:Nat→Option Nat) (ec:Nat→Nat):Goes Try.prog 117 dtc1K41 (⟨[(1,(.ptr 1 0)),(4,(.slu 2 0 (m + 1) 0)),(5,(.slu 3 0 (m + 1) 0)),(9,(.v (.int .i64 ((r:Nat):Int))))],[],4,[(q20_26 A B L W ya yf yl yw),(2,(.row (cI (tI ((q20_35 A B L m r).1) (m + 1))) 2 1)),(3,(.row (cI (tI ((q20_35 A B L m r).2) (m + 1))) 2 1))]⟩) (bw v 1 eb ec) (StepC Try.prog 117 4 (fun r:{r:Nat // r≤(m + 1)∧True}=>⟨[(1,(.ptr 1 0)),(4,(.slu 2 0 (m + 1) 0)),(5,(.slu 3 0 (m + 1) 0)),(9,(.v (.int .i64 ((r.1:Nat):Int))))],[],4,[(q20_26 A B L W ya yf yl yw),(2,(.row (cI (tI ((rdB (cI A) A.length (cR L) (cB B) (m + 1) r.1).1) (m + 1))) 2 1)),(3,(.row (cI (tI ((rdB (cI A) A.length (cR L) (cB B) (m + 1) r.1).2) (m + 1))) 2 1))]⟩) (fun r:{r:Nat // r≤(m + 1)∧True}=>(m + 1) - r.1) dtc1K34 (bw v 1 eb ec) (q20_13 A B L eb ec m v) (⟨r,hr1,hr2⟩:{r:Nat // r≤(m + 1)∧True})):=by
 obtain ⟨hcl_A,hcl_L,hcl_B,hcl_W⟩:=hcZ20 A B L W
 obtain ⟨hn,ha,he,hl,hw⟩:=clE_zero hz
 have he2:=he
 unfold eqP degI at he2
 have hm91:m + 1≤91:=by have:=deg_bd hn ha he 0 (by omega); omega
 have ghqdtc121_1:=ltI_false hqdtc121_1
 have ghqdtc132_1:=ltI_false hqdtc132_1
 refine goes_seqA (by kernel_rfl) ?_
 rcases Bool.eq_false_or_eq_true (ltI ((r:Nat):Int) ((m + 1:Nat):Int)) with hqdtc145_1 | hqdtc145_1
 ·skip
  have ghqdtc145_1:=ltI_true hqdtc145_1
  exact goes_leafA isN_e (goes_told Try.checked.mixed (known_gp) 200 (T':=(q20_7 A B L W m r ya yf yl yw)) (e:=.normal) (ps:=[ltI ((r:Nat):Int) ((m + 1:Nat):Int)=true]) [.go,.go,.go,.go,.b true] (by kernel_rfl) (by kernel_rfl) ⟨hqdtc145_1,trivial⟩ rfl) (en_n (dtc1_46 ya yl yf yw A L B W m hz hm h0rb hqdtc121_1 h2rb hqdtc132_1 r hr1 hr2 hqdtc145_1 v eb ec))
 ·skip
  have ghqdtc145_1:=ltI_false hqdtc145_1
  obtain rfl:r=(m + 1):=by omega
  exact goes_leafA isX_e (goes_told Try.checked.mixed (known_gp) 200 (T':=(q20_17 A B L m)) (e:=.exit 4) (ps:=[ltI (((m + 1):Nat):Int) ((m + 1:Nat):Int)=false]) [.go,.go,.go,.go,.b false] (by kernel_rfl) (by kernel_rfl) ⟨hqdtc145_1,trivial⟩ rfl) (en_o (by intro h; cases h) (en_sx (dtc1_60 ya yl yf yw A L B W m hz hm h0rb hqdtc121_1 h2rb hqdtc132_1 hr2  hqdtc145_1 v eb ec)))
theorem dtc1_40 (ya yl yf yw:Value) (A:List Int) (L:List (Int×Int)) (B:List Bool) (W:List Int) (m:Nat) (hz:clE (cI A) A.length (cR L) L.length B.length (cI W) W.length=0) (hm:W.length=m + 1) (h0rb:True) (hqdtc121_1:(ltI (((m) + 1:Nat):Int) ((W.length:Nat):Int))=false) (h2rb:True) (hqdtc132_1:(ltI ((A.length:Nat):Int) ((A.length:Nat):Int))=false) (v:BaseW) (eb:Nat→Option Nat) (ec:Nat→Nat):Goes Try.prog 117 dtc1K37 ((q20_8 A B L W m ya yf yl yw)) (bw v 1 eb ec) (AfterN Try.prog 117 dtc1K34 (bw v 1 eb ec) (q20_13 A B L eb ec m v)):=by
 obtain ⟨hcl_A,hcl_L,hcl_B,hcl_W⟩:=hcZ20 A B L W
 obtain ⟨hn,ha,he,hl,hw⟩:=clE_zero hz
 have he2:=he
 unfold eqP degI at he2
 have hm91:m + 1≤91:=by have:=deg_bd hn ha he 0 (by omega); omega
 have ghqdtc121_1:=ltI_false hqdtc121_1
 have ghqdtc132_1:=ltI_false hqdtc132_1
 exact goes_loopA (id:=4) (by kernel_rfl) (by kernel_rfl) (fun r:{r:Nat // r≤(m + 1)∧True}=>⟨[(1,(.ptr 1 0)),(4,(.slu 2 0 (m + 1) 0)),(5,(.slu 3 0 (m + 1) 0)),(9,(.v (.int .i64 ((r.1:Nat):Int))))],[],4,[(q20_26 A B L W ya yf yl yw),(2,(.row (cI (tI ((rdB (cI A) A.length (cR L) (cB B) (m + 1) r.1).1) (m + 1))) 2 1)),(3,(.row (cI (tI ((rdB (cI A) A.length (cR L) (cB B) (m + 1) r.1).2) (m + 1))) 2 1))]⟩) (fun r:{r:Nat // r≤(m + 1)∧True}=>(m + 1) - r.1) (fun i=>dtc1_43 ya yl yf yw A L B W m hz hm h0rb hqdtc121_1 h2rb hqdtc132_1 i.1 i.2.1 i.2.2 v eb ec) ⟨0,Nat.zero_le _,trivial⟩
theorem dtc1_39 (ya yl yf yw:Value) (A:List Int) (L:List (Int×Int)) (B:List Bool) (W:List Int) (m:Nat) (hz:clE (cI A) A.length (cR L) L.length B.length (cI W) W.length=0) (hm:W.length=m + 1) (h0rb:True) (hqdtc121_1:(ltI (((m) + 1:Nat):Int) ((W.length:Nat):Int))=false) (h2rb:True) (hqdtc132_1:(ltI ((A.length:Nat):Int) ((A.length:Nat):Int))=false) (v:BaseW) (eb:Nat→Option Nat) (ec:Nat→Nat):Goes Try.prog 117 dtc1K37 ((q20_8 A B L W m ya yf yl yw)) (bw v 1 eb ec) (AfterN Try.prog 117 dtc1K34 (bw v 1 eb ec) (q20_13 A B L eb ec m v)):=by
 exact dtc1_40 ya yl yf yw A L B W m hz hm h0rb hqdtc121_1 h2rb hqdtc132_1 v eb ec
theorem dtc1_36 (ya yl yf yw:Value) (A:List Int) (L:List (Int×Int)) (B:List Bool) (W:List Int) (m:Nat) (hz:clE (cI A) A.length (cR L) L.length B.length (cI W) W.length=0) (hm:W.length=m + 1) (h0rb:True) (hqdtc121_1:(ltI (((m) + 1:Nat):Int) ((W.length:Nat):Int))=false) (h2rb:True) (hqdtc132_1:(ltI ((A.length:Nat):Int) ((A.length:Nat):Int))=false) (v:BaseW) (eb:Nat→Option Nat) (ec:Nat→Nat):Goes Try.prog 117 dtc1K35 ((q20_11 A B L W m ya yf yl yw)) (bw v 1 eb ec) (AfterN Try.prog 117 dtc1K34 (bw v 1 eb ec) (q20_13 A B L eb ec m v)):=by
 obtain ⟨hcl_A,hcl_L,hcl_B,hcl_W⟩:=hcZ20 A B L W
 obtain ⟨hn,ha,he,hl,hw⟩:=clE_zero hz
 have he2:=he
 unfold eqP degI at he2
 have hm91:m + 1≤91:=by have:=deg_bd hn ha he 0 (by omega); omega
 have ghqdtc121_1:=ltI_false hqdtc121_1
 have ghqdtc132_1:=ltI_false hqdtc132_1
 refine goes_seqA (by kernel_rfl) ?_
 exact goes_leafA isN_e (goes_told Try.checked.mixed (known_gp) 200 (T':=(q20_8 A B L W m ya yf yl yw)) (e:=.normal) (ps:=[]) [.go] (by kernel_rfl) (by kernel_rfl) trivial rfl) (en_n (dtc1_39 ya yl yf yw A L B W m hz hm h0rb hqdtc121_1 h2rb hqdtc132_1 v eb ec))
theorem dtc1_33 (ya yl yf yw:Value) (A:List Int) (L:List (Int×Int)) (B:List Bool) (W:List Int) (m:Nat) (hz:clE (cI A) A.length (cR L) L.length B.length (cI W) W.length=0) (hm:W.length=m + 1) (h0rb:True) (hqdtc121_1:(ltI (((m) + 1:Nat):Int) ((W.length:Nat):Int))=false) (h2rb:True) (hqdtc132_1:(ltI ((A.length:Nat):Int) ((A.length:Nat):Int))=false) (v:BaseW) (eb:Nat→Option Nat) (ec:Nat→Nat):Goes Try.prog 117 dtc1K23 ((q20_11 A B L W m ya yf yl yw)) (bw v 1 eb ec) (q20_13 A B L eb ec m v):=by
 exact goes_seqA (by kernel_rfl) (dtc1_36 ya yl yf yw A L B W m hz hm h0rb hqdtc121_1 h2rb hqdtc132_1 v eb ec)
theorem dtc1_31 (ya yl yf yw:Value) (A:List Int) (L:List (Int×Int)) (B:List Bool) (W:List Int) (m:Nat) (hz:clE (cI A) A.length (cR L) L.length B.length (cI W) W.length=0) (hm:W.length=m + 1) (h0rb:True) (hqdtc121_1:(ltI (((m) + 1:Nat):Int) ((W.length:Nat):Int))=false) (j:Nat) (hj1:j≤A.length) (hj2:True) (v:BaseW) (eb:Nat→Option Nat) (ec:Nat→Nat):Goes Try.prog 117 dtc1K30 (⟨[(1,(.ptr 1 0)),(4,(.slu 2 0 (m + 1) 0)),(5,(.slu 3 0 (m + 1) 0)),(7,(.v (.int .i64 ((j:Nat):Int))))],[],4,[(q20_26 A B L W ya yf yl yw),(2,(.row (cI (tI (loA (cI A) (cR L) j) (m + 1))) 2 1)),(3,(.row (cI (tI (hiA (cI A) (cR L) j) (m + 1))) 2 1))]⟩) (bw v 1 eb ec) (StepC Try.prog 117 2 (fun j:{j:Nat // j≤A.length∧True}=>⟨[(1,(.ptr 1 0)),(4,(.slu 2 0 (m + 1) 0)),(5,(.slu 3 0 (m + 1) 0)),(7,(.v (.int .i64 ((j.1:Nat):Int))))],[],4,[(q20_26 A B L W ya yf yl yw),(2,(.row (cI (tI (loA (cI A) (cR L) j.1) (m + 1))) 2 1)),(3,(.row (cI (tI (hiA (cI A) (cR L) j.1) (m + 1))) 2 1))]⟩) (fun j:{j:Nat // j≤A.length∧True}=>A.length - j.1) dtc1K23 (bw v 1 eb ec) (q20_13 A B L eb ec m v) (⟨j,hj1,hj2⟩:{j:Nat // j≤A.length∧True})):=by
 obtain ⟨hcl_A,hcl_L,hcl_B,hcl_W⟩:=hcZ20 A B L W
 obtain ⟨hn,ha,he,hl,hw⟩:=clE_zero hz
 have he2:=he
 unfold eqP degI at he2
 have hm91:m + 1≤91:=by have:=deg_bd hn ha he 0 (by omega); omega
 have ghqdtc121_1:=ltI_false hqdtc121_1
 rcases Bool.eq_false_or_eq_true (ltI ((j:Nat):Int) ((A.length:Nat):Int)) with hqdtc132_1 | hqdtc132_1
 ·skip
  have ghqdtc132_1:=ltI_true hqdtc132_1
  have hd:=deg_bd hn ha he j (by omega)
  exact goes_leafA isN_e (goes_told Try.checked.mixed (known_gp) 200 (T':=(q20_3 A B L W j m ya yf yl yw)) (e:=.normal) (ps:=[ltI ((j:Nat):Int) ((A.length:Nat):Int)=true,j < A.length,loadL Try.prog (cI A) (j * 1) 2=some (AV.v (Value.int IntKind.i64 (intAt (cI A) (j * 1)))),0 < A.length,loadL Try.prog (cI A) (0 * 1) 2=some (AV.v (Value.int IntKind.i64 (intAt (cI A) (0 * 1)))),inR IntKind.i64 (intAt (cI A) (j * 1) - intAt (cI A) (0 * 1)),j < L.length,j * 2 + 0 < (cR L).length,loadL Try.prog (cR L) (j * 2 + 0) 2=some (AV.v (Value.int IntKind.i64 (intAt (cR L) (j * 2 + 0)))),j < L.length,j * 2 + 1 < (cR L).length,loadL Try.prog (cR L) (j * 2 + 1) 2=some (AV.v (Value.int IntKind.i64 (intAt (cR L) (j * 2 + 1)))),0≤intAt (cI A) (j * 1) - intAt (cI A) (0 * 1),(intAt (cI A) (j * 1) - intAt (cI A) (0 * 1)).toNat < m + 1,0 + (intAt (cI A) (j * 1) - intAt (cI A) (0 * 1)).toNat * 1 + (AV.v (Value.int IntKind.i64 (intAt (cR L) (j * 2 + 0)))).cells.length≤(cI (tI (loA (cI A) (cR L) j) (m + 1))).length,0≤intAt (cI A) (j * 1) - intAt (cI A) (0 * 1),(intAt (cI A) (j * 1) - intAt (cI A) (0 * 1)).toNat < m + 1,0 + (intAt (cI A) (j * 1) - intAt (cI A) (0 * 1)).toNat * 1 + (AV.v (Value.int IntKind.i64 (intAt (cR L) (j * 2 + 1)))).cells.length≤(cI (tI (hiA (cI A) (cR L) j) (m + 1))).length,inR IntKind.i64 (((j:Nat):Int) + 1)]) [.go,.go,.go,.go,.go,.b true,.go,.go,.go,.sym,.sym,.go,.go,.sym,.sym,.go,.go,.go,.go,.go,.go,.go,.go,.go,.sym,.sym,.sym,.go,.go,.go,.sym,.sym,.sym,.nat,.sym,.nat,.sym,.go,.go,.go] (by kernel_rfl) (by kernel_rfl) ⟨hqdtc132_1,(by omega),(cI_ld (by omega) 2 (Try.underlying2) rfl),(by omega),(cI_ld (by omega) 2 (Try.underlying2) rfl),(iRZ20 (by omega) (by omega)),(by omega),(by omega),(cR_ld (by omega) 2 (Try.underlying2) rfl),(by omega),(by omega),(cR_ld (by omega) 2 (Try.underlying2) rfl),(by omega),(by omega),(by show _ + 1≤_; rw [cI_len,tI_len]; omega),(by omega),(by omega),(by show _ + 1≤_; rw [cI_len,tI_len]; omega),(iRZ20 (by omega) (by omega)),trivial⟩ rfl) (en_on (⟨j + 1,by omega,trivial⟩) (by show A.length - (j + 1) < A.length - j; omega) (show ((q20_3 A B L W j m ya yf yl yw):Ev.Lit)=⟨[(1,(.ptr 1 0)),(4,(.slu 2 0 (m + 1) 0)),(5,(.slu 3 0 (m + 1) 0)),(7,(.v (.int .i64 (((j + 1):Nat):Int))))],[],4,[(q20_26 A B L W ya yf yl yw),(2,(.row (cI (tI (loA (cI A) (cR L) (j + 1)) (m + 1))) 2 1)),(3,(.row (cI (tI (hiA (cI A) (cR L) (j + 1)) (m + 1))) 2 1))]⟩ from by have hz_:=congr (congrArg (fun (xq0:Ev.AB) (xq1:Ev.AB)=>(⟨[(1,(.ptr 1 0)),(4,(.slu 2 0 (m + 1) 0)),(5,(.slu 3 0 (m + 1) 0)),(7,(.v (.int .i64 (((j + 1):Nat):Int))))],[],4,[(q20_26 A B L W ya yf yl yw),(2,xq0),(3,xq1)]⟩:Ev.Lit)) (congrArg (fun z=>Ev.AB.row z 2 1) (show ((splice (cI (tI (loA (cI A) (cR L) j) (m + 1))) (0 + (intAt (cI A) (j * 1) - intAt (cI A) (0 * 1)).toNat * 1) (AV.v (Value.int IntKind.i64 (intAt (cR L) (j * 2 + 0)))).cells):List Ev.AV)=(cI (tI (loA (cI A) (cR L) (j + 1)) (m + 1))) from by exact up_at (degA (cI A) j).toNat _ (by unfold degA; omega) (by unfold degA; omega)))) (congrArg (fun z=>Ev.AB.row z 2 1) (show ((splice (cI (tI (hiA (cI A) (cR L) j) (m + 1))) (0 + (intAt (cI A) (j * 1) - intAt (cI A) (0 * 1)).toNat * 1) (AV.v (Value.int IntKind.i64 (intAt (cR L) (j * 2 + 1)))).cells):List Ev.AV)=(cI (tI (hiA (cI A) (cR L) (j + 1)) (m + 1))) from by exact up_at (degA (cI A) j).toNat _ (by unfold degA; omega) (by unfold degA; omega))); exact hz_))
 ·skip
  have ghqdtc132_1:=ltI_false hqdtc132_1
  obtain rfl:j=A.length:=by omega
  exact goes_leafA isX_e (goes_told Try.checked.mixed (known_gp) 200 (T':=(q20_11 A B L W m ya yf yl yw)) (e:=.exit 2) (ps:=[ltI ((A.length:Nat):Int) ((A.length:Nat):Int)=false]) [.go,.go,.go,.go,.go,.b false] (by kernel_rfl) (by kernel_rfl) ⟨hqdtc132_1,trivial⟩ rfl) (en_sx (dtc1_33 ya yl yf yw A L B W m hz hm h0rb hqdtc121_1 hj2  hqdtc132_1 v eb ec))
theorem dtc1_29 (ya yl yf yw:Value) (A:List Int) (L:List (Int×Int)) (B:List Bool) (W:List Int) (m:Nat) (hz:clE (cI A) A.length (cR L) L.length B.length (cI W) W.length=0) (hm:W.length=m + 1) (h0rb:True) (hqdtc121_1:(ltI (((m) + 1:Nat):Int) ((W.length:Nat):Int))=false) (v:BaseW) (eb:Nat→Option Nat) (ec:Nat→Nat):Goes Try.prog 117 dtc1K26 ((q20_10 A B L W m ya yf yl yw)) (bw v 1 eb ec) (AfterN Try.prog 117 dtc1K23 (bw v 1 eb ec) (q20_13 A B L eb ec m v)):=by
 obtain ⟨hcl_A,hcl_L,hcl_B,hcl_W⟩:=hcZ20 A B L W
 obtain ⟨hn,ha,he,hl,hw⟩:=clE_zero hz
 have he2:=he
 unfold eqP degI at he2
 have hm91:m + 1≤91:=by have:=deg_bd hn ha he 0 (by omega); omega
 have ghqdtc121_1:=ltI_false hqdtc121_1
 exact goes_loopA (id:=2) (by kernel_rfl) (by kernel_rfl) (fun j:{j:Nat // j≤A.length∧True}=>⟨[(1,(.ptr 1 0)),(4,(.slu 2 0 (m + 1) 0)),(5,(.slu 3 0 (m + 1) 0)),(7,(.v (.int .i64 ((j.1:Nat):Int))))],[],4,[(q20_26 A B L W ya yf yl yw),(2,(.row (cI (tI (loA (cI A) (cR L) j.1) (m + 1))) 2 1)),(3,(.row (cI (tI (hiA (cI A) (cR L) j.1) (m + 1))) 2 1))]⟩) (fun j:{j:Nat // j≤A.length∧True}=>A.length - j.1) (fun i=>dtc1_31 ya yl yf yw A L B W m hz hm h0rb hqdtc121_1 i.1 i.2.1 i.2.2 v eb ec) ⟨0,Nat.zero_le _,trivial⟩
theorem dtc1_28 (ya yl yf yw:Value) (A:List Int) (L:List (Int×Int)) (B:List Bool) (W:List Int) (m:Nat) (hz:clE (cI A) A.length (cR L) L.length B.length (cI W) W.length=0) (hm:W.length=m + 1) (h0rb:True) (hqdtc121_1:(ltI (((m) + 1:Nat):Int) ((W.length:Nat):Int))=false) (v:BaseW) (eb:Nat→Option Nat) (ec:Nat→Nat):Goes Try.prog 117 dtc1K26 ((q20_10 A B L W m ya yf yl yw)) (bw v 1 eb ec) (AfterN Try.prog 117 dtc1K23 (bw v 1 eb ec) (q20_13 A B L eb ec m v)):=by
 exact dtc1_29 ya yl yf yw A L B W m hz hm h0rb hqdtc121_1 v eb ec
theorem dtc1_25 (ya yl yf yw:Value) (A:List Int) (L:List (Int×Int)) (B:List Bool) (W:List Int) (m:Nat) (hz:clE (cI A) A.length (cR L) L.length B.length (cI W) W.length=0) (hm:W.length=m + 1) (h0rb:True) (hqdtc121_1:(ltI (((m) + 1:Nat):Int) ((W.length:Nat):Int))=false) (v:BaseW) (eb:Nat→Option Nat) (ec:Nat→Nat):Goes Try.prog 117 dtc1K24 ((q20_12 A B L W m ya yf yl yw)) (bw v 1 eb ec) (AfterN Try.prog 117 dtc1K23 (bw v 1 eb ec) (q20_13 A B L eb ec m v)):=by
 obtain ⟨hcl_A,hcl_L,hcl_B,hcl_W⟩:=hcZ20 A B L W
 obtain ⟨hn,ha,he,hl,hw⟩:=clE_zero hz
 have he2:=he
 unfold eqP degI at he2
 have hm91:m + 1≤91:=by have:=deg_bd hn ha he 0 (by omega); omega
 have ghqdtc121_1:=ltI_false hqdtc121_1
 refine goes_seqA (by kernel_rfl) ?_
 exact goes_leafA isN_e (goes_told Try.checked.mixed (known_gp) 200 (T':=(q20_10 A B L W m ya yf yl yw)) (e:=.normal) (ps:=[]) [.go] (by kernel_rfl) (by kernel_rfl) trivial rfl) (en_n (dtc1_28 ya yl yf yw A L B W m hz hm h0rb hqdtc121_1 v eb ec))
theorem dtc1_22 (ya yl yf yw:Value) (A:List Int) (L:List (Int×Int)) (B:List Bool) (W:List Int) (m:Nat) (hz:clE (cI A) A.length (cR L) L.length B.length (cI W) W.length=0) (hm:W.length=m + 1) (h0rb:True) (hqdtc121_1:(ltI (((m) + 1:Nat):Int) ((W.length:Nat):Int))=false) (v:BaseW) (eb:Nat→Option Nat) (ec:Nat→Nat):Goes Try.prog 117 dtc1K9 ((q20_12 A B L W m ya yf yl yw)) (bw v 1 eb ec) (q20_13 A B L eb ec m v):=by
 exact goes_seqA (by kernel_rfl) (dtc1_25 ya yl yf yw A L B W m hz hm h0rb hqdtc121_1 v eb ec)
theorem dtc1_20 (ya yl yf yw:Value) (A:List Int) (L:List (Int×Int)) (B:List Bool) (W:List Int) (m:Nat) (hz:clE (cI A) A.length (cR L) L.length B.length (cI W) W.length=0) (hm:W.length=m + 1) (i:Nat) (hi1:(i + 1)≤(m + 1)) (hi2:True) (v:BaseW) (eb:Nat→Option Nat) (ec:Nat→Nat):Goes Try.prog 117 dtc1K17 ((q20_9 A B L W i ya yf yl yw)) (bw v 1 eb ec) (StepC Try.prog 117 0 (fun i:{i:Nat // i≤(m + 1)∧True}=>Ev.fam0 (q20_15 A B L W ya yf yl yw) (fun i=>(q20_9 A B L W i ya yf yl yw)) i.1) (fun i:{i:Nat // i≤(m + 1)∧True}=>(m + 1) - i.1) dtc1K9 (bw v 1 eb ec) (q20_13 A B L eb ec m v) (⟨(i + 1),hi1,hi2⟩:{i:Nat // i≤(m + 1)∧True})):=by
 obtain ⟨hcl_A,hcl_L,hcl_B,hcl_W⟩:=hcZ20 A B L W
 obtain ⟨hn,ha,he,hl,hw⟩:=clE_zero hz
 have he2:=he
 unfold eqP degI at he2
 have hm91:m + 1≤91:=by have:=deg_bd hn ha he 0 (by omega); omega
 rcases Bool.eq_false_or_eq_true (ltI ((i + 1:Nat):Int) ((W.length:Nat):Int)) with hqdtc121_1 | hqdtc121_1
 ·skip
  have ghqdtc121_1:=ltI_true hqdtc121_1
  exact goes_leafA isN_e (goes_cutR Try.checked.mixed (known_gp) 200 (T':=⟨[(1,(.ptr 1 0)),(4,(.slu 2 0 ((i + 1) + 1) 0)),(5,(.slu 3 0 ((i + 1) + 1) 0)),(6,(.v (.int .i64 ((((i + 1) + 1):Nat):Int))))],[],4,[(q20_26 A B L W ya yf yl yw),(2,(.row (cI (tI (loA (cI A) (cR L) 0) ((i + 1) + 1))) 2 1)),(3,(.row (cI (tI (hiA (cI A) (cR L) 0) ((i + 1) + 1))) 2 1))]⟩) (e:=.normal) (m:=8) (ps:=[ltI ((i + 1:Nat):Int) ((W.length:Nat):Int)=true,(cI (tI (loA (cI A) (cR L) 0) (i + 1))).length=(i + 1) * 1,i + 1 + 1≤1000000,(cI (tI (hiA (cI A) (cR L) 0) (i + 1))).length=(i + 1) * 1,i + 1 + 1≤1000000,inR IntKind.i64 (((i + 1:Nat):Int) + 1)]) [.go,.go,.go,.go,.go,.b true,.go,.go,.sym,.go,.go,.sym,.go,.go,.go,.go,.go] [0,1,5,7] [(.ptr 1 0),(.slu 5 0 (i + 1 + 1) 0),(.slu 7 0 (i + 1 + 1) 0),(.v (.int .i64 (((i + 1:Nat):Int) + 1)))] [(q20_27 A B L W ya yf yl yw),(.row (q20_22 A L i) 2 1),(.row (q20_21 A L i) 2 1)] (by kernel_rfl) (by kernel_rfl) ⟨hqdtc121_1,(by rw [cI_len,tI_len]; omega),(by omega),(by rw [cI_len,tI_len]; omega),(by omega),(iRZ20 (by omega) (by omega)),trivial⟩ rfl rfl (by decide) rfl ⟨nr_ptr rfl,nr_slu rfl,nr_slu rfl,nr_int (show ((((i + 1:Nat):Int) + 1):Int)=((((i + 1) + 1):Nat):Int) from by omega),trivial⟩ ⟨⟨by show 1 < 4; decide,nrb_cells (nrl_cons (nr_xl (nrl_plain (cI_plain A))) (nrl_cons (nr_xl (nrl_plain (cR_plain L))) (nrl_cons (nr_xl (nrl_plain (cB_plain B))) (nrl_cons (nr_xl (nrl_plain (cI_plain W))) (nrl_nil)))))⟩,⟨by show 2 < 4; decide,nrb_row (nrl_eq (show ((cI (tI (loA (cI A) (cR L) 0) ((i + 1) + 1))):List AV)=(q20_22 A L i) from by first | exact (tI_one _).symm | exact (tI_app _ _).symm) (cI_plain _))⟩,⟨by show 3 < 4; decide,nrb_row (nrl_eq (show ((cI (tI (hiA (cI A) (cR L) 0) ((i + 1) + 1))):List AV)=(q20_21 A L i) from by first | exact (tI_one _).symm | exact (tI_app _ _).symm) (cI_plain _))⟩,trivial⟩ (by show 1≤4; decide) (fun b hb=>(by have hb2:b < 1:=hb; match b,hb2 with | 0,_=>rfl))) (en_on (⟨(i + 1) + 1,by omega,trivial⟩) (by show (m + 1) - ((i + 1) + 1) < (m + 1) - (i + 1); omega) rfl)
 ·skip
  have ghqdtc121_1:=ltI_false hqdtc121_1
  obtain rfl:m=i:=by omega
  exact goes_leafA isX_e (goes_told Try.checked.mixed (known_gp) 200 (T':=(q20_12 A B L W m ya yf yl yw)) (e:=.exit 0) (ps:=[ltI (((m) + 1:Nat):Int) ((W.length:Nat):Int)=false]) [.go,.go,.go,.go,.go,.b false] (by kernel_rfl) (by kernel_rfl) ⟨hqdtc121_1,trivial⟩ rfl) (en_sx (dtc1_22 ya yl yf yw A L B W m hz hm hi2  hqdtc121_1 v eb ec))
theorem dtc1_16 (ya yl yf yw:Value) (A:List Int) (L:List (Int×Int)) (B:List Bool) (W:List Int) (m:Nat) (hz:clE (cI A) A.length (cR L) L.length B.length (cI W) W.length=0) (hm:W.length=m + 1) (v:BaseW) (eb:Nat→Option Nat) (ec:Nat→Nat):Goes Try.prog 117 dtc1K12 ((q20_16 A B L W ya yf yl yw)) (bw v 1 eb ec) (AfterN Try.prog 117 dtc1K9 (bw v 1 eb ec) (q20_13 A B L eb ec m v)):=by
 obtain ⟨hcl_A,hcl_L,hcl_B,hcl_W⟩:=hcZ20 A B L W
 obtain ⟨hn,ha,he,hl,hw⟩:=clE_zero hz
 have he2:=he
 unfold eqP degI at he2
 have hm91:m + 1≤91:=by have:=deg_bd hn ha he 0 (by omega); omega
 exact goes_loopA (id:=0) (by kernel_rfl) (by kernel_rfl) (fun i:{i:Nat // i≤(m + 1)∧True}=>Ev.fam0 (q20_15 A B L W ya yf yl yw) (fun i=>(q20_9 A B L W i ya yf yl yw)) i.1) (fun i:{i:Nat // i≤(m + 1)∧True}=>(m + 1) - i.1) (fun i=>match i with | ⟨0,h1,h2⟩=>dtc1_18 ya yl yf yw A L B W m hz hm h1 h2 v eb ec | ⟨j + 1,h1,h2⟩=>dtc1_20 ya yl yf yw A L B W m hz hm j h1 h2 v eb ec) ⟨0,Nat.zero_le _,trivial⟩
theorem dtc1_14 (ya yl yf yw:Value) (A:List Int) (L:List (Int×Int)) (B:List Bool) (W:List Int) (m:Nat) (hz:clE (cI A) A.length (cR L) L.length B.length (cI W) W.length=0) (hm:W.length=m + 1) (v:BaseW) (eb:Nat→Option Nat) (ec:Nat→Nat):Goes Try.prog 117 dtc1K12 ((q20_16 A B L W ya yf yl yw)) (bw v 1 eb ec) (AfterN Try.prog 117 dtc1K9 (bw v 1 eb ec) (q20_13 A B L eb ec m v)):=by
 exact dtc1_16 ya yl yf yw A L B W m hz hm v eb ec
theorem dtc1_11 (ya yl yf yw:Value) (A:List Int) (L:List (Int×Int)) (B:List Bool) (W:List Int) (m:Nat) (hz:clE (cI A) A.length (cR L) L.length B.length (cI W) W.length=0) (hm:W.length=m + 1) (v:BaseW) (eb:Nat→Option Nat) (ec:Nat→Nat):Goes Try.prog 117 dtc1K10 ((q20_20 A B L W ya yf yl yw)) (bw v 1 eb ec) (AfterN Try.prog 117 dtc1K9 (bw v 1 eb ec) (q20_13 A B L eb ec m v)):=by
 obtain ⟨hcl_A,hcl_L,hcl_B,hcl_W⟩:=hcZ20 A B L W
 obtain ⟨hn,ha,he,hl,hw⟩:=clE_zero hz
 have he2:=he
 unfold eqP degI at he2
 have hm91:m + 1≤91:=by have:=deg_bd hn ha he 0 (by omega); omega
 refine goes_seqA (by kernel_rfl) ?_
 exact goes_leafA isN_e (goes_told Try.checked.mixed (known_gp) 200 (T':=(q20_16 A B L W ya yf yl yw)) (e:=.normal) (ps:=[]) [.go] (by kernel_rfl) (by kernel_rfl) trivial rfl) (en_n (dtc1_14 ya yl yf yw A L B W m hz hm v eb ec))
theorem dtc1_8 (ya yl yf yw:Value) (A:List Int) (L:List (Int×Int)) (B:List Bool) (W:List Int) (m:Nat) (hz:clE (cI A) A.length (cR L) L.length B.length (cI W) W.length=0) (hm:W.length=m + 1) (v:BaseW) (eb:Nat→Option Nat) (ec:Nat→Nat):Goes Try.prog 117 dtc1K6 ((q20_20 A B L W ya yf yl yw)) (bw v 1 eb ec) (q20_13 A B L eb ec m v):=by
 exact goes_seqA (by kernel_rfl) (dtc1_11 ya yl yf yw A L B W m hz hm v eb ec)
theorem dtc1_5 (ya yl yf yw:Value) (A:List Int) (L:List (Int×Int)) (B:List Bool) (W:List Int) (m:Nat) (hz:clE (cI A) A.length (cR L) L.length B.length (cI W) W.length=0) (hm:W.length=m + 1) (v:BaseW) (eb:Nat→Option Nat) (ec:Nat→Nat):Goes Try.prog 117 dtc1K3 ((q20_24 A B L W ya yf yl yw)) (bw v 1 eb ec) (q20_13 A B L eb ec m v):=by
 obtain ⟨hcl_A,hcl_L,hcl_B,hcl_W⟩:=hcZ20 A B L W
 obtain ⟨hn,ha,he,hl,hw⟩:=clE_zero hz
 have he2:=he
 unfold eqP degI at he2
 have hm91:m + 1≤91:=by have:=deg_bd hn ha he 0 (by omega); omega
 refine goes_seqA (by kernel_rfl) ?_
 exact goes_leafA isN_e (goes_told Try.checked.mixed (known_gp) 200 (T':=(q20_20 A B L W ya yf yl yw)) (e:=.normal) (ps:=[]) [.go,.go] (by kernel_rfl) (by kernel_rfl) trivial rfl) (en_n (dtc1_8 ya yl yf yw A L B W m hz hm v eb ec))
theorem dtc1_2 (ya yl yf yw:Value) (A:List Int) (L:List (Int×Int)) (B:List Bool) (W:List Int) (m:Nat) (hz:clE (cI A) A.length (cR L) L.length B.length (cI W) W.length=0) (hm:W.length=m + 1) (v:BaseW) (eb:Nat→Option Nat) (ec:Nat→Nat):Goes Try.prog 117 dtc1K1 ((q20_25 A B L W ya yf yl yw)) (bw v 1 eb ec) (q20_13 A B L eb ec m v):=by
 obtain ⟨hcl_A,hcl_L,hcl_B,hcl_W⟩:=hcZ20 A B L W
 obtain ⟨hn,ha,he,hl,hw⟩:=clE_zero hz
 have he2:=he
 unfold eqP degI at he2
 have hm91:m + 1≤91:=by have:=deg_bd hn ha he 0 (by omega); omega
 refine goes_seqA (by kernel_rfl) ?_
 exact goes_leafA isN_e (goes_told Try.checked.mixed (known_gp) 200 (T':=(q20_24 A B L W ya yf yl yw)) (e:=.normal) (ps:=[]) [.go,.go,.go] (by kernel_rfl) (by kernel_rfl) trivial rfl) (en_n (dtc1_5 ya yl yf yw A L B W m hz hm v eb ec))
noncomputable def dtK5:Code:=tlC dtK3
noncomputable def dtK7:Code:=loopC (tlC (hdC dtK5))
noncomputable def dtK8:Code:=tlC dtK5
theorem dt_9 (ya yl yf yw:Value) (A:List Int) (L:List (Int×Int)) (B:List Bool) (W:List Int) (m:Nat) (hz:clE (cI A) A.length (cR L) L.length B.length (cI W) W.length=0) (hm:W.length=m + 1) (q0:Nat) (h0a:q0≤(m + 1)) (h0b:∀ x,x < q0→¬ (rdB (cI A) A.length (cR L) (cB B) (m + 1) (m + 1)).2 x < (rdB (cI A) A.length (cR L) (cB B) (m + 1) (m + 1)).1 x) (h0c:(m + 1)≤q0) (w:World):Goes Try.prog 26 dtK8 (⟨[],[],4,[]⟩) w (OutR Try.prog Try.f26 26 (.bool (clB (dtd (cI A) A.length (cR L) (cB B) (m + 1)))) w):=by
 obtain ⟨hcl_A,hcl_L,hcl_B,hcl_W⟩:=hcZ20 A B L W
 obtain ⟨hn,ha,he,hl,hw⟩:=clE_zero hz
 have he2:=he
 unfold eqP degI at he2
 have hm91:m + 1≤91:=by have:=deg_bd hn ha he 0 (by omega); omega
 exact goes_eqR (r:=(.bool .false)) (by rw [clB_no (show ¬ dtd (cI A) A.length (cR L) (cB B) (m + 1) from fun ⟨x,hx,hl⟩=>h0b x (by omega) hl)]) (goes_out Try.checked.mixed (known_gp) 200 (v:=(.v (.bool .false))) (ps:=[]) [.go] (by kernel_rfl) (by kernel_rfl) trivial rfl)
theorem dt_6 (ya yl yf yw:Value) (A:List Int) (L:List (Int×Int)) (B:List Bool) (W:List Int) (m:Nat) (hz:clE (cI A) A.length (cR L) L.length B.length (cI W) W.length=0) (hm:W.length=m + 1) (w:World):Goes Try.prog 26 dtK5 ((q20_19 A B L m)) w (OutR Try.prog Try.f26 26 (.bool (clB (dtd (cI A) A.length (cR L) (cB B) (m + 1)))) w):=by
 obtain ⟨hcl_A,hcl_L,hcl_B,hcl_W⟩:=hcZ20 A B L W
 obtain ⟨hn,ha,he,hl,hw⟩:=clE_zero hz
 have he2:=he
 unfold eqP degI at he2
 have hm91:m + 1≤91:=by have:=deg_bd hn ha he 0 (by omega); omega
 refine goes_spineQ (ι:={q:Nat // q≤(m + 1)∧∀ x,x < q→¬ (rdB (cI A) A.length (cR L) (cB B) (m + 1) (m + 1)).2 x < (rdB (cI A) A.length (cR L) (cB B) (m + 1) (m + 1)).1 x}) (T:=(fun q:{q:Nat // q≤(m + 1)∧∀ x,x < q→¬ (rdB (cI A) A.length (cR L) (cB B) (m + 1) (m + 1)).2 x < (rdB (cI A) A.length (cR L) (cB B) (m + 1) (m + 1)).1 x}=>⟨[(3,(.slu 2 0 (m + 1) 0)),(4,(.slu 3 0 (m + 1) 0)),(5,(.v (.int .i64 ((q.1:Nat):Int))))],[],4,[(q20_32 A B L m),(q20_31 A B L m)]⟩)) (R:=(fun q:{q:Nat // q≤(m + 1)∧∀ x,x < q→¬ (rdB (cI A) A.length (cR L) (cB B) (m + 1) (m + 1)).2 x < (rdB (cI A) A.length (cR L) (cB B) (m + 1) (m + 1)).1 x}=>(m + 1)≤q.1)) (by kernel_rfl) (goes_spine (T':=(q20_14 A B L m)) (by kernel_rfl) (goes_told Try.checked.mixed (known_gp) 200 (T':=(q20_14 A B L m)) (e:=.normal) (ps:=[]) [.go] (by kernel_rfl) (by kernel_rfl) trivial rfl) (goes_blockstep (by kernel_rfl) (fun q:{q:Nat // q≤(m + 1)∧∀ x,x < q→¬ (rdB (cI A) A.length (cR L) (cB B) (m + 1) (m + 1)).2 x < (rdB (cI A) A.length (cR L) (cB B) (m + 1) (m + 1)).1 x}=>⟨[(3,(.slu 2 0 (m + 1) 0)),(4,(.slu 3 0 (m + 1) 0)),(5,(.v (.int .i64 ((q.1:Nat):Int))))],[],4,[(q20_32 A B L m),(q20_31 A B L m)]⟩) (fun q:{q:Nat // q≤(m + 1)∧∀ x,x < q→¬ (rdB (cI A) A.length (cR L) (cB B) (m + 1) (m + 1)).2 x < (rdB (cI A) A.length (cR L) (cB B) (m + 1) (m + 1)).1 x}=>(m + 1) - q.1) (fun i=>?_) ⟨0,Nat.zero_le _,(fun x hx=>by omega)⟩)) (fun ixR hxR=>goes_less (by kernel_rfl) (by kernel_rfl) (by kernel_rfl) (by kernel_rfl) (dt_9 ya yl yf yw A L B W m hz hm ixR.1 ixR.2.1 ixR.2.2 hxR w))
 obtain ⟨q,hi1,hi2⟩:=i
 show Goes Try.prog 26 dtK7 (⟨[(3,(.slu 2 0 (m + 1) 0)),(4,(.slu 3 0 (m + 1) 0)),(5,(.v (.int .i64 ((q:Nat):Int))))],[],4,[(q20_32 A B L m),(q20_31 A B L m)]⟩) w (StepQ _ _ _ _ _ _ _ _)
 rcases Bool.eq_false_or_eq_true (ltI ((q:Nat):Int) ((m + 1:Nat):Int)) with hl0_1 | hl0_1
 ·skip
  have ghl0_1:=ltI_true hl0_1
  rcases Bool.eq_false_or_eq_true (ltI (intAt (cI (tI (rdB (cI A) A.length (cR L) (cB B) (m + 1) (m + 1)).snd (m + 1))) (0 + q * 1)) (intAt (cI (tI (rdB (cI A) A.length (cR L) (cB B) (m + 1) (m + 1)).fst (m + 1))) (0 + q * 1))) with hl0_2 | hl0_2
  ·skip
   have ghl0_2:=ltI_true hl0_2
   rw [show 0 + q * 1=q by omega,tI_int (by omega),tI_int (by omega)] at ghl0_2
   exact Ev.step_ret (goes_eqR2 (r:=(.bool .true)) (by rw [clB_yes (show dtd (cI A) A.length (cR L) (cB B) (m + 1) from ⟨q,by omega,by omega⟩)]) (goes_ret Try.checked.mixed (known_gp) 200 (v:=(.v (.bool .true))) (ps:=[ltI ((q:Nat):Int) ((m + 1:Nat):Int)=true,q < m + 1,loadL Try.prog (cI (tI (rdB (cI A) A.length (cR L) (cB B) (m + 1) (m + 1)).fst (m + 1))) (0 + q * 1) 2=some (AV.v (Value.int IntKind.i64 (intAt (cI (tI (rdB (cI A) A.length (cR L) (cB B) (m + 1) (m + 1)).fst (m + 1))) (0 + q * 1)))),q < m + 1,loadL Try.prog (cI (tI (rdB (cI A) A.length (cR L) (cB B) (m + 1) (m + 1)).snd (m + 1))) (0 + q * 1) 2=some (AV.v (Value.int IntKind.i64 (intAt (cI (tI (rdB (cI A) A.length (cR L) (cB B) (m + 1) (m + 1)).snd (m + 1))) (0 + q * 1)))),ltI (intAt (cI (tI (rdB (cI A) A.length (cR L) (cB B) (m + 1) (m + 1)).snd (m + 1))) (0 + q * 1)) (intAt (cI (tI (rdB (cI A) A.length (cR L) (cB B) (m + 1) (m + 1)).fst (m + 1))) (0 + q * 1))=true]) [.go,.go,.go,.go,.b true,.go,.go,.sym,.sym,.go,.go,.sym,.sym,.go,.b true,.go] (by kernel_rfl) (by kernel_rfl) ⟨hl0_1,(by omega),(tI_ld (by omega) 2 (Try.underlying2) rfl),(by omega),(tI_ld (by omega) 2 (Try.underlying2) rfl),hl0_2,trivial⟩ rfl))
  ·skip
   have ghl0_2:=ltI_false hl0_2
   rw [show 0 + q * 1=q by omega,tI_int (by omega),tI_int (by omega)] at ghl0_2
   refine Ev.step_on ⟨q + 1,by omega,up_next hi2 (by omega)⟩ (by show (m + 1) - (q + 1) < (m + 1) - q; omega) ?_
   exact goes_told Try.checked.mixed (known_gp) 200 (T':=⟨[(3,(.slu 2 0 (m + 1) 0)),(4,(.slu 3 0 (m + 1) 0)),(5,(.v (.int .i64 (((q + 1):Nat):Int))))],[],4,[(q20_32 A B L m),(q20_31 A B L m)]⟩) (e:=.normal) (ps:=[ltI ((q:Nat):Int) ((m + 1:Nat):Int)=true,q < m + 1,loadL Try.prog (cI (tI (rdB (cI A) A.length (cR L) (cB B) (m + 1) (m + 1)).fst (m + 1))) (0 + q * 1) 2=some (AV.v (Value.int IntKind.i64 (intAt (cI (tI (rdB (cI A) A.length (cR L) (cB B) (m + 1) (m + 1)).fst (m + 1))) (0 + q * 1)))),q < m + 1,loadL Try.prog (cI (tI (rdB (cI A) A.length (cR L) (cB B) (m + 1) (m + 1)).snd (m + 1))) (0 + q * 1) 2=some (AV.v (Value.int IntKind.i64 (intAt (cI (tI (rdB (cI A) A.length (cR L) (cB B) (m + 1) (m + 1)).snd (m + 1))) (0 + q * 1)))),ltI (intAt (cI (tI (rdB (cI A) A.length (cR L) (cB B) (m + 1) (m + 1)).snd (m + 1))) (0 + q * 1)) (intAt (cI (tI (rdB (cI A) A.length (cR L) (cB B) (m + 1) (m + 1)).fst (m + 1))) (0 + q * 1))=false,inR IntKind.i64 (((q:Nat):Int) + 1)]) [.go,.go,.go,.go,.b true,.go,.go,.sym,.sym,.go,.go,.sym,.sym,.go,.b false,.go,.go,.go] (by kernel_rfl) (by kernel_rfl) ⟨hl0_1,(by omega),(tI_ld (by omega) 2 (Try.underlying2) rfl),(by omega),(tI_ld (by omega) 2 (Try.underlying2) rfl),hl0_2,(iRZ20 (by omega) (by omega)),trivial⟩ rfl
 ·skip
  have ghl0_1:=ltI_false hl0_1
  exact Ev.step_out (by show (m + 1)≤q; omega) (goes_told Try.checked.mixed (known_gp) 200 (T':=⟨[(3,(.slu 2 0 (m + 1) 0)),(4,(.slu 3 0 (m + 1) 0)),(5,(.v (.int .i64 ((q:Nat):Int))))],[],4,[(q20_32 A B L m),(q20_31 A B L m)]⟩) (e:=.exit 0) (ps:=[ltI ((q:Nat):Int) ((m + 1:Nat):Int)=false]) [.go,.go,.go,.go,.b false] (by kernel_rfl) (by kernel_rfl) ⟨hl0_1,trivial⟩ rfl)
theorem dt_4 (ya yl yf yw:Value) (A:List Int) (L:List (Int×Int)) (B:List Bool) (W:List Int) (m:Nat) (hz:clE (cI A) A.length (cR L) L.length B.length (cI W) W.length=0) (hm:W.length=m + 1) (w:World):Goes Try.prog 26 dtK3 ((q20_23 A B L W ya yf yl yw)) w (OutR Try.prog Try.f26 26 (.bool (clB (dtd (cI A) A.length (cR L) (cB B) (m + 1)))) w):=by
 obtain ⟨hcl_A,hcl_L,hcl_B,hcl_W⟩:=hcZ20 A B L W
 obtain ⟨hn,ha,he,hl,hw⟩:=clE_zero hz
 have he2:=he
 unfold eqP degI at he2
 have hm91:m + 1≤91:=by have:=deg_bd hn ha he 0 (by omega); omega
 refine goes_spineQ (ι:=Unit) (T:=fun _:Unit=>(q20_19 A B L m)) (R:=fun _:Unit=>True) (by kernel_rfl) (goes_rg (by kernel_rfl) (goesL_toldC Try.checked.mixed (known_gp) 200 1 (T1:=⟨[(7,(.agg [(.xl (ya) (A.length) 1 (cI A)),(.xl (yl) (L.length) 2 (cR L)),(.xl (yf) (B.length) 1 (cB B)),(.xl (yw) (W.length) 1 (cI W))]))],[],1,[]⟩) (e:=.normal) (ps:=[]) [.go] (by kernel_rfl) (by kernel_rfl) (by kernel_rfl) trivial (goesL_callT (ι:=Unit) (T1:=(q20_25 A B L W ya yf yl yw)) (T2:=(fun _:Unit=>(q20_18 A B L m))) (T3:=fun _:Unit=>⟨[(8,(.tup [(.slu 2 0 (m + 1) 0),(.slu 3 0 (m + 1) 0)]))],[],4,[(2,(.row (cI (tI ((rdB (cI A) A.length (cR L) (cB B) (m + 1) (m + 1)).1) (m + 1))) 2 1)),(3,(.row (cI (tI ((rdB (cI A) A.length (cR L) (cB B) (m + 1) (m + 1)).2) (m + 1))) 2 1))]⟩) (R:=(fun _:Unit=>True)) (k:=61) (szk:=117) (by kernel_rfl) Try.func61 (by kernel_rfl) (by kernel_rfl) (by kernel_rfl) (by kernel_rfl) (fun v eb ec=>dtc1_2 ya yl yf yw A L B W m hz hm v eb ec) (fun _ _=>by kernel_rfl) (fun _ hR=>goesL_toldC Try.checked.mixed (known_gp) 200 5 (T1:=(q20_19 A B L m)) (e:=.normal) (ps:=[]) [.go,.go,.go,.go,.go] (by kernel_rfl) (by kernel_rfl) (by kernel_rfl) trivial (goesL_endQ () hR (by kernel_rfl) (holds_view (by kernel_rfl) (by kernel_rfl) (by kernel_rfl) (by kernel_rfl))))))) (fun _ hxR=>dt_6 ya yl yf yw A L B W m hz hm  w)
theorem dt_2 (ya yl yf yw:Value) (A:List Int) (L:List (Int×Int)) (B:List Bool) (W:List Int) (m:Nat) (hz:clE (cI A) A.length (cR L) L.length B.length (cI W) W.length=0) (hm:W.length=m + 1) (w:World):Goes Try.prog 26 dtK1 (⟨[(0,.agg [.xl ya A.length 1 (cI A),.xl yl L.length 2 (cR L),.xl yf B.length 1 (cB B),.xl yw W.length 1 (cI W)])],[],0,[]⟩) w (OutR Try.prog Try.f26 26 (.bool (clB (dtd (cI A) A.length (cR L) (cB B) (m + 1)))) w):=by
 obtain ⟨hcl_A,hcl_L,hcl_B,hcl_W⟩:=hcZ20 A B L W
 obtain ⟨hn,ha,he,hl,hw⟩:=clE_zero hz
 have he2:=he
 unfold eqP degI at he2
 have hm91:m + 1≤91:=by have:=deg_bd hn ha he 0 (by omega); omega
 exact goes_spine (T':=(q20_23 A B L W ya yf yl yw)) (by kernel_rfl) (goes_told Try.checked.mixed (known_gp) 200 (T':=(q20_23 A B L W ya yf yl yw)) (e:=.normal) (ps:=[]) [.go,.go] (by kernel_rfl) (by kernel_rfl) trivial rfl) (dt_4 ya yl yf yw A L B W m hz hm w)
theorem dt_g (ya yl yf yw:Value) (A:List Int) (L:List (Int×Int)) (B:List Bool) (W:List Int) (m:Nat) (hz:clE (cI A) A.length (cR L) L.length B.length (cI W) W.length=0) (hm:W.length=m + 1):GivesA Try.prog 26 [.agg [.xl ya A.length 1 (cI A),.xl yl L.length 2 (cR L),.xl yf B.length 1 (cB B),.xl yw W.length 1 (cI W)]] (.bool (clB (dtd (cI A) A.length (cR L) (cB B) (m + 1)))) :=
 givesA_parts 26 Try.func26 (by kernel_rfl) (by kernel_rfl) (by kernel_rfl) (fun w=>goes_less (by kernel_rfl) (by kernel_rfl) (by kernel_rfl) (by kernel_rfl) (dt_2 ya yl yf yw A L B W m hz hm w))
end
end Go.Proofs.Ytldekgkjofgacaa
