import Derived.Test.YtmankoikpadkpaaC2
set_option linter.all false
/- All cases as a list; lists compared. -/
namespace Go.Proofs.Ytmankoikpadkpaa
open Go Ev
noncomputable section
def casL:Nat→List (Int×Int)
 | 0=>[]
 | n + 1=>casL n ++ [caseN n]
theorem cas_len:∀ n,(casL n).length=n
 | 0=>rfl
 | n + 1=>by simp [casL,cas_len n]
theorem cas_at:∀ {n k:Nat},k < n→(casL n)[k]? = some (caseN k)
 | 0,k,h=>by omega
 | n + 1,k,h=>by
  simp only [casL]
  by_cases e:k < n
  ·rw [List.getElem?_append_left (by rw [cas_len]; exact e),cas_at e]
  ·obtain rfl:k=n:=by omega
   rw [List.getElem?_append_right (by rw [cas_len]; omega),cas_len,Nat.sub_self]
   rfl
theorem cas_2 (j:Nat):cR (casL (1 + 2 * (j + 1)))=cR (casL (1 + 2 * j)) ++ [.v (.int .i64 ((j:Nat):Int)),.v (.int .i64 (-1)),.v (.int .i64 ((j:Nat):Int)),.v (.int .i64 1)]:=by
 rw [show 1 + 2 * (j + 1)=1 + 2 * j + 1 + 1 by omega]
 simp only [casL]
 rw [caseN_odd,caseN_even,← cR_app,← cR_app,List.append_assoc]
 rfl
theorem cR_at:∀ {P:List (Int×Int)} {k:Nat} {q:Int×Int},P[k]? = some q→(cR P)[k * 2]? = some (.v (.int .i64 q.1))∧(cR P)[k * 2 + 1]? = some (.v (.int .i64 q.2))
 | [],k,q,h=>by simp at h
 | x :: l,0,q,h=>by
  have e:x=q:=by simpa using h
  subst e
  exact ⟨rfl,rfl⟩
 | x :: l,k + 1,q,h=>by
  have e:l[k]? = some q:=by simpa using h
  have r:=cR_at e
  rw [show (k + 1) * 2=k * 2 + 1 + 1 by omega]
  exact ⟨by simpa [cR] using r.1,by simpa [cR] using r.2⟩
theorem cas_1 {n k:Nat} (h:k < n):intAt (cR (casL n)) (k * 2)=(caseN k).1:=intAt_of (cR_at (cas_at h)).1
theorem cas_3 {n k:Nat} (h:k < n):intAt (cR (casL n)) (k * 2 + 1)=(caseN k).2:=intAt_of (cR_at (cas_at h)).2
theorem cas_ca {p k:Nat} (hp:1≤p) (h:k < 1 + 2 * p):caB ((p:Nat):Int) (caseN k).1 (caseN k).2=true:=by
 rw [caB_iff]
 match k,h with
 | 0,_=>exact .inl ⟨rfl,rfl⟩
 | k + 1,h =>
  refine .inr ⟨?_,?_⟩
  ·show (if k % 2=0 then (-1:Int) else 1)=1∨(if k % 2=0 then (-1:Int) else 1) = -1
   by_cases e:k % 2=0
   ·rw [if_pos e]; exact .inr rfl
   ·rw [if_neg e]; exact .inl rfl
  ·show 0≤((k / 2:Nat):Int)∧((k / 2:Nat):Int) < ((p:Nat):Int)
   omega
def unI:List AV→List Int
 | .v (.int _ a) :: l=>a :: unI l
 | _=>[]
theorem unI_cI:∀ L:List Int,unI (cI L)=L
 | []=>rfl
 | q :: l=>by simp only [cI,unI,unI_cI l]
def unR:List AV→List (Int×Int)
 | .v (.int _ a) :: .v (.int _ b) :: l=>(a,b) :: unR l
 | _=>[]
theorem unR_cR:∀ L:List (Int×Int),unR (cR L)=L
 | []=>rfl
 | q :: l=>by simp only [cR,unR,unR_cR l]
def smB (c d:List AV):Bool:=decide (unI c=unI d)
theorem smB_cI (X L:List Int):smB (cI X) (cI L)=decide (X=L):=by unfold smB; rw [unI_cI,unI_cI]
theorem sm_len {X L:List Int} (h:¬ ((X.length:Nat):Int)=((L.length:Nat):Int)):smB (cI X) (cI L)=false:=by
 rw [smB_cI]; exact decide_eq_false (fun e=>h (by rw [e]))
theorem sm_no {X L:List Int} {i:Nat} (hi:i < X.length) (hl:X.length=L.length) (h:¬ intAt (cI X) i=intAt (cI L) i):smB (cI X) (cI L)=false:=by
 rw [smB_cI]; exact decide_eq_false (fun e=>h (by rw [e]))
theorem sm_ok {X L:List Int} (hl:X.length=L.length) (h:∀ j,j < X.length→intAt (cI X) j=intAt (cI L) j):smB (cI X) (cI L)=true:=by
 rw [smB_cI]
 refine decide_eq_true (List.ext_getElem hl (fun j h1 h2=>?_))
 have:=h j h1
 rwa [cI_int h1,cI_int h2] at this
theorem eq_next {X L:List AV} {i:Nat} (h:∀ j,j < i→intAt X j=intAt L j) (h2:intAt X i=intAt L i):∀ j,j < i + 1→intAt X j=intAt L j:=fun j hj=>by
 by_cases e:j < i
 ·exact h j e
 ·obtain rfl:j=i:=by omega
  exact h2
theorem cR_ld {P:List (Int×Int)} {k:Nat} (h:k < P.length):sub (cR P) (k * 2) 2=some [.v (.int .i64 (intAt (cR P) (k * 2))),.v (.int .i64 (intAt (cR P) (k * 2 + 1)))]:=by
 obtain ⟨h1,h2⟩:=cR_at (List.getElem?_eq_getElem h)
 rw [intAt_of h1,intAt_of h2]
 have hl:k * 2 + 2≤(cR P).length:=by rw [cR_len]; omega
 have e:((cR P).drop (k * 2)).take 2=[.v (.int .i64 (P[k]).1),.v (.int .i64 (P[k]).2)]:=by
  apply List.ext_getElem?
  intro j
  rw [List.getElem?_take]
  match j with
  | 0=>simpa using h1
  | 1=>simpa using h2
  | j + 2=>rw [if_neg (by omega)]; rfl
 rw [← e]
 unfold sub
 rw [Nat.ble_eq_true_of_le hl]
theorem cas_load {P:List (Int×Int)} {k:Nat} (h:k < P.length):loadL Try.prog (cR P) (k * 2) 26=some (.agg [.v (.int .i64 (intAt (cR P) (k * 2))),.v (.int .i64 (intAt (cR P) (k * 2 + 1)))]):=by
 have hi:(Try.prog.info? 26).map (fun i=>i.size)=some 2:=by kernel_rfl
 unfold loadL
 cases eu:Try.prog.underlying 26 with
 | none=>exact absurd (show (Try.prog.underlying 26).isSome=true from by kernel_rfl) (by rw [eu]; decide)
 | some d =>
  have hd:aggD d=true:=by
   have h0:(Try.prog.underlying 26).map aggD=some true:=by kernel_rfl
   rw [eu] at h0
   exact Option.some.inj h0
  cases e:Try.prog.info? 26 with
  | none=>rw [e] at hi; cases hi
  | some i =>
   rw [e] at hi
   have hi2:i.size=2:=Option.some.inj hi
   simp only [hd,hi2,cR_ld h]
end
end Go.Proofs.Ytmankoikpadkpaa
