import Derived.Test.YtnphldmnakbknaaGr
import Derived.Test.YtnphldmnakbknaaL0
set_option maxHeartbeats 4000000
set_option linter.all false
/- Streets: lists of flags and of triples, as they lie (mathematics). -/
namespace Go.Proofs.Ytnphldmnakbknaa
open Go Ev
noncomputable section
abbrev cm:=Try.checked.mixed
abbrev pg:=Try.prog
abbrev PL:=List (Int × Int × Int)
abbrev EB:=Nat→Option Nat
abbrev EC:=Nat→Nat
abbrev LN:=List Nat
abbrev bE:=@Bool.eq_false_or_eq_true
abbrev gL:=@goes_leafA
abbrev gS:=@Hd.goes_seqA
abbrev lT:=@ltI_true
abbrev lF:=@ltI_false
abbrev gT:=@goes_told
abbrev gC:=@goes_cutR
abbrev kN:=@known_none
abbrev u3:=@Try.underlying3
abbrev fP:=@freeL_plain
abbrev eO:=@Hd.en_on
abbrev gK:=@goes_cut

theorem iRS1 {a:Int} (h : -9223372036854775808≤a) (k:a≤9223372036854775807):inR .i64 a:=⟨h,k⟩
section
variable (P : PL)
abbrev qS1_5:Nat×Ev.AV:=(27,(.v (.int .i64 P.length)))
abbrev qS1_10:Nat×Ev.AV:=(2,(.v (.int .i64 (.ofNat 2))))
abbrev qS1_6:Ev.Lit:=⟨[qS1_10],[],1,[]⟩
abbrev qS1_7:Ev.Lit:=⟨[qS1_10],[],3,[]⟩
abbrev qS1_8:Ev.Lit:=⟨[qS1_10],[],2,[]⟩
end
def Ev.fam0 {α:Type} (a:α) (f:Nat→α):Nat→α
 | 0=>a
 | n + 1=>f n
theorem fam0_goesK {α:Type} {P:α→Prop} {a:α} {f:Nat→α} {n:Nat} (hz:n=0→P a) (hs:∀ k,n=k + 1→P (f k)):P (Ev.fam0 a f n):=by
 cases n with
 | zero=>exact hz rfl
 | succ n=>exact hs n rfl
def cT:PL→List AV
 | []=>[]
 | r :: l=>.v (.int .i64 r.1) :: .v (.int .i64 r.2.1) :: .v (.int .i64 r.2.2) :: cT l
section
variable (P : PL) (d nI q : Int) (y : Value)
abbrev qS1_9:Nat×Ev.AV:=(26,(.xl (y) (P.length) 3 (cT P)))
abbrev qS1_4:Nat×Ev.AB:=(0,(.cells [(.v (.int .i64 (nI))),(.v (.int .i64 (d))),(.v (.int .i64 (q))),(.xl (y) (P.length) 3 (cT P))] 24))
abbrev qS1_1:Ev.Lit:=⟨[(1,(.ptr 0 0)),(qS1_9 P y),(qS1_5 P),(28,(.v (.int .i64 (.ofNat 0))))],[],1,[(qS1_4 P d nI q y)]⟩
abbrev qS1_2:Ev.Lit:=⟨[(1,(.ptr 0 0)),(3,(.v (.int .i64 (.ofNat 0))))],[],1,[(qS1_4 P d nI q y)]⟩
abbrev qS1_3:Ev.Lit:=⟨[(1,(.ptr 0 0))],[],1,[(qS1_4 P d nI q y)]⟩
end
def cTv:PL→List Value
 | []=>[]
 | r :: l=>.int .i64 r.1 :: .int .i64 r.2.1 :: .int .i64 r.2.2 :: cTv l
theorem cT_plain:∀ L:PL,plainL (cT L)=some (cTv L)
 | []=>rfl
 | r :: l=>by simp only [cT,plainL,plain,cT_plain l,cTv]
theorem cT_len:∀ L:PL,(cT L).length=L.length * 3
 | []=>rfl
 | r :: l=>by simp only [cT,List.length_cons,cT_len l]; omega
theorem cT_get:∀ (L:PL) (k:Nat),k < L.length * 3→∃ x:Int,(cT L)[k]? = some (.v (.int .i64 x))
 | [],k,h=>by simp at h
 | r :: l,0,h=>⟨_,rfl⟩
 | r :: l,1,h=>⟨_,rfl⟩
 | r :: l,2,h=>⟨_,rfl⟩
 | r :: l,k + 3,h=>by
  obtain ⟨x,e⟩:=cT_get l k (by simp at h; omega)
  exact ⟨x,e⟩
theorem cT_at {L:PL} {k:Nat} (h:k < L.length * 3):(cT L)[k]? = some (.v (.int .i64 (intAt (cT L) k))):=by
 obtain ⟨x,e⟩:=cT_get L k h
 rw [e,intAt_of e]
theorem cT_ld {L:PL} {k:Nat} (h:k < L.length * 3) (t:TypeId) {d:TypeDesc} (hd:pg.underlying t=some d) (ha:aggD d=false):loadL pg (cT L) k t=some (.v (.int .i64 (intAt (cT L) k))):=by
 simp only [loadL,hd,ha,getL_eq,cT_at h]
theorem cT_load {L:PL} {i:Nat} (hi:i < L.length) (t:TypeId) {d:TypeDesc} (hd:pg.underlying t=some d) (ha:aggD d=true) {inf:TypeInfo} (hf:pg.info? t=some inf) (h2:inf.size=3) :
  loadL pg (cT L) (i * 3) t=some (.agg [.v (.int .i64 (intAt (cT L) (i * 3))),.v (.int .i64 (intAt (cT L) (i * 3 + 1))),.v (.int .i64 (intAt (cT L) (i * 3 + 2)))]):=by
 have hl:=cT_len L
 have hsub:sub (cT L) (i * 3) 3=some [.v (.int .i64 (intAt (cT L) (i * 3))),.v (.int .i64 (intAt (cT L) (i * 3 + 1))),.v (.int .i64 (intAt (cT L) (i * 3 + 2)))]:=by
  unfold sub
  rw [Nat.ble_eq_true_of_le (by omega)]
  simp only [Option.some.injEq]
  apply List.ext_getElem?
  intro j
  rw [List.getElem?_take]
  match j with
  | 0=>simp only [List.getElem?_drop,Nat.add_zero,cT_at (L:=L) (k:=i * 3) (by omega)]; rfl
  | 1=>simp only [List.getElem?_drop,cT_at (L:=L) (k:=i * 3 + 1) (by omega)]; rfl
  | 2=>simp only [List.getElem?_drop,cT_at (L:=L) (k:=i * 3 + 2) (by omega)]; rfl
  | j + 3=>simp; omega
 simp only [loadL,hd,ha,hf,h2,hsub]
def posP (n:Int) (c:List AV) (i:Nat):Prop:=0≤intAt c (i * 3 + 0)∧intAt c (i * 3 + 0)≤intAt c (i * 3 + 1)∧intAt c (i * 3 + 1) < n∧0≤intAt c (i * 3 + 2)∧intAt c (i * 3 + 2)≤1000000
def argP (n d q:Int):Prop:=(1≤n∧n≤40)∧(0≤d∧d≤2)∧(0≤q∧q≤5)
open Classical in
def roE (n d q:Int) (c:List AV) (m:Nat):Int:=if 24 < m then 6 else if argP n d q then (if ∀ i,i < m→posP n c i then 0 else 2) else 2
section
variable {n d q : Int} {c : List AV} {m i : Nat}
theorem roE_many (h:24 < m):roE n d q c m=6:=if_pos h
theorem roE_arg (h:¬ 24 < m) (h2:¬ argP n d q):roE n d q c m=2:=by unfold roE; rw [if_neg h,if_neg h2]
theorem roE_pos (h:¬ 24 < m) (hi:i < m) (h3:¬ posP n c i):roE n d q c m=2:=by
 unfold roE
 rw [if_neg h]
 split
 ·rw [if_neg (fun k=>h3 (k i hi))]
 ·rfl
theorem roE_ok (h:¬ 24 < m) (h2:argP n d q) (h3:∀ i,i < m→posP n c i):roE n d q c m=0:=by unfold roE; rw [if_neg h,if_pos h2,if_pos h3]
theorem roE_zero (h:roE n d q c m=0):m≤24∧argP n d q∧∀ i,i < m→posP n c i:=by
 unfold roE at h
 split at h
 ·omega
 ·split at h
  ·split at h
   ·exact ⟨by omega,‹_›,‹_›⟩
   ·omega
  ·omega
def chP (c:List AV) (k:Nat) (m:Int):Prop:=(∀ i,i < k→0≤intAt c (i * 1)∧intAt c (i * 1) < m)∧∀ i,i + 1 < k→intAt c (i * 1) < intAt c ((i + 1) * 1)
open Classical in
def chB (c:List AV) (k:Nat) (m:Int):Bool:=decide (chP c k m)
theorem chB_true {c:List AV} {k:Nat} {m:Int}:chB c k m=true↔chP c k m:=by unfold chB; exact @decide_eq_true_iff _ (Classical.propDecidable _)
theorem chB_no {c:List AV} {k:Nat} {m:Int} (h:¬ chP c k m):chB c k m=false:=by unfold chB; exact @decide_eq_false _ (Classical.propDecidable _) h
open Classical in
def incB (c:List AV) (k:Nat):Bool:=decide (∀ i,i + 1 < k→intAt c (i * 1) < intAt c ((i + 1) * 1))
theorem incB_true {c:List AV} {k:Nat}:incB c k=true↔∀ i,i + 1 < k→intAt c (i * 1) < intAt c ((i + 1) * 1):=by unfold incB; exact @decide_eq_true_iff _ (Classical.propDecidable _)
theorem incB_no {c:List AV} {k i:Nat} (hi:i + 1 < k) (h:¬ intAt c (i * 1) < intAt c ((i + 1) * 1)):incB c k=false:=by unfold incB; exact @decide_eq_false _ (Classical.propDecidable _) (fun e=>h (e i hi))
def icE (n d q:Int) (c:List AV) (m:Nat) (e:List AV) (k:Nat):Int:=if roE n d q c m=0 then (if chB e k m=true then 0 else 3) else roE n d q c m
end
theorem up_next0 {p:Nat→Prop} {i:Nat} (h:∀ j,j < i→p j) (k:p i):∀ j,j < i + 1→p j:=fun j hj=>by
 by_cases e:j < i
 ·exact h j e
 ·rw [show j=i by omega]; exact k
def roK1:Code:=bodyC Try.f19
def roK3:Code:=tlC roK1
def roK6:Code:=tlC roK3
def roK9:Code:=tlC roK6
def roK12:Code:=tlC roK9
def roK13:Code:=(hdC roK9)
def roK15:Code:=tlC roK13
def roK19:Code:=loopC roK15
theorem ro_22 (nI d q:Int) (y:Value) (P:PL) (hqro7_1:(ltI 24 P.length)=false) (hqro10_1:(ltI nI 1)=false) (hqro10_2:(ltI 40 nI)=false) (hqro10_3:(ltI d 0)=false) (hqro10_4:(ltI 2 d)=false) (hqro10_5:(ltI q 0)=false) (hqro10_6:(ltI 5 q)=false) (h0b:∀ j,j < (P.length)→posP nI (cT P) j) (hqro21_1:(ltI P.length P.length)=false) (w:World) (hs:LN):Goes pg 38 roK12 (⟨[],[],1,[]⟩) (BaseW.H w hs) (OutH pg Try.f19 38 (.int .i64 (roE nI d q (cT P) P.length)) w):=by
 have hcT:=cT_len P
 have ghqro7_1:=lF hqro7_1
 have ghqro10_1:=lF hqro10_1
 have ghqro10_2:=lF hqro10_2
 have ghqro10_3:=lF hqro10_3
 have ghqro10_4:=lF hqro10_4
 have ghqro10_5:=lF hqro10_5
 have ghqro10_6:=lF hqro10_6
 have ghqro21_1:=lF hqro21_1
 exact gL isR_e (gT cm (kN) 200 (T':=⟨[(2,(.v (.int .i64 (.ofNat 0))))],[],1,[]⟩) (e:=.ret) (ps:=[]) [.go] (by kernel_rfl) (by kernel_rfl) trivial rfl) (Hd.en_eq (r:=(.int .i64 0)) (by rw [roE_ok (by omega) (by unfold argP; omega) (fun j hj=>h0b j (by omega))]) (Hd.en_ret (v:=(.v (.int .i64 (.ofNat 0)))) (by kernel_rfl) rfl))
theorem ro_20 (nI d q:Int) (y:Value) (P:PL) (hqro7_1:(ltI 24 P.length)=false) (hqro10_1:(ltI nI 1)=false) (hqro10_2:(ltI 40 nI)=false) (hqro10_3:(ltI d 0)=false) (hqro10_4:(ltI 2 d)=false) (hqro10_5:(ltI q 0)=false) (hqro10_6:(ltI 5 q)=false) (i:Nat) (hi1:i≤P.length) (hi2:∀ j,j < i→posP nI (cT P) j) (w:World) (hs:LN):Goes pg 38 roK19 (⟨[(1,(.ptr 0 0)),(qS1_9 P y),(qS1_5 P),(28,(.v (.int .i64 i)))],[],1,[(qS1_4 P d nI q y)]⟩) (BaseW.H w hs) (Hd.StepC pg 38 0 (fun i:{i:Nat // i≤P.length∧∀ j,j < i→posP nI (cT P) j}=>⟨[(1,(.ptr 0 0)),(qS1_9 P y),(qS1_5 P),(28,(.v (.int .i64 i.1)))],[],1,[(qS1_4 P d nI q y)]⟩) (fun i:{i:Nat // i≤P.length∧∀ j,j < i→posP nI (cT P) j}=>P.length - i.1) roK12 w (OutH pg Try.f19 38 (.int .i64 (roE nI d q (cT P) P.length)) w) (⟨i,hi1,hi2⟩:{i:Nat // i≤P.length∧∀ j,j < i→posP nI (cT P) j})):=by
 have hcT:=cT_len P
 have ghqro7_1:=lF hqro7_1
 have ghqro10_1:=lF hqro10_1
 have ghqro10_2:=lF hqro10_2
 have ghqro10_3:=lF hqro10_3
 have ghqro10_4:=lF hqro10_4
 have ghqro10_5:=lF hqro10_5
 have ghqro10_6:=lF hqro10_6
 rcases bE (ltI i P.length) with hqro21_1 | hqro21_1
 ·skip
  have ghqro21_1:=lT hqro21_1
  rcases bE (ltI (intAt (cT P) (i * 3 + 1)) 0) with hqro21_2 | hqro21_2
  ·skip
   have ghqro21_2:=lT hqro21_2
   exact gL isR_e (gT cm (kN) 200 (T':=qS1_7) (e:=.ret) (ps:=[ltI i P.length=true,i < P.length,loadL pg (cT P) (i * 3) 58=some (AV.agg [.v (.int .i64 (intAt (cT P) (i * 3 + 0))),.v (.int .i64 (intAt (cT P) (i * 3 + 1))),.v (.int .i64 (intAt (cT P) (i * 3 + 2)))]),inR .i64 (nI - 1),(!ltI (intAt (cT P) (i * 3 + 1)) 0)=false,false=false,false=false,false=false,false=false,false=false,false=false,false=false,false=false,false=false,false=false,(!false)=true]) [.go,.b true,.sym,.sym,.go,.go,.go,.go,.go,.go,.go,.go,.go,.go,.go,.go,.go,.go,.go,.go,.b false,.b false,.b false,.go,.go,.go,.b false,.b false,.b false,.b false,.b false,.go,.go,.b false,.b false,.b false,.go,.go,.go,.b true,.go] (by kernel_rfl) (by kernel_rfl) ⟨hqro21_1,(by omega),(cT_load (by omega) 58 (Try.underlying58) rfl (inf:=(pg.info? 58).getD default) (by kernel_rfl) (by kernel_rfl)),(iRS1 (by omega) (by omega)),(by rw [hqro21_2]; rfl),rfl,rfl,rfl,rfl,rfl,rfl,rfl,rfl,rfl,rfl,rfl,trivial⟩ rfl) (Hd.en_so (by intro h; cases h) (by intro h; cases h) (Hd.en_eq (r:=(.int .i64 2)) (by rw [roE_pos (i:=i) (by omega) (by omega) (by unfold posP; omega)]) (Hd.en_ret (v:=(.v (.int .i64 (.ofNat 2)))) (by kernel_rfl) rfl)))
  ·skip
   have ghqro21_2:=lF hqro21_2
   rcases bE (ltI (nI - 1) (intAt (cT P) (i * 3 + 1))) with hqro21_3 | hqro21_3
   ·skip
    have ghqro21_3:=lT hqro21_3
    exact gL isR_e (gT cm (kN) 200 (T':=qS1_7) (e:=.ret) (ps:=[ltI i P.length=true,i < P.length,loadL pg (cT P) (i * 3) 58=some (AV.agg [.v (.int .i64 (intAt (cT P) (i * 3 + 0))),.v (.int .i64 (intAt (cT P) (i * 3 + 1))),.v (.int .i64 (intAt (cT P) (i * 3 + 2)))]),inR .i64 (nI - 1),(!ltI (intAt (cT P) (i * 3 + 1)) 0)=true,true=true,true=true,(!ltI (nI - 1) (intAt (cT P) (i * 3 + 1)))=false,false=false,false=false,false=false,false=false,false=false,false=false,false=false,(!false)=true]) [.go,.b true,.sym,.sym,.go,.go,.go,.go,.go,.go,.go,.go,.go,.go,.go,.go,.go,.go,.go,.go,.b true,.go,.b true,.go,.b true,.go,.go,.go,.go,.b false,.b false,.b false,.b false,.b false,.go,.go,.b false,.b false,.b false,.go,.go,.go,.b true,.go] (by kernel_rfl) (by kernel_rfl) ⟨hqro21_1,(by omega),(cT_load (by omega) 58 (Try.underlying58) rfl (inf:=(pg.info? 58).getD default) (by kernel_rfl) (by kernel_rfl)),(iRS1 (by omega) (by omega)),(by rw [hqro21_2]; rfl),rfl,rfl,(by rw [hqro21_3]; rfl),rfl,rfl,rfl,rfl,rfl,rfl,rfl,rfl,trivial⟩ rfl) (Hd.en_so (by intro h; cases h) (by intro h; cases h) (Hd.en_eq (r:=(.int .i64 2)) (by rw [roE_pos (i:=i) (by omega) (by omega) (by unfold posP; omega)]) (Hd.en_ret (v:=(.v (.int .i64 (.ofNat 2)))) (by kernel_rfl) rfl)))
   ·skip
    have ghqro21_3:=lF hqro21_3
    rcases bE (ltI (intAt (cT P) (i * 3 + 0)) 0) with hqro21_4 | hqro21_4
    ·skip
     have ghqro21_4:=lT hqro21_4
     exact gL isR_e (gT cm (kN) 200 (T':=qS1_7) (e:=.ret) (ps:=[ltI i P.length=true,i < P.length,loadL pg (cT P) (i * 3) 58=some (AV.agg [.v (.int .i64 (intAt (cT P) (i * 3 + 0))),.v (.int .i64 (intAt (cT P) (i * 3 + 1))),.v (.int .i64 (intAt (cT P) (i * 3 + 2)))]),inR .i64 (nI - 1),(!ltI (intAt (cT P) (i * 3 + 1)) 0)=true,true=true,true=true,(!ltI (nI - 1) (intAt (cT P) (i * 3 + 1)))=true,true=true,true=true,true=true,true=true,(!ltI (intAt (cT P) (i * 3 + 0)) 0)=false,false=false,false=false,false=false,false=false,false=false,(!false)=true]) [.go,.b true,.sym,.sym,.go,.go,.go,.go,.go,.go,.go,.go,.go,.go,.go,.go,.go,.go,.go,.go,.b true,.go,.b true,.go,.b true,.go,.go,.go,.go,.b true,.go,.b true,.go,.b true,.go,.b true,.go,.b true,.go,.go,.go,.go,.go,.b false,.b false,.b false,.go,.go,.go,.go,.b false,.b false,.b false,.go,.go,.go,.b true,.go] (by kernel_rfl) (by kernel_rfl) ⟨hqro21_1,(by omega),(cT_load (by omega) 58 (Try.underlying58) rfl (inf:=(pg.info? 58).getD default) (by kernel_rfl) (by kernel_rfl)),(iRS1 (by omega) (by omega)),(by rw [hqro21_2]; rfl),rfl,rfl,(by rw [hqro21_3]; rfl),rfl,rfl,rfl,rfl,(by rw [hqro21_4]; rfl),rfl,rfl,rfl,rfl,rfl,rfl,trivial⟩ rfl) (Hd.en_so (by intro h; cases h) (by intro h; cases h) (Hd.en_eq (r:=(.int .i64 2)) (by rw [roE_pos (i:=i) (by omega) (by omega) (by unfold posP; omega)]) (Hd.en_ret (v:=(.v (.int .i64 (.ofNat 2)))) (by kernel_rfl) rfl)))
    ·skip
     have ghqro21_4:=lF hqro21_4
     rcases bE (ltI (intAt (cT P) (i * 3 + 1)) (intAt (cT P) (i * 3 + 0))) with hqro21_5 | hqro21_5
     ·skip
      have ghqro21_5:=lT hqro21_5
      exact gL isR_e (gT cm (kN) 200 (T':=qS1_7) (e:=.ret) (ps:=[ltI i P.length=true,i < P.length,loadL pg (cT P) (i * 3) 58=some (AV.agg [.v (.int .i64 (intAt (cT P) (i * 3 + 0))),.v (.int .i64 (intAt (cT P) (i * 3 + 1))),.v (.int .i64 (intAt (cT P) (i * 3 + 2)))]),inR .i64 (nI - 1),(!ltI (intAt (cT P) (i * 3 + 1)) 0)=true,true=true,true=true,(!ltI (nI - 1) (intAt (cT P) (i * 3 + 1)))=true,true=true,true=true,true=true,true=true,(!ltI (intAt (cT P) (i * 3 + 0)) 0)=true,true=true,true=true,(!ltI (intAt (cT P) (i * 3 + 1)) (intAt (cT P) (i * 3 + 0)))=false,false=false,false=false,(!false)=true]) [.go,.b true,.sym,.sym,.go,.go,.go,.go,.go,.go,.go,.go,.go,.go,.go,.go,.go,.go,.go,.go,.b true,.go,.b true,.go,.b true,.go,.go,.go,.go,.b true,.go,.b true,.go,.b true,.go,.b true,.go,.b true,.go,.go,.go,.go,.go,.b true,.go,.b true,.go,.b true,.go,.go,.go,.go,.go,.b false,.b false,.b false,.go,.go,.go,.b true,.go] (by kernel_rfl) (by kernel_rfl) ⟨hqro21_1,(by omega),(cT_load (by omega) 58 (Try.underlying58) rfl (inf:=(pg.info? 58).getD default) (by kernel_rfl) (by kernel_rfl)),(iRS1 (by omega) (by omega)),(by rw [hqro21_2]; rfl),rfl,rfl,(by rw [hqro21_3]; rfl),rfl,rfl,rfl,rfl,(by rw [hqro21_4]; rfl),rfl,rfl,(by rw [hqro21_5]; rfl),rfl,rfl,rfl,trivial⟩ rfl) (Hd.en_so (by intro h; cases h) (by intro h; cases h) (Hd.en_eq (r:=(.int .i64 2)) (by rw [roE_pos (i:=i) (by omega) (by omega) (by unfold posP; omega)]) (Hd.en_ret (v:=(.v (.int .i64 (.ofNat 2)))) (by kernel_rfl) rfl)))
     ·skip
      have ghqro21_5:=lF hqro21_5
      rcases bE (ltI (intAt (cT P) (i * 3 + 2)) 0) with hqro21_6 | hqro21_6
      ·skip
       have ghqro21_6:=lT hqro21_6
       exact gL isR_e (gT cm (kN) 200 (T':=qS1_7) (e:=.ret) (ps:=[ltI i P.length=true,i < P.length,loadL pg (cT P) (i * 3) 58=some (AV.agg [.v (.int .i64 (intAt (cT P) (i * 3 + 0))),.v (.int .i64 (intAt (cT P) (i * 3 + 1))),.v (.int .i64 (intAt (cT P) (i * 3 + 2)))]),inR .i64 (nI - 1),(!ltI (intAt (cT P) (i * 3 + 1)) 0)=true,true=true,true=true,(!ltI (nI - 1) (intAt (cT P) (i * 3 + 1)))=true,true=true,true=true,true=true,true=true,(!ltI (intAt (cT P) (i * 3 + 0)) 0)=true,true=true,true=true,(!ltI (intAt (cT P) (i * 3 + 1)) (intAt (cT P) (i * 3 + 0)))=true,true=true,true=true,(!ltI (intAt (cT P) (i * 3 + 2)) 0)=false,false=false,false=false,(!false)=true]) [.go,.b true,.sym,.sym,.go,.go,.go,.go,.go,.go,.go,.go,.go,.go,.go,.go,.go,.go,.go,.go,.b true,.go,.b true,.go,.b true,.go,.go,.go,.go,.b true,.go,.b true,.go,.b true,.go,.b true,.go,.b true,.go,.go,.go,.go,.go,.b true,.go,.b true,.go,.b true,.go,.go,.go,.go,.go,.b true,.go,.b true,.go,.b true,.go,.go,.go,.go,.go,.b false,.b false,.b false,.go,.go,.go,.go,.go,.b true,.go] (by kernel_rfl) (by kernel_rfl) ⟨hqro21_1,(by omega),(cT_load (by omega) 58 (Try.underlying58) rfl (inf:=(pg.info? 58).getD default) (by kernel_rfl) (by kernel_rfl)),(iRS1 (by omega) (by omega)),(by rw [hqro21_2]; rfl),rfl,rfl,(by rw [hqro21_3]; rfl),rfl,rfl,rfl,rfl,(by rw [hqro21_4]; rfl),rfl,rfl,(by rw [hqro21_5]; rfl),rfl,rfl,(by rw [hqro21_6]; rfl),rfl,rfl,rfl,trivial⟩ rfl) (Hd.en_so (by intro h; cases h) (by intro h; cases h) (Hd.en_eq (r:=(.int .i64 2)) (by rw [roE_pos (i:=i) (by omega) (by omega) (by unfold posP; omega)]) (Hd.en_ret (v:=(.v (.int .i64 (.ofNat 2)))) (by kernel_rfl) rfl)))
      ·skip
       have ghqro21_6:=lF hqro21_6
       rcases bE (ltI 1000000 (intAt (cT P) (i * 3 + 2))) with hqro21_7 | hqro21_7
       ·skip
        have ghqro21_7:=lT hqro21_7
        exact gL isR_e (gT cm (kN) 200 (T':=qS1_7) (e:=.ret) (ps:=[ltI i P.length=true,i < P.length,loadL pg (cT P) (i * 3) 58=some (AV.agg [.v (.int .i64 (intAt (cT P) (i * 3 + 0))),.v (.int .i64 (intAt (cT P) (i * 3 + 1))),.v (.int .i64 (intAt (cT P) (i * 3 + 2)))]),inR .i64 (nI - 1),(!ltI (intAt (cT P) (i * 3 + 1)) 0)=true,true=true,true=true,(!ltI (nI - 1) (intAt (cT P) (i * 3 + 1)))=true,true=true,true=true,true=true,true=true,(!ltI (intAt (cT P) (i * 3 + 0)) 0)=true,true=true,true=true,(!ltI (intAt (cT P) (i * 3 + 1)) (intAt (cT P) (i * 3 + 0)))=true,true=true,true=true,(!ltI (intAt (cT P) (i * 3 + 2)) 0)=true,true=true,true=true,(!!ltI 1000000 (intAt (cT P) (i * 3 + 2)))=true]) [.go,.b true,.sym,.sym,.go,.go,.go,.go,.go,.go,.go,.go,.go,.go,.go,.go,.go,.go,.go,.go,.b true,.go,.b true,.go,.b true,.go,.go,.go,.go,.b true,.go,.b true,.go,.b true,.go,.b true,.go,.b true,.go,.go,.go,.go,.go,.b true,.go,.b true,.go,.b true,.go,.go,.go,.go,.go,.b true,.go,.b true,.go,.b true,.go,.go,.go,.go,.go,.b true,.go,.b true,.go,.b true,.go,.go,.go,.go,.go,.go,.b true,.go] (by kernel_rfl) (by kernel_rfl) ⟨hqro21_1,(by omega),(cT_load (by omega) 58 (Try.underlying58) rfl (inf:=(pg.info? 58).getD default) (by kernel_rfl) (by kernel_rfl)),(iRS1 (by omega) (by omega)),(by rw [hqro21_2]; rfl),rfl,rfl,(by rw [hqro21_3]; rfl),rfl,rfl,rfl,rfl,(by rw [hqro21_4]; rfl),rfl,rfl,(by rw [hqro21_5]; rfl),rfl,rfl,(by rw [hqro21_6]; rfl),rfl,rfl,(by rw [hqro21_7]; rfl),trivial⟩ rfl) (Hd.en_so (by intro h; cases h) (by intro h; cases h) (Hd.en_eq (r:=(.int .i64 2)) (by rw [roE_pos (i:=i) (by omega) (by omega) (by unfold posP; omega)]) (Hd.en_ret (v:=(.v (.int .i64 (.ofNat 2)))) (by kernel_rfl) rfl)))
       ·skip
        have ghqro21_7:=lF hqro21_7
        exact gL isN_e (gK cm (kN) 200 (T':=⟨[(1,(.ptr 0 0)),(qS1_9 P y),(qS1_5 P),(28,(.v (.int .i64 (((i + 1):Nat):Int))))],[],1,[(qS1_4 P d nI q y)]⟩) (e:=.normal) (m:=3) (ps:=[ltI i P.length=true,i < P.length,loadL pg (cT P) (i * 3) 58=some (AV.agg [.v (.int .i64 (intAt (cT P) (i * 3 + 0))),.v (.int .i64 (intAt (cT P) (i * 3 + 1))),.v (.int .i64 (intAt (cT P) (i * 3 + 2)))]),inR .i64 (nI - 1),(!ltI (intAt (cT P) (i * 3 + 1)) 0)=true,true=true,true=true,(!ltI (nI - 1) (intAt (cT P) (i * 3 + 1)))=true,true=true,true=true,true=true,true=true,(!ltI (intAt (cT P) (i * 3 + 0)) 0)=true,true=true,true=true,(!ltI (intAt (cT P) (i * 3 + 1)) (intAt (cT P) (i * 3 + 0)))=true,true=true,true=true,(!ltI (intAt (cT P) (i * 3 + 2)) 0)=true,true=true,true=true,(!!ltI 1000000 (intAt (cT P) (i * 3 + 2)))=false,inR .i64 (((i:Nat):Int) + 1)]) [.go,.b true,.sym,.sym,.go,.go,.go,.go,.go,.go,.go,.go,.go,.go,.go,.go,.go,.go,.go,.go,.b true,.go,.b true,.go,.b true,.go,.go,.go,.go,.b true,.go,.b true,.go,.b true,.go,.b true,.go,.b true,.go,.go,.go,.go,.go,.b true,.go,.b true,.go,.b true,.go,.go,.go,.go,.go,.b true,.go,.b true,.go,.b true,.go,.go,.go,.go,.go,.b true,.go,.b true,.go,.b true,.go,.go,.go,.go,.go,.go,.b false,.go,.go] (by kernel_rfl) (by kernel_rfl) ⟨hqro21_1,(by omega),(cT_load (by omega) 58 (Try.underlying58) rfl (inf:=(pg.info? 58).getD default) (by kernel_rfl) (by kernel_rfl)),(iRS1 (by omega) (by omega)),(by rw [hqro21_2]; rfl),rfl,rfl,(by rw [hqro21_3]; rfl),rfl,rfl,rfl,rfl,(by rw [hqro21_4]; rfl),rfl,rfl,(by rw [hqro21_5]; rfl),rfl,rfl,(by rw [hqro21_6]; rfl),rfl,rfl,(by rw [hqro21_7]; rfl),(iRS1 (by omega) (by omega)),trivial⟩ rfl (by show 1≤3; decide) ⟨⟨nb_ptr (by show 0 < 1; decide),nb_xl (cT_plain P),nb_v _,nb_v _,trivial⟩,⟨⟨by show 0 < 1; decide,nbb_cells (nb_cons (nb_v _) (nb_cons (nb_v _) (nb_cons (nb_v _) (nb_cons (nb_xl (cT_plain P)) (fun _ hz=>absurd hz List.not_mem_nil)))))⟩,trivial⟩,rfl⟩) (eO (⟨i + 1,by omega,(up_next0 hi2 (by unfold posP; omega))⟩) (by show P.length - (i + 1) < P.length - i; omega) rfl)
 ·skip
  have ghqro21_1:=lF hqro21_1
  obtain rfl:i=P.length:=by omega
  exact gL isX_e (gT cm (kN) 200 (T':=⟨[],[],1,[]⟩) (e:=.exit 0) (ps:=[ltI P.length P.length=false]) [.go,.b false] (by kernel_rfl) (by kernel_rfl) ⟨hqro21_1,trivial⟩ rfl) (Hd.en_sx (ro_22 nI d q y P hqro7_1 hqro10_1 hqro10_2 hqro10_3 hqro10_4 hqro10_5 hqro10_6 hi2  hqro21_1 w hs))
theorem ro_18 (nI d q:Int) (y:Value) (P:PL) (hqro7_1:(ltI 24 P.length)=false) (hqro10_1:(ltI nI 1)=false) (hqro10_2:(ltI 40 nI)=false) (hqro10_3:(ltI d 0)=false) (hqro10_4:(ltI 2 d)=false) (hqro10_5:(ltI q 0)=false) (hqro10_6:(ltI 5 q)=false) (w:World) (hs:LN):Goes pg 38 roK15 ((qS1_1 P d nI q y)) (BaseW.H w hs) (Hd.AfterN pg 38 roK12 w (OutH pg Try.f19 38 (.int .i64 (roE nI d q (cT P) P.length)) w)):=by
 have hcT:=cT_len P
 have ghqro7_1:=lF hqro7_1
 have ghqro10_1:=lF hqro10_1
 have ghqro10_2:=lF hqro10_2
 have ghqro10_3:=lF hqro10_3
 have ghqro10_4:=lF hqro10_4
 have ghqro10_5:=lF hqro10_5
 have ghqro10_6:=lF hqro10_6
 exact Hd.goes_loopA (id:=0) (by kernel_rfl) (by kernel_rfl) (fun i:{i:Nat // i≤P.length∧∀ j,j < i→posP nI (cT P) j}=>⟨[(1,(.ptr 0 0)),(qS1_9 P y),(qS1_5 P),(28,(.v (.int .i64 i.1)))],[],1,[(qS1_4 P d nI q y)]⟩) (fun i:{i:Nat // i≤P.length∧∀ j,j < i→posP nI (cT P) j}=>P.length - i.1) (fun ix_ hs=>ro_20 nI d q y P hqro7_1 hqro10_1 hqro10_2 hqro10_3 hqro10_4 hqro10_5 hqro10_6 ix_.1 ix_.2.1 ix_.2.2 w hs) ⟨0,Nat.zero_le _,(fun j hj=>by omega)⟩ hs
theorem ro_17 (nI d q:Int) (y:Value) (P:PL) (hqro7_1:(ltI 24 P.length)=false) (hqro10_1:(ltI nI 1)=false) (hqro10_2:(ltI 40 nI)=false) (hqro10_3:(ltI d 0)=false) (hqro10_4:(ltI 2 d)=false) (hqro10_5:(ltI q 0)=false) (hqro10_6:(ltI 5 q)=false) (w:World) (hs:LN):Goes pg 38 roK15 ((qS1_1 P d nI q y)) (BaseW.H w hs) (Hd.AfterN pg 38 roK12 w (OutH pg Try.f19 38 (.int .i64 (roE nI d q (cT P) P.length)) w)):=by
 exact ro_18 nI d q y P hqro7_1 hqro10_1 hqro10_2 hqro10_3 hqro10_4 hqro10_5 hqro10_6 w hs
theorem ro_14 (nI d q:Int) (y:Value) (P:PL) (hqro7_1:(ltI 24 P.length)=false) (hqro10_1:(ltI nI 1)=false) (hqro10_2:(ltI 40 nI)=false) (hqro10_3:(ltI d 0)=false) (hqro10_4:(ltI 2 d)=false) (hqro10_5:(ltI q 0)=false) (hqro10_6:(ltI 5 q)=false) (w:World) (hs:LN):Goes pg 38 roK13 ((qS1_3 P d nI q y)) (BaseW.H w hs) (Hd.AfterN pg 38 roK12 w (OutH pg Try.f19 38 (.int .i64 (roE nI d q (cT P) P.length)) w)):=by
 have hcT:=cT_len P
 have ghqro7_1:=lF hqro7_1
 have ghqro10_1:=lF hqro10_1
 have ghqro10_2:=lF hqro10_2
 have ghqro10_3:=lF hqro10_3
 have ghqro10_4:=lF hqro10_4
 have ghqro10_5:=lF hqro10_5
 have ghqro10_6:=lF hqro10_6
 refine gS (by kernel_rfl) ?_
 exact gL isN_e (gT cm (kN) 200 (T':=(qS1_1 P d nI q y)) (e:=.normal) (ps:=[]) [.go,.go,.go,.go] (by kernel_rfl) (by kernel_rfl) trivial rfl) (Hd.en_n (ro_17 nI d q y P hqro7_1 hqro10_1 hqro10_2 hqro10_3 hqro10_4 hqro10_5 hqro10_6 w hs))
theorem ro_11 (nI d q:Int) (y:Value) (P:PL) (hqro7_1:(ltI 24 P.length)=false) (hqro10_1:(ltI nI 1)=false) (hqro10_2:(ltI 40 nI)=false) (hqro10_3:(ltI d 0)=false) (hqro10_4:(ltI 2 d)=false) (hqro10_5:(ltI q 0)=false) (hqro10_6:(ltI 5 q)=false) (w:World) (hs:LN):Goes pg 38 roK9 ((qS1_3 P d nI q y)) (BaseW.H w hs) (OutH pg Try.f19 38 (.int .i64 (roE nI d q (cT P) P.length)) w):=by
 exact gS (by kernel_rfl) (ro_14 nI d q y P hqro7_1 hqro10_1 hqro10_2 hqro10_3 hqro10_4 hqro10_5 hqro10_6 w hs)
theorem ro_8 (nI d q:Int) (y:Value) (P:PL) (hqro7_1:(ltI 24 P.length)=false) (w:World) (hs:LN):Goes pg 38 roK6 ((qS1_3 P d nI q y)) (BaseW.H w hs) (OutH pg Try.f19 38 (.int .i64 (roE nI d q (cT P) P.length)) w):=by
 have hcT:=cT_len P
 have ghqro7_1:=lF hqro7_1
 refine gS (by kernel_rfl) ?_
 rcases bE (ltI nI 1) with hqro10_1 | hqro10_1
 ·skip
  have ghqro10_1:=lT hqro10_1
  exact gL isR_e (gT cm (kN) 200 (T':=qS1_6) (e:=.ret) (ps:=[(!ltI nI 1)=false,false=false,false=false,(!false)=true,true=true,true=true,true=true,true=true,true=true,true=true,true=true,true=true]) [.go,.go,.go,.go,.go,.go,.go,.b false,.b false,.b false,.go,.go,.go,.go,.b true,.b true,.b true,.b true,.go,.go,.b true,.b true,.b true,.b true,.go,.b true,.go] (by kernel_rfl) (by kernel_rfl) ⟨(by rw [hqro10_1]; rfl),rfl,rfl,rfl,rfl,rfl,rfl,rfl,rfl,rfl,rfl,rfl,trivial⟩ rfl) (Hd.en_o (by intro h; cases h) (Hd.en_eq (r:=(.int .i64 2)) (by rw [roE_arg (by omega) (by unfold argP; omega)]) (Hd.en_ret (v:=(.v (.int .i64 (.ofNat 2)))) (by kernel_rfl) rfl)))
 ·skip
  have ghqro10_1:=lF hqro10_1
  rcases bE (ltI 40 nI) with hqro10_2 | hqro10_2
  ·skip
   have ghqro10_2:=lT hqro10_2
   exact gL isR_e (gT cm (kN) 200 (T':=qS1_6) (e:=.ret) (ps:=[(!ltI nI 1)=true,true=true,true=true,(!!ltI 40 nI)=true,true=true,true=true,true=true,true=true,true=true,true=true,true=true,true=true]) [.go,.go,.go,.go,.go,.go,.go,.b true,.go,.b true,.go,.b true,.go,.go,.go,.go,.go,.b true,.b true,.b true,.b true,.go,.go,.b true,.b true,.b true,.b true,.go,.b true,.go] (by kernel_rfl) (by kernel_rfl) ⟨(by rw [hqro10_1]; rfl),rfl,rfl,(by rw [hqro10_2]; rfl),rfl,rfl,rfl,rfl,rfl,rfl,rfl,rfl,trivial⟩ rfl) (Hd.en_o (by intro h; cases h) (Hd.en_eq (r:=(.int .i64 2)) (by rw [roE_arg (by omega) (by unfold argP; omega)]) (Hd.en_ret (v:=(.v (.int .i64 (.ofNat 2)))) (by kernel_rfl) rfl)))
  ·skip
   have ghqro10_2:=lF hqro10_2
   rcases bE (ltI d 0) with hqro10_3 | hqro10_3
   ·skip
    have ghqro10_3:=lT hqro10_3
    exact gL isR_e (gT cm (kN) 200 (T':=qS1_6) (e:=.ret) (ps:=[(!ltI nI 1)=true,true=true,true=true,(!!ltI 40 nI)=false,false=false,false=false,(!ltI d 0)=false,false=false,false=false,false=false,(!false)=true,true=true,true=true,true=true,true=true]) [.go,.go,.go,.go,.go,.go,.go,.b true,.go,.b true,.go,.b true,.go,.go,.go,.go,.go,.b false,.go,.b false,.go,.b false,.go,.go,.go,.go,.go,.b false,.b false,.b false,.go,.go,.b false,.go,.go,.go,.b true,.b true,.b true,.b true,.go,.b true,.go] (by kernel_rfl) (by kernel_rfl) ⟨(by rw [hqro10_1]; rfl),rfl,rfl,(by rw [hqro10_2]; rfl),rfl,rfl,(by rw [hqro10_3]; rfl),rfl,rfl,rfl,rfl,rfl,rfl,rfl,rfl,trivial⟩ rfl) (Hd.en_o (by intro h; cases h) (Hd.en_eq (r:=(.int .i64 2)) (by rw [roE_arg (by omega) (by unfold argP; omega)]) (Hd.en_ret (v:=(.v (.int .i64 (.ofNat 2)))) (by kernel_rfl) rfl)))
   ·skip
    have ghqro10_3:=lF hqro10_3
    rcases bE (ltI 2 d) with hqro10_4 | hqro10_4
    ·skip
     have ghqro10_4:=lT hqro10_4
     exact gL isR_e (gT cm (kN) 200 (T':=qS1_6) (e:=.ret) (ps:=[(!ltI nI 1)=true,true=true,true=true,(!!ltI 40 nI)=false,false=false,false=false,(!ltI d 0)=true,true=true,true=true,false=false,(!!ltI 2 d)=true,true=true,true=true,true=true,true=true]) [.go,.go,.go,.go,.go,.go,.go,.b true,.go,.b true,.go,.b true,.go,.go,.go,.go,.go,.b false,.go,.b false,.go,.b false,.go,.go,.go,.go,.go,.b true,.go,.b true,.go,.b true,.go,.go,.go,.b false,.go,.go,.go,.b true,.b true,.b true,.b true,.go,.b true,.go] (by kernel_rfl) (by kernel_rfl) ⟨(by rw [hqro10_1]; rfl),rfl,rfl,(by rw [hqro10_2]; rfl),rfl,rfl,(by rw [hqro10_3]; rfl),rfl,rfl,rfl,(by rw [hqro10_4]; rfl),rfl,rfl,rfl,rfl,trivial⟩ rfl) (Hd.en_o (by intro h; cases h) (Hd.en_eq (r:=(.int .i64 2)) (by rw [roE_arg (by omega) (by unfold argP; omega)]) (Hd.en_ret (v:=(.v (.int .i64 (.ofNat 2)))) (by kernel_rfl) rfl)))
    ·skip
     have ghqro10_4:=lF hqro10_4
     rcases bE (ltI q 0) with hqro10_5 | hqro10_5
     ·skip
      have ghqro10_5:=lT hqro10_5
      exact gL isR_e (gT cm (kN) 200 (T':=qS1_6) (e:=.ret) (ps:=[(!ltI nI 1)=true,true=true,true=true,(!!ltI 40 nI)=false,false=false,false=false,(!ltI d 0)=true,true=true,true=true,false=false,(!!ltI 2 d)=false,false=false,false=false,(!ltI q 0)=false,false=false,false=false,false=false,(!false)=true]) [.go,.go,.go,.go,.go,.go,.go,.b true,.go,.b true,.go,.b true,.go,.go,.go,.go,.go,.b false,.go,.b false,.go,.b false,.go,.go,.go,.go,.go,.b true,.go,.b true,.go,.b true,.go,.go,.go,.b false,.go,.go,.go,.b false,.go,.b false,.go,.b false,.go,.go,.go,.go,.go,.b false,.b false,.b false,.go,.go,.b false,.go,.go,.b true,.go] (by kernel_rfl) (by kernel_rfl) ⟨(by rw [hqro10_1]; rfl),rfl,rfl,(by rw [hqro10_2]; rfl),rfl,rfl,(by rw [hqro10_3]; rfl),rfl,rfl,rfl,(by rw [hqro10_4]; rfl),rfl,rfl,(by rw [hqro10_5]; rfl),rfl,rfl,rfl,rfl,trivial⟩ rfl) (Hd.en_o (by intro h; cases h) (Hd.en_eq (r:=(.int .i64 2)) (by rw [roE_arg (by omega) (by unfold argP; omega)]) (Hd.en_ret (v:=(.v (.int .i64 (.ofNat 2)))) (by kernel_rfl) rfl)))
     ·skip
      have ghqro10_5:=lF hqro10_5
      rcases bE (ltI 5 q) with hqro10_6 | hqro10_6
      ·skip
       have ghqro10_6:=lT hqro10_6
       exact gL isR_e (gT cm (kN) 200 (T':=qS1_6) (e:=.ret) (ps:=[(!ltI nI 1)=true,true=true,true=true,(!!ltI 40 nI)=false,false=false,false=false,(!ltI d 0)=true,true=true,true=true,false=false,(!!ltI 2 d)=false,false=false,false=false,(!ltI q 0)=true,true=true,true=true,false=false,(!!ltI 5 q)=true]) [.go,.go,.go,.go,.go,.go,.go,.b true,.go,.b true,.go,.b true,.go,.go,.go,.go,.go,.b false,.go,.b false,.go,.b false,.go,.go,.go,.go,.go,.b true,.go,.b true,.go,.b true,.go,.go,.go,.b false,.go,.go,.go,.b false,.go,.b false,.go,.b false,.go,.go,.go,.go,.go,.b true,.go,.b true,.go,.b true,.go,.go,.go,.b false,.go,.go,.b true,.go] (by kernel_rfl) (by kernel_rfl) ⟨(by rw [hqro10_1]; rfl),rfl,rfl,(by rw [hqro10_2]; rfl),rfl,rfl,(by rw [hqro10_3]; rfl),rfl,rfl,rfl,(by rw [hqro10_4]; rfl),rfl,rfl,(by rw [hqro10_5]; rfl),rfl,rfl,rfl,(by rw [hqro10_6]; rfl),trivial⟩ rfl) (Hd.en_o (by intro h; cases h) (Hd.en_eq (r:=(.int .i64 2)) (by rw [roE_arg (by omega) (by unfold argP; omega)]) (Hd.en_ret (v:=(.v (.int .i64 (.ofNat 2)))) (by kernel_rfl) rfl)))
      ·skip
       have ghqro10_6:=lF hqro10_6
       exact gL isN_e (gT cm (kN) 200 (T':=(qS1_3 P d nI q y)) (e:=.normal) (ps:=[(!ltI nI 1)=true,true=true,true=true,(!!ltI 40 nI)=false,false=false,false=false,(!ltI d 0)=true,true=true,true=true,false=false,(!!ltI 2 d)=false,false=false,false=false,(!ltI q 0)=true,true=true,true=true,false=false,(!!ltI 5 q)=false]) [.go,.go,.go,.go,.go,.go,.go,.b true,.go,.b true,.go,.b true,.go,.go,.go,.go,.go,.b false,.go,.b false,.go,.b false,.go,.go,.go,.go,.go,.b true,.go,.b true,.go,.b true,.go,.go,.go,.b false,.go,.go,.go,.b false,.go,.b false,.go,.b false,.go,.go,.go,.go,.go,.b true,.go,.b true,.go,.b true,.go,.go,.go,.b false,.go,.go,.b false] (by kernel_rfl) (by kernel_rfl) ⟨(by rw [hqro10_1]; rfl),rfl,rfl,(by rw [hqro10_2]; rfl),rfl,rfl,(by rw [hqro10_3]; rfl),rfl,rfl,rfl,(by rw [hqro10_4]; rfl),rfl,rfl,(by rw [hqro10_5]; rfl),rfl,rfl,rfl,(by rw [hqro10_6]; rfl),trivial⟩ rfl) (Hd.en_n (ro_11 nI d q y P hqro7_1 hqro10_1 hqro10_2 hqro10_3 hqro10_4 hqro10_5 hqro10_6 w hs))
theorem ro_5 (nI d q:Int) (y:Value) (P:PL) (w:World) (hs:LN):Goes pg 38 roK3 ((qS1_3 P d nI q y)) (BaseW.H w hs) (OutH pg Try.f19 38 (.int .i64 (roE nI d q (cT P) P.length)) w):=by
 have hcT:=cT_len P
 refine gS (by kernel_rfl) ?_
 rcases bE (ltI 24 P.length) with hqro7_1 | hqro7_1
 ·skip
  have ghqro7_1:=lT hqro7_1
  exact gL isR_e (gT cm (kN) 200 (T':=⟨[(2,(.v (.int .i64 (.ofNat 6))))],[],1,[]⟩) (e:=.ret) (ps:=[ltI 24 P.length=true]) [.go,.go,.go,.go,.b true,.go] (by kernel_rfl) (by kernel_rfl) ⟨hqro7_1,trivial⟩ rfl) (Hd.en_o (by intro h; cases h) (Hd.en_eq (r:=(.int .i64 6)) (by rw [roE_many (by omega)]) (Hd.en_ret (v:=(.v (.int .i64 (.ofNat 6)))) (by kernel_rfl) rfl)))
 ·skip
  have ghqro7_1:=lF hqro7_1
  exact gL isN_e (gT cm (kN) 200 (T':=(qS1_3 P d nI q y)) (e:=.normal) (ps:=[ltI 24 P.length=false]) [.go,.go,.go,.go,.b false] (by kernel_rfl) (by kernel_rfl) ⟨hqro7_1,trivial⟩ rfl) (Hd.en_n (ro_8 nI d q y P hqro7_1 w hs))
theorem ro_2 (nI d q:Int) (y:Value) (P:PL) (w:World) (hs:LN):Goes pg 38 roK1 (⟨[(0,(.agg [.v (.int .i64 nI),.v (.int .i64 d),.v (.int .i64 q),.xl y P.length 3 (cT P)]))],[],0,[]⟩) (BaseW.H w hs) (OutH pg Try.f19 38 (.int .i64 (roE nI d q (cT P) P.length)) w):=by
 have hcT:=cT_len P
 refine gS (by kernel_rfl) ?_
 exact gL isN_e (gT cm (kN) 200 (T':=(qS1_3 P d nI q y)) (e:=.normal) (ps:=[]) [.go,.go] (by kernel_rfl) (by kernel_rfl) trivial rfl) (Hd.en_n (ro_5 nI d q y P w hs))
theorem road_g (nI d q:Int) (y:Value) (P:PL):GivesA pg 19 [(.agg [.v (.int .i64 nI),.v (.int .i64 d),.v (.int .i64 q),.xl y P.length 3 (cT P)])] (.int .i64 (roE nI d q (cT P) P.length)) :=
 givesA_partsH 38 Try.func19 (by kernel_rfl) (by kernel_rfl) (by kernel_rfl) (fun w=>goes_less (by kernel_rfl) (by kernel_rfl) (by kernel_rfl) (by kernel_rfl) (ro_2 nI d q y P w []))
def rrK1:Code:=bodyC Try.f20
def rrK3:Code:=tlC rrK1
def rrK6:Code:=tlC rrK3
def rrK9:Code:=tlC rrK6
def rrK12:Code:=tlC rrK9
def rrK13:Code:=(hdC rrK9)
def rrK15:Code:=tlC rrK13
def rrK19:Code:=loopC rrK15
theorem rr_22 (nI d q:Int) (y:Value) (P:PL) (hqrr7_1:(ltI 24 P.length)=false) (hqrr10_1:(ltI nI 1)=false) (hqrr10_2:(ltI 40 nI)=false) (hqrr10_3:(ltI d 0)=false) (hqrr10_4:(ltI 2 d)=false) (hqrr10_5:(ltI q 0)=false) (hqrr10_6:(ltI 5 q)=false) (h0b:∀ j,j < (P.length)→posP nI (cT P) j) (hqrr21_1:(ltI P.length P.length)=false) (w:World) (hs:LN):Goes pg 76 rrK12 (⟨[],[],1,[]⟩) (BaseW.H w hs) (OutH pg Try.f20 76 (.int .i64 (roE nI d q (cT P) P.length)) w):=by
 have hcT:=cT_len P
 have ghqrr7_1:=lF hqrr7_1
 have ghqrr10_1:=lF hqrr10_1
 have ghqrr10_2:=lF hqrr10_2
 have ghqrr10_3:=lF hqrr10_3
 have ghqrr10_4:=lF hqrr10_4
 have ghqrr10_5:=lF hqrr10_5
 have ghqrr10_6:=lF hqrr10_6
 have ghqrr21_1:=lF hqrr21_1
 exact gL isR_e (gT cm (kN) 200 (T':=⟨[(2,(.v (.int .i64 (.ofNat 0))))],[],1,[]⟩) (e:=.ret) (ps:=[]) [.go] (by kernel_rfl) (by kernel_rfl) trivial rfl) (Hd.en_eq (r:=(.int .i64 0)) (by rw [roE_ok (by omega) (by unfold argP; omega) (fun j hj=>h0b j (by omega))]) (Hd.en_ret (v:=(.v (.int .i64 (.ofNat 0)))) (by kernel_rfl) rfl))
theorem rr_20 (nI d q:Int) (y:Value) (P:PL) (hqrr7_1:(ltI 24 P.length)=false) (hqrr10_1:(ltI nI 1)=false) (hqrr10_2:(ltI 40 nI)=false) (hqrr10_3:(ltI d 0)=false) (hqrr10_4:(ltI 2 d)=false) (hqrr10_5:(ltI q 0)=false) (hqrr10_6:(ltI 5 q)=false) (i:Nat) (hi1:i≤P.length) (hi2:∀ j,j < i→posP nI (cT P) j) (w:World) (hs:LN):Goes pg 76 rrK19 (⟨[(1,(.ptr 0 0)),(3,(.v (.int .i64 i)))],[],1,[(qS1_4 P d nI q y)]⟩) (BaseW.H w hs) (Hd.StepC pg 76 0 (fun i:{i:Nat // i≤P.length∧∀ j,j < i→posP nI (cT P) j}=>⟨[(1,(.ptr 0 0)),(3,(.v (.int .i64 i.1)))],[],1,[(qS1_4 P d nI q y)]⟩) (fun i:{i:Nat // i≤P.length∧∀ j,j < i→posP nI (cT P) j}=>P.length - i.1) rrK12 w (OutH pg Try.f20 76 (.int .i64 (roE nI d q (cT P) P.length)) w) (⟨i,hi1,hi2⟩:{i:Nat // i≤P.length∧∀ j,j < i→posP nI (cT P) j})):=by
 have hcT:=cT_len P
 have ghqrr7_1:=lF hqrr7_1
 have ghqrr10_1:=lF hqrr10_1
 have ghqrr10_2:=lF hqrr10_2
 have ghqrr10_3:=lF hqrr10_3
 have ghqrr10_4:=lF hqrr10_4
 have ghqrr10_5:=lF hqrr10_5
 have ghqrr10_6:=lF hqrr10_6
 rcases bE (ltI i P.length) with hqrr21_1 | hqrr21_1
 ·skip
  have ghqrr21_1:=lT hqrr21_1
  rcases bE (ltI (intAt (cT P) (i * 3 + 0)) 0) with hqrr21_2 | hqrr21_2
  ·skip
   have ghqrr21_2:=lT hqrr21_2
   exact gL isR_e (gT cm (kN) 200 (T':=qS1_8) (e:=.ret) (ps:=[ltI i P.length=true,i < P.length,loadL pg (cT P) (i * 3) 58=some (AV.agg [.v (.int .i64 (intAt (cT P) (i * 3 + 0))),.v (.int .i64 (intAt (cT P) (i * 3 + 1))),.v (.int .i64 (intAt (cT P) (i * 3 + 2)))]),ltI (intAt (cT P) (i * 3 + 0)) 0=true,true=true,true=true,true=true,true=true,true=true,true=true,true=true,true=true,true=true,true=true,true=true,true=true,true=true,true=true,true=true,true=true]) [.go,.go,.go,.go,.go,.b true,.go,.go,.go,.sym,.sym,.go,.go,.go,.go,.go,.go,.b true,.b true,.b true,.b true,.b true,.go,.go,.b true,.b true,.b true,.b true,.b true,.go,.go,.b true,.b true,.b true,.go,.go,.b true,.b true,.b true,.go,.b true,.go] (by kernel_rfl) (by kernel_rfl) ⟨hqrr21_1,(by omega),(cT_load (by omega) 58 (Try.underlying58) rfl (inf:=(pg.info? 58).getD default) (by kernel_rfl) (by kernel_rfl)),hqrr21_2,rfl,rfl,rfl,rfl,rfl,rfl,rfl,rfl,rfl,rfl,rfl,rfl,rfl,rfl,rfl,rfl,trivial⟩ rfl) (Hd.en_so (by intro h; cases h) (by intro h; cases h) (Hd.en_eq (r:=(.int .i64 2)) (by rw [roE_pos (i:=i) (by omega) (by omega) (by unfold posP; omega)]) (Hd.en_ret (v:=(.v (.int .i64 (.ofNat 2)))) (by kernel_rfl) rfl)))
  ·skip
   have ghqrr21_2:=lF hqrr21_2
   rcases bE (ltI (intAt (cT P) (i * 3 + 1)) (intAt (cT P) (i * 3 + 0))) with hqrr21_3 | hqrr21_3
   ·skip
    have ghqrr21_3:=lT hqrr21_3
    exact gL isR_e (gT cm (kN) 200 (T':=qS1_8) (e:=.ret) (ps:=[ltI i P.length=true,i < P.length,loadL pg (cT P) (i * 3) 58=some (AV.agg [.v (.int .i64 (intAt (cT P) (i * 3 + 0))),.v (.int .i64 (intAt (cT P) (i * 3 + 1))),.v (.int .i64 (intAt (cT P) (i * 3 + 2)))]),ltI (intAt (cT P) (i * 3 + 0)) 0=false,false=false,false=false,false=false,false=false,ltI (intAt (cT P) (i * 3 + 1)) (intAt (cT P) (i * 3 + 0))=true,true=true,true=true,true=true,true=true,true=true,true=true,true=true,true=true,true=true,true=true,true=true]) [.go,.go,.go,.go,.go,.b true,.go,.go,.go,.sym,.sym,.go,.go,.go,.go,.go,.go,.b false,.go,.b false,.go,.b false,.go,.b false,.go,.b false,.go,.go,.go,.b true,.b true,.b true,.b true,.b true,.go,.go,.b true,.b true,.b true,.go,.go,.b true,.b true,.b true,.go,.b true,.go] (by kernel_rfl) (by kernel_rfl) ⟨hqrr21_1,(by omega),(cT_load (by omega) 58 (Try.underlying58) rfl (inf:=(pg.info? 58).getD default) (by kernel_rfl) (by kernel_rfl)),hqrr21_2,rfl,rfl,rfl,rfl,hqrr21_3,rfl,rfl,rfl,rfl,rfl,rfl,rfl,rfl,rfl,rfl,rfl,trivial⟩ rfl) (Hd.en_so (by intro h; cases h) (by intro h; cases h) (Hd.en_eq (r:=(.int .i64 2)) (by rw [roE_pos (i:=i) (by omega) (by omega) (by unfold posP; omega)]) (Hd.en_ret (v:=(.v (.int .i64 (.ofNat 2)))) (by kernel_rfl) rfl)))
   ·skip
    have ghqrr21_3:=lF hqrr21_3
    rcases bE (ltI (intAt (cT P) (i * 3 + 1)) nI) with hqrr21_4 | hqrr21_4
    ·skip
     have ghqrr21_4:=lT hqrr21_4
     rcases bE (ltI (intAt (cT P) (i * 3 + 2)) 0) with hqrr21_5 | hqrr21_5
     ·skip
      have ghqrr21_5:=lT hqrr21_5
      exact gL isR_e (gT cm (kN) 200 (T':=qS1_8) (e:=.ret) (ps:=[ltI i P.length=true,i < P.length,loadL pg (cT P) (i * 3) 58=some (AV.agg [.v (.int .i64 (intAt (cT P) (i * 3 + 0))),.v (.int .i64 (intAt (cT P) (i * 3 + 1))),.v (.int .i64 (intAt (cT P) (i * 3 + 2)))]),ltI (intAt (cT P) (i * 3 + 0)) 0=false,false=false,false=false,false=false,false=false,ltI (intAt (cT P) (i * 3 + 1)) (intAt (cT P) (i * 3 + 0))=false,false=false,false=false,false=false,false=false,(!ltI (intAt (cT P) (i * 3 + 1)) nI)=false,false=false,false=false,ltI (intAt (cT P) (i * 3 + 2)) 0=true,true=true,true=true,true=true]) [.go,.go,.go,.go,.go,.b true,.go,.go,.go,.sym,.sym,.go,.go,.go,.go,.go,.go,.b false,.go,.b false,.go,.b false,.go,.b false,.go,.b false,.go,.go,.go,.b false,.go,.b false,.go,.b false,.go,.b false,.go,.b false,.go,.go,.go,.b false,.go,.b false,.go,.b false,.go,.go,.go,.b true,.b true,.b true,.go,.b true,.go] (by kernel_rfl) (by kernel_rfl) ⟨hqrr21_1,(by omega),(cT_load (by omega) 58 (Try.underlying58) rfl (inf:=(pg.info? 58).getD default) (by kernel_rfl) (by kernel_rfl)),hqrr21_2,rfl,rfl,rfl,rfl,hqrr21_3,rfl,rfl,rfl,rfl,(by rw [hqrr21_4]; rfl),rfl,rfl,hqrr21_5,rfl,rfl,rfl,trivial⟩ rfl) (Hd.en_so (by intro h; cases h) (by intro h; cases h) (Hd.en_eq (r:=(.int .i64 2)) (by rw [roE_pos (i:=i) (by omega) (by omega) (by unfold posP; omega)]) (Hd.en_ret (v:=(.v (.int .i64 (.ofNat 2)))) (by kernel_rfl) rfl)))
     ·skip
      have ghqrr21_5:=lF hqrr21_5
      rcases bE (ltI 1000000 (intAt (cT P) (i * 3 + 2))) with hqrr21_6 | hqrr21_6
      ·skip
       have ghqrr21_6:=lT hqrr21_6
       exact gL isR_e (gT cm (kN) 200 (T':=qS1_8) (e:=.ret) (ps:=[ltI i P.length=true,i < P.length,loadL pg (cT P) (i * 3) 58=some (AV.agg [.v (.int .i64 (intAt (cT P) (i * 3 + 0))),.v (.int .i64 (intAt (cT P) (i * 3 + 1))),.v (.int .i64 (intAt (cT P) (i * 3 + 2)))]),ltI (intAt (cT P) (i * 3 + 0)) 0=false,false=false,false=false,false=false,false=false,ltI (intAt (cT P) (i * 3 + 1)) (intAt (cT P) (i * 3 + 0))=false,false=false,false=false,false=false,false=false,(!ltI (intAt (cT P) (i * 3 + 1)) nI)=false,false=false,false=false,ltI (intAt (cT P) (i * 3 + 2)) 0=false,false=false,false=false,ltI 1000000 (intAt (cT P) (i * 3 + 2))=true]) [.go,.go,.go,.go,.go,.b true,.go,.go,.go,.sym,.sym,.go,.go,.go,.go,.go,.go,.b false,.go,.b false,.go,.b false,.go,.b false,.go,.b false,.go,.go,.go,.b false,.go,.b false,.go,.b false,.go,.b false,.go,.b false,.go,.go,.go,.b false,.go,.b false,.go,.b false,.go,.go,.go,.b false,.go,.b false,.go,.b false,.go,.go,.b true,.go] (by kernel_rfl) (by kernel_rfl) ⟨hqrr21_1,(by omega),(cT_load (by omega) 58 (Try.underlying58) rfl (inf:=(pg.info? 58).getD default) (by kernel_rfl) (by kernel_rfl)),hqrr21_2,rfl,rfl,rfl,rfl,hqrr21_3,rfl,rfl,rfl,rfl,(by rw [hqrr21_4]; rfl),rfl,rfl,hqrr21_5,rfl,rfl,hqrr21_6,trivial⟩ rfl) (Hd.en_so (by intro h; cases h) (by intro h; cases h) (Hd.en_eq (r:=(.int .i64 2)) (by rw [roE_pos (i:=i) (by omega) (by omega) (by unfold posP; omega)]) (Hd.en_ret (v:=(.v (.int .i64 (.ofNat 2)))) (by kernel_rfl) rfl)))
      ·skip
       have ghqrr21_6:=lF hqrr21_6
       exact gL isN_e (gK cm (kN) 200 (T':=⟨[(1,(.ptr 0 0)),(3,(.v (.int .i64 (((i + 1):Nat):Int))))],[],1,[(qS1_4 P d nI q y)]⟩) (e:=.normal) (m:=2) (ps:=[ltI i P.length=true,i < P.length,loadL pg (cT P) (i * 3) 58=some (AV.agg [.v (.int .i64 (intAt (cT P) (i * 3 + 0))),.v (.int .i64 (intAt (cT P) (i * 3 + 1))),.v (.int .i64 (intAt (cT P) (i * 3 + 2)))]),ltI (intAt (cT P) (i * 3 + 0)) 0=false,false=false,false=false,false=false,false=false,ltI (intAt (cT P) (i * 3 + 1)) (intAt (cT P) (i * 3 + 0))=false,false=false,false=false,false=false,false=false,(!ltI (intAt (cT P) (i * 3 + 1)) nI)=false,false=false,false=false,ltI (intAt (cT P) (i * 3 + 2)) 0=false,false=false,false=false,ltI 1000000 (intAt (cT P) (i * 3 + 2))=false,inR .i64 (((i:Nat):Int) + 1)]) [.go,.go,.go,.go,.go,.b true,.go,.go,.go,.sym,.sym,.go,.go,.go,.go,.go,.go,.b false,.go,.b false,.go,.b false,.go,.b false,.go,.b false,.go,.go,.go,.b false,.go,.b false,.go,.b false,.go,.b false,.go,.b false,.go,.go,.go,.b false,.go,.b false,.go,.b false,.go,.go,.go,.b false,.go,.b false,.go,.b false,.go,.go,.b false,.go,.go,.go] (by kernel_rfl) (by kernel_rfl) ⟨hqrr21_1,(by omega),(cT_load (by omega) 58 (Try.underlying58) rfl (inf:=(pg.info? 58).getD default) (by kernel_rfl) (by kernel_rfl)),hqrr21_2,rfl,rfl,rfl,rfl,hqrr21_3,rfl,rfl,rfl,rfl,(by rw [hqrr21_4]; rfl),rfl,rfl,hqrr21_5,rfl,rfl,hqrr21_6,(iRS1 (by omega) (by omega)),trivial⟩ rfl (by show 1≤2; decide) ⟨⟨nb_ptr (by show 0 < 1; decide),nb_v _,trivial⟩,⟨⟨by show 0 < 1; decide,nbb_cells (nb_cons (nb_v _) (nb_cons (nb_v _) (nb_cons (nb_v _) (nb_cons (nb_xl (cT_plain P)) (fun _ hz=>absurd hz List.not_mem_nil)))))⟩,trivial⟩,rfl⟩) (eO (⟨i + 1,by omega,(up_next0 hi2 (by unfold posP; omega))⟩) (by show P.length - (i + 1) < P.length - i; omega) rfl)
    ·skip
     have ghqrr21_4:=lF hqrr21_4
     exact gL isR_e (gT cm (kN) 200 (T':=qS1_8) (e:=.ret) (ps:=[ltI i P.length=true,i < P.length,loadL pg (cT P) (i * 3) 58=some (AV.agg [.v (.int .i64 (intAt (cT P) (i * 3 + 0))),.v (.int .i64 (intAt (cT P) (i * 3 + 1))),.v (.int .i64 (intAt (cT P) (i * 3 + 2)))]),ltI (intAt (cT P) (i * 3 + 0)) 0=false,false=false,false=false,false=false,false=false,ltI (intAt (cT P) (i * 3 + 1)) (intAt (cT P) (i * 3 + 0))=false,false=false,false=false,false=false,false=false,(!ltI (intAt (cT P) (i * 3 + 1)) nI)=true,true=true,true=true,true=true,true=true,true=true,true=true]) [.go,.go,.go,.go,.go,.b true,.go,.go,.go,.sym,.sym,.go,.go,.go,.go,.go,.go,.b false,.go,.b false,.go,.b false,.go,.b false,.go,.b false,.go,.go,.go,.b false,.go,.b false,.go,.b false,.go,.b false,.go,.b false,.go,.go,.go,.b true,.b true,.b true,.go,.go,.b true,.b true,.b true,.go,.b true,.go] (by kernel_rfl) (by kernel_rfl) ⟨hqrr21_1,(by omega),(cT_load (by omega) 58 (Try.underlying58) rfl (inf:=(pg.info? 58).getD default) (by kernel_rfl) (by kernel_rfl)),hqrr21_2,rfl,rfl,rfl,rfl,hqrr21_3,rfl,rfl,rfl,rfl,(by rw [hqrr21_4]; rfl),rfl,rfl,rfl,rfl,rfl,rfl,trivial⟩ rfl) (Hd.en_so (by intro h; cases h) (by intro h; cases h) (Hd.en_eq (r:=(.int .i64 2)) (by rw [roE_pos (i:=i) (by omega) (by omega) (by unfold posP; omega)]) (Hd.en_ret (v:=(.v (.int .i64 (.ofNat 2)))) (by kernel_rfl) rfl)))
 ·skip
  have ghqrr21_1:=lF hqrr21_1
  obtain rfl:i=P.length:=by omega
  exact gL isX_e (gT cm (kN) 200 (T':=⟨[],[],1,[]⟩) (e:=.exit 0) (ps:=[ltI P.length P.length=false]) [.go,.go,.go,.go,.go,.b false] (by kernel_rfl) (by kernel_rfl) ⟨hqrr21_1,trivial⟩ rfl) (Hd.en_sx (rr_22 nI d q y P hqrr7_1 hqrr10_1 hqrr10_2 hqrr10_3 hqrr10_4 hqrr10_5 hqrr10_6 hi2  hqrr21_1 w hs))
theorem rr_18 (nI d q:Int) (y:Value) (P:PL) (hqrr7_1:(ltI 24 P.length)=false) (hqrr10_1:(ltI nI 1)=false) (hqrr10_2:(ltI 40 nI)=false) (hqrr10_3:(ltI d 0)=false) (hqrr10_4:(ltI 2 d)=false) (hqrr10_5:(ltI q 0)=false) (hqrr10_6:(ltI 5 q)=false) (w:World) (hs:LN):Goes pg 76 rrK15 ((qS1_2 P d nI q y)) (BaseW.H w hs) (Hd.AfterN pg 76 rrK12 w (OutH pg Try.f20 76 (.int .i64 (roE nI d q (cT P) P.length)) w)):=by
 have hcT:=cT_len P
 have ghqrr7_1:=lF hqrr7_1
 have ghqrr10_1:=lF hqrr10_1
 have ghqrr10_2:=lF hqrr10_2
 have ghqrr10_3:=lF hqrr10_3
 have ghqrr10_4:=lF hqrr10_4
 have ghqrr10_5:=lF hqrr10_5
 have ghqrr10_6:=lF hqrr10_6
 exact Hd.goes_loopA (id:=0) (by kernel_rfl) (by kernel_rfl) (fun i:{i:Nat // i≤P.length∧∀ j,j < i→posP nI (cT P) j}=>⟨[(1,(.ptr 0 0)),(3,(.v (.int .i64 i.1)))],[],1,[(qS1_4 P d nI q y)]⟩) (fun i:{i:Nat // i≤P.length∧∀ j,j < i→posP nI (cT P) j}=>P.length - i.1) (fun ix_ hs=>rr_20 nI d q y P hqrr7_1 hqrr10_1 hqrr10_2 hqrr10_3 hqrr10_4 hqrr10_5 hqrr10_6 ix_.1 ix_.2.1 ix_.2.2 w hs) ⟨0,Nat.zero_le _,(fun j hj=>by omega)⟩ hs
theorem rr_17 (nI d q:Int) (y:Value) (P:PL) (hqrr7_1:(ltI 24 P.length)=false) (hqrr10_1:(ltI nI 1)=false) (hqrr10_2:(ltI 40 nI)=false) (hqrr10_3:(ltI d 0)=false) (hqrr10_4:(ltI 2 d)=false) (hqrr10_5:(ltI q 0)=false) (hqrr10_6:(ltI 5 q)=false) (w:World) (hs:LN):Goes pg 76 rrK15 ((qS1_2 P d nI q y)) (BaseW.H w hs) (Hd.AfterN pg 76 rrK12 w (OutH pg Try.f20 76 (.int .i64 (roE nI d q (cT P) P.length)) w)):=by
 exact rr_18 nI d q y P hqrr7_1 hqrr10_1 hqrr10_2 hqrr10_3 hqrr10_4 hqrr10_5 hqrr10_6 w hs
theorem rr_14 (nI d q:Int) (y:Value) (P:PL) (hqrr7_1:(ltI 24 P.length)=false) (hqrr10_1:(ltI nI 1)=false) (hqrr10_2:(ltI 40 nI)=false) (hqrr10_3:(ltI d 0)=false) (hqrr10_4:(ltI 2 d)=false) (hqrr10_5:(ltI q 0)=false) (hqrr10_6:(ltI 5 q)=false) (w:World) (hs:LN):Goes pg 76 rrK13 ((qS1_3 P d nI q y)) (BaseW.H w hs) (Hd.AfterN pg 76 rrK12 w (OutH pg Try.f20 76 (.int .i64 (roE nI d q (cT P) P.length)) w)):=by
 have hcT:=cT_len P
 have ghqrr7_1:=lF hqrr7_1
 have ghqrr10_1:=lF hqrr10_1
 have ghqrr10_2:=lF hqrr10_2
 have ghqrr10_3:=lF hqrr10_3
 have ghqrr10_4:=lF hqrr10_4
 have ghqrr10_5:=lF hqrr10_5
 have ghqrr10_6:=lF hqrr10_6
 refine gS (by kernel_rfl) ?_
 exact gL isN_e (gT cm (kN) 200 (T':=(qS1_2 P d nI q y)) (e:=.normal) (ps:=[]) [.go] (by kernel_rfl) (by kernel_rfl) trivial rfl) (Hd.en_n (rr_17 nI d q y P hqrr7_1 hqrr10_1 hqrr10_2 hqrr10_3 hqrr10_4 hqrr10_5 hqrr10_6 w hs))
theorem rr_11 (nI d q:Int) (y:Value) (P:PL) (hqrr7_1:(ltI 24 P.length)=false) (hqrr10_1:(ltI nI 1)=false) (hqrr10_2:(ltI 40 nI)=false) (hqrr10_3:(ltI d 0)=false) (hqrr10_4:(ltI 2 d)=false) (hqrr10_5:(ltI q 0)=false) (hqrr10_6:(ltI 5 q)=false) (w:World) (hs:LN):Goes pg 76 rrK9 ((qS1_3 P d nI q y)) (BaseW.H w hs) (OutH pg Try.f20 76 (.int .i64 (roE nI d q (cT P) P.length)) w):=by
 exact gS (by kernel_rfl) (rr_14 nI d q y P hqrr7_1 hqrr10_1 hqrr10_2 hqrr10_3 hqrr10_4 hqrr10_5 hqrr10_6 w hs)
theorem rr_8 (nI d q:Int) (y:Value) (P:PL) (hqrr7_1:(ltI 24 P.length)=false) (w:World) (hs:LN):Goes pg 76 rrK6 ((qS1_3 P d nI q y)) (BaseW.H w hs) (OutH pg Try.f20 76 (.int .i64 (roE nI d q (cT P) P.length)) w):=by
 have hcT:=cT_len P
 have ghqrr7_1:=lF hqrr7_1
 refine gS (by kernel_rfl) ?_
 rcases bE (ltI nI 1) with hqrr10_1 | hqrr10_1
 ·skip
  have ghqrr10_1:=lT hqrr10_1
  exact gL isR_e (gT cm (kN) 200 (T':=qS1_6) (e:=.ret) (ps:=[ltI nI 1=true,true=true,true=true,true=true,true=true,true=true,true=true,true=true,true=true,true=true,true=true,true=true,true=true,true=true,true=true,true=true]) [.go,.go,.go,.go,.b true,.b true,.b true,.go,.go,.b true,.b true,.b true,.go,.go,.b true,.b true,.b true,.go,.go,.b true,.b true,.b true,.go,.go,.b true,.b true,.b true,.go,.b true,.go] (by kernel_rfl) (by kernel_rfl) ⟨hqrr10_1,rfl,rfl,rfl,rfl,rfl,rfl,rfl,rfl,rfl,rfl,rfl,rfl,rfl,rfl,rfl,trivial⟩ rfl) (Hd.en_o (by intro h; cases h) (Hd.en_eq (r:=(.int .i64 2)) (by rw [roE_arg (by omega) (by unfold argP; omega)]) (Hd.en_ret (v:=(.v (.int .i64 (.ofNat 2)))) (by kernel_rfl) rfl)))
 ·skip
  have ghqrr10_1:=lF hqrr10_1
  rcases bE (ltI 40 nI) with hqrr10_2 | hqrr10_2
  ·skip
   have ghqrr10_2:=lT hqrr10_2
   exact gL isR_e (gT cm (kN) 200 (T':=qS1_6) (e:=.ret) (ps:=[ltI nI 1=false,false=false,false=false,ltI 40 nI=true,true=true,true=true,true=true,true=true,true=true,true=true,true=true,true=true,true=true,true=true,true=true,true=true]) [.go,.go,.go,.go,.b false,.go,.b false,.go,.b false,.go,.go,.go,.b true,.b true,.b true,.go,.go,.b true,.b true,.b true,.go,.go,.b true,.b true,.b true,.go,.go,.b true,.b true,.b true,.go,.b true,.go] (by kernel_rfl) (by kernel_rfl) ⟨hqrr10_1,rfl,rfl,hqrr10_2,rfl,rfl,rfl,rfl,rfl,rfl,rfl,rfl,rfl,rfl,rfl,rfl,trivial⟩ rfl) (Hd.en_o (by intro h; cases h) (Hd.en_eq (r:=(.int .i64 2)) (by rw [roE_arg (by omega) (by unfold argP; omega)]) (Hd.en_ret (v:=(.v (.int .i64 (.ofNat 2)))) (by kernel_rfl) rfl)))
  ·skip
   have ghqrr10_2:=lF hqrr10_2
   rcases bE (ltI d 0) with hqrr10_3 | hqrr10_3
   ·skip
    have ghqrr10_3:=lT hqrr10_3
    exact gL isR_e (gT cm (kN) 200 (T':=qS1_6) (e:=.ret) (ps:=[ltI nI 1=false,false=false,false=false,ltI 40 nI=false,false=false,false=false,ltI d 0=true,true=true,true=true,true=true,true=true,true=true,true=true,true=true,true=true,true=true]) [.go,.go,.go,.go,.b false,.go,.b false,.go,.b false,.go,.go,.go,.b false,.go,.b false,.go,.b false,.go,.go,.go,.b true,.b true,.b true,.go,.go,.b true,.b true,.b true,.go,.go,.b true,.b true,.b true,.go,.b true,.go] (by kernel_rfl) (by kernel_rfl) ⟨hqrr10_1,rfl,rfl,hqrr10_2,rfl,rfl,hqrr10_3,rfl,rfl,rfl,rfl,rfl,rfl,rfl,rfl,rfl,trivial⟩ rfl) (Hd.en_o (by intro h; cases h) (Hd.en_eq (r:=(.int .i64 2)) (by rw [roE_arg (by omega) (by unfold argP; omega)]) (Hd.en_ret (v:=(.v (.int .i64 (.ofNat 2)))) (by kernel_rfl) rfl)))
   ·skip
    have ghqrr10_3:=lF hqrr10_3
    rcases bE (ltI 2 d) with hqrr10_4 | hqrr10_4
    ·skip
     have ghqrr10_4:=lT hqrr10_4
     exact gL isR_e (gT cm (kN) 200 (T':=qS1_6) (e:=.ret) (ps:=[ltI nI 1=false,false=false,false=false,ltI 40 nI=false,false=false,false=false,ltI d 0=false,false=false,false=false,ltI 2 d=true,true=true,true=true,true=true,true=true,true=true,true=true]) [.go,.go,.go,.go,.b false,.go,.b false,.go,.b false,.go,.go,.go,.b false,.go,.b false,.go,.b false,.go,.go,.go,.b false,.go,.b false,.go,.b false,.go,.go,.go,.b true,.b true,.b true,.go,.go,.b true,.b true,.b true,.go,.b true,.go] (by kernel_rfl) (by kernel_rfl) ⟨hqrr10_1,rfl,rfl,hqrr10_2,rfl,rfl,hqrr10_3,rfl,rfl,hqrr10_4,rfl,rfl,rfl,rfl,rfl,rfl,trivial⟩ rfl) (Hd.en_o (by intro h; cases h) (Hd.en_eq (r:=(.int .i64 2)) (by rw [roE_arg (by omega) (by unfold argP; omega)]) (Hd.en_ret (v:=(.v (.int .i64 (.ofNat 2)))) (by kernel_rfl) rfl)))
    ·skip
     have ghqrr10_4:=lF hqrr10_4
     rcases bE (ltI q 0) with hqrr10_5 | hqrr10_5
     ·skip
      have ghqrr10_5:=lT hqrr10_5
      exact gL isR_e (gT cm (kN) 200 (T':=qS1_6) (e:=.ret) (ps:=[ltI nI 1=false,false=false,false=false,ltI 40 nI=false,false=false,false=false,ltI d 0=false,false=false,false=false,ltI 2 d=false,false=false,false=false,ltI q 0=true,true=true,true=true,true=true]) [.go,.go,.go,.go,.b false,.go,.b false,.go,.b false,.go,.go,.go,.b false,.go,.b false,.go,.b false,.go,.go,.go,.b false,.go,.b false,.go,.b false,.go,.go,.go,.b false,.go,.b false,.go,.b false,.go,.go,.go,.b true,.b true,.b true,.go,.b true,.go] (by kernel_rfl) (by kernel_rfl) ⟨hqrr10_1,rfl,rfl,hqrr10_2,rfl,rfl,hqrr10_3,rfl,rfl,hqrr10_4,rfl,rfl,hqrr10_5,rfl,rfl,rfl,trivial⟩ rfl) (Hd.en_o (by intro h; cases h) (Hd.en_eq (r:=(.int .i64 2)) (by rw [roE_arg (by omega) (by unfold argP; omega)]) (Hd.en_ret (v:=(.v (.int .i64 (.ofNat 2)))) (by kernel_rfl) rfl)))
     ·skip
      have ghqrr10_5:=lF hqrr10_5
      rcases bE (ltI 5 q) with hqrr10_6 | hqrr10_6
      ·skip
       have ghqrr10_6:=lT hqrr10_6
       exact gL isR_e (gT cm (kN) 200 (T':=qS1_6) (e:=.ret) (ps:=[ltI nI 1=false,false=false,false=false,ltI 40 nI=false,false=false,false=false,ltI d 0=false,false=false,false=false,ltI 2 d=false,false=false,false=false,ltI q 0=false,false=false,false=false,ltI 5 q=true]) [.go,.go,.go,.go,.b false,.go,.b false,.go,.b false,.go,.go,.go,.b false,.go,.b false,.go,.b false,.go,.go,.go,.b false,.go,.b false,.go,.b false,.go,.go,.go,.b false,.go,.b false,.go,.b false,.go,.go,.go,.b false,.go,.b false,.go,.b false,.go,.go,.b true,.go] (by kernel_rfl) (by kernel_rfl) ⟨hqrr10_1,rfl,rfl,hqrr10_2,rfl,rfl,hqrr10_3,rfl,rfl,hqrr10_4,rfl,rfl,hqrr10_5,rfl,rfl,hqrr10_6,trivial⟩ rfl) (Hd.en_o (by intro h; cases h) (Hd.en_eq (r:=(.int .i64 2)) (by rw [roE_arg (by omega) (by unfold argP; omega)]) (Hd.en_ret (v:=(.v (.int .i64 (.ofNat 2)))) (by kernel_rfl) rfl)))
      ·skip
       have ghqrr10_6:=lF hqrr10_6
       exact gL isN_e (gT cm (kN) 200 (T':=(qS1_3 P d nI q y)) (e:=.normal) (ps:=[ltI nI 1=false,false=false,false=false,ltI 40 nI=false,false=false,false=false,ltI d 0=false,false=false,false=false,ltI 2 d=false,false=false,false=false,ltI q 0=false,false=false,false=false,ltI 5 q=false]) [.go,.go,.go,.go,.b false,.go,.b false,.go,.b false,.go,.go,.go,.b false,.go,.b false,.go,.b false,.go,.go,.go,.b false,.go,.b false,.go,.b false,.go,.go,.go,.b false,.go,.b false,.go,.b false,.go,.go,.go,.b false,.go,.b false,.go,.b false,.go,.go,.b false] (by kernel_rfl) (by kernel_rfl) ⟨hqrr10_1,rfl,rfl,hqrr10_2,rfl,rfl,hqrr10_3,rfl,rfl,hqrr10_4,rfl,rfl,hqrr10_5,rfl,rfl,hqrr10_6,trivial⟩ rfl) (Hd.en_n (rr_11 nI d q y P hqrr7_1 hqrr10_1 hqrr10_2 hqrr10_3 hqrr10_4 hqrr10_5 hqrr10_6 w hs))
theorem rr_5 (nI d q:Int) (y:Value) (P:PL) (w:World) (hs:LN):Goes pg 76 rrK3 ((qS1_3 P d nI q y)) (BaseW.H w hs) (OutH pg Try.f20 76 (.int .i64 (roE nI d q (cT P) P.length)) w):=by
 have hcT:=cT_len P
 refine gS (by kernel_rfl) ?_
 rcases bE (ltI 24 P.length) with hqrr7_1 | hqrr7_1
 ·skip
  have ghqrr7_1:=lT hqrr7_1
  exact gL isR_e (gT cm (kN) 200 (T':=⟨[(2,(.v (.int .i64 (.ofNat 6))))],[],1,[]⟩) (e:=.ret) (ps:=[ltI 24 P.length=true]) [.go,.go,.go,.go,.b true,.go] (by kernel_rfl) (by kernel_rfl) ⟨hqrr7_1,trivial⟩ rfl) (Hd.en_o (by intro h; cases h) (Hd.en_eq (r:=(.int .i64 6)) (by rw [roE_many (by omega)]) (Hd.en_ret (v:=(.v (.int .i64 (.ofNat 6)))) (by kernel_rfl) rfl)))
 ·skip
  have ghqrr7_1:=lF hqrr7_1
  exact gL isN_e (gT cm (kN) 200 (T':=(qS1_3 P d nI q y)) (e:=.normal) (ps:=[ltI 24 P.length=false]) [.go,.go,.go,.go,.b false] (by kernel_rfl) (by kernel_rfl) ⟨hqrr7_1,trivial⟩ rfl) (Hd.en_n (rr_8 nI d q y P hqrr7_1 w hs))
theorem rr_2 (nI d q:Int) (y:Value) (P:PL) (w:World) (hs:LN):Goes pg 76 rrK1 (⟨[(0,(.agg [.v (.int .i64 nI),.v (.int .i64 d),.v (.int .i64 q),.xl y P.length 3 (cT P)]))],[],0,[]⟩) (BaseW.H w hs) (OutH pg Try.f20 76 (.int .i64 (roE nI d q (cT P) P.length)) w):=by
 have hcT:=cT_len P
 refine gS (by kernel_rfl) ?_
 exact gL isN_e (gT cm (kN) 200 (T':=(qS1_3 P d nI q y)) (e:=.normal) (ps:=[]) [.go,.go] (by kernel_rfl) (by kernel_rfl) trivial rfl) (Hd.en_n (rr_5 nI d q y P w hs))
theorem rroad_g (nI d q:Int) (y:Value) (P:PL):GivesA pg 20 [(.agg [.v (.int .i64 nI),.v (.int .i64 d),.v (.int .i64 q),.xl y P.length 3 (cT P)])] (.int .i64 (roE nI d q (cT P) P.length)) :=
 givesA_partsH 76 Try.func20 (by kernel_rfl) (by kernel_rfl) (by kernel_rfl) (fun w=>goes_less (by kernel_rfl) (by kernel_rfl) (by kernel_rfl) (by kernel_rfl) (rr_2 nI d q y P w []))
end
end Go.Proofs.Ytnphldmnakbknaa
