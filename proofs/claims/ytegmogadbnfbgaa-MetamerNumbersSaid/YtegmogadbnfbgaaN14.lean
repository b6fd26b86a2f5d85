import Derived.Test.YtegmogadbnfbgaaN13
set_option maxHeartbeats 4000000
set_option linter.all false
/- Cases and truths that are too great; the spans of both sides. -/
namespace Go.Proofs.Ytegmogadbnfbgaa
open Go Ev
noncomputable section
section
variable (E : List (Value × List (Int × Int))) (L : List (Int × Int)) (X : List (Value × List Int)) (Y : List Int) (a0 a1 a2 a3 a4 a5 : Int) (u ul y yl : Value)
@[reducible] def qN14_1:Ev.AB:=(.row [(.v (.int .i64 (a0))),(.v (.int .i64 (a1))),(.v (.int .i64 (a2))),(.v (.int .i64 (a3))),(.v (.int .i64 (a4))),(.v (.int .i64 (a5)))] 65 2)
@[reducible] def qN14_2:Ev.AB:=(.cells [(.v (.int .i64 (a0))),(.v (.int .i64 (a1))),(.v (.int .i64 (a2))),(.v (.int .i64 (a3))),(.v (.int .i64 (a4))),(.v (.int .i64 (a5)))] 65)
@[reducible] def qN14_12:Nat×Ev.AV:=(3,(.v (.int .i64 (.ofNat 0))))
@[reducible] def qN14_9:Nat×Ev.AB:=(0,(.cells [(.xl (y) (E.length) 1 (cQw E)),(.xl (yl) (L.length) 2 (cR L))] 25))
@[reducible] def qN14_3:Ev.Lit:=⟨[(1,(.ptr 0 0)),qN14_12],[],1,[(qN14_9 E L y yl)]⟩
@[reducible] def qN14_10:Nat×Ev.AB:=(0,(.cells [(.xl (u) (X.length) 1 (cRw X)),(.xl (ul) (Y.length) 1 (cI Y))] 29))
@[reducible] def qN14_4:Ev.Lit:=⟨[(1,(.ptr 0 0)),qN14_12],[],1,[(qN14_10 X Y u ul)]⟩
@[reducible] def qN14_5:Ev.AB:=(.row [.v (.int .i64 a0),.v (.int .i64 a1),.v (.int .i64 a2),.v (.int .i64 a3),.v (.int .i64 a4),.v (.int .i64 a5)] 65 2)
@[reducible] def qN14_6:Ev.AB:=(.cells [.v (.int .i64 a0),.v (.int .i64 a1),.v (.int .i64 a2),.v (.int .i64 a3),.v (.int .i64 a4),.v (.int .i64 a5)] 65)
@[reducible] def qN14_7:Ev.Lit:=⟨[(1,(.ptr 0 0))],[],1,[(qN14_9 E L y yl)]⟩
@[reducible] def qN14_8:Ev.Lit:=⟨[(1,(.ptr 0 0))],[],1,[(qN14_10 X Y u ul)]⟩
@[reducible] def qN14_11:Ev.Lit:=⟨[(2,(.v (.bool .true)))],[],1,[]⟩
end
def gwP (c:List AV) (m n:Nat):Prop:=12 < n∨6 < m∨∃ i,i < m∧12 < xlN c (i * 1)
open Classical in
def gwB (c:List AV) (m n:Nat):Bool:=decide (gwP c m n)
theorem gwB_true {c:List AV} {m n:Nat}:gwB c m n=true↔gwP c m n:=@decide_eq_true_iff _ (Classical.propDecidable _)
theorem gwB_false {c:List AV} {m n:Nat}:gwB c m n=false↔¬ gwP c m n:=@decide_eq_false_iff_not _ (Classical.propDecidable _)
theorem gwB_many {c:List AV} {m n:Nat} (h:12 < n∨6 < m):gwB c m n=true:=gwB_true.2 (h.elim .inl (fun h=>.inr (.inl h)))
theorem gwB_far {c:List AV} {m n i:Nat} (hi:i < m) (h:12 < xlN c (i * 1)):gwB c m n=true:=gwB_true.2 (.inr (.inr ⟨i,hi,h⟩))
theorem gwB_no {c:List AV} {m n:Nat} (h:¬ (12 < n∨6 < m)) (h2:∀ i,i < m→¬ 12 < xlN c (i * 1)):gwB c m n=false:=gwB_false.2 (fun k=>by
 rcases k with k | k | ⟨i,k1,k2⟩
 ·exact h (.inl k)
 ·exact h (.inr k)
 ·exact h2 i k1 k2)
theorem gwB_m {c:List AV} {m n:Nat} (h:¬ gwB c m n=true):m≤6:=by
 rcases Nat.lt_or_ge 6 m with k | k
 ·exact absurd (gwB_many (.inr k)) h
 ·exact k
theorem en_lo {l0 h0 l1 h1 s:Int} (a:0≤l0∧l0≤h0) (b:0≤l1∧l1≤h1) (hs:0≤s):l0 * l1 * s≤h0 * h1 * s:=by
 have h2:l0 * l1≤h0 * h1:=Int.mul_le_mul a.2 b.2 b.1 (by omega)
 exact Int.mul_le_mul_of_nonneg_right h2 hs
theorem sp_one {cP cL cM:List AV} {b:Nat} (h0:rngAt 100 cP b) (h1:rngAt 100 cL b) (h2:0≤intAt cM (b * 1)∧intAt cM (b * 1)≤1000) :
  enF cP cM false b * enF cL cM false b * intAt cM (b * 1)=(if intAt cP (b * 2 + 1) * intAt cL (b * 2 + 1) * intAt cM (b * 1) < intAt cP (b * 2 + 0) * intAt cL (b * 2 + 0) * intAt cM (b * 1) then intAt cP (b * 2 + 1) * intAt cL (b * 2 + 1) * intAt cM (b * 1) else intAt cP (b * 2 + 0) * intAt cL (b * 2 + 0) * intAt cM (b * 1)) ∧
  enF cP cM true b * enF cL cM true b * intAt cM (b * 1)=(if intAt cP (b * 2 + 1) * intAt cL (b * 2 + 1) * intAt cM (b * 1) > intAt cP (b * 2 + 0) * intAt cL (b * 2 + 0) * intAt cM (b * 1) then intAt cP (b * 2 + 1) * intAt cL (b * 2 + 1) * intAt cM (b * 1) else intAt cP (b * 2 + 0) * intAt cL (b * 2 + 0) * intAt cM (b * 1)):=by
 unfold rngAt at h0 h1
 have hle:=en_lo (s:=intAt cM (b * 1)) (l0:=intAt cP (b * 2 + 0)) (h0:=intAt cP (b * 2 + 1)) (l1:=intAt cL (b * 2 + 0)) (h1:=intAt cL (b * 2 + 1)) (by omega) (by omega) h2.1
 cases e:ltI 0 (intAt cM (b * 1)) with
 | true =>
  have e1:enF cP cM false b=intAt cP (b * 2 + 0):=enF_no (by rw [e]; decide)
  have e2:enF cL cM false b=intAt cL (b * 2 + 0):=enF_no (by rw [e]; decide)
  have e3:enF cP cM true b=intAt cP (b * 2 + 1):=enF_yes (by rw [e]; decide)
  have e4:enF cL cM true b=intAt cL (b * 2 + 1):=enF_yes (by rw [e]; decide)
  rw [e1,e2,e3,e4]
  constructor
  ·rw [if_neg (by omega)]
  ·split <;> omega
 | false =>
  have e0:intAt cM (b * 1)=0:=by have:=ltI_false e; omega
  rw [e0]
  simp
theorem sp_eq {cE c0 c1 c2 cL cM:List AV} {n:Nat} (x0:xlC cE (0 * 1)=c0) (x1:xlC cE (1 * 1)=c1) (x2:xlC cE (2 * 1)=c2) (h:SpOK c0 c1 c2 cL cM n):∀ k,k < 3→spN c0 c1 c2 cL cM n false k=smF (loP cE cL cM k) n∧spN c0 c1 c2 cL cM n true k=smF (hiP cE cL cM k) n:=by
 obtain ⟨hl,h0,h1,h2,hm⟩:=h
 intro k hk
 unfold spN
 match k,hk with
 | 0,_ =>
  constructor <;> refine smF_ext (fun b hb=>?_) <;> unfold muP <;> simp only [] <;> rw [Nat.mul_one,tI_int hb,tI_int hb]
  ·have:=(sp_one (h0 b hb) (hl b hb) (hm b hb)).1
   rw [Nat.mul_one] at this
   rw [this]; unfold loP pxP pyP; rw [x0,Nat.mul_one]
  ·have:=(sp_one (h0 b hb) (hl b hb) (hm b hb)).2
   rw [Nat.mul_one] at this
   rw [this]; unfold hiP pxP pyP; rw [x0,Nat.mul_one]
 | 1,_ =>
  constructor <;> refine smF_ext (fun b hb=>?_) <;> unfold muP <;> simp only [] <;> rw [Nat.mul_one,tI_int hb,tI_int hb]
  ·have:=(sp_one (h1 b hb) (hl b hb) (hm b hb)).1
   rw [Nat.mul_one] at this
   rw [this]; unfold loP pxP pyP; rw [x1,Nat.mul_one b]
  ·have:=(sp_one (h1 b hb) (hl b hb) (hm b hb)).2
   rw [Nat.mul_one] at this
   rw [this]; unfold hiP pxP pyP; rw [x1,Nat.mul_one b]
 | 2,_ =>
  constructor <;> refine smF_ext (fun b hb=>?_) <;> unfold muP <;> simp only [] <;> rw [Nat.mul_one,tI_int hb,tI_int hb]
  ·have:=(sp_one (h2 b hb) (hl b hb) (hm b hb)).1
   rw [Nat.mul_one] at this
   rw [this]; unfold loP pxP pyP; rw [x2,Nat.mul_one b]
  ·have:=(sp_one (h2 b hb) (hl b hb) (hm b hb)).2
   rw [Nat.mul_one] at this
   rw [this]; unfold hiP pxP pyP; rw [x2,Nat.mul_one b]
noncomputable def gwgK1:Code:=bodyC Try.f13
noncomputable def gwgK3:Code:=tlC gwgK1
noncomputable def gwgK6:Code:=tlC gwgK3
noncomputable def gwgK9:Code:=tlC gwgK6
noncomputable def gwgK10:Code:=(hdC gwgK6)
noncomputable def gwgK12:Code:=tlC gwgK10
noncomputable def gwgK16:Code:=loopC gwgK12
theorem gwg_19 (y:Value) (E:List (Value×List (Int×Int))) (yl:Value) (L:List (Int×Int)) (hqgwg7_1:(ltI 12 L.length)=false) (hqgwg7_2:(ltI 6 E.length)=false) (h0b:∀ j,j < (E.length)→¬ 12 < xlN (cQw E) (j * 1)) (hqgwg18_1:(ltI E.length E.length)=false) (w:World) (hs:List Nat):Goes Try.prog 28 gwgK9 (⟨[],[],1,[]⟩) (BaseW.H w hs) (OutH Try.prog Try.f13 28 (.bool (gwB (cQw E) E.length L.length)) w):=by
 have hcl_L:=cR_len L
 have ghqgwg7_1:=ltI_false hqgwg7_1
 have ghqgwg7_2:=ltI_false hqgwg7_2
 have ghqgwg18_1:=ltI_false hqgwg18_1
 exact goes_leafA isR_e (goes_told Try.checked.mixed (known_none) 200 (T':=⟨[(2,(.v (.bool .false)))],[],1,[]⟩) (e:=.ret) (ps:=[]) [.go] (by kernel_rfl) (by kernel_rfl) trivial rfl) (Hd.en_eq (r:=(.bool .false)) (by rw [gwB_no (c:=(cQw E)) (m:=E.length) (n:=L.length) (by omega) h0b]) (Hd.en_ret (v:=(.v (.bool .false))) (by kernel_rfl) rfl))
theorem gwg_17 (y:Value) (E:List (Value×List (Int×Int))) (yl:Value) (L:List (Int×Int)) (hqgwg7_1:(ltI 12 L.length)=false) (hqgwg7_2:(ltI 6 E.length)=false) (i:Nat) (hi1:i≤E.length) (hi2:∀ j,j < i→¬ 12 < xlN (cQw E) (j * 1)) (w:World) (hs:List Nat):Goes Try.prog 28 gwgK16 (⟨[(1,(.ptr 0 0)),(3,(.v (.int .i64 i)))],[],1,[(qN14_9 E L y yl)]⟩) (BaseW.H w hs) (Hd.StepC Try.prog 28 0 (fun i:{i:Nat // i≤E.length∧∀ j,j < i→¬ 12 < xlN (cQw E) (j * 1)}=>⟨[(1,(.ptr 0 0)),(3,(.v (.int .i64 i.1)))],[],1,[(qN14_9 E L y yl)]⟩) (fun i:{i:Nat // i≤E.length∧∀ j,j < i→¬ 12 < xlN (cQw E) (j * 1)}=>E.length - i.1) gwgK9 w (OutH Try.prog Try.f13 28 (.bool (gwB (cQw E) E.length L.length)) w) (⟨i,hi1,hi2⟩:{i:Nat // i≤E.length∧∀ j,j < i→¬ 12 < xlN (cQw E) (j * 1)})):=by
 have hcl_L:=cR_len L
 have ghqgwg7_1:=ltI_false hqgwg7_1
 have ghqgwg7_2:=ltI_false hqgwg7_2
 rcases Bool.eq_false_or_eq_true (ltI i E.length) with hqgwg18_1 | hqgwg18_1
 ·skip
  have ghqgwg18_1:=ltI_true hqgwg18_1
  rcases Bool.eq_false_or_eq_true (ltI 12 ((xlN (cQw E) (i * 1):Nat):Int)) with hqgwg18_2 | hqgwg18_2
  ·skip
   have ghqgwg18_2:=ltI_true hqgwg18_2
   exact goes_leafA isR_e (goes_told Try.checked.mixed (known_none) 200 (T':=qN14_11) (e:=.ret) (ps:=[ltI i E.length=true,i < E.length,loadL Try.prog (cQw E) (i * 1) 23=some (AV.xl (xlY (cQw E) (i * 1)) (xlN (cQw E) (i * 1)) 2 (xlC (cQw E) (i * 1))),ltI 12 ((xlN (cQw E) (i * 1):Nat):Int)=true]) [.go,.go,.go,.go,.go,.b true,.go,.go,.go,.sym,.sym,.go,.go,.b true,.go] (by kernel_rfl) (by kernel_rfl) ⟨hqgwg18_1,(by omega),(by rw [Nat.mul_one]; exact cQw_load (by omega) 23 (Try.underlying23) rfl),hqgwg18_2,trivial⟩ rfl) (Hd.en_so (by intro h; cases h) (by intro h; cases h) (Hd.en_eq (r:=(.bool .true)) (by rw [gwB_far (c:=(cQw E)) (m:=E.length) (n:=L.length) (i:=i) (by omega) (by omega)]) (Hd.en_ret (v:=(.v (.bool .true))) (by kernel_rfl) rfl)))
  ·skip
   have ghqgwg18_2:=ltI_false hqgwg18_2
   exact goes_leafA isN_e (goes_told Try.checked.mixed (known_none) 200 (T':=⟨[(1,(.ptr 0 0)),(3,(.v (.int .i64 (((i + 1):Nat):Int))))],[],1,[(qN14_9 E L y yl)]⟩) (e:=.normal) (ps:=[ltI i E.length=true,i < E.length,loadL Try.prog (cQw E) (i * 1) 23=some (AV.xl (xlY (cQw E) (i * 1)) (xlN (cQw E) (i * 1)) 2 (xlC (cQw E) (i * 1))),ltI 12 ((xlN (cQw E) (i * 1):Nat):Int)=false,inR IntKind.i64 (((i:Nat):Int) + 1)]) [.go,.go,.go,.go,.go,.b true,.go,.go,.go,.sym,.sym,.go,.go,.b false,.go,.go,.go] (by kernel_rfl) (by kernel_rfl) ⟨hqgwg18_1,(by omega),(by rw [Nat.mul_one]; exact cQw_load (by omega) 23 (Try.underlying23) rfl),hqgwg18_2,(by show -9223372036854775808≤_∧_≤9223372036854775807; constructor <;> omega),trivial⟩ rfl) (Hd.en_on (⟨i + 1,by omega,(up_next (q:=fun j=>¬ 12 < xlN (cQw E) (j * 1)) hi2 (by omega))⟩) (by show E.length - (i + 1) < E.length - i; omega) rfl)
 ·skip
  have ghqgwg18_1:=ltI_false hqgwg18_1
  obtain rfl:i=E.length:=by omega
  exact goes_leafA isX_e (goes_told Try.checked.mixed (known_none) 200 (T':=⟨[],[],1,[]⟩) (e:=.exit 0) (ps:=[ltI E.length E.length=false]) [.go,.go,.go,.go,.go,.b false] (by kernel_rfl) (by kernel_rfl) ⟨hqgwg18_1,trivial⟩ rfl) (Hd.en_sx (gwg_19 y E yl L hqgwg7_1 hqgwg7_2 hi2  hqgwg18_1 w hs))
theorem gwg_15 (y:Value) (E:List (Value×List (Int×Int))) (yl:Value) (L:List (Int×Int)) (hqgwg7_1:(ltI 12 L.length)=false) (hqgwg7_2:(ltI 6 E.length)=false) (w:World) (hs:List Nat):Goes Try.prog 28 gwgK12 ((qN14_3 E L y yl)) (BaseW.H w hs) (Hd.AfterN Try.prog 28 gwgK9 w (OutH Try.prog Try.f13 28 (.bool (gwB (cQw E) E.length L.length)) w)):=by
 have hcl_L:=cR_len L
 have ghqgwg7_1:=ltI_false hqgwg7_1
 have ghqgwg7_2:=ltI_false hqgwg7_2
 exact Hd.goes_loopA (id:=0) (by kernel_rfl) (by kernel_rfl) (fun i:{i:Nat // i≤E.length∧∀ j,j < i→¬ 12 < xlN (cQw E) (j * 1)}=>⟨[(1,(.ptr 0 0)),(3,(.v (.int .i64 i.1)))],[],1,[(qN14_9 E L y yl)]⟩) (fun i:{i:Nat // i≤E.length∧∀ j,j < i→¬ 12 < xlN (cQw E) (j * 1)}=>E.length - i.1) (fun ix_ hs=>gwg_17 y E yl L hqgwg7_1 hqgwg7_2 ix_.1 ix_.2.1 ix_.2.2 w hs) ⟨0,Nat.zero_le _,(fun j hj=>by omega)⟩ hs
theorem gwg_14 (y:Value) (E:List (Value×List (Int×Int))) (yl:Value) (L:List (Int×Int)) (hqgwg7_1:(ltI 12 L.length)=false) (hqgwg7_2:(ltI 6 E.length)=false) (w:World) (hs:List Nat):Goes Try.prog 28 gwgK12 ((qN14_3 E L y yl)) (BaseW.H w hs) (Hd.AfterN Try.prog 28 gwgK9 w (OutH Try.prog Try.f13 28 (.bool (gwB (cQw E) E.length L.length)) w)):=by
 exact gwg_15 y E yl L hqgwg7_1 hqgwg7_2 w hs
theorem gwg_11 (y:Value) (E:List (Value×List (Int×Int))) (yl:Value) (L:List (Int×Int)) (hqgwg7_1:(ltI 12 L.length)=false) (hqgwg7_2:(ltI 6 E.length)=false) (w:World) (hs:List Nat):Goes Try.prog 28 gwgK10 ((qN14_7 E L y yl)) (BaseW.H w hs) (Hd.AfterN Try.prog 28 gwgK9 w (OutH Try.prog Try.f13 28 (.bool (gwB (cQw E) E.length L.length)) w)):=by
 have hcl_L:=cR_len L
 have ghqgwg7_1:=ltI_false hqgwg7_1
 have ghqgwg7_2:=ltI_false hqgwg7_2
 refine Hd.goes_seqA (by kernel_rfl) ?_
 exact goes_leafA isN_e (goes_told Try.checked.mixed (known_none) 200 (T':=(qN14_3 E L y yl)) (e:=.normal) (ps:=[]) [.go] (by kernel_rfl) (by kernel_rfl) trivial rfl) (Hd.en_n (gwg_14 y E yl L hqgwg7_1 hqgwg7_2 w hs))
theorem gwg_8 (y:Value) (E:List (Value×List (Int×Int))) (yl:Value) (L:List (Int×Int)) (hqgwg7_1:(ltI 12 L.length)=false) (hqgwg7_2:(ltI 6 E.length)=false) (w:World) (hs:List Nat):Goes Try.prog 28 gwgK6 ((qN14_7 E L y yl)) (BaseW.H w hs) (OutH Try.prog Try.f13 28 (.bool (gwB (cQw E) E.length L.length)) w):=by
 exact Hd.goes_seqA (by kernel_rfl) (gwg_11 y E yl L hqgwg7_1 hqgwg7_2 w hs)
theorem gwg_5 (y:Value) (E:List (Value×List (Int×Int))) (yl:Value) (L:List (Int×Int)) (w:World) (hs:List Nat):Goes Try.prog 28 gwgK3 ((qN14_7 E L y yl)) (BaseW.H w hs) (OutH Try.prog Try.f13 28 (.bool (gwB (cQw E) E.length L.length)) w):=by
 have hcl_L:=cR_len L
 refine Hd.goes_seqA (by kernel_rfl) ?_
 rcases Bool.eq_false_or_eq_true (ltI 12 L.length) with hqgwg7_1 | hqgwg7_1
 ·skip
  have ghqgwg7_1:=ltI_true hqgwg7_1
  exact goes_leafA isR_e (goes_told Try.checked.mixed (known_none) 200 (T':=qN14_11) (e:=.ret) (ps:=[ltI 12 L.length=true,true=true,true=true,true=true,true=true]) [.go,.go,.go,.go,.go,.b true,.b true,.b true,.b true,.go,.b true,.go] (by kernel_rfl) (by kernel_rfl) ⟨hqgwg7_1,rfl,rfl,rfl,rfl,trivial⟩ rfl) (Hd.en_o (by intro h; cases h) (Hd.en_eq (r:=(.bool .true)) (by rw [gwB_many (c:=(cQw E)) (m:=E.length) (n:=L.length) (by omega)]) (Hd.en_ret (v:=(.v (.bool .true))) (by kernel_rfl) rfl)))
 ·skip
  have ghqgwg7_1:=ltI_false hqgwg7_1
  rcases Bool.eq_false_or_eq_true (ltI 6 E.length) with hqgwg7_2 | hqgwg7_2
  ·skip
   have ghqgwg7_2:=ltI_true hqgwg7_2
   exact goes_leafA isR_e (goes_told Try.checked.mixed (known_none) 200 (T':=qN14_11) (e:=.ret) (ps:=[ltI 12 L.length=false,false=false,false=false,false=false,ltI 6 E.length=true]) [.go,.go,.go,.go,.go,.b false,.go,.b false,.go,.b false,.go,.b false,.go,.go,.b true,.go] (by kernel_rfl) (by kernel_rfl) ⟨hqgwg7_1,rfl,rfl,rfl,hqgwg7_2,trivial⟩ rfl) (Hd.en_o (by intro h; cases h) (Hd.en_eq (r:=(.bool .true)) (by rw [gwB_many (c:=(cQw E)) (m:=E.length) (n:=L.length) (by omega)]) (Hd.en_ret (v:=(.v (.bool .true))) (by kernel_rfl) rfl)))
  ·skip
   have ghqgwg7_2:=ltI_false hqgwg7_2
   exact goes_leafA isN_e (goes_told Try.checked.mixed (known_none) 200 (T':=(qN14_7 E L y yl)) (e:=.normal) (ps:=[ltI 12 L.length=false,false=false,false=false,false=false,ltI 6 E.length=false]) [.go,.go,.go,.go,.go,.b false,.go,.b false,.go,.b false,.go,.b false,.go,.go,.b false] (by kernel_rfl) (by kernel_rfl) ⟨hqgwg7_1,rfl,rfl,rfl,hqgwg7_2,trivial⟩ rfl) (Hd.en_n (gwg_8 y E yl L hqgwg7_1 hqgwg7_2 w hs))
theorem gwg_2 (y:Value) (E:List (Value×List (Int×Int))) (yl:Value) (L:List (Int×Int)) (w:World) (hs:List Nat):Goes Try.prog 28 gwgK1 (⟨[(0,(.agg [.xl y E.length 1 (cQw E),.xl yl L.length 2 (cR L)]))],[],0,[]⟩) (BaseW.H w hs) (OutH Try.prog Try.f13 28 (.bool (gwB (cQw E) E.length L.length)) w):=by
 have hcl_L:=cR_len L
 refine Hd.goes_seqA (by kernel_rfl) ?_
 exact goes_leafA isN_e (goes_told Try.checked.mixed (known_none) 200 (T':=(qN14_7 E L y yl)) (e:=.normal) (ps:=[]) [.go,.go] (by kernel_rfl) (by kernel_rfl) trivial rfl) (Hd.en_n (gwg_5 y E yl L w hs))
theorem gwg_g (y:Value) (E:List (Value×List (Int×Int))) (yl:Value) (L:List (Int×Int)):GivesA Try.prog 13 [(.agg [.xl y E.length 1 (cQw E),.xl yl L.length 2 (cR L)])] (.bool (gwB (cQw E) E.length L.length)) :=
 givesA_partsH 28 Try.func13 (by kernel_rfl) (by kernel_rfl) (by kernel_rfl) (fun w=>goes_less (by kernel_rfl) (by kernel_rfl) (by kernel_rfl) (by kernel_rfl) (gwg_2 y E yl L w []))
noncomputable def gwwK1:Code:=bodyC Try.f14
noncomputable def gwwK3:Code:=tlC gwwK1
noncomputable def gwwK6:Code:=tlC gwwK3
noncomputable def gwwK9:Code:=tlC gwwK6
noncomputable def gwwK10:Code:=(hdC gwwK6)
noncomputable def gwwK12:Code:=tlC gwwK10
noncomputable def gwwK16:Code:=loopC gwwK12
theorem gww_19 (u:Value) (X:List (Value×List Int)) (ul:Value) (Y:List Int) (hqgww7_1:(ltI 12 Y.length)=false) (hqgww7_2:(ltI 6 X.length)=false) (h0b:∀ j,j < (X.length)→¬ 12 < xlN (cRw X) (j * 1)) (hqgww18_1:(ltI X.length X.length)=false) (w:World) (hs:List Nat):Goes Try.prog 28 gwwK9 (⟨[],[],1,[]⟩) (BaseW.H w hs) (OutH Try.prog Try.f14 28 (.bool (gwB (cRw X) X.length Y.length)) w):=by
 have hcl_Y:=cI_len Y
 have ghqgww7_1:=ltI_false hqgww7_1
 have ghqgww7_2:=ltI_false hqgww7_2
 have ghqgww18_1:=ltI_false hqgww18_1
 exact goes_leafA isR_e (goes_told Try.checked.mixed (known_none) 200 (T':=⟨[(2,(.v (.bool .false)))],[],1,[]⟩) (e:=.ret) (ps:=[]) [.go] (by kernel_rfl) (by kernel_rfl) trivial rfl) (Hd.en_eq (r:=(.bool .false)) (by rw [gwB_no (c:=(cRw X)) (m:=X.length) (n:=Y.length) (by omega) h0b]) (Hd.en_ret (v:=(.v (.bool .false))) (by kernel_rfl) rfl))
theorem gww_17 (u:Value) (X:List (Value×List Int)) (ul:Value) (Y:List Int) (hqgww7_1:(ltI 12 Y.length)=false) (hqgww7_2:(ltI 6 X.length)=false) (i:Nat) (hi1:i≤X.length) (hi2:∀ j,j < i→¬ 12 < xlN (cRw X) (j * 1)) (w:World) (hs:List Nat):Goes Try.prog 28 gwwK16 (⟨[(1,(.ptr 0 0)),(3,(.v (.int .i64 i)))],[],1,[(qN14_10 X Y u ul)]⟩) (BaseW.H w hs) (Hd.StepC Try.prog 28 0 (fun i:{i:Nat // i≤X.length∧∀ j,j < i→¬ 12 < xlN (cRw X) (j * 1)}=>⟨[(1,(.ptr 0 0)),(3,(.v (.int .i64 i.1)))],[],1,[(qN14_10 X Y u ul)]⟩) (fun i:{i:Nat // i≤X.length∧∀ j,j < i→¬ 12 < xlN (cRw X) (j * 1)}=>X.length - i.1) gwwK9 w (OutH Try.prog Try.f14 28 (.bool (gwB (cRw X) X.length Y.length)) w) (⟨i,hi1,hi2⟩:{i:Nat // i≤X.length∧∀ j,j < i→¬ 12 < xlN (cRw X) (j * 1)})):=by
 have hcl_Y:=cI_len Y
 have ghqgww7_1:=ltI_false hqgww7_1
 have ghqgww7_2:=ltI_false hqgww7_2
 rcases Bool.eq_false_or_eq_true (ltI i X.length) with hqgww18_1 | hqgww18_1
 ·skip
  have ghqgww18_1:=ltI_true hqgww18_1
  rcases Bool.eq_false_or_eq_true (ltI 12 ((xlN (cRw X) (i * 1):Nat):Int)) with hqgww18_2 | hqgww18_2
  ·skip
   have ghqgww18_2:=ltI_true hqgww18_2
   exact goes_leafA isR_e (goes_told Try.checked.mixed (known_none) 200 (T':=qN14_11) (e:=.ret) (ps:=[ltI i X.length=true,i < X.length,loadL Try.prog (cRw X) (i * 1) 27=some (AV.xl (xlY (cRw X) (i * 1)) (xlN (cRw X) (i * 1)) 1 (xlC (cRw X) (i * 1))),ltI 12 ((xlN (cRw X) (i * 1):Nat):Int)=true]) [.go,.go,.go,.go,.go,.b true,.go,.go,.go,.sym,.sym,.go,.go,.b true,.go] (by kernel_rfl) (by kernel_rfl) ⟨hqgww18_1,(by omega),(by rw [Nat.mul_one]; exact cRw_load (by omega) 27 (Try.underlying27) rfl),hqgww18_2,trivial⟩ rfl) (Hd.en_so (by intro h; cases h) (by intro h; cases h) (Hd.en_eq (r:=(.bool .true)) (by rw [gwB_far (c:=(cRw X)) (m:=X.length) (n:=Y.length) (i:=i) (by omega) (by omega)]) (Hd.en_ret (v:=(.v (.bool .true))) (by kernel_rfl) rfl)))
  ·skip
   have ghqgww18_2:=ltI_false hqgww18_2
   exact goes_leafA isN_e (goes_told Try.checked.mixed (known_none) 200 (T':=⟨[(1,(.ptr 0 0)),(3,(.v (.int .i64 (((i + 1):Nat):Int))))],[],1,[(qN14_10 X Y u ul)]⟩) (e:=.normal) (ps:=[ltI i X.length=true,i < X.length,loadL Try.prog (cRw X) (i * 1) 27=some (AV.xl (xlY (cRw X) (i * 1)) (xlN (cRw X) (i * 1)) 1 (xlC (cRw X) (i * 1))),ltI 12 ((xlN (cRw X) (i * 1):Nat):Int)=false,inR IntKind.i64 (((i:Nat):Int) + 1)]) [.go,.go,.go,.go,.go,.b true,.go,.go,.go,.sym,.sym,.go,.go,.b false,.go,.go,.go] (by kernel_rfl) (by kernel_rfl) ⟨hqgww18_1,(by omega),(by rw [Nat.mul_one]; exact cRw_load (by omega) 27 (Try.underlying27) rfl),hqgww18_2,(by show -9223372036854775808≤_∧_≤9223372036854775807; constructor <;> omega),trivial⟩ rfl) (Hd.en_on (⟨i + 1,by omega,(up_next (q:=fun j=>¬ 12 < xlN (cRw X) (j * 1)) hi2 (by omega))⟩) (by show X.length - (i + 1) < X.length - i; omega) rfl)
 ·skip
  have ghqgww18_1:=ltI_false hqgww18_1
  obtain rfl:i=X.length:=by omega
  exact goes_leafA isX_e (goes_told Try.checked.mixed (known_none) 200 (T':=⟨[],[],1,[]⟩) (e:=.exit 0) (ps:=[ltI X.length X.length=false]) [.go,.go,.go,.go,.go,.b false] (by kernel_rfl) (by kernel_rfl) ⟨hqgww18_1,trivial⟩ rfl) (Hd.en_sx (gww_19 u X ul Y hqgww7_1 hqgww7_2 hi2  hqgww18_1 w hs))
theorem gww_15 (u:Value) (X:List (Value×List Int)) (ul:Value) (Y:List Int) (hqgww7_1:(ltI 12 Y.length)=false) (hqgww7_2:(ltI 6 X.length)=false) (w:World) (hs:List Nat):Goes Try.prog 28 gwwK12 ((qN14_4 X Y u ul)) (BaseW.H w hs) (Hd.AfterN Try.prog 28 gwwK9 w (OutH Try.prog Try.f14 28 (.bool (gwB (cRw X) X.length Y.length)) w)):=by
 have hcl_Y:=cI_len Y
 have ghqgww7_1:=ltI_false hqgww7_1
 have ghqgww7_2:=ltI_false hqgww7_2
 exact Hd.goes_loopA (id:=0) (by kernel_rfl) (by kernel_rfl) (fun i:{i:Nat // i≤X.length∧∀ j,j < i→¬ 12 < xlN (cRw X) (j * 1)}=>⟨[(1,(.ptr 0 0)),(3,(.v (.int .i64 i.1)))],[],1,[(qN14_10 X Y u ul)]⟩) (fun i:{i:Nat // i≤X.length∧∀ j,j < i→¬ 12 < xlN (cRw X) (j * 1)}=>X.length - i.1) (fun ix_ hs=>gww_17 u X ul Y hqgww7_1 hqgww7_2 ix_.1 ix_.2.1 ix_.2.2 w hs) ⟨0,Nat.zero_le _,(fun j hj=>by omega)⟩ hs
theorem gww_14 (u:Value) (X:List (Value×List Int)) (ul:Value) (Y:List Int) (hqgww7_1:(ltI 12 Y.length)=false) (hqgww7_2:(ltI 6 X.length)=false) (w:World) (hs:List Nat):Goes Try.prog 28 gwwK12 ((qN14_4 X Y u ul)) (BaseW.H w hs) (Hd.AfterN Try.prog 28 gwwK9 w (OutH Try.prog Try.f14 28 (.bool (gwB (cRw X) X.length Y.length)) w)):=by
 exact gww_15 u X ul Y hqgww7_1 hqgww7_2 w hs
theorem gww_11 (u:Value) (X:List (Value×List Int)) (ul:Value) (Y:List Int) (hqgww7_1:(ltI 12 Y.length)=false) (hqgww7_2:(ltI 6 X.length)=false) (w:World) (hs:List Nat):Goes Try.prog 28 gwwK10 ((qN14_8 X Y u ul)) (BaseW.H w hs) (Hd.AfterN Try.prog 28 gwwK9 w (OutH Try.prog Try.f14 28 (.bool (gwB (cRw X) X.length Y.length)) w)):=by
 have hcl_Y:=cI_len Y
 have ghqgww7_1:=ltI_false hqgww7_1
 have ghqgww7_2:=ltI_false hqgww7_2
 refine Hd.goes_seqA (by kernel_rfl) ?_
 exact goes_leafA isN_e (goes_told Try.checked.mixed (known_none) 200 (T':=(qN14_4 X Y u ul)) (e:=.normal) (ps:=[]) [.go] (by kernel_rfl) (by kernel_rfl) trivial rfl) (Hd.en_n (gww_14 u X ul Y hqgww7_1 hqgww7_2 w hs))
theorem gww_8 (u:Value) (X:List (Value×List Int)) (ul:Value) (Y:List Int) (hqgww7_1:(ltI 12 Y.length)=false) (hqgww7_2:(ltI 6 X.length)=false) (w:World) (hs:List Nat):Goes Try.prog 28 gwwK6 ((qN14_8 X Y u ul)) (BaseW.H w hs) (OutH Try.prog Try.f14 28 (.bool (gwB (cRw X) X.length Y.length)) w):=by
 exact Hd.goes_seqA (by kernel_rfl) (gww_11 u X ul Y hqgww7_1 hqgww7_2 w hs)
theorem gww_5 (u:Value) (X:List (Value×List Int)) (ul:Value) (Y:List Int) (w:World) (hs:List Nat):Goes Try.prog 28 gwwK3 ((qN14_8 X Y u ul)) (BaseW.H w hs) (OutH Try.prog Try.f14 28 (.bool (gwB (cRw X) X.length Y.length)) w):=by
 have hcl_Y:=cI_len Y
 refine Hd.goes_seqA (by kernel_rfl) ?_
 rcases Bool.eq_false_or_eq_true (ltI 12 Y.length) with hqgww7_1 | hqgww7_1
 ·skip
  have ghqgww7_1:=ltI_true hqgww7_1
  exact goes_leafA isR_e (goes_told Try.checked.mixed (known_none) 200 (T':=qN14_11) (e:=.ret) (ps:=[ltI 12 Y.length=true,true=true,true=true,true=true,true=true]) [.go,.go,.go,.go,.go,.b true,.b true,.b true,.b true,.go,.b true,.go] (by kernel_rfl) (by kernel_rfl) ⟨hqgww7_1,rfl,rfl,rfl,rfl,trivial⟩ rfl) (Hd.en_o (by intro h; cases h) (Hd.en_eq (r:=(.bool .true)) (by rw [gwB_many (c:=(cRw X)) (m:=X.length) (n:=Y.length) (by omega)]) (Hd.en_ret (v:=(.v (.bool .true))) (by kernel_rfl) rfl)))
 ·skip
  have ghqgww7_1:=ltI_false hqgww7_1
  rcases Bool.eq_false_or_eq_true (ltI 6 X.length) with hqgww7_2 | hqgww7_2
  ·skip
   have ghqgww7_2:=ltI_true hqgww7_2
   exact goes_leafA isR_e (goes_told Try.checked.mixed (known_none) 200 (T':=qN14_11) (e:=.ret) (ps:=[ltI 12 Y.length=false,false=false,false=false,false=false,ltI 6 X.length=true]) [.go,.go,.go,.go,.go,.b false,.go,.b false,.go,.b false,.go,.b false,.go,.go,.b true,.go] (by kernel_rfl) (by kernel_rfl) ⟨hqgww7_1,rfl,rfl,rfl,hqgww7_2,trivial⟩ rfl) (Hd.en_o (by intro h; cases h) (Hd.en_eq (r:=(.bool .true)) (by rw [gwB_many (c:=(cRw X)) (m:=X.length) (n:=Y.length) (by omega)]) (Hd.en_ret (v:=(.v (.bool .true))) (by kernel_rfl) rfl)))
  ·skip
   have ghqgww7_2:=ltI_false hqgww7_2
   exact goes_leafA isN_e (goes_told Try.checked.mixed (known_none) 200 (T':=(qN14_8 X Y u ul)) (e:=.normal) (ps:=[ltI 12 Y.length=false,false=false,false=false,false=false,ltI 6 X.length=false]) [.go,.go,.go,.go,.go,.b false,.go,.b false,.go,.b false,.go,.b false,.go,.go,.b false] (by kernel_rfl) (by kernel_rfl) ⟨hqgww7_1,rfl,rfl,rfl,hqgww7_2,trivial⟩ rfl) (Hd.en_n (gww_8 u X ul Y hqgww7_1 hqgww7_2 w hs))
theorem gww_2 (u:Value) (X:List (Value×List Int)) (ul:Value) (Y:List Int) (w:World) (hs:List Nat):Goes Try.prog 28 gwwK1 (⟨[(0,(.agg [.xl u X.length 1 (cRw X),.xl ul Y.length 1 (cI Y)]))],[],0,[]⟩) (BaseW.H w hs) (OutH Try.prog Try.f14 28 (.bool (gwB (cRw X) X.length Y.length)) w):=by
 have hcl_Y:=cI_len Y
 refine Hd.goes_seqA (by kernel_rfl) ?_
 exact goes_leafA isN_e (goes_told Try.checked.mixed (known_none) 200 (T':=(qN14_8 X Y u ul)) (e:=.normal) (ps:=[]) [.go,.go] (by kernel_rfl) (by kernel_rfl) trivial rfl) (Hd.en_n (gww_5 u X ul Y w hs))
theorem gww_g (u:Value) (X:List (Value×List Int)) (ul:Value) (Y:List Int):GivesA Try.prog 14 [(.agg [.xl u X.length 1 (cRw X),.xl ul Y.length 1 (cI Y)])] (.bool (gwB (cRw X) X.length Y.length)) :=
 givesA_partsH 28 Try.func14 (by kernel_rfl) (by kernel_rfl) (by kernel_rfl) (fun w=>goes_less (by kernel_rfl) (by kernel_rfl) (by kernel_rfl) (by kernel_rfl) (gww_2 u X ul Y w []))
noncomputable def lgK1:Code:=bodyC Try.f22
noncomputable def lgK3:Code:=tlC lgK1
noncomputable def lgK6:Code:=tlC lgK3
noncomputable def lgK9:Code:=tlC lgK6
noncomputable def lgK10:Code:=(hdC lgK6)
noncomputable def lgK12:Code:=tlC lgK10
noncomputable def lgK16:Code:=loopC lgK12
theorem lg_19 (X:List Int) (hX:X.length≤5000) (hqlg7_1:(eqI X.length X.length)=true) (h0b:True) (hqlg18_1:(ltI X.length X.length)=false) (v:BaseW) (eb:Nat→Option Nat) (ec:Nat→Nat) (hs:List Nat):Goes Try.prog 26 lgK9 (⟨[],[],2,[(0,(.cells (cI X) 2)),(1,(.cells (cI X) 2))]⟩) (BaseW.H (bw v 2 eb ec) hs) (OutM Try.prog Try.f22 26 ((.v (.bool true))) [(.cells (cI X) 2),(.cells (cI X) 2)] (bw v 2 eb ec)):=by
 have hcl_X:=cI_len X
 have ghqlg7_1:=eqI_true hqlg7_1
 have ghqlg18_1:=ltI_false hqlg18_1
 exact goes_leafA isR_e (goes_told Try.checked.mixed (known_none) 200 (T':=⟨[(4,(.v (.bool .true)))],[],2,[(0,(.cells (cI X) 2)),(1,(.cells (cI X) 2))]⟩) (e:=.ret) (ps:=[]) [.go] (by kernel_rfl) (by kernel_rfl) trivial rfl) (en_eqM (r:=(.v (.bool .true))) (ys:=[(.cells (cI X) 2),(.cells (cI X) 2)]) (by rfl) (by rfl) (en_retM (by kernel_rfl) (by kernel_rfl) rfl (.inr rfl)))
theorem lg_17 (X:List Int) (hX:X.length≤5000) (hqlg7_1:(eqI X.length X.length)=true) (i:Nat) (hi1:i≤X.length) (hi2:True) (v:BaseW) (eb:Nat→Option Nat) (ec:Nat→Nat) (hs:List Nat):Goes Try.prog 26 lgK16 (⟨[(0,(.sl 0 0 (X.length) (X.length))),(1,(.sl 1 0 (X.length) (X.length))),(5,(.v (.int .i64 i)))],[],2,[(0,(.cells (cI X) 2)),(1,(.cells (cI X) 2))]⟩) (BaseW.H (bw v 2 eb ec) hs) (Hd.StepC Try.prog 26 0 (fun i:{i:Nat // i≤X.length∧True}=>⟨[(0,(.sl 0 0 (X.length) (X.length))),(1,(.sl 1 0 (X.length) (X.length))),(5,(.v (.int .i64 i.1)))],[],2,[(0,(.cells (cI X) 2)),(1,(.cells (cI X) 2))]⟩) (fun i:{i:Nat // i≤X.length∧True}=>X.length - i.1) lgK9 (bw v 2 eb ec) (OutM Try.prog Try.f22 26 ((.v (.bool true))) [(.cells (cI X) 2),(.cells (cI X) 2)] (bw v 2 eb ec)) (⟨i,hi1,hi2⟩:{i:Nat // i≤X.length∧True})):=by
 have hcl_X:=cI_len X
 have ghqlg7_1:=eqI_true hqlg7_1
 rcases Bool.eq_false_or_eq_true (ltI i X.length) with hqlg18_1 | hqlg18_1
 ·skip
  have ghqlg18_1:=ltI_true hqlg18_1
  rcases Bool.eq_false_or_eq_true (eqI (intAt (cI X) (0 + i * 1)) (intAt (cI X) (0 + i * 1))) with hqlg18_2 | hqlg18_2
  ·skip
   have ghqlg18_2:=eqI_true hqlg18_2
   exact goes_leafA isN_e (goes_told Try.checked.mixed (known_none) 200 (T':=⟨[(0,(.sl 0 0 (X.length) (X.length))),(1,(.sl 1 0 (X.length) (X.length))),(5,(.v (.int .i64 (((i + 1):Nat):Int))))],[],2,[(0,(.cells (cI X) 2)),(1,(.cells (cI X) 2))]⟩) (e:=.normal) (ps:=[ltI i X.length=true,i < X.length,loadL Try.prog (cI X) (0 + i * 1) 2=some (AV.v (Value.int IntKind.i64 (intAt (cI X) (0 + i * 1)))),i < X.length,loadL Try.prog (cI X) (0 + i * 1) 2=some (AV.v (Value.int IntKind.i64 (intAt (cI X) (0 + i * 1)))),(!eqI (intAt (cI X) (0 + i * 1)) (intAt (cI X) (0 + i * 1)))=false,inR IntKind.i64 (((i:Nat):Int) + 1)]) [.go,.go,.go,.go,.b true,.go,.go,.sym,.sym,.go,.go,.sym,.sym,.go,.b false,.go,.go,.go] (by kernel_rfl) (by kernel_rfl) ⟨hqlg18_1,(by omega),(by rw [Nat.mul_one]; exact cI_load (show _ < X.length by omega) 2 (Try.underlying2) rfl),(by omega),(by rw [Nat.mul_one]; exact cI_load (show _ < X.length by omega) 2 (Try.underlying2) rfl),(by rw [hqlg18_2]; rfl),(by show -9223372036854775808≤_∧_≤9223372036854775807; constructor <;> omega),trivial⟩ rfl) (Hd.en_on (⟨i + 1,by omega,trivial⟩) (by show X.length - (i + 1) < X.length - i; omega) rfl)
  ·skip
   have ghqlg18_2:=eqI_false hqlg18_2
   exact absurd rfl (eqI_false hqlg18_2)
 ·skip
  have ghqlg18_1:=ltI_false hqlg18_1
  obtain rfl:i=X.length:=by omega
  exact goes_leafA isX_e (goes_told Try.checked.mixed (known_none) 200 (T':=⟨[],[],2,[(0,(.cells (cI X) 2)),(1,(.cells (cI X) 2))]⟩) (e:=.exit 0) (ps:=[ltI X.length X.length=false]) [.go,.go,.go,.go,.b false] (by kernel_rfl) (by kernel_rfl) ⟨hqlg18_1,trivial⟩ rfl) (Hd.en_sx (lg_19 X hX hqlg7_1 hi2  hqlg18_1 v eb ec hs))
theorem lg_15 (X:List Int) (hX:X.length≤5000) (hqlg7_1:(eqI X.length X.length)=true) (v:BaseW) (eb:Nat→Option Nat) (ec:Nat→Nat) (hs:List Nat):Goes Try.prog 26 lgK12 (⟨[(0,(.sl 0 0 (X.length) (X.length))),(1,(.sl 1 0 (X.length) (X.length))),(5,(.v (.int .i64 (.ofNat 0))))],[],2,[(0,(.cells (cI X) 2)),(1,(.cells (cI X) 2))]⟩) (BaseW.H (bw v 2 eb ec) hs) (Hd.AfterN Try.prog 26 lgK9 (bw v 2 eb ec) (OutM Try.prog Try.f22 26 ((.v (.bool true))) [(.cells (cI X) 2),(.cells (cI X) 2)] (bw v 2 eb ec))):=by
 have hcl_X:=cI_len X
 have ghqlg7_1:=eqI_true hqlg7_1
 exact Hd.goes_loopA (id:=0) (by kernel_rfl) (by kernel_rfl) (fun i:{i:Nat // i≤X.length∧True}=>⟨[(0,(.sl 0 0 (X.length) (X.length))),(1,(.sl 1 0 (X.length) (X.length))),(5,(.v (.int .i64 i.1)))],[],2,[(0,(.cells (cI X) 2)),(1,(.cells (cI X) 2))]⟩) (fun i:{i:Nat // i≤X.length∧True}=>X.length - i.1) (fun ix_ hs=>lg_17 X hX hqlg7_1 ix_.1 ix_.2.1 ix_.2.2 v eb ec hs) ⟨0,Nat.zero_le _,trivial⟩ hs
theorem lg_14 (X:List Int) (hX:X.length≤5000) (hqlg7_1:(eqI X.length X.length)=true) (v:BaseW) (eb:Nat→Option Nat) (ec:Nat→Nat) (hs:List Nat):Goes Try.prog 26 lgK12 (⟨[(0,(.sl 0 0 (X.length) (X.length))),(1,(.sl 1 0 (X.length) (X.length))),(5,(.v (.int .i64 (.ofNat 0))))],[],2,[(0,(.cells (cI X) 2)),(1,(.cells (cI X) 2))]⟩) (BaseW.H (bw v 2 eb ec) hs) (Hd.AfterN Try.prog 26 lgK9 (bw v 2 eb ec) (OutM Try.prog Try.f22 26 ((.v (.bool true))) [(.cells (cI X) 2),(.cells (cI X) 2)] (bw v 2 eb ec))):=by
 exact lg_15 X hX hqlg7_1 v eb ec hs
theorem lg_11 (X:List Int) (hX:X.length≤5000) (hqlg7_1:(eqI X.length X.length)=true) (v:BaseW) (eb:Nat→Option Nat) (ec:Nat→Nat) (hs:List Nat):Goes Try.prog 26 lgK10 (⟨[(0,(.sl 0 0 (X.length) (X.length))),(1,(.sl 1 0 (X.length) (X.length)))],[],2,[(0,(.cells (cI X) 2)),(1,(.cells (cI X) 2))]⟩) (BaseW.H (bw v 2 eb ec) hs) (Hd.AfterN Try.prog 26 lgK9 (bw v 2 eb ec) (OutM Try.prog Try.f22 26 ((.v (.bool true))) [(.cells (cI X) 2),(.cells (cI X) 2)] (bw v 2 eb ec))):=by
 have hcl_X:=cI_len X
 have ghqlg7_1:=eqI_true hqlg7_1
 refine Hd.goes_seqA (by kernel_rfl) ?_
 exact goes_leafA isN_e (goes_told Try.checked.mixed (known_none) 200 (T':=⟨[(0,(.sl 0 0 (X.length) (X.length))),(1,(.sl 1 0 (X.length) (X.length))),(5,(.v (.int .i64 (.ofNat 0))))],[],2,[(0,(.cells (cI X) 2)),(1,(.cells (cI X) 2))]⟩) (e:=.normal) (ps:=[]) [.go] (by kernel_rfl) (by kernel_rfl) trivial rfl) (Hd.en_n (lg_14 X hX hqlg7_1 v eb ec hs))
theorem lg_8 (X:List Int) (hX:X.length≤5000) (hqlg7_1:(eqI X.length X.length)=true) (v:BaseW) (eb:Nat→Option Nat) (ec:Nat→Nat) (hs:List Nat):Goes Try.prog 26 lgK6 (⟨[(0,(.sl 0 0 (X.length) (X.length))),(1,(.sl 1 0 (X.length) (X.length)))],[],2,[(0,(.cells (cI X) 2)),(1,(.cells (cI X) 2))]⟩) (BaseW.H (bw v 2 eb ec) hs) (OutM Try.prog Try.f22 26 ((.v (.bool true))) [(.cells (cI X) 2),(.cells (cI X) 2)] (bw v 2 eb ec)):=by
 exact Hd.goes_seqA (by kernel_rfl) (lg_11 X hX hqlg7_1 v eb ec hs)
theorem lg_5 (X:List Int) (hX:X.length≤5000) (v:BaseW) (eb:Nat→Option Nat) (ec:Nat→Nat) (hs:List Nat):Goes Try.prog 26 lgK3 (⟨[(0,(.sl 0 0 (X.length) (X.length))),(1,(.sl 1 0 (X.length) (X.length)))],[],2,[(0,(.cells (cI X) 2)),(1,(.cells (cI X) 2))]⟩) (BaseW.H (bw v 2 eb ec) hs) (OutM Try.prog Try.f22 26 ((.v (.bool true))) [(.cells (cI X) 2),(.cells (cI X) 2)] (bw v 2 eb ec)):=by
 have hcl_X:=cI_len X
 refine Hd.goes_seqA (by kernel_rfl) ?_
 rcases Bool.eq_false_or_eq_true (eqI X.length X.length) with hqlg7_1 | hqlg7_1
 ·skip
  have ghqlg7_1:=eqI_true hqlg7_1
  exact goes_leafA isN_e (goes_told Try.checked.mixed (known_none) 200 (T':=⟨[(0,(.sl 0 0 (X.length) (X.length))),(1,(.sl 1 0 (X.length) (X.length)))],[],2,[(0,(.cells (cI X) 2)),(1,(.cells (cI X) 2))]⟩) (e:=.normal) (ps:=[(!eqI X.length X.length)=false]) [.go,.go,.go,.go,.go,.b false] (by kernel_rfl) (by kernel_rfl) ⟨(by rw [hqlg7_1]; rfl),trivial⟩ rfl) (Hd.en_n (lg_8 X hX hqlg7_1 v eb ec hs))
 ·skip
  have ghqlg7_1:=eqI_false hqlg7_1
  exact absurd rfl (eqI_false hqlg7_1)
theorem lg_2 (X:List Int) (hX:X.length≤5000) (v:BaseW) (eb:Nat→Option Nat) (ec:Nat→Nat) (hs:List Nat):Goes Try.prog 26 lgK1 (⟨[(0,(.sl 0 0 X.length X.length)),(1,(.sl 1 0 X.length X.length))],[],2,[(0,(.cells (cI X) 2)),(1,(.cells (cI X) 2))]⟩) (BaseW.H (bw v 2 eb ec) hs) (OutM Try.prog Try.f22 26 ((.v (.bool true))) [(.cells (cI X) 2),(.cells (cI X) 2)] (bw v 2 eb ec)):=by
 have hcl_X:=cI_len X
 refine Hd.goes_seqA (by kernel_rfl) ?_
 exact goes_leafA isN_e (goes_told Try.checked.mixed (known_none) 200 (T':=⟨[(0,(.sl 0 0 (X.length) (X.length))),(1,(.sl 1 0 (X.length) (X.length)))],[],2,[(0,(.cells (cI X) 2)),(1,(.cells (cI X) 2))]⟩) (e:=.normal) (ps:=[]) [.go] (by kernel_rfl) (by kernel_rfl) trivial rfl) (Hd.en_n (lg_5 X hX v eb ec hs))
theorem lg_g (X:List Int) (hX:X.length≤5000):GivesM Try.prog 22 [(.sl 0 0 X.length X.length),(.sl 1 0 X.length X.length)] [(.cells (cI X) 2),(.cells (cI X) 2)] ((.v (.bool true))) [(.cells (cI X) 2),(.cells (cI X) 2)] :=
 givesM_parts 26 (by kernel_rfl) Try.func22 (by kernel_rfl) (by kernel_rfl) (by kernel_rfl) (fun v eb ec=>goes_less (by kernel_rfl) (by kernel_rfl) (by kernel_rfl) (by kernel_rfl) (lg_2 X hX v eb ec []))
noncomputable def rnK1:Code:=bodyC Try.f23
theorem rn_2 (a0 a1 a2 a3 a4 a5:Int) (v:BaseW) (eb:Nat→Option Nat) (ec:Nat→Nat) (hs:List Nat):Goes Try.prog 26 rnK1 (⟨[(0,(.slu 0 0 3 0)),(1,(.sl 1 0 3 3))],[],2,[(0,(qN14_5 a0 a1 a2 a3 a4 a5)),(1,(qN14_6 a0 a1 a2 a3 a4 a5))]⟩) (BaseW.H (bw v 2 eb ec) hs) (OutM Try.prog Try.f23 26 ((.v (.bool true))) [(qN14_5 a0 a1 a2 a3 a4 a5),(qN14_6 a0 a1 a2 a3 a4 a5)] (bw v 2 eb ec)):=by
 rcases Bool.eq_false_or_eq_true (eqI a0 a0 && (eqI a1 a1 && true)) with hqrn3_1 | hqrn3_1
 ·skip
  rcases Bool.eq_false_or_eq_true (eqI a2 a2 && (eqI a3 a3 && true)) with hqrn3_2 | hqrn3_2
  ·skip
   rcases Bool.eq_false_or_eq_true (eqI a4 a4 && (eqI a5 a5 && true)) with hqrn3_3 | hqrn3_3
   ·skip
    exact goes_leafA isR_e (goes_told Try.checked.mixed (known_none) 200 (T':=⟨[(4,(.v (.bool .true)))],[],2,[(0,(qN14_1 a0 a1 a2 a3 a4 a5)),(1,(qN14_2 a0 a1 a2 a3 a4 a5))]⟩) (e:=.ret) (ps:=[(!eqI 3 3)=false,ltI 0 3=true,(!(eqI a0 a0 && (eqI a1 a1 && true)))=false,inR IntKind.i64 (0 + 1),ltI (0 + 1) 3=true,(!(eqI a2 a2 && (eqI a3 a3 && true)))=false,inR IntKind.i64 (0 + 1 + 1),ltI (0 + 1 + 1) 3=true,(!(eqI a4 a4 && (eqI a5 a5 && true)))=false,inR IntKind.i64 (0 + 1 + 1 + 1),ltI (0 + 1 + 1 + 1) 3=false]) [.go,.go,.go,.go,.go,.go,.b false,.go,.go,.go,.go,.go,.b true,.go,.go,.go,.go,.go,.go,.go,.go,.go,.b false,.go,.go,.go,.go,.go,.go,.go,.b true,.go,.go,.go,.go,.go,.go,.go,.go,.go,.b false,.go,.go,.go,.go,.go,.go,.go,.b true,.go,.go,.go,.go,.go,.go,.go,.go,.go,.b false,.go,.go,.go,.go,.go,.go,.go,.b false,.go] (by kernel_rfl) (by kernel_rfl) ⟨(by simp [eqI_iff,ltI_iff]),(by simp [eqI_iff,ltI_iff]),(by rw [hqrn3_1]; rfl),(by show -9223372036854775808≤(_:Int)∧(_:Int)≤9223372036854775807; constructor <;> decide),(by simp [eqI_iff,ltI_iff]),(by rw [hqrn3_2]; rfl),(by show -9223372036854775808≤(_:Int)∧(_:Int)≤9223372036854775807; constructor <;> decide),(by simp [eqI_iff,ltI_iff]),(by rw [hqrn3_3]; rfl),(by show -9223372036854775808≤(_:Int)∧(_:Int)≤9223372036854775807; constructor <;> decide),(by simp [eqI_iff,ltI_iff]),trivial⟩ rfl) (en_eqM (r:=(.v (.bool .true))) (ys:=[(qN14_1 a0 a1 a2 a3 a4 a5),(qN14_2 a0 a1 a2 a3 a4 a5)]) (by rfl) (by rfl) (en_retM (by kernel_rfl) (by kernel_rfl) rfl (.inr rfl)))
   ·skip
    exact absurd hqrn3_3 (by simp [eqI_iff])
  ·skip
   exact absurd hqrn3_2 (by simp [eqI_iff])
 ·skip
  exact absurd hqrn3_1 (by simp [eqI_iff])
theorem rn_g (a0 a1 a2 a3 a4 a5:Int):GivesM Try.prog 23 [(.slu 0 0 3 0),(.sl 1 0 3 3)] [(qN14_5 a0 a1 a2 a3 a4 a5),(qN14_6 a0 a1 a2 a3 a4 a5)] ((.v (.bool true))) [(qN14_5 a0 a1 a2 a3 a4 a5),(qN14_6 a0 a1 a2 a3 a4 a5)] :=
 givesM_parts 26 (by kernel_rfl) Try.func23 (by kernel_rfl) (by kernel_rfl) (by kernel_rfl) (fun v eb ec=>goes_less (by kernel_rfl) (by kernel_rfl) (by kernel_rfl) (by kernel_rfl) (rn_2 a0 a1 a2 a3 a4 a5 v eb ec []))
end
end Go.Proofs.Ytegmogadbnfbgaa
