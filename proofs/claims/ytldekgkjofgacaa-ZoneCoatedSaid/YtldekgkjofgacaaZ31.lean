import Derived.Test.YtldekgkjofgacaaZ30
import Derived.Test.YtldekgkjofgacaaZ21a
set_option maxHeartbeats 2000000
set_option linter.all false
/- Oracles of the law ZoneCoated, what it asks. -/
namespace Go.Proofs.Ytldekgkjofgacaa
open Go Ev
noncomputable section
theorem hcZ31 (A:List Int) (B:List Bool) (L:List (Int×Int)) (W:List Int):(cI A).length=A.length∧(cR L).length=L.length * 2∧(cB B).length=B.length∧(cI W).length=W.length:=⟨cI_len A,cR_len L,cB_len B,cI_len W⟩
section
variable (A : List Int) (B : List Bool) (L : List (Int × Int)) (W : List Int) (a b : Int) (w : World) (ya yf yl yw : Value)
@[reducible] def q31_29:=(rdB (cI A) A.length (cR L) (cB B) W.length W.length)
@[reducible] def q31_27:=(sumG (cI W) (q31_29 A B L W).snd W.length)
@[reducible] def q31_22:Nat×Ev.AB:=(3,(.cells [(.v (.int .i64 (sumG (cI W) (q31_29 A B L W).fst W.length))),(.v (.int .i64 (q31_27 A B L W)))] 40))
@[reducible] def q31_26:=(sumG (cI W) (fun k=>((q31_29 A B L W).snd k * 1000).tdiv 1000) W.length)
@[reducible] def q31_13:Nat×Ev.AB:=(5,(.cells [(.v (.int .i64 (sumG (cI W) (fun k=>((q31_29 A B L W).fst k * 1000).tdiv 1000) W.length))),(.v (.int .i64 (q31_26 A B L W)))] 40))
@[reducible] def q31_14:Nat×Ev.AB:=(7,(.cells [(.v (.int .i64 (sumG (cI W) (fun k=>((q31_29 A B L W).fst k * 0).tdiv 1000) W.length))),(.v (.int .i64 (sumG (cI W) (fun k=>((q31_29 A B L W).snd k * 0).tdiv 1000) W.length)))] 40))
@[reducible] def q31_16:=(sumG (cI W) (fun k=>((q31_29 A B L W).fst k * if (IntKind.i64.wrap b).tmod 1001 < (IntKind.i64.wrap a).tmod 1001 then (IntKind.i64.wrap b).tmod 1001 else (IntKind.i64.wrap a).tmod 1001).tdiv 1000) W.length)
@[reducible] def q31_19:=(sumG (cI W) (fun k=>((q31_29 A B L W).snd k * if (IntKind.i64.wrap b).tmod 1001 < (IntKind.i64.wrap a).tmod 1001 then (IntKind.i64.wrap b).tmod 1001 else (IntKind.i64.wrap a).tmod 1001).tdiv 1000) W.length)
@[reducible] def q31_9:Nat×Ev.AB:=(9,(.cells [(.v (.int .i64 (q31_16 A B L W a b))),(.v (.int .i64 (q31_19 A B L W a b)))] 40))
@[reducible] def q31_15:=(sumG (cI W) (fun k=>((q31_29 A B L W).snd k * if (IntKind.i64.wrap b).tmod 1001 > (IntKind.i64.wrap a).tmod 1001 then (IntKind.i64.wrap b).tmod 1001 else (IntKind.i64.wrap a).tmod 1001).tdiv 1000) W.length)
@[reducible] def q31_8:Nat×Ev.AB:=(11,(.cells [(.v (.int .i64 (q31_16 A B L W a b))),(.v (.int .i64 (q31_15 A B L W a b)))] 40))
@[reducible] def q31_18:=(sumG (cI W) (fun k=>((q31_29 A B L W).fst k * if (IntKind.i64.wrap b).tmod 1001 > (IntKind.i64.wrap a).tmod 1001 then (IntKind.i64.wrap b).tmod 1001 else (IntKind.i64.wrap a).tmod 1001).tdiv 1000) W.length)
@[reducible] def q31_1:Ev.Lit:=⟨[(11,(.ptr 3 0)),(12,(.v (.int .i64 (.ofNat 0)))),(13,(.ptr 5 0)),(14,(.v (.int .i64 (.ofNat 0)))),(15,(.ptr 7 0)),(16,(.v (.int .i64 (.ofNat 0)))),(17,(.ptr 9 0)),(18,(.v (.int .i64 (.ofNat 0)))),(19,(.ptr 11 0)),(20,(.v (.int .i64 (.ofNat 0)))),(21,(.ptr 13 0)),(22,(.v (.int .i64 (.ofNat 0))))],[],14,[(q31_22 A B L W),(q31_13 A B L W),(q31_14 A B L W),(q31_9 A B L W a b),(q31_8 A B L W a b),(13,(.cells [(.v (.int .i64 (q31_18 A B L W a b))),(.v (.int .i64 (q31_15 A B L W a b)))] 40))]⟩
@[reducible] def q31_23:Nat×Ev.AV:=(10,(.v (.int .i64 (if (IntKind.i64.wrap b).tmod 1001 > (IntKind.i64.wrap a).tmod 1001 then (IntKind.i64.wrap b).tmod 1001 else (IntKind.i64.wrap a).tmod 1001))))
@[reducible] def q31_25:Nat×Ev.AB:=(0,(.cells [(.xl (ya) (A.length) 1 (cI A)),(.xl (yl) (L.length) 2 (cR L)),(.xl (yf) (B.length) 1 (cB B)),(.xl (yw) (W.length) 1 (cI W))] 26))
@[reducible] def q31_2:Ev.Lit:=⟨[(3,(.ptr 0 0)),(q31_23 a b),(11,(.ptr 3 0)),(12,(.v (.int .i64 (.ofNat 0)))),(13,(.ptr 5 0)),(14,(.v (.int .i64 (.ofNat 0)))),(15,(.ptr 7 0)),(16,(.v (.int .i64 (.ofNat 0)))),(17,(.ptr 9 0)),(18,(.v (.int .i64 (.ofNat 0)))),(19,(.ptr 11 0)),(20,(.v (.int .i64 (.ofNat 0))))],[],12,[(q31_25 A B L W ya yf yl yw),(q31_22 A B L W),(q31_13 A B L W),(q31_14 A B L W),(q31_9 A B L W a b),(q31_8 A B L W a b)]⟩
@[reducible] def q31_24:Nat×Ev.AV:=(9,(.v (.int .i64 (if (IntKind.i64.wrap b).tmod 1001 < (IntKind.i64.wrap a).tmod 1001 then (IntKind.i64.wrap b).tmod 1001 else (IntKind.i64.wrap a).tmod 1001))))
@[reducible] def q31_3:Ev.Lit:=⟨[(3,(.ptr 0 0)),(q31_24 a b),(q31_23 a b),(11,(.ptr 3 0)),(12,(.v (.int .i64 (.ofNat 0)))),(13,(.ptr 5 0)),(14,(.v (.int .i64 (.ofNat 0)))),(15,(.ptr 7 0)),(16,(.v (.int .i64 (.ofNat 0)))),(17,(.ptr 9 0)),(18,(.v (.int .i64 (.ofNat 0))))],[],10,[(q31_25 A B L W ya yf yl yw),(q31_22 A B L W),(q31_13 A B L W),(q31_14 A B L W),(q31_9 A B L W a b)]⟩
@[reducible] def q31_4:Ev.Lit:=⟨[(3,(.ptr 0 0)),(q31_24 a b),(q31_23 a b),(11,(.ptr 3 0)),(12,(.v (.int .i64 (.ofNat 0)))),(13,(.ptr 5 0)),(14,(.v (.int .i64 (.ofNat 0)))),(15,(.ptr 7 0)),(16,(.v (.int .i64 (.ofNat 0))))],[],8,[(q31_25 A B L W ya yf yl yw),(q31_22 A B L W),(q31_13 A B L W),(q31_14 A B L W)]⟩
@[reducible] def q31_5:Ev.Lit:=⟨[(3,(.ptr 0 0)),(q31_24 a b),(q31_23 a b),(11,(.ptr 3 0)),(12,(.v (.int .i64 (.ofNat 0)))),(13,(.ptr 5 0)),(14,(.v (.int .i64 (.ofNat 0))))],[],6,[(q31_25 A B L W ya yf yl yw),(q31_22 A B L W),(q31_13 A B L W)]⟩
@[reducible] def q31_6:=(eqI (q31_16 A B L W a b) (q31_16 A B L W a b) && (eqI (q31_15 A B L W a b) (q31_15 A B L W a b) && true))
@[reducible] def q31_7:Ev.Lit:=⟨[(3,(.ptr 0 0)),(q31_24 a b),(q31_23 a b),(11,(.ptr 3 0)),(12,(.v (.int .i64 (.ofNat 0))))],[],4,[(q31_25 A B L W ya yf yl yw),(q31_22 A B L W)]⟩
@[reducible] def q31_10:Ev.Lit:=⟨[(3,(.ptr 0 0)),(q31_24 a b),(q31_23 a b)],[],3,[(q31_25 A B L W ya yf yl yw)]⟩
@[reducible] def q31_11:=(eqI (sumG (cI W) (fun k=>((q31_29 A B L W).fst k * 1000).tdiv 1000) W.length) (sumG (cI W) (q31_29 A B L W).fst W.length) && (eqI (q31_26 A B L W) (q31_27 A B L W) && true))
@[reducible] def q31_12:Ev.Lit:=⟨[(3,(.ptr 0 0)),(7,(.v (.int .i64 ((IntKind.i64.wrap a).tmod 1001)))),(8,(.v (.int .i64 ((IntKind.i64.wrap b).tmod 1001))))],[],3,[(q31_25 A B L W ya yf yl yw)]⟩
@[reducible] def q31_17:=(eqI (sumG (cI W) (fun k=>((q31_29 A B L W).fst k * 0).tdiv 1000) W.length) 0 && (eqI (sumG (cI W) (fun k=>((q31_29 A B L W).snd k * 0).tdiv 1000) W.length) 0 && true))
@[reducible] def q31_20:Ev.Lit:=⟨[(1,(.v (.int .u16 (a)))),(2,(.v (.int .u16 (b)))),(3,(.ptr 0 0))],[],3,[(q31_25 A B L W ya yf yl yw)]⟩
@[reducible] def q31_21:Ev.Lit:=⟨[(1,(.v (.int .u16 (a)))),(2,(.v (.int .u16 (b)))),(3,(.ptr 0 0))],[],1,[(q31_25 A B L W ya yf yl yw)]⟩
@[reducible] def q31_28:=(eqI (clE (cI A) A.length (cR L) L.length B.length (cI W) W.length) 0)
@[reducible] def q31_30:=(clB (dtd (cI A) A.length (cR L) (cB B) W.length))
@[reducible] def q31_31:=(OutR Try.prog Try.f12 145 (.bool true) w)
@[reducible] def q31_32:Ev.Lit:=⟨[(6,(.v (.bool .false)))],[],16,[]⟩
end
def spokS:List AV→Option (Res1×List Prop):=fun vs =>
 match vs with
 | [.agg [.xl ya na k1 ca,.xl yl nl k2 cl,.xl yf nf k3 cf,.xl yw nw k4 cw]]=>some (.val (.tup [.agg [.v (.int .i64 (sumG cw (rdB ca na cl cf nw nw).1 nw)),.v (.int .i64 (sumG cw (rdB ca na cl cf nw nw).2 nw))],.v (.int .i64 0)]),[IsLampK k1 k2 k3 k4 ca na cl nl cf nf cw nw,clE ca na cl nl nf cw nw=0,fdAll cf cl na=none])
 | _=>none
def spokO:OrcH:=extOrc 27 spokS
theorem known_spok:Known Try.prog (clsO spokO):=known_ext (fun vs r ps h hp=>by
 unfold spokS at h
 split at h
 ·cases h
  obtain ⟨⟨rfl,rfl,rfl,rfl,A,L,B,W,rfl,rfl,rfl,rfl,rfl,rfl,rfl,rfl⟩,hz,hf,-⟩:=hp
  refine ⟨extL_cons ext_lamp extL_nil,_,rfl,?_⟩
  have q:=fun ya yl yf yw=>spn_g ya yl yf yw A L B W hf
  simp only [spE_ok hz hf,spV_ok hz hf] at q
  exact q _ _ _ _
 ·cases h)
def cookS:List AV→Option (Res1×List Prop):=fun vs =>
 match vs with
 | [.agg [.xl ya na k1 ca,.xl yl nl k2 cl,.xl yf nf k3 cf,.xl yw nw k4 cw],.agg [.v p',.v q']]=>match numV p',numV q' with
  | some p,some q=>some (.val (.tup [.agg [.v (.int .i64 (sumG cw (fun k=>((rdB ca na cl cf nw nw).1 k * p).tdiv 1000) nw)),.v (.int .i64 (sumG cw (fun k=>((rdB ca na cl cf nw nw).2 k * q).tdiv 1000) nw))],.v (.int .i64 0)]),[IsLampK k1 k2 k3 k4 ca na cl nl cf nf cw nw,clE ca na cl nl nf cw nw=0,fdAll cf cl na=none,0≤p,p≤q,q≤1000])
  | _,_=>none
 | _=>none
def cookO:OrcH:=extOrc 31 cookS
theorem known_cook:Known Try.prog (clsO cookO):=known_ext (fun vs r ps h hp=>by
 unfold cookS at h
 split at h
 ·split at h
  ·rename_i p q e1 e2
   cases h
   obtain ⟨⟨rfl,rfl,rfl,rfl,A,L,B,W,rfl,rfl,rfl,rfl,rfl,rfl,rfl,rfl⟩,hz,hf,h1,h2,h3,-⟩:=hp
   obtain rfl:=numV_eq e1
   obtain rfl:=numV_eq e2
   refine ⟨extL_cons ext_lamp (extL_cons (ext_agg (extL_cons (ext_v _) (extL_cons (ext_v _) extL_nil))) extL_nil),_,rfl,?_⟩
   have hs:shE p q=0:=if_pos ⟨h1,h2,h3⟩
   have w:=fun ya yl yf yw=>con_g ya yl yf yw A L B W p q hf
   simp only [hs,spE_ok hz hf,spV_ok hz hf] at w
   exact w _ _ _ _
  ·cases h
 ·cases h)
theorem fd_none {A L B W:List AV} {n nl nf nw:Nat} (hz:clE A n L nl nf W nw=0) (h:¬ dtd A n L B nw):fdAll B L n=none:=by
 have q:=clE_zero hz
 cases e:fdAll B L n with
 | none=>rfl
 | some p =>
  have d:=fdAll_of e
  exact absurd ((dtd_iff (B:=B) ⟨q.1,q.2.1,q.2.2.1,q.2.2.2.1⟩).2 ⟨p.2,d.2.1,p.1,d.1,d.2.2⟩) h
def zcO:OrcH:=orO zwO (orO rclO (orO dtO (orO spokO cookO)))
theorem known_zc (hw:Known Try.prog (clsO zwO)):Known Try.prog (clsO zcO):=known_or hw (known_or known_rcl (known_or known_dt (known_or known_spok known_cook)))
theorem coat_full (f:Nat→Int) (hf:∀ k,0≤f k) (c:List AV) (n:Nat):sumG c (fun k=>(f k * 1000).tdiv 1000) n=sumG c f n:=sumG_ext n (fun k _=>by
 show (f k * 1000).tdiv 1000=f k
 rw [Int.tdiv_eq_ediv_of_nonneg (by have:=hf k; omega)]
 omega)
theorem coat_none (f:Nat→Int) (c:List AV):∀ n:Nat,sumG c (fun k=>(f k * 0).tdiv 1000) n=0
 | 0=>rfl
 | n + 1=>by
  unfold sumG
  rw [coat_none f c n]
  simp
theorem coat_mono (f:Nat→Int) (hf:∀ k,0≤f k) (c:List AV) {a b:Int} (ha:0≤a) (hab:a≤b):∀ n:Nat,(∀ k,k < n→0≤intAt c (k * 1))→sumG c (fun k=>(f k * a).tdiv 1000) n≤sumG c (fun k=>(f k * b).tdiv 1000) n
 | 0,_=>Int.le_refl _
 | n + 1,hc=>by
  have ih:=coat_mono f hf c ha hab n (fun k hk=>hc k (by omega))
  have h1:f n * a≤f n * b:=Int.mul_le_mul_of_nonneg_left hab (hf n)
  have h2:0≤f n * a:=Int.mul_nonneg (hf n) ha
  have h3:(f n * a).tdiv 1000≤(f n * b).tdiv 1000:=by
   rw [Int.tdiv_eq_ediv_of_nonneg h2,Int.tdiv_eq_ediv_of_nonneg (by omega)]
   omega
  have h4:=Int.mul_le_mul_of_nonneg_left h3 (hc n (by omega))
  show sumG c _ n + _≤sumG c _ n + _
  exact Int.add_le_add ih h4
theorem coat_top (f:Nat→Int) (hf:∀ k,0≤f k) (c:List AV) {a:Int} (ha:0≤a) (hab:a≤1000) (n:Nat) (hc:∀ k,k < n→0≤intAt c (k * 1)):sumG c (fun k=>(f k * a).tdiv 1000) n≤sumG c f n:=by
 have:=coat_mono f hf c ha hab n hc
 rw [coat_full f hf c n] at this
 exact this
end
end Go.Proofs.Ytldekgkjofgacaa
namespace Go.Proofs.Ytldekgkjofgacaa
open Go Ev
theorem shr_bd {q:Int} (h:0≤q∧q≤65535):0≤(IntKind.i64.wrap q).tmod 1001∧(IntKind.i64.wrap q).tmod 1001≤1000:=by
 rw [show IntKind.i64.wrap q=q from IntWalk.i64_in q ⟨by omega,by omega⟩,Int.tmod_eq_emod_of_nonneg h.1]
 omega
theorem absB {b:Bool} {p:Prop} (h:b=false) (e:b=true):p:=by rw [h] at e; cases e
end Go.Proofs.Ytldekgkjofgacaa
namespace Go.Proofs.Ytldekgkjofgacaa
open Go Ev
noncomputable section
noncomputable def zcK1:Code:=bodyC Try.f12
noncomputable def zcK3:Code:=tlC zcK1
noncomputable def zcK5:Code:=tlC zcK3
noncomputable def zcK7:Code:=tlC zcK5
noncomputable def zcK9:Code:=tlC zcK7
noncomputable def zcK11:Code:=tlC zcK9
noncomputable def zcK13:Code:=tlC zcK11
noncomputable def zcK15:Code:=tlC zcK13
noncomputable def zcK17:Code:=tlC zcK15
noncomputable def zcK19:Code:=tlC zcK17
noncomputable def zcK21:Code:=tlC zcK19
noncomputable def zcK23:Code:=tlC zcK21
theorem zc_24 (ya yl yf yw:Value) (A:List Int) (L:List (Int×Int)) (B:List Bool) (W:List Int) (a b:Int) (hw:Known Try.prog (clsO zwO)) (ha:0≤a∧a≤65535) (hb:0≤b∧b≤65535) (hq4_1:(ltI 14 ((A.length:Nat):Int))=false) (hq4_2:(ltI 14 ((L.length:Nat):Int))=false) (hq4_3:(ltI 14 ((B.length:Nat):Int))=false) (hq4_4:(ltI 100 ((W.length:Nat):Int))=false) (hq4_5:(q31_28 A B L W)=true) (hq4_6:(q31_30 A B L W)=false) (hq22_1:(q31_11 A B L W)=true) (hq22_2:(q31_17 A B L W)=true) (hq22_3:(q31_6 A B L W a b)=true) (hq22_4:(ltI (q31_18 A B L W a b) (q31_16 A B L W a b))=true) (w:World):Goes Try.prog 145 zcK23 (q31_32) w (q31_31 w):=by
 obtain ⟨hcl_A,hcl_L,hcl_B,hcl_W⟩:=hcZ31 A B L W
 have hsa:=shr_bd ha
 have hsb:=shr_bd hb
 have ghq4_1:=ltI_false hq4_1
 have ghq4_2:=ltI_false hq4_2
 have ghq4_3:=ltI_false hq4_3
 have ghq4_4:=ltI_false hq4_4
 have ghq4_5:=eqI_true hq4_5
 have hz:=eqI_true hq4_5
 have hd:=clB_false hq4_6
 have hfd:=fd_none hz hd
 have hr:=rdB_rng (B:=B) hz
 have hw0:=(clE_zero hz).2.2.2.2
 have ghq22_4:=ltI_true hq22_4
 have q1:=ltI_true hq22_4
 exact absurd q1 (Int.not_lt.2 (coat_mono _ (fun k=>(hr k).1) _ (by split <;> omega) (by split <;> split <;> omega) _ (fun k hk=>(hw0 k hk).1)))
theorem zc_25 (ya yl yf yw:Value) (A:List Int) (L:List (Int×Int)) (B:List Bool) (W:List Int) (a b:Int) (hw:Known Try.prog (clsO zwO)) (ha:0≤a∧a≤65535) (hb:0≤b∧b≤65535) (hq4_1:(ltI 14 ((A.length:Nat):Int))=false) (hq4_2:(ltI 14 ((L.length:Nat):Int))=false) (hq4_3:(ltI 14 ((B.length:Nat):Int))=false) (hq4_4:(ltI 100 ((W.length:Nat):Int))=false) (hq4_5:(q31_28 A B L W)=true) (hq4_6:(q31_30 A B L W)=false) (hq22_1:(q31_11 A B L W)=true) (hq22_2:(q31_17 A B L W)=true) (hq22_3:(q31_6 A B L W a b)=true) (hq22_4:(ltI (q31_18 A B L W a b) (q31_16 A B L W a b))=false) (hq22_5:(ltI (q31_15 A B L W a b) (q31_19 A B L W a b))=true) (w:World):Goes Try.prog 145 zcK23 (q31_32) w (q31_31 w):=by
 obtain ⟨hcl_A,hcl_L,hcl_B,hcl_W⟩:=hcZ31 A B L W
 have hsa:=shr_bd ha
 have hsb:=shr_bd hb
 have ghq4_1:=ltI_false hq4_1
 have ghq4_2:=ltI_false hq4_2
 have ghq4_3:=ltI_false hq4_3
 have ghq4_4:=ltI_false hq4_4
 have ghq4_5:=eqI_true hq4_5
 have hz:=eqI_true hq4_5
 have hd:=clB_false hq4_6
 have hfd:=fd_none hz hd
 have hr:=rdB_rng (B:=B) hz
 have hw0:=(clE_zero hz).2.2.2.2
 have ghq22_4:=ltI_false hq22_4
 have ghq22_5:=ltI_true hq22_5
 have q1:=ltI_true hq22_5
 exact absurd q1 (Int.not_lt.2 (coat_mono _ (fun k=>(hr k).2.2.1) _ (by split <;> omega) (by split <;> split <;> omega) _ (fun k hk=>(hw0 k hk).1)))
theorem zc_26 (ya yl yf yw:Value) (A:List Int) (L:List (Int×Int)) (B:List Bool) (W:List Int) (a b:Int) (hw:Known Try.prog (clsO zwO)) (ha:0≤a∧a≤65535) (hb:0≤b∧b≤65535) (hq4_1:(ltI 14 ((A.length:Nat):Int))=false) (hq4_2:(ltI 14 ((L.length:Nat):Int))=false) (hq4_3:(ltI 14 ((B.length:Nat):Int))=false) (hq4_4:(ltI 100 ((W.length:Nat):Int))=false) (hq4_5:(q31_28 A B L W)=true) (hq4_6:(q31_30 A B L W)=false) (hq22_1:(q31_11 A B L W)=true) (hq22_2:(q31_17 A B L W)=true) (hq22_3:(q31_6 A B L W a b)=true) (hq22_4:(ltI (q31_18 A B L W a b) (q31_16 A B L W a b))=false) (hq22_5:(ltI (q31_15 A B L W a b) (q31_19 A B L W a b))=false) (hq22_6:(ltI (q31_27 A B L W) (q31_15 A B L W a b))=true) (w:World):Goes Try.prog 145 zcK23 (q31_32) w (q31_31 w):=by
 obtain ⟨hcl_A,hcl_L,hcl_B,hcl_W⟩:=hcZ31 A B L W
 have hsa:=shr_bd ha
 have hsb:=shr_bd hb
 have ghq4_1:=ltI_false hq4_1
 have ghq4_2:=ltI_false hq4_2
 have ghq4_3:=ltI_false hq4_3
 have ghq4_4:=ltI_false hq4_4
 have ghq4_5:=eqI_true hq4_5
 have hz:=eqI_true hq4_5
 have hd:=clB_false hq4_6
 have hfd:=fd_none hz hd
 have hr:=rdB_rng (B:=B) hz
 have hw0:=(clE_zero hz).2.2.2.2
 have ghq22_4:=ltI_false hq22_4
 have ghq22_5:=ltI_false hq22_5
 have ghq22_6:=ltI_true hq22_6
 have q1:=ltI_true hq22_6
 exact absurd q1 (Int.not_lt.2 (coat_top _ (fun k=>(hr k).2.2.1) _ (by split <;> omega) (by split <;> omega) _ (fun k hk=>(hw0 k hk).1)))
theorem zc_27 (ya yl yf yw:Value) (A:List Int) (L:List (Int×Int)) (B:List Bool) (W:List Int) (a b:Int) (hw:Known Try.prog (clsO zwO)) (ha:0≤a∧a≤65535) (hb:0≤b∧b≤65535) (hq4_1:(ltI 14 ((A.length:Nat):Int))=false) (hq4_2:(ltI 14 ((L.length:Nat):Int))=false) (hq4_3:(ltI 14 ((B.length:Nat):Int))=false) (hq4_4:(ltI 100 ((W.length:Nat):Int))=false) (hq4_5:(q31_28 A B L W)=true) (hq4_6:(q31_30 A B L W)=false) (hq22_1:(q31_11 A B L W)=true) (hq22_2:(q31_17 A B L W)=true) (hq22_3:(q31_6 A B L W a b)=true) (hq22_4:(ltI (q31_18 A B L W a b) (q31_16 A B L W a b))=false) (hq22_5:(ltI (q31_15 A B L W a b) (q31_19 A B L W a b))=false) (hq22_6:(ltI (q31_27 A B L W) (q31_15 A B L W a b))=false) (w:World):Goes Try.prog 145 zcK23 (⟨[(6,(.v (.bool .true)))],[],16,[]⟩) w (q31_31 w):=by
 obtain ⟨hcl_A,hcl_L,hcl_B,hcl_W⟩:=hcZ31 A B L W
 have hsa:=shr_bd ha
 have hsb:=shr_bd hb
 have ghq4_1:=ltI_false hq4_1
 have ghq4_2:=ltI_false hq4_2
 have ghq4_3:=ltI_false hq4_3
 have ghq4_4:=ltI_false hq4_4
 have ghq4_5:=eqI_true hq4_5
 have hz:=eqI_true hq4_5
 have hd:=clB_false hq4_6
 have hfd:=fd_none hz hd
 have hr:=rdB_rng (B:=B) hz
 have hw0:=(clE_zero hz).2.2.2.2
 have ghq22_4:=ltI_false hq22_4
 have ghq22_5:=ltI_false hq22_5
 have ghq22_6:=ltI_false hq22_6
 exact goes_eqR (r:=(.bool .true)) (by rfl) (goes_out Try.checked.mixed (known_zc hw) 200 (v:=(.v (.bool .true))) (ps:=[]) [] (by kernel_rfl) (by kernel_rfl) trivial rfl)
theorem zc_28 (ya yl yf yw:Value) (A:List Int) (L:List (Int×Int)) (B:List Bool) (W:List Int) (a b:Int) (hw:Known Try.prog (clsO zwO)) (ha:0≤a∧a≤65535) (hb:0≤b∧b≤65535) (hq4_1:(ltI 14 ((A.length:Nat):Int))=false) (hq4_2:(ltI 14 ((L.length:Nat):Int))=false) (hq4_3:(ltI 14 ((B.length:Nat):Int))=false) (hq4_4:(ltI 100 ((W.length:Nat):Int))=false) (hq4_5:(eqI (clE (cI A) A.length (cR L) L.length B.length (cI W) W.length) 0)=true) (hq4_6:(clB (dtd (cI A) A.length (cR L) (cB B) W.length))=false) (hq22_1:(eqI (sumG (cI W) (fun k=>((rdB (cI A) A.length (cR L) (cB B) W.length W.length).fst k * 1000).tdiv 1000) W.length) (sumG (cI W) (rdB (cI A) A.length (cR L) (cB B) W.length W.length).fst W.length) && (eqI (sumG (cI W) (fun k=>((rdB (cI A) A.length (cR L) (cB B) W.length W.length).snd k * 1000).tdiv 1000) W.length) (sumG (cI W) (rdB (cI A) A.length (cR L) (cB B) W.length W.length).snd W.length) && true))=true) (hq22_2:(eqI (sumG (cI W) (fun k=>((rdB (cI A) A.length (cR L) (cB B) W.length W.length).fst k * 0).tdiv 1000) W.length) 0 && (eqI (sumG (cI W) (fun k=>((rdB (cI A) A.length (cR L) (cB B) W.length W.length).snd k * 0).tdiv 1000) W.length) 0 && true))=true) (hq22_3:(eqI (sumG (cI W) (fun k=>((rdB (cI A) A.length (cR L) (cB B) W.length W.length).fst k * if (IntKind.i64.wrap b).tmod 1001 < (IntKind.i64.wrap a).tmod 1001 then (IntKind.i64.wrap b).tmod 1001 else (IntKind.i64.wrap a).tmod 1001).tdiv 1000) W.length) (sumG (cI W) (fun k=>((rdB (cI A) A.length (cR L) (cB B) W.length W.length).fst k * if (IntKind.i64.wrap b).tmod 1001 < (IntKind.i64.wrap a).tmod 1001 then (IntKind.i64.wrap b).tmod 1001 else (IntKind.i64.wrap a).tmod 1001).tdiv 1000) W.length) && (eqI (sumG (cI W) (fun k=>((rdB (cI A) A.length (cR L) (cB B) W.length W.length).snd k * if (IntKind.i64.wrap b).tmod 1001 > (IntKind.i64.wrap a).tmod 1001 then (IntKind.i64.wrap b).tmod 1001 else (IntKind.i64.wrap a).tmod 1001).tdiv 1000) W.length) (sumG (cI W) (fun k=>((rdB (cI A) A.length (cR L) (cB B) W.length W.length).snd k * if (IntKind.i64.wrap b).tmod 1001 > (IntKind.i64.wrap a).tmod 1001 then (IntKind.i64.wrap b).tmod 1001 else (IntKind.i64.wrap a).tmod 1001).tdiv 1000) W.length) && true))=false) (w:World):Goes Try.prog 145 zcK23 (q31_32) w (OutR Try.prog Try.f12 145 (.bool true) w):=by
 obtain ⟨hcl_A,hcl_L,hcl_B,hcl_W⟩:=hcZ31 A B L W
 have hsa:=shr_bd ha
 have hsb:=shr_bd hb
 have ghq4_1:=ltI_false hq4_1
 have ghq4_2:=ltI_false hq4_2
 have ghq4_3:=ltI_false hq4_3
 have ghq4_4:=ltI_false hq4_4
 have ghq4_5:=eqI_true hq4_5
 have hz:=eqI_true hq4_5
 have hd:=clB_false hq4_6
 have hfd:=fd_none hz hd
 have hr:=rdB_rng (B:=B) hz
 have hw0:=(clE_zero hz).2.2.2.2
 exact absB hq22_3 (by rw [eqI_self,eqI_self]; rfl)
theorem zc_29 (ya yl yf yw:Value) (A:List Int) (L:List (Int×Int)) (B:List Bool) (W:List Int) (a b:Int) (hw:Known Try.prog (clsO zwO)) (ha:0≤a∧a≤65535) (hb:0≤b∧b≤65535) (hq4_1:(ltI 14 ((A.length:Nat):Int))=false) (hq4_2:(ltI 14 ((L.length:Nat):Int))=false) (hq4_3:(ltI 14 ((B.length:Nat):Int))=false) (hq4_4:(ltI 100 ((W.length:Nat):Int))=false) (hq4_5:(eqI (clE (cI A) A.length (cR L) L.length B.length (cI W) W.length) 0)=true) (hq4_6:(clB (dtd (cI A) A.length (cR L) (cB B) W.length))=false) (hq22_1:(eqI (sumG (cI W) (fun k=>((rdB (cI A) A.length (cR L) (cB B) W.length W.length).fst k * 1000).tdiv 1000) W.length) (sumG (cI W) (rdB (cI A) A.length (cR L) (cB B) W.length W.length).fst W.length) && (eqI (sumG (cI W) (fun k=>((rdB (cI A) A.length (cR L) (cB B) W.length W.length).snd k * 1000).tdiv 1000) W.length) (sumG (cI W) (rdB (cI A) A.length (cR L) (cB B) W.length W.length).snd W.length) && true))=true) (hq22_2:(eqI (sumG (cI W) (fun k=>((rdB (cI A) A.length (cR L) (cB B) W.length W.length).fst k * 0).tdiv 1000) W.length) 0 && (eqI (sumG (cI W) (fun k=>((rdB (cI A) A.length (cR L) (cB B) W.length W.length).snd k * 0).tdiv 1000) W.length) 0 && true))=false) (w:World):Goes Try.prog 145 zcK23 (⟨[(6,(.v (.bool .false)))],[],15,[]⟩) w (OutR Try.prog Try.f12 145 (.bool true) w):=by
 obtain ⟨hcl_A,hcl_L,hcl_B,hcl_W⟩:=hcZ31 A B L W
 have hsa:=shr_bd ha
 have hsb:=shr_bd hb
 have ghq4_1:=ltI_false hq4_1
 have ghq4_2:=ltI_false hq4_2
 have ghq4_3:=ltI_false hq4_3
 have ghq4_4:=ltI_false hq4_4
 have ghq4_5:=eqI_true hq4_5
 have hz:=eqI_true hq4_5
 have hd:=clB_false hq4_6
 have hfd:=fd_none hz hd
 have hr:=rdB_rng (B:=B) hz
 have hw0:=(clE_zero hz).2.2.2.2
 exact absB hq22_2 (by rw [coat_none,coat_none,eqI_self]; rfl)
theorem zc_30 (ya yl yf yw:Value) (A:List Int) (L:List (Int×Int)) (B:List Bool) (W:List Int) (a b:Int) (hw:Known Try.prog (clsO zwO)) (ha:0≤a∧a≤65535) (hb:0≤b∧b≤65535) (hq4_1:(ltI 14 ((A.length:Nat):Int))=false) (hq4_2:(ltI 14 ((L.length:Nat):Int))=false) (hq4_3:(ltI 14 ((B.length:Nat):Int))=false) (hq4_4:(ltI 100 ((W.length:Nat):Int))=false) (hq4_5:(eqI (clE (cI A) A.length (cR L) L.length B.length (cI W) W.length) 0)=true) (hq4_6:(clB (dtd (cI A) A.length (cR L) (cB B) W.length))=false) (hq22_1:(eqI (sumG (cI W) (fun k=>((rdB (cI A) A.length (cR L) (cB B) W.length W.length).fst k * 1000).tdiv 1000) W.length) (sumG (cI W) (rdB (cI A) A.length (cR L) (cB B) W.length W.length).fst W.length) && (eqI (sumG (cI W) (fun k=>((rdB (cI A) A.length (cR L) (cB B) W.length W.length).snd k * 1000).tdiv 1000) W.length) (sumG (cI W) (rdB (cI A) A.length (cR L) (cB B) W.length W.length).snd W.length) && true))=false) (w:World):Goes Try.prog 145 zcK23 (⟨[(6,(.v (.bool .false)))],[],14,[]⟩) w (OutR Try.prog Try.f12 145 (.bool true) w):=by
 obtain ⟨hcl_A,hcl_L,hcl_B,hcl_W⟩:=hcZ31 A B L W
 have hsa:=shr_bd ha
 have hsb:=shr_bd hb
 have ghq4_1:=ltI_false hq4_1
 have ghq4_2:=ltI_false hq4_2
 have ghq4_3:=ltI_false hq4_3
 have ghq4_4:=ltI_false hq4_4
 have ghq4_5:=eqI_true hq4_5
 have hz:=eqI_true hq4_5
 have hd:=clB_false hq4_6
 have hfd:=fd_none hz hd
 have hr:=rdB_rng (B:=B) hz
 have hw0:=(clE_zero hz).2.2.2.2
 exact absB hq22_1 (by rw [coat_full _ (fun k=>(hr k).1),coat_full _ (fun k=>(hr k).2.2.1),eqI_self,eqI_self]; rfl)
theorem zc_22 (ya yl yf yw:Value) (A:List Int) (L:List (Int×Int)) (B:List Bool) (W:List Int) (a b:Int) (hw:Known Try.prog (clsO zwO)) (ha:0≤a∧a≤65535) (hb:0≤b∧b≤65535) (hq4_1:(ltI 14 ((A.length:Nat):Int))=false) (hq4_2:(ltI 14 ((L.length:Nat):Int))=false) (hq4_3:(ltI 14 ((B.length:Nat):Int))=false) (hq4_4:(ltI 100 ((W.length:Nat):Int))=false) (hq4_5:(q31_28 A B L W)=true) (hq4_6:(q31_30 A B L W)=false) (w:World):Goes Try.prog 145 zcK21 ((q31_1 A B L W a b)) w (q31_31 w):=by
 obtain ⟨hcl_A,hcl_L,hcl_B,hcl_W⟩:=hcZ31 A B L W
 have hsa:=shr_bd ha
 have hsb:=shr_bd hb
 have ghq4_1:=ltI_false hq4_1
 have ghq4_2:=ltI_false hq4_2
 have ghq4_3:=ltI_false hq4_3
 have ghq4_4:=ltI_false hq4_4
 have ghq4_5:=eqI_true hq4_5
 have hz:=eqI_true hq4_5
 have hd:=clB_false hq4_6
 have hfd:=fd_none hz hd
 have hr:=rdB_rng (B:=B) hz
 have hw0:=(clE_zero hz).2.2.2.2
 rcases Bool.eq_false_or_eq_true (q31_11 A B L W) with hq22_1 | hq22_1
 ·skip
  rcases Bool.eq_false_or_eq_true (q31_17 A B L W) with hq22_2 | hq22_2
  ·skip
   rcases Bool.eq_false_or_eq_true (q31_6 A B L W a b) with hq22_3 | hq22_3
   ·skip
    rcases Bool.eq_false_or_eq_true (ltI (q31_18 A B L W a b) (q31_16 A B L W a b)) with hq22_4 | hq22_4
    ·skip
     have ghq22_4:=ltI_true hq22_4
     exact goes_spine (T':=q31_32) (by kernel_rfl) (goes_told Try.checked.mixed (known_zc hw) 200 (T':=q31_32) (e:=.normal) (ps:=[eqI ((0:Int)) 0=true,true=true,eqI ((0:Int)) 0=true,true=true,eqI ((0:Int)) 0=true,true=true,eqI ((0:Int)) 0=true,true=true,eqI ((0:Int)) 0=true,true=true,eqI ((0:Int)) 0=true,true=true,true=true,(q31_11 A B L W)=true,true=true,true=true,(q31_17 A B L W)=true,true=true,true=true,true=true,true=true,true=true,true=true,(q31_6 A B L W a b)=true,true=true,true=true,true=true,true=true,(!ltI (q31_18 A B L W a b) (q31_16 A B L W a b))=false,false=false,false=false,false=false,false=false,false=false,false=false,false=false,false=false,false=false,false=false]) [.go,.go,.go,.b true,.go,.b true,.go,.go,.go,.b true,.go,.b true,.go,.go,.go,.b true,.go,.b true,.go,.go,.go,.b true,.go,.b true,.go,.go,.go,.b true,.go,.b true,.go,.go,.go,.b true,.go,.b true,.go,.b true,.go,.go,.go,.b true,.go,.b true,.go,.go,.go,.go,.go,.b true,.go,.go,.go,.b true,.go,.b true,.go,.b true,.go,.b true,.go,.b true,.go,.b true,.go,.go,.go,.go,.go,.b true,.go,.go,.go,.b true,.go,.b true,.go,.b true,.go,.b true,.go,.b true,.go,.go,.go,.b false,.b false,.b false,.b false,.b false,.go,.go,.b false,.b false,.b false,.b false,.b false,.go,.go,.b false,.go,.go] (by kernel_rfl) (by kernel_rfl) ⟨rfl,rfl,rfl,rfl,rfl,rfl,rfl,rfl,rfl,rfl,rfl,rfl,rfl,hq22_1,rfl,rfl,hq22_2,rfl,rfl,rfl,rfl,rfl,rfl,hq22_3,rfl,rfl,rfl,rfl,(by rw [hq22_4]; rfl),rfl,rfl,rfl,rfl,rfl,rfl,rfl,rfl,rfl,rfl,trivial⟩ rfl) (zc_24 ya yl yf yw A L B W a b hw ha hb hq4_1 hq4_2 hq4_3 hq4_4 hq4_5 hq4_6 hq22_1 hq22_2 hq22_3 hq22_4 w)
    ·skip
     have ghq22_4:=ltI_false hq22_4
     rcases Bool.eq_false_or_eq_true (ltI (q31_15 A B L W a b) (q31_19 A B L W a b)) with hq22_5 | hq22_5
     ·skip
      have ghq22_5:=ltI_true hq22_5
      exact goes_spine (T':=q31_32) (by kernel_rfl) (goes_told Try.checked.mixed (known_zc hw) 200 (T':=q31_32) (e:=.normal) (ps:=[eqI ((0:Int)) 0=true,true=true,eqI ((0:Int)) 0=true,true=true,eqI ((0:Int)) 0=true,true=true,eqI ((0:Int)) 0=true,true=true,eqI ((0:Int)) 0=true,true=true,eqI ((0:Int)) 0=true,true=true,true=true,(q31_11 A B L W)=true,true=true,true=true,(q31_17 A B L W)=true,true=true,true=true,true=true,true=true,true=true,true=true,(q31_6 A B L W a b)=true,true=true,true=true,true=true,true=true,(!ltI (q31_18 A B L W a b) (q31_16 A B L W a b))=true,true=true,true=true,true=true,true=true,(!ltI (q31_15 A B L W a b) (q31_19 A B L W a b))=false,false=false,false=false,false=false,false=false,false=false]) [.go,.go,.go,.b true,.go,.b true,.go,.go,.go,.b true,.go,.b true,.go,.go,.go,.b true,.go,.b true,.go,.go,.go,.b true,.go,.b true,.go,.go,.go,.b true,.go,.b true,.go,.go,.go,.b true,.go,.b true,.go,.b true,.go,.go,.go,.b true,.go,.b true,.go,.go,.go,.go,.go,.b true,.go,.go,.go,.b true,.go,.b true,.go,.b true,.go,.b true,.go,.b true,.go,.b true,.go,.go,.go,.go,.go,.b true,.go,.go,.go,.b true,.go,.b true,.go,.b true,.go,.b true,.go,.b true,.go,.go,.go,.b true,.go,.b true,.go,.b true,.go,.b true,.go,.b true,.go,.go,.go,.b false,.b false,.b false,.b false,.b false,.go,.go,.b false,.go,.go] (by kernel_rfl) (by kernel_rfl) ⟨rfl,rfl,rfl,rfl,rfl,rfl,rfl,rfl,rfl,rfl,rfl,rfl,rfl,hq22_1,rfl,rfl,hq22_2,rfl,rfl,rfl,rfl,rfl,rfl,hq22_3,rfl,rfl,rfl,rfl,(by rw [hq22_4]; rfl),rfl,rfl,rfl,rfl,(by rw [hq22_5]; rfl),rfl,rfl,rfl,rfl,rfl,trivial⟩ rfl) (zc_25 ya yl yf yw A L B W a b hw ha hb hq4_1 hq4_2 hq4_3 hq4_4 hq4_5 hq4_6 hq22_1 hq22_2 hq22_3 hq22_4 hq22_5 w)
     ·skip
      have ghq22_5:=ltI_false hq22_5
      rcases Bool.eq_false_or_eq_true (ltI (q31_27 A B L W) (q31_15 A B L W a b)) with hq22_6 | hq22_6
      ·skip
       have ghq22_6:=ltI_true hq22_6
       exact goes_spine (T':=q31_32) (by kernel_rfl) (goes_told Try.checked.mixed (known_zc hw) 200 (T':=q31_32) (e:=.normal) (ps:=[eqI ((0:Int)) 0=true,true=true,eqI ((0:Int)) 0=true,true=true,eqI ((0:Int)) 0=true,true=true,eqI ((0:Int)) 0=true,true=true,eqI ((0:Int)) 0=true,true=true,eqI ((0:Int)) 0=true,true=true,true=true,(q31_11 A B L W)=true,true=true,true=true,(q31_17 A B L W)=true,true=true,true=true,true=true,true=true,true=true,true=true,(q31_6 A B L W a b)=true,true=true,true=true,true=true,true=true,(!ltI (q31_18 A B L W a b) (q31_16 A B L W a b))=true,true=true,true=true,true=true,true=true,(!ltI (q31_15 A B L W a b) (q31_19 A B L W a b))=true,true=true,true=true,true=true,true=true,(!ltI (q31_27 A B L W) (q31_15 A B L W a b))=false]) [.go,.go,.go,.b true,.go,.b true,.go,.go,.go,.b true,.go,.b true,.go,.go,.go,.b true,.go,.b true,.go,.go,.go,.b true,.go,.b true,.go,.go,.go,.b true,.go,.b true,.go,.go,.go,.b true,.go,.b true,.go,.b true,.go,.go,.go,.b true,.go,.b true,.go,.go,.go,.go,.go,.b true,.go,.go,.go,.b true,.go,.b true,.go,.b true,.go,.b true,.go,.b true,.go,.b true,.go,.go,.go,.go,.go,.b true,.go,.go,.go,.b true,.go,.b true,.go,.b true,.go,.b true,.go,.b true,.go,.go,.go,.b true,.go,.b true,.go,.b true,.go,.b true,.go,.b true,.go,.go,.go,.b true,.go,.b true,.go,.b true,.go,.b true,.go,.b true,.go,.go,.go,.b false,.go,.go] (by kernel_rfl) (by kernel_rfl) ⟨rfl,rfl,rfl,rfl,rfl,rfl,rfl,rfl,rfl,rfl,rfl,rfl,rfl,hq22_1,rfl,rfl,hq22_2,rfl,rfl,rfl,rfl,rfl,rfl,hq22_3,rfl,rfl,rfl,rfl,(by rw [hq22_4]; rfl),rfl,rfl,rfl,rfl,(by rw [hq22_5]; rfl),rfl,rfl,rfl,rfl,(by rw [hq22_6]; rfl),trivial⟩ rfl) (zc_26 ya yl yf yw A L B W a b hw ha hb hq4_1 hq4_2 hq4_3 hq4_4 hq4_5 hq4_6 hq22_1 hq22_2 hq22_3 hq22_4 hq22_5 hq22_6 w)
      ·skip
       have ghq22_6:=ltI_false hq22_6
       exact goes_spine (T':=⟨[(6,(.v (.bool .true)))],[],16,[]⟩) (by kernel_rfl) (goes_told Try.checked.mixed (known_zc hw) 200 (T':=⟨[(6,(.v (.bool .true)))],[],16,[]⟩) (e:=.normal) (ps:=[eqI ((0:Int)) 0=true,true=true,eqI ((0:Int)) 0=true,true=true,eqI ((0:Int)) 0=true,true=true,eqI ((0:Int)) 0=true,true=true,eqI ((0:Int)) 0=true,true=true,eqI ((0:Int)) 0=true,true=true,true=true,(q31_11 A B L W)=true,true=true,true=true,(q31_17 A B L W)=true,true=true,true=true,true=true,true=true,true=true,true=true,(q31_6 A B L W a b)=true,true=true,true=true,true=true,true=true,(!ltI (q31_18 A B L W a b) (q31_16 A B L W a b))=true,true=true,true=true,true=true,true=true,(!ltI (q31_15 A B L W a b) (q31_19 A B L W a b))=true,true=true,true=true,true=true,true=true,(!ltI (q31_27 A B L W) (q31_15 A B L W a b))=true]) [.go,.go,.go,.b true,.go,.b true,.go,.go,.go,.b true,.go,.b true,.go,.go,.go,.b true,.go,.b true,.go,.go,.go,.b true,.go,.b true,.go,.go,.go,.b true,.go,.b true,.go,.go,.go,.b true,.go,.b true,.go,.b true,.go,.go,.go,.b true,.go,.b true,.go,.go,.go,.go,.go,.b true,.go,.go,.go,.b true,.go,.b true,.go,.b true,.go,.b true,.go,.b true,.go,.b true,.go,.go,.go,.go,.go,.b true,.go,.go,.go,.b true,.go,.b true,.go,.b true,.go,.b true,.go,.b true,.go,.go,.go,.b true,.go,.b true,.go,.b true,.go,.b true,.go,.b true,.go,.go,.go,.b true,.go,.b true,.go,.b true,.go,.b true,.go,.b true,.go,.go,.go,.b true,.go,.go] (by kernel_rfl) (by kernel_rfl) ⟨rfl,rfl,rfl,rfl,rfl,rfl,rfl,rfl,rfl,rfl,rfl,rfl,rfl,hq22_1,rfl,rfl,hq22_2,rfl,rfl,rfl,rfl,rfl,rfl,hq22_3,rfl,rfl,rfl,rfl,(by rw [hq22_4]; rfl),rfl,rfl,rfl,rfl,(by rw [hq22_5]; rfl),rfl,rfl,rfl,rfl,(by rw [hq22_6]; rfl),trivial⟩ rfl) (zc_27 ya yl yf yw A L B W a b hw ha hb hq4_1 hq4_2 hq4_3 hq4_4 hq4_5 hq4_6 hq22_1 hq22_2 hq22_3 hq22_4 hq22_5 hq22_6 w)
   ·skip
    exact goes_spine (T':=q31_32) (by kernel_rfl) (goes_told Try.checked.mixed (known_zc hw) 200 (T':=q31_32) (e:=.normal) (ps:=[eqI ((0:Int)) 0=true,true=true,eqI ((0:Int)) 0=true,true=true,eqI ((0:Int)) 0=true,true=true,eqI ((0:Int)) 0=true,true=true,eqI ((0:Int)) 0=true,true=true,eqI ((0:Int)) 0=true,true=true,true=true,(q31_11 A B L W)=true,true=true,true=true,(q31_17 A B L W)=true,true=true,true=true,true=true,true=true,true=true,true=true,(q31_6 A B L W a b)=false,false=false,false=false,false=false,false=false,false=false,false=false,false=false,false=false,false=false,false=false,false=false,false=false,false=false,false=false,false=false]) [.go,.go,.go,.b true,.go,.b true,.go,.go,.go,.b true,.go,.b true,.go,.go,.go,.b true,.go,.b true,.go,.go,.go,.b true,.go,.b true,.go,.go,.go,.b true,.go,.b true,.go,.go,.go,.b true,.go,.b true,.go,.b true,.go,.go,.go,.b true,.go,.b true,.go,.go,.go,.go,.go,.b true,.go,.go,.go,.b true,.go,.b true,.go,.b true,.go,.b true,.go,.b true,.go,.b true,.go,.go,.go,.go,.go,.b true,.go,.go,.go,.b false,.b false,.b false,.b false,.b false,.go,.go,.b false,.b false,.b false,.b false,.b false,.go,.go,.b false,.b false,.b false,.b false,.b false,.go,.go,.b false,.go,.go] (by kernel_rfl) (by kernel_rfl) ⟨rfl,rfl,rfl,rfl,rfl,rfl,rfl,rfl,rfl,rfl,rfl,rfl,rfl,hq22_1,rfl,rfl,hq22_2,rfl,rfl,rfl,rfl,rfl,rfl,hq22_3,rfl,rfl,rfl,rfl,rfl,rfl,rfl,rfl,rfl,rfl,rfl,rfl,rfl,rfl,rfl,trivial⟩ rfl) (zc_28 ya yl yf yw A L B W a b hw ha hb hq4_1 hq4_2 hq4_3 hq4_4 hq4_5 hq4_6 hq22_1 hq22_2 hq22_3 w)
  ·skip
   exact goes_spine (T':=⟨[(6,(.v (.bool .false)))],[],15,[]⟩) (by kernel_rfl) (goes_told Try.checked.mixed (known_zc hw) 200 (T':=⟨[(6,(.v (.bool .false)))],[],15,[]⟩) (e:=.normal) (ps:=[eqI ((0:Int)) 0=true,true=true,eqI ((0:Int)) 0=true,true=true,eqI ((0:Int)) 0=true,true=true,eqI ((0:Int)) 0=true,true=true,eqI ((0:Int)) 0=true,true=true,eqI ((0:Int)) 0=true,true=true,true=true,(q31_11 A B L W)=true,true=true,true=true,(q31_17 A B L W)=false,false=false,false=false,false=false,false=false,false=false,false=false,false=false,false=false,false=false,false=false,false=false,false=false,false=false,false=false,false=false,false=false,false=false,false=false,false=false,false=false,false=false,false=false]) [.go,.go,.go,.b true,.go,.b true,.go,.go,.go,.b true,.go,.b true,.go,.go,.go,.b true,.go,.b true,.go,.go,.go,.b true,.go,.b true,.go,.go,.go,.b true,.go,.b true,.go,.go,.go,.b true,.go,.b true,.go,.b true,.go,.go,.go,.b true,.go,.b true,.go,.go,.go,.go,.go,.b true,.go,.go,.go,.b false,.b false,.b false,.b false,.b false,.b false,.b false,.go,.go,.b false,.b false,.b false,.b false,.b false,.go,.go,.b false,.b false,.b false,.b false,.b false,.go,.go,.b false,.b false,.b false,.b false,.b false,.go,.go,.b false,.go,.go] (by kernel_rfl) (by kernel_rfl) ⟨rfl,rfl,rfl,rfl,rfl,rfl,rfl,rfl,rfl,rfl,rfl,rfl,rfl,hq22_1,rfl,rfl,hq22_2,rfl,rfl,rfl,rfl,rfl,rfl,rfl,rfl,rfl,rfl,rfl,rfl,rfl,rfl,rfl,rfl,rfl,rfl,rfl,rfl,rfl,rfl,trivial⟩ rfl) (zc_29 ya yl yf yw A L B W a b hw ha hb hq4_1 hq4_2 hq4_3 hq4_4 hq4_5 hq4_6 hq22_1 hq22_2 w)
 ·skip
  exact goes_spine (T':=⟨[(6,(.v (.bool .false)))],[],14,[]⟩) (by kernel_rfl) (goes_told Try.checked.mixed (known_zc hw) 200 (T':=⟨[(6,(.v (.bool .false)))],[],14,[]⟩) (e:=.normal) (ps:=[eqI ((0:Int)) 0=true,true=true,eqI ((0:Int)) 0=true,true=true,eqI ((0:Int)) 0=true,true=true,eqI ((0:Int)) 0=true,true=true,eqI ((0:Int)) 0=true,true=true,eqI ((0:Int)) 0=true,true=true,true=true,(q31_11 A B L W)=false,false=false,false=false,false=false,false=false,false=false,false=false,false=false,false=false,false=false,false=false,false=false,false=false,false=false,false=false,false=false,false=false,false=false,false=false,false=false,false=false,false=false,false=false,false=false,false=false,false=false]) [.go,.go,.go,.b true,.go,.b true,.go,.go,.go,.b true,.go,.b true,.go,.go,.go,.b true,.go,.b true,.go,.go,.go,.b true,.go,.b true,.go,.go,.go,.b true,.go,.b true,.go,.go,.go,.b true,.go,.b true,.go,.b true,.go,.go,.go,.b false,.b false,.b false,.go,.go,.b false,.b false,.b false,.b false,.b false,.b false,.b false,.go,.go,.b false,.b false,.b false,.b false,.b false,.go,.go,.b false,.b false,.b false,.b false,.b false,.go,.go,.b false,.b false,.b false,.b false,.b false,.go,.go,.b false,.go,.go] (by kernel_rfl) (by kernel_rfl) ⟨rfl,rfl,rfl,rfl,rfl,rfl,rfl,rfl,rfl,rfl,rfl,rfl,rfl,hq22_1,rfl,rfl,rfl,rfl,rfl,rfl,rfl,rfl,rfl,rfl,rfl,rfl,rfl,rfl,rfl,rfl,rfl,rfl,rfl,rfl,rfl,rfl,rfl,rfl,rfl,trivial⟩ rfl) (zc_30 ya yl yf yw A L B W a b hw ha hb hq4_1 hq4_2 hq4_3 hq4_4 hq4_5 hq4_6 hq22_1 w)
theorem zc_20 (ya yl yf yw:Value) (A:List Int) (L:List (Int×Int)) (B:List Bool) (W:List Int) (a b:Int) (hw:Known Try.prog (clsO zwO)) (ha:0≤a∧a≤65535) (hb:0≤b∧b≤65535) (hq4_1:(ltI 14 ((A.length:Nat):Int))=false) (hq4_2:(ltI 14 ((L.length:Nat):Int))=false) (hq4_3:(ltI 14 ((B.length:Nat):Int))=false) (hq4_4:(ltI 100 ((W.length:Nat):Int))=false) (hq4_5:(eqI (clE (cI A) A.length (cR L) L.length B.length (cI W) W.length) 0)=true) (hq4_6:(clB (dtd (cI A) A.length (cR L) (cB B) W.length))=false) (w:World):Goes Try.prog 145 zcK19 ((q31_2 A B L W a b ya yf yl yw)) w (OutR Try.prog Try.f12 145 (.bool true) w):=by
 obtain ⟨hcl_A,hcl_L,hcl_B,hcl_W⟩:=hcZ31 A B L W
 have hsa:=shr_bd ha
 have hsb:=shr_bd hb
 have ghq4_1:=ltI_false hq4_1
 have ghq4_2:=ltI_false hq4_2
 have ghq4_3:=ltI_false hq4_3
 have ghq4_4:=ltI_false hq4_4
 have ghq4_5:=eqI_true hq4_5
 have hz:=eqI_true hq4_5
 have hd:=clB_false hq4_6
 have hfd:=fd_none hz hd
 have hr:=rdB_rng (B:=B) hz
 have hw0:=(clE_zero hz).2.2.2.2
 exact goes_spine (T':=(q31_1 A B L W a b)) (by kernel_rfl) (goes_told Try.checked.mixed (known_zc hw) 200 (T':=(q31_1 A B L W a b)) (e:=.normal) (ps:=[IsLampK 1 2 1 1 (cI A) A.length (cR L) L.length (cB B) B.length (cI W) W.length,clE (cI A) A.length (cR L) L.length B.length (cI W) W.length=0,fdAll (cB B) (cR L) A.length=none,0≤if (IntKind.i64.wrap b).tmod 1001 > (IntKind.i64.wrap a).tmod 1001 then (IntKind.i64.wrap b).tmod 1001 else (IntKind.i64.wrap a).tmod 1001,(if (IntKind.i64.wrap b).tmod 1001 > (IntKind.i64.wrap a).tmod 1001 then (IntKind.i64.wrap b).tmod 1001 else (IntKind.i64.wrap a).tmod 1001)≤if (IntKind.i64.wrap b).tmod 1001 > (IntKind.i64.wrap a).tmod 1001 then (IntKind.i64.wrap b).tmod 1001 else (IntKind.i64.wrap a).tmod 1001,(if (IntKind.i64.wrap b).tmod 1001 > (IntKind.i64.wrap a).tmod 1001 then (IntKind.i64.wrap b).tmod 1001 else (IntKind.i64.wrap a).tmod 1001)≤1000]) [.go,.go,.go,.go,.go,.go,.go,.go,.go,.go,.go,.go,.go,.go] (by kernel_rfl) (by kernel_rfl) ⟨⟨rfl,rfl,rfl,rfl,A,L,B,W,rfl,rfl,rfl,rfl,rfl,rfl,rfl,rfl⟩,hz,hfd,(by first | (split <;> omega) | (split <;> split <;> omega)),(by omega),(by omega),trivial⟩ rfl) (zc_22 ya yl yf yw A L B W a b hw ha hb hq4_1 hq4_2 hq4_3 hq4_4 hq4_5 hq4_6 w)
theorem zc_18 (ya yl yf yw:Value) (A:List Int) (L:List (Int×Int)) (B:List Bool) (W:List Int) (a b:Int) (hw:Known Try.prog (clsO zwO)) (ha:0≤a∧a≤65535) (hb:0≤b∧b≤65535) (hq4_1:(ltI 14 ((A.length:Nat):Int))=false) (hq4_2:(ltI 14 ((L.length:Nat):Int))=false) (hq4_3:(ltI 14 ((B.length:Nat):Int))=false) (hq4_4:(ltI 100 ((W.length:Nat):Int))=false) (hq4_5:(eqI (clE (cI A) A.length (cR L) L.length B.length (cI W) W.length) 0)=true) (hq4_6:(clB (dtd (cI A) A.length (cR L) (cB B) W.length))=false) (w:World):Goes Try.prog 145 zcK17 ((q31_3 A B L W a b ya yf yl yw)) w (OutR Try.prog Try.f12 145 (.bool true) w):=by
 obtain ⟨hcl_A,hcl_L,hcl_B,hcl_W⟩:=hcZ31 A B L W
 have hsa:=shr_bd ha
 have hsb:=shr_bd hb
 have ghq4_1:=ltI_false hq4_1
 have ghq4_2:=ltI_false hq4_2
 have ghq4_3:=ltI_false hq4_3
 have ghq4_4:=ltI_false hq4_4
 have ghq4_5:=eqI_true hq4_5
 have hz:=eqI_true hq4_5
 have hd:=clB_false hq4_6
 have hfd:=fd_none hz hd
 have hr:=rdB_rng (B:=B) hz
 have hw0:=(clE_zero hz).2.2.2.2
 exact goes_spine (T':=(q31_2 A B L W a b ya yf yl yw)) (by kernel_rfl) (goes_told Try.checked.mixed (known_zc hw) 200 (T':=(q31_2 A B L W a b ya yf yl yw)) (e:=.normal) (ps:=[IsLampK 1 2 1 1 (cI A) A.length (cR L) L.length (cB B) B.length (cI W) W.length,clE (cI A) A.length (cR L) L.length B.length (cI W) W.length=0,fdAll (cB B) (cR L) A.length=none,0≤if (IntKind.i64.wrap b).tmod 1001 < (IntKind.i64.wrap a).tmod 1001 then (IntKind.i64.wrap b).tmod 1001 else (IntKind.i64.wrap a).tmod 1001,(if (IntKind.i64.wrap b).tmod 1001 < (IntKind.i64.wrap a).tmod 1001 then (IntKind.i64.wrap b).tmod 1001 else (IntKind.i64.wrap a).tmod 1001)≤if (IntKind.i64.wrap b).tmod 1001 > (IntKind.i64.wrap a).tmod 1001 then (IntKind.i64.wrap b).tmod 1001 else (IntKind.i64.wrap a).tmod 1001,(if (IntKind.i64.wrap b).tmod 1001 > (IntKind.i64.wrap a).tmod 1001 then (IntKind.i64.wrap b).tmod 1001 else (IntKind.i64.wrap a).tmod 1001)≤1000]) [.go,.go,.go,.go,.go,.go,.go,.go,.go,.go,.go,.go,.go,.go] (by kernel_rfl) (by kernel_rfl) ⟨⟨rfl,rfl,rfl,rfl,A,L,B,W,rfl,rfl,rfl,rfl,rfl,rfl,rfl,rfl⟩,hz,hfd,(by first | (split <;> omega) | (split <;> split <;> omega)),(by omega),(by omega),trivial⟩ rfl) (zc_20 ya yl yf yw A L B W a b hw ha hb hq4_1 hq4_2 hq4_3 hq4_4 hq4_5 hq4_6 w)
theorem zc_16 (ya yl yf yw:Value) (A:List Int) (L:List (Int×Int)) (B:List Bool) (W:List Int) (a b:Int) (hw:Known Try.prog (clsO zwO)) (ha:0≤a∧a≤65535) (hb:0≤b∧b≤65535) (hq4_1:(ltI 14 ((A.length:Nat):Int))=false) (hq4_2:(ltI 14 ((L.length:Nat):Int))=false) (hq4_3:(ltI 14 ((B.length:Nat):Int))=false) (hq4_4:(ltI 100 ((W.length:Nat):Int))=false) (hq4_5:(eqI (clE (cI A) A.length (cR L) L.length B.length (cI W) W.length) 0)=true) (hq4_6:(clB (dtd (cI A) A.length (cR L) (cB B) W.length))=false) (w:World):Goes Try.prog 145 zcK15 ((q31_4 A B L W a b ya yf yl yw)) w (OutR Try.prog Try.f12 145 (.bool true) w):=by
 obtain ⟨hcl_A,hcl_L,hcl_B,hcl_W⟩:=hcZ31 A B L W
 have hsa:=shr_bd ha
 have hsb:=shr_bd hb
 have ghq4_1:=ltI_false hq4_1
 have ghq4_2:=ltI_false hq4_2
 have ghq4_3:=ltI_false hq4_3
 have ghq4_4:=ltI_false hq4_4
 have ghq4_5:=eqI_true hq4_5
 have hz:=eqI_true hq4_5
 have hd:=clB_false hq4_6
 have hfd:=fd_none hz hd
 have hr:=rdB_rng (B:=B) hz
 have hw0:=(clE_zero hz).2.2.2.2
 exact goes_spine (T':=(q31_3 A B L W a b ya yf yl yw)) (by kernel_rfl) (goes_told Try.checked.mixed (known_zc hw) 200 (T':=(q31_3 A B L W a b ya yf yl yw)) (e:=.normal) (ps:=[IsLampK 1 2 1 1 (cI A) A.length (cR L) L.length (cB B) B.length (cI W) W.length,clE (cI A) A.length (cR L) L.length B.length (cI W) W.length=0,fdAll (cB B) (cR L) A.length=none,0≤if (IntKind.i64.wrap b).tmod 1001 < (IntKind.i64.wrap a).tmod 1001 then (IntKind.i64.wrap b).tmod 1001 else (IntKind.i64.wrap a).tmod 1001,(if (IntKind.i64.wrap b).tmod 1001 < (IntKind.i64.wrap a).tmod 1001 then (IntKind.i64.wrap b).tmod 1001 else (IntKind.i64.wrap a).tmod 1001)≤if (IntKind.i64.wrap b).tmod 1001 < (IntKind.i64.wrap a).tmod 1001 then (IntKind.i64.wrap b).tmod 1001 else (IntKind.i64.wrap a).tmod 1001,(if (IntKind.i64.wrap b).tmod 1001 < (IntKind.i64.wrap a).tmod 1001 then (IntKind.i64.wrap b).tmod 1001 else (IntKind.i64.wrap a).tmod 1001)≤1000]) [.go,.go,.go,.go,.go,.go,.go,.go,.go,.go,.go,.go,.go,.go] (by kernel_rfl) (by kernel_rfl) ⟨⟨rfl,rfl,rfl,rfl,A,L,B,W,rfl,rfl,rfl,rfl,rfl,rfl,rfl,rfl⟩,hz,hfd,(by first | (split <;> omega) | (split <;> split <;> omega)),(by omega),(by omega),trivial⟩ rfl) (zc_18 ya yl yf yw A L B W a b hw ha hb hq4_1 hq4_2 hq4_3 hq4_4 hq4_5 hq4_6 w)
theorem zc_14 (ya yl yf yw:Value) (A:List Int) (L:List (Int×Int)) (B:List Bool) (W:List Int) (a b:Int) (hw:Known Try.prog (clsO zwO)) (ha:0≤a∧a≤65535) (hb:0≤b∧b≤65535) (hq4_1:(ltI 14 ((A.length:Nat):Int))=false) (hq4_2:(ltI 14 ((L.length:Nat):Int))=false) (hq4_3:(ltI 14 ((B.length:Nat):Int))=false) (hq4_4:(ltI 100 ((W.length:Nat):Int))=false) (hq4_5:(q31_28 A B L W)=true) (hq4_6:(q31_30 A B L W)=false) (w:World):Goes Try.prog 145 zcK13 ((q31_5 A B L W a b ya yf yl yw)) w (q31_31 w):=by
 obtain ⟨hcl_A,hcl_L,hcl_B,hcl_W⟩:=hcZ31 A B L W
 have hsa:=shr_bd ha
 have hsb:=shr_bd hb
 have ghq4_1:=ltI_false hq4_1
 have ghq4_2:=ltI_false hq4_2
 have ghq4_3:=ltI_false hq4_3
 have ghq4_4:=ltI_false hq4_4
 have ghq4_5:=eqI_true hq4_5
 have hz:=eqI_true hq4_5
 have hd:=clB_false hq4_6
 have hfd:=fd_none hz hd
 have hr:=rdB_rng (B:=B) hz
 have hw0:=(clE_zero hz).2.2.2.2
 exact goes_spine (T':=(q31_4 A B L W a b ya yf yl yw)) (by kernel_rfl) (goes_told Try.checked.mixed (known_zc hw) 200 (T':=(q31_4 A B L W a b ya yf yl yw)) (e:=.normal) (ps:=[IsLampK 1 2 1 1 (cI A) A.length (cR L) L.length (cB B) B.length (cI W) W.length,clE (cI A) A.length (cR L) L.length B.length (cI W) W.length=0,fdAll (cB B) (cR L) A.length=none,(0:Int)≤0,(0:Int)≤0,(0:Int)≤1000]) [.go,.go,.go,.go,.go,.go,.go,.go,.go,.go,.go,.go] (by kernel_rfl) (by kernel_rfl) ⟨⟨rfl,rfl,rfl,rfl,A,L,B,W,rfl,rfl,rfl,rfl,rfl,rfl,rfl,rfl⟩,hz,hfd,(by omega),(by omega),(by omega),trivial⟩ rfl) (zc_16 ya yl yf yw A L B W a b hw ha hb hq4_1 hq4_2 hq4_3 hq4_4 hq4_5 hq4_6 w)
theorem zc_12 (ya yl yf yw:Value) (A:List Int) (L:List (Int×Int)) (B:List Bool) (W:List Int) (a b:Int) (hw:Known Try.prog (clsO zwO)) (ha:0≤a∧a≤65535) (hb:0≤b∧b≤65535) (hq4_1:(ltI 14 ((A.length:Nat):Int))=false) (hq4_2:(ltI 14 ((L.length:Nat):Int))=false) (hq4_3:(ltI 14 ((B.length:Nat):Int))=false) (hq4_4:(ltI 100 ((W.length:Nat):Int))=false) (hq4_5:(q31_28 A B L W)=true) (hq4_6:(q31_30 A B L W)=false) (w:World):Goes Try.prog 145 zcK11 ((q31_7 A B L W a b ya yf yl yw)) w (q31_31 w):=by
 obtain ⟨hcl_A,hcl_L,hcl_B,hcl_W⟩:=hcZ31 A B L W
 have hsa:=shr_bd ha
 have hsb:=shr_bd hb
 have ghq4_1:=ltI_false hq4_1
 have ghq4_2:=ltI_false hq4_2
 have ghq4_3:=ltI_false hq4_3
 have ghq4_4:=ltI_false hq4_4
 have ghq4_5:=eqI_true hq4_5
 have hz:=eqI_true hq4_5
 have hd:=clB_false hq4_6
 have hfd:=fd_none hz hd
 have hr:=rdB_rng (B:=B) hz
 have hw0:=(clE_zero hz).2.2.2.2
 exact goes_spine (T':=(q31_5 A B L W a b ya yf yl yw)) (by kernel_rfl) (goes_told Try.checked.mixed (known_zc hw) 200 (T':=(q31_5 A B L W a b ya yf yl yw)) (e:=.normal) (ps:=[IsLampK 1 2 1 1 (cI A) A.length (cR L) L.length (cB B) B.length (cI W) W.length,clE (cI A) A.length (cR L) L.length B.length (cI W) W.length=0,fdAll (cB B) (cR L) A.length=none,(0:Int)≤1000,(1000:Int)≤1000,(1000:Int)≤1000]) [.go,.go,.go,.go,.go,.go,.go,.go,.go,.go,.go,.go] (by kernel_rfl) (by kernel_rfl) ⟨⟨rfl,rfl,rfl,rfl,A,L,B,W,rfl,rfl,rfl,rfl,rfl,rfl,rfl,rfl⟩,hz,hfd,(by omega),(by omega),(by omega),trivial⟩ rfl) (zc_14 ya yl yf yw A L B W a b hw ha hb hq4_1 hq4_2 hq4_3 hq4_4 hq4_5 hq4_6 w)
theorem zc_10 (ya yl yf yw:Value) (A:List Int) (L:List (Int×Int)) (B:List Bool) (W:List Int) (a b:Int) (hw:Known Try.prog (clsO zwO)) (ha:0≤a∧a≤65535) (hb:0≤b∧b≤65535) (hq4_1:(ltI 14 ((A.length:Nat):Int))=false) (hq4_2:(ltI 14 ((L.length:Nat):Int))=false) (hq4_3:(ltI 14 ((B.length:Nat):Int))=false) (hq4_4:(ltI 100 ((W.length:Nat):Int))=false) (hq4_5:(q31_28 A B L W)=true) (hq4_6:(q31_30 A B L W)=false) (w:World):Goes Try.prog 145 zcK9 ((q31_10 A B L W a b ya yf yl yw)) w (q31_31 w):=by
 obtain ⟨hcl_A,hcl_L,hcl_B,hcl_W⟩:=hcZ31 A B L W
 have hsa:=shr_bd ha
 have hsb:=shr_bd hb
 have ghq4_1:=ltI_false hq4_1
 have ghq4_2:=ltI_false hq4_2
 have ghq4_3:=ltI_false hq4_3
 have ghq4_4:=ltI_false hq4_4
 have ghq4_5:=eqI_true hq4_5
 have hz:=eqI_true hq4_5
 have hd:=clB_false hq4_6
 have hfd:=fd_none hz hd
 have hr:=rdB_rng (B:=B) hz
 have hw0:=(clE_zero hz).2.2.2.2
 exact goes_spine (T':=(q31_7 A B L W a b ya yf yl yw)) (by kernel_rfl) (goes_told Try.checked.mixed (known_zc hw) 200 (T':=(q31_7 A B L W a b ya yf yl yw)) (e:=.normal) (ps:=[IsLampK 1 2 1 1 (cI A) A.length (cR L) L.length (cB B) B.length (cI W) W.length,clE (cI A) A.length (cR L) L.length B.length (cI W) W.length=0,fdAll (cB B) (cR L) A.length=none]) [.go,.go,.go,.go,.go,.go,.go] (by kernel_rfl) (by kernel_rfl) ⟨⟨rfl,rfl,rfl,rfl,A,L,B,W,rfl,rfl,rfl,rfl,rfl,rfl,rfl,rfl⟩,hz,hfd,trivial⟩ rfl) (zc_12 ya yl yf yw A L B W a b hw ha hb hq4_1 hq4_2 hq4_3 hq4_4 hq4_5 hq4_6 w)
theorem zc_8 (ya yl yf yw:Value) (A:List Int) (L:List (Int×Int)) (B:List Bool) (W:List Int) (a b:Int) (hw:Known Try.prog (clsO zwO)) (ha:0≤a∧a≤65535) (hb:0≤b∧b≤65535) (hq4_1:(ltI 14 ((A.length:Nat):Int))=false) (hq4_2:(ltI 14 ((L.length:Nat):Int))=false) (hq4_3:(ltI 14 ((B.length:Nat):Int))=false) (hq4_4:(ltI 100 ((W.length:Nat):Int))=false) (hq4_5:(q31_28 A B L W)=true) (hq4_6:(q31_30 A B L W)=false) (w:World):Goes Try.prog 145 zcK7 ((q31_12 A B L W a b ya yf yl yw)) w (q31_31 w):=by
 obtain ⟨hcl_A,hcl_L,hcl_B,hcl_W⟩:=hcZ31 A B L W
 have hsa:=shr_bd ha
 have hsb:=shr_bd hb
 have ghq4_1:=ltI_false hq4_1
 have ghq4_2:=ltI_false hq4_2
 have ghq4_3:=ltI_false hq4_3
 have ghq4_4:=ltI_false hq4_4
 have ghq4_5:=eqI_true hq4_5
 have hz:=eqI_true hq4_5
 have hd:=clB_false hq4_6
 have hfd:=fd_none hz hd
 have hr:=rdB_rng (B:=B) hz
 have hw0:=(clE_zero hz).2.2.2.2
 exact goes_spine (T':=(q31_10 A B L W a b ya yf yl yw)) (by kernel_rfl) (goes_told Try.checked.mixed (known_zc hw) 200 (T':=(q31_10 A B L W a b ya yf yl yw)) (e:=.normal) (ps:=[]) [.go,.go,.go,.go,.go,.go,.go,.go] (by kernel_rfl) (by kernel_rfl) trivial rfl) (zc_10 ya yl yf yw A L B W a b hw ha hb hq4_1 hq4_2 hq4_3 hq4_4 hq4_5 hq4_6 w)
theorem zc_6 (ya yl yf yw:Value) (A:List Int) (L:List (Int×Int)) (B:List Bool) (W:List Int) (a b:Int) (hw:Known Try.prog (clsO zwO)) (ha:0≤a∧a≤65535) (hb:0≤b∧b≤65535) (hq4_1:(ltI 14 ((A.length:Nat):Int))=false) (hq4_2:(ltI 14 ((L.length:Nat):Int))=false) (hq4_3:(ltI 14 ((B.length:Nat):Int))=false) (hq4_4:(ltI 100 ((W.length:Nat):Int))=false) (hq4_5:(q31_28 A B L W)=true) (hq4_6:(q31_30 A B L W)=false) (w:World):Goes Try.prog 145 zcK5 ((q31_20 A B L W a b ya yf yl yw)) w (q31_31 w):=by
 obtain ⟨hcl_A,hcl_L,hcl_B,hcl_W⟩:=hcZ31 A B L W
 have hsa:=shr_bd ha
 have hsb:=shr_bd hb
 have ghq4_1:=ltI_false hq4_1
 have ghq4_2:=ltI_false hq4_2
 have ghq4_3:=ltI_false hq4_3
 have ghq4_4:=ltI_false hq4_4
 have ghq4_5:=eqI_true hq4_5
 have hz:=eqI_true hq4_5
 have hd:=clB_false hq4_6
 have hfd:=fd_none hz hd
 have hr:=rdB_rng (B:=B) hz
 have hw0:=(clE_zero hz).2.2.2.2
 exact goes_spine (T':=(q31_12 A B L W a b ya yf yl yw)) (by kernel_rfl) (goes_told Try.checked.mixed (known_zc hw) 200 (T':=(q31_12 A B L W a b ya yf yl yw)) (e:=.normal) (ps:=[(1001:Int)≠0,(1001:Int)≠0]) [.go,.go,.go,.go,.go,.go,.go,.go] (by kernel_rfl) (by kernel_rfl) ⟨(by omega),(by omega),trivial⟩ rfl) (zc_8 ya yl yf yw A L B W a b hw ha hb hq4_1 hq4_2 hq4_3 hq4_4 hq4_5 hq4_6 w)
theorem zc_4 (ya yl yf yw:Value) (A:List Int) (L:List (Int×Int)) (B:List Bool) (W:List Int) (a b:Int) (hw:Known Try.prog (clsO zwO)) (ha:0≤a∧a≤65535) (hb:0≤b∧b≤65535) (w:World):Goes Try.prog 145 zcK3 ((q31_21 A B L W a b ya yf yl yw)) w (OutR Try.prog Try.f12 145 (.bool true) w):=by
 obtain ⟨hcl_A,hcl_L,hcl_B,hcl_W⟩:=hcZ31 A B L W
 have hsa:=shr_bd ha
 have hsb:=shr_bd hb
 rcases Bool.eq_false_or_eq_true (ltI 14 ((A.length:Nat):Int)) with hq4_1 | hq4_1
 ·skip
  have ghq4_1:=ltI_true hq4_1
  exact goes_eqR (r:=(.bool .true)) (by rfl) (goes_out Try.checked.mixed (known_zc hw) 200 (v:=(.v (.bool .true))) (ps:=[ltI 14 ((A.length:Nat):Int)=true,true=true,true=true,true=true,true=true,true=true,true=true,true=true,true=true,true=true,true=true,true=true,(!true)=false,false=false,false=false,false=false,false=false,false=false,(!false)=true]) [.go,.go,.go,.go,.go,.go,.go,.go,.go,.go,.go,.b true,.b true,.b true,.b true,.go,.go,.b true,.b true,.b true,.b true,.go,.go,.b true,.b true,.b true,.b true,.go,.go,.go,.go,.b false,.b false,.b false,.go,.go,.b false,.b false,.b false,.go,.go,.go,.b true,.go] (by kernel_rfl) (by kernel_rfl) ⟨hq4_1,rfl,rfl,rfl,rfl,rfl,rfl,rfl,rfl,rfl,rfl,rfl,rfl,rfl,rfl,rfl,rfl,rfl,rfl,trivial⟩ rfl)
 ·skip
  have ghq4_1:=ltI_false hq4_1
  rcases Bool.eq_false_or_eq_true (ltI 14 ((L.length:Nat):Int)) with hq4_2 | hq4_2
  ·skip
   have ghq4_2:=ltI_true hq4_2
   exact goes_eqR (r:=(.bool .true)) (by rfl) (goes_out Try.checked.mixed (known_zc hw) 200 (v:=(.v (.bool .true))) (ps:=[ltI 14 ((A.length:Nat):Int)=false,false=false,false=false,false=false,ltI 14 ((L.length:Nat):Int)=true,true=true,true=true,true=true,true=true,true=true,true=true,true=true,(!true)=false,false=false,false=false,false=false,false=false,false=false,(!false)=true]) [.go,.go,.go,.go,.go,.go,.go,.go,.go,.go,.go,.b false,.go,.b false,.go,.b false,.go,.b false,.go,.go,.go,.b true,.b true,.b true,.b true,.go,.go,.b true,.b true,.b true,.b true,.go,.go,.go,.go,.b false,.b false,.b false,.go,.go,.b false,.b false,.b false,.go,.go,.go,.b true,.go] (by kernel_rfl) (by kernel_rfl) ⟨hq4_1,rfl,rfl,rfl,hq4_2,rfl,rfl,rfl,rfl,rfl,rfl,rfl,rfl,rfl,rfl,rfl,rfl,rfl,rfl,trivial⟩ rfl)
  ·skip
   have ghq4_2:=ltI_false hq4_2
   rcases Bool.eq_false_or_eq_true (ltI 14 ((B.length:Nat):Int)) with hq4_3 | hq4_3
   ·skip
    have ghq4_3:=ltI_true hq4_3
    exact goes_eqR (r:=(.bool .true)) (by rfl) (goes_out Try.checked.mixed (known_zc hw) 200 (v:=(.v (.bool .true))) (ps:=[ltI 14 ((A.length:Nat):Int)=false,false=false,false=false,false=false,ltI 14 ((L.length:Nat):Int)=false,false=false,false=false,false=false,ltI 14 ((B.length:Nat):Int)=true,true=true,true=true,true=true,(!true)=false,false=false,false=false,false=false,false=false,false=false,(!false)=true]) [.go,.go,.go,.go,.go,.go,.go,.go,.go,.go,.go,.b false,.go,.b false,.go,.b false,.go,.b false,.go,.go,.go,.b false,.go,.b false,.go,.b false,.go,.b false,.go,.go,.go,.b true,.b true,.b true,.b true,.go,.go,.go,.go,.b false,.b false,.b false,.go,.go,.b false,.b false,.b false,.go,.go,.go,.b true,.go] (by kernel_rfl) (by kernel_rfl) ⟨hq4_1,rfl,rfl,rfl,hq4_2,rfl,rfl,rfl,hq4_3,rfl,rfl,rfl,rfl,rfl,rfl,rfl,rfl,rfl,rfl,trivial⟩ rfl)
   ·skip
    have ghq4_3:=ltI_false hq4_3
    rcases Bool.eq_false_or_eq_true (ltI 100 ((W.length:Nat):Int)) with hq4_4 | hq4_4
    ·skip
     have ghq4_4:=ltI_true hq4_4
     exact goes_eqR (r:=(.bool .true)) (by rfl) (goes_out Try.checked.mixed (known_zc hw) 200 (v:=(.v (.bool .true))) (ps:=[ltI 14 ((A.length:Nat):Int)=false,false=false,false=false,false=false,ltI 14 ((L.length:Nat):Int)=false,false=false,false=false,false=false,ltI 14 ((B.length:Nat):Int)=false,false=false,false=false,false=false,(!ltI 100 ((W.length:Nat):Int))=false,false=false,false=false,false=false,false=false,false=false,(!false)=true]) [.go,.go,.go,.go,.go,.go,.go,.go,.go,.go,.go,.b false,.go,.b false,.go,.b false,.go,.b false,.go,.go,.go,.b false,.go,.b false,.go,.b false,.go,.b false,.go,.go,.go,.b false,.go,.b false,.go,.b false,.go,.b false,.go,.go,.go,.go,.go,.b false,.b false,.b false,.go,.go,.b false,.b false,.b false,.go,.go,.go,.b true,.go] (by kernel_rfl) (by kernel_rfl) ⟨hq4_1,rfl,rfl,rfl,hq4_2,rfl,rfl,rfl,hq4_3,rfl,rfl,rfl,(by rw [hq4_4]; rfl),rfl,rfl,rfl,rfl,rfl,rfl,trivial⟩ rfl)
    ·skip
     have ghq4_4:=ltI_false hq4_4
     rcases Bool.eq_false_or_eq_true (eqI (clE (cI A) A.length (cR L) L.length B.length (cI W) W.length) 0) with hq4_5 | hq4_5
     ·skip
      have ghq4_5:=eqI_true hq4_5
      have hz:=eqI_true hq4_5
      rcases Bool.eq_false_or_eq_true (clB (dtd (cI A) A.length (cR L) (cB B) W.length)) with hq4_6 | hq4_6
      ·skip
       have hd:=clB_true.1 hq4_6
       exact goes_eqR (r:=(.bool .true)) (by rfl) (goes_out Try.checked.mixed (known_zc hw) 200 (v:=(.v (.bool .true))) (ps:=[ltI 14 ((A.length:Nat):Int)=false,false=false,false=false,false=false,ltI 14 ((L.length:Nat):Int)=false,false=false,false=false,false=false,ltI 14 ((B.length:Nat):Int)=false,false=false,false=false,false=false,(!ltI 100 ((W.length:Nat):Int))=true,true=true,IsLampK 1 2 1 1 (cI A) A.length (cR L) L.length (cB B) B.length (cI W) W.length,true=true,eqI (clE (cI A) A.length (cR L) L.length B.length (cI W) W.length) 0=true,true=true,IsLampK 1 2 1 1 (cI A) A.length (cR L) L.length (cB B) B.length (cI W) W.length,clE (cI A) A.length (cR L) L.length B.length (cI W) W.length=0,true=true,(!!clB (dtd (cI A) A.length (cR L) (cB B) W.length))=true]) [.go,.go,.go,.go,.go,.go,.go,.go,.go,.go,.go,.b false,.go,.b false,.go,.b false,.go,.b false,.go,.go,.go,.b false,.go,.b false,.go,.b false,.go,.b false,.go,.go,.go,.b false,.go,.b false,.go,.b false,.go,.b false,.go,.go,.go,.go,.go,.b true,.go,.b true,.b true,.go,.go,.go,.b true,.go,.b true,.b true,.go,.go,.go,.go,.b true,.go] (by kernel_rfl) (by kernel_rfl) ⟨hq4_1,rfl,rfl,rfl,hq4_2,rfl,rfl,rfl,hq4_3,rfl,rfl,rfl,(by rw [hq4_4]; rfl),rfl,⟨rfl,rfl,rfl,rfl,A,L,B,W,rfl,rfl,rfl,rfl,rfl,rfl,rfl,rfl⟩,rfl,hq4_5,rfl,⟨rfl,rfl,rfl,rfl,A,L,B,W,rfl,rfl,rfl,rfl,rfl,rfl,rfl,rfl⟩,hz,rfl,(by rw [hq4_6]; rfl),trivial⟩ rfl)
      ·skip
       have hd:=clB_false hq4_6
       have hfd:=fd_none hz hd
       have hr:=rdB_rng (B:=B) hz
       have hw0:=(clE_zero hz).2.2.2.2
       exact goes_spine (T':=(q31_20 A B L W a b ya yf yl yw)) (by kernel_rfl) (goes_told Try.checked.mixed (known_zc hw) 200 (T':=(q31_20 A B L W a b ya yf yl yw)) (e:=.normal) (ps:=[ltI 14 ((A.length:Nat):Int)=false,false=false,false=false,false=false,ltI 14 ((L.length:Nat):Int)=false,false=false,false=false,false=false,ltI 14 ((B.length:Nat):Int)=false,false=false,false=false,false=false,(!ltI 100 ((W.length:Nat):Int))=true,true=true,IsLampK 1 2 1 1 (cI A) A.length (cR L) L.length (cB B) B.length (cI W) W.length,true=true,eqI (clE (cI A) A.length (cR L) L.length B.length (cI W) W.length) 0=true,true=true,IsLampK 1 2 1 1 (cI A) A.length (cR L) L.length (cB B) B.length (cI W) W.length,clE (cI A) A.length (cR L) L.length B.length (cI W) W.length=0,true=true,(!!clB (dtd (cI A) A.length (cR L) (cB B) W.length))=false]) [.go,.go,.go,.go,.go,.go,.go,.go,.go,.go,.go,.b false,.go,.b false,.go,.b false,.go,.b false,.go,.go,.go,.b false,.go,.b false,.go,.b false,.go,.b false,.go,.go,.go,.b false,.go,.b false,.go,.b false,.go,.b false,.go,.go,.go,.go,.go,.b true,.go,.b true,.b true,.go,.go,.go,.b true,.go,.b true,.b true,.go,.go,.go,.go,.b false] (by kernel_rfl) (by kernel_rfl) ⟨hq4_1,rfl,rfl,rfl,hq4_2,rfl,rfl,rfl,hq4_3,rfl,rfl,rfl,(by rw [hq4_4]; rfl),rfl,⟨rfl,rfl,rfl,rfl,A,L,B,W,rfl,rfl,rfl,rfl,rfl,rfl,rfl,rfl⟩,rfl,hq4_5,rfl,⟨rfl,rfl,rfl,rfl,A,L,B,W,rfl,rfl,rfl,rfl,rfl,rfl,rfl,rfl⟩,hz,rfl,(by rw [hq4_6]; rfl),trivial⟩ rfl) (zc_6 ya yl yf yw A L B W a b hw ha hb hq4_1 hq4_2 hq4_3 hq4_4 hq4_5 hq4_6 w)
     ·skip
      have ghq4_5:=eqI_false hq4_5
      have hnz:=eqI_false hq4_5
      exact goes_eqR (r:=(.bool .true)) (by rfl) (goes_out Try.checked.mixed (known_zc hw) 200 (v:=(.v (.bool .true))) (ps:=[ltI 14 ((A.length:Nat):Int)=false,false=false,false=false,false=false,ltI 14 ((L.length:Nat):Int)=false,false=false,false=false,false=false,ltI 14 ((B.length:Nat):Int)=false,false=false,false=false,false=false,(!ltI 100 ((W.length:Nat):Int))=true,true=true,IsLampK 1 2 1 1 (cI A) A.length (cR L) L.length (cB B) B.length (cI W) W.length,true=true,eqI (clE (cI A) A.length (cR L) L.length B.length (cI W) W.length) 0=false,false=false,false=false,(!false)=true]) [.go,.go,.go,.go,.go,.go,.go,.go,.go,.go,.go,.b false,.go,.b false,.go,.b false,.go,.b false,.go,.go,.go,.b false,.go,.b false,.go,.b false,.go,.b false,.go,.go,.go,.b false,.go,.b false,.go,.b false,.go,.b false,.go,.go,.go,.go,.go,.b true,.go,.b true,.b true,.go,.go,.go,.b false,.b false,.b false,.go,.go,.go,.b true,.go] (by kernel_rfl) (by kernel_rfl) ⟨hq4_1,rfl,rfl,rfl,hq4_2,rfl,rfl,rfl,hq4_3,rfl,rfl,rfl,(by rw [hq4_4]; rfl),rfl,⟨rfl,rfl,rfl,rfl,A,L,B,W,rfl,rfl,rfl,rfl,rfl,rfl,rfl,rfl⟩,rfl,hq4_5,rfl,rfl,rfl,trivial⟩ rfl)
theorem zc_2 (ya yl yf yw:Value) (A:List Int) (L:List (Int×Int)) (B:List Bool) (W:List Int) (a b:Int) (hw:Known Try.prog (clsO zwO)) (ha:0≤a∧a≤65535) (hb:0≤b∧b≤65535) (w:World):Goes Try.prog 145 zcK1 (⟨[(0,.agg [.xl ya A.length 1 (cI A),.xl yl L.length 2 (cR L),.xl yf B.length 1 (cB B),.xl yw W.length 1 (cI W)]),(1,.v (.int .u16 a)),(2,.v (.int .u16 b))],[],0,[]⟩) w (q31_31 w):=by
 obtain ⟨hcl_A,hcl_L,hcl_B,hcl_W⟩:=hcZ31 A B L W
 have hsa:=shr_bd ha
 have hsb:=shr_bd hb
 exact goes_spine (T':=(q31_21 A B L W a b ya yf yl yw)) (by kernel_rfl) (goes_told Try.checked.mixed (known_zc hw) 200 (T':=(q31_21 A B L W a b ya yf yl yw)) (e:=.normal) (ps:=[]) [.go,.go] (by kernel_rfl) (by kernel_rfl) trivial rfl) (zc_4 ya yl yf yw A L B W a b hw ha hb w)
theorem zc_g (ya yl yf yw:Value) (A:List Int) (L:List (Int×Int)) (B:List Bool) (W:List Int) (a b:Int) (hw:Known Try.prog (clsO zwO)) (ha:0≤a∧a≤65535) (hb:0≤b∧b≤65535):GivesA Try.prog 12 [.agg [.xl ya A.length 1 (cI A),.xl yl L.length 2 (cR L),.xl yf B.length 1 (cB B),.xl yw W.length 1 (cI W)],.v (.int .u16 a),.v (.int .u16 b)] (.bool true) :=
 givesA_parts 145 Try.func12 (by kernel_rfl) (by kernel_rfl) (by kernel_rfl) (fun w=>goes_less (by kernel_rfl) (by kernel_rfl) (by kernel_rfl) (by kernel_rfl) (zc_2 ya yl yf yw A L B W a b hw ha hb w))
end
end Go.Proofs.Ytldekgkjofgacaa
