/- The law of sums of weights answers true for all lamps, all other weights and all degrees. There are no conditions. -/
import Derived.Test.YtldekgkjofgacaaRg
import Derived.Test.YtldekgkjofgacaaRz
import Derived.Test.YtldekgkjofgacaaZ42
import Derived.Test.YtldekgkjofgacaaZwe
set_option linter.all false
namespace Go.Proofs.Ytldekgkjofgacaa
open Go.ChangeShapes Go.WideShapes Go.ChangeAt Go.RowKit
set_option maxRecDepth 100000 in
theorem zoneSums_lifted (os:Os) (started:os.Started) (H:Type) (enc:TypeId×Value→H) :
  ReturnsInHanded {} Try.checked os 11 .any (Rows.zoneSumsSpec.pre6 enc Try.prog Try.f11 Rows.zoneSumsRow.domain false) (Rows.zoneSumsSpec.post enc Try.prog Try.f11 false true false false):=by
 refine returnsInHanded_of_change (C:=Try.checked) ownT started (by kernel_rfl) Try.func11
  (ChangeSpec.witness6 (enc:=enc) (C:=Try.checked) false ⟨#[],#[.agg #[.slice none 0 0,.slice none 0 0,.slice none 0 0,.slice none 0 0],.slice none 0 0,.int .u8 0],[]⟩ 8 (by kernel_rfl) (by kernel_rfl) (by kernel_rfl) (by kernel_rfl)) ?_
 intro W base args ds gs before hval0 hW hcnd _
 have hval:∀ (j:Nat) t v,Try.f11.params[j]? = some t→args[j]? = some v→Value.okWide Try.prog W .any base t v:=hval0
 have hW':=hW
 obtain ⟨p,q,hA0,hV,rfl,hfz,hnd⟩:=hW
 obtain ⟨rfl,rfl⟩:=trodVars_none hV
 have hA:DataW.TrodAll enc Try.prog W 0 (fun _=>true) true Try.f11.params.toList args.toList ds p:=hA0
 have hAA:=hA
 rw [Try.params11] at hA hval
 obtain ⟨v0,vs0,d0,ds0,p0,q0,hargs,rfl,hp0,h0,r0⟩:=trodAll_cons hA
 obtain ⟨v1,vs1,d1,ds1,p1,q1,rfl,rfl,hp1,h1,r1⟩:=trodAll_cons r0
 obtain ⟨v2,vs2,d2,ds2,p2,q2,rfl,rfl,hp2,h2,r2⟩:=trodAll_cons r1
 obtain ⟨rfl,rfl,rfl⟩:=trodAll_nil r2
 obtain rfl:args = #[v0,v1,v2]:=by cases args; simp_all
 clear hval0
 simp only [List.append_nil] at hW'
 obtain ⟨ya,yl,yf,yw,A,L,B,Wl,rfl,hden⟩:=open_lamp Try.underlying26 rfl rfl rfl rfl (by kernel_rfl) Try.underlying22 (by kernel_rfl) (by kernel_rfl) (by kernel_rfl) Try.underlying23 (by kernel_rfl) (by kernel_rfl) (by kernel_rfl) Try.underlying24 (by kernel_rfl) (by kernel_rfl) (by kernel_rfl) Try.underlying22 (by kernel_rfl) (by kernel_rfl) (by kernel_rfl) (hval 0 _ v0 rfl rfl) h0
 obtain ⟨X,hdX⟩:=open_intsV Try.underlying22 (by kernel_rfl) (by kernel_rfl) (hval 1 _ v1 rfl rfl) h1
 obtain ⟨t,rfl,w_t⟩:=open_num Try.underlying5 (hval 2 _ v2 rfl rfl) h2
 have hw:Ev.Known Try.prog (Ev.clsO zwO):=Ev.gives_closed ZoneWorks_known
 refine (callsG (law_zsums hw ya yl yf yw A L B Wl v1 X t (wf_bd w_t)) W (xs:=[.agg #[ya,yl,yf,yw],v1,.int .u8 t]) (denL_cons (hden) (denL_cons (hdX) (denL_cons rfl (rfl))))).mono fun e W' ⟨he,hb⟩=>?_
 subst he
 exact ⟨_,rfl,rowG laidG hW' hAA hb Try.underlying4 (by kernel_rfl) (by decide +kernel) rfl rfl (fun _ _=>rfl)⟩
theorem zoneSums_proved:Rows.ZoneSumsSaid :=
 OpenClaim.holds_of_wide 11 Try.f11 rfl rfl rfl rfl rfl rfl rfl ⟨rfl,rfl,rfl,rfl,rfl⟩ rfl rfl rfl rfl rfl (by kernel_rfl) Try.func11 (by kernel_rfl)
  (of_decide_eq_true (by kernel_rfl)) (by unfold Func.isWrapper; first | (rw [if_pos (by decide +kernel)]; kernel_rfl) | (rw [if_neg (by decide +kernel)]; exact ⟨rfl,rfl⟩))
  (fun os started H enc _=>zoneSums_lifted os started H enc)
end Go.Proofs.Ytldekgkjofgacaa
