/- The law of lights answers true for all streets and all choices. There are no conditions. -/
import Derived.Test.YtnphldmnakbknaaRg
import Derived.Test.YtnphldmnakbknaaRs
import Derived.Test.YtnphldmnakbknaaJ3
import Derived.Test.YtnphldmnakbknaaTw4
set_option linter.all false
namespace Go.Proofs.Ytnphldmnakbknaa
open Go.ChangeShapes Go.WideShapes Go.ChangeAt Go.RowKit
set_option maxRecDepth 100000 in
theorem streetLights_lifted (os:Os) (started:os.Started) (H:Type) (enc:TypeId×Value→H) :
  ReturnsInHanded {} Try.checked os 3 .any (Rows.streetLightsSpec.pre6 enc Try.prog Try.f3 Rows.streetLightsRow.domain false) (Rows.streetLightsSpec.post enc Try.prog Try.f3 false true false false):=by
 refine returnsInHanded_of_change (C:=Try.checked) ownT started (by kernel_rfl) Try.func3
  (ChangeSpec.witness6 (enc:=enc) (C:=Try.checked) false ⟨#[],#[.agg #[.int .i64 0,.int .i64 0,.int .i64 0,.slice none 0 0],.slice none 0 0],[]⟩ 8 (by kernel_rfl) (by kernel_rfl) (by kernel_rfl) (by kernel_rfl)) ?_
 intro W base args ds gs before hval0 hW hcnd _
 have hval:∀ (j:Nat) t v,Try.f3.params[j]? = some t→args[j]? = some v→Value.okWide Try.prog W .any base t v:=hval0
 have hW':=hW
 obtain ⟨p,q,hA0,hV,rfl,hfz,hnd⟩:=hW
 obtain ⟨rfl,rfl⟩:=trodVars_none hV
 have hA:DataW.TrodAll enc Try.prog W 0 (fun _=>true) true Try.f3.params.toList args.toList ds p:=hA0
 have hAA:=hA
 rw [Try.params3] at hA hval
 obtain ⟨v0,vs0,d0,ds0,p0,q0,hargs,rfl,hp0,h0,r0⟩:=trodAll_cons hA
 obtain ⟨v1,vs1,d1,ds1,p1,q1,rfl,rfl,hp1,h1,r1⟩:=trodAll_cons r0
 obtain ⟨rfl,rfl,rfl⟩:=trodAll_nil r1
 obtain rfl:args = #[v0,v1]:=by cases args; simp_all
 clear hval0
 simp only [List.append_nil] at hW'
 obtain ⟨n,d,q,y,P,rfl,hden⟩:=open_road Try.underlying24 rfl rfl rfl rfl (by kernel_rfl) Try.underlying3 (by kernel_rfl) Try.underlying3 (by kernel_rfl) Try.underlying3 (by kernel_rfl) Try.underlying22 (by kernel_rfl) (by kernel_rfl) (by kernel_rfl) (hval 0 _ v0 rfl rfl) h0
 obtain ⟨X,hdX⟩:=open_intsV Try.underlying25 (by kernel_rfl) (by kernel_rfl) (hval 1 _ v1 rfl rfl) h1
 have hw:Ev.Known Try.prog (Ev.clsO wkO):=Ev.gives_closed StreetWorks_known
 refine (callsG (law_lights hw n d q y P v1 X) W (xs:=[.agg #[.int .i64 n,.int .i64 d,.int .i64 q,y],v1]) (denL_cons (hden) (denL_cons (hdX) (rfl)))).mono fun e W' ⟨he,hb⟩=>?_
 subst he
 exact ⟨_,rfl,rowG laidG hW' hAA hb Try.underlying4 (by kernel_rfl) (by decide +kernel) rfl rfl (fun _ _=>rfl)⟩
theorem streetLights_proved:Rows.StreetLightsSaid :=
 OpenClaim.holds_of_wide 3 Try.f3 rfl rfl rfl rfl rfl rfl rfl ⟨rfl,rfl,rfl,rfl,rfl⟩ rfl rfl rfl rfl rfl (by kernel_rfl) Try.func3 (by kernel_rfl)
  (of_decide_eq_true (by kernel_rfl)) (by unfold Func.isWrapper; first | (rw [if_pos (by decide +kernel)]; kernel_rfl) | (rw [if_neg (by decide +kernel)]; exact ⟨rfl,rfl⟩))
  (fun os started H enc _=>streetLights_lifted os started H enc)
end Go.Proofs.Ytnphldmnakbknaa
